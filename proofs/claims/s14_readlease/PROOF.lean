import PyProof.Rows.All
import Wide.All
import OpenK.AllK
import Wide.FinOn
import PyProof.EqAt
import PyProof.EqKinds
import PyProof.TupleCall
import KE.BitLaws
import Open.SpecLaws
import KE.OsHead
import KE.OsGo
import PySem.Challenge.RW_campuswires_s14_readlease
section
set_option Elab.async false
set_option linter.all false
set_option maxRecDepth 100000
namespace L2
open PySem PySem.Spec PyProof.Rows
/-- a key: an int or a str -/
abbrev Key := Sum Int Str
def keyIs : Key → Value → Bool
  | .inl k, v => Value.isInt k v
  | .inr x, v => Value.isStrOf x v
def keyH (w : World) : Key → Int
  | .inl k => hashInt k
  | .inr x => hashStr w x
theorem keyIs_shape : ∀ {k : Key} {v : Value}, keyIs k v = true → (∃ i t, k = Sum.inl i ∧ v = Value.int i t) ∨ (∃ x t, k = Sum.inr x ∧ v = Value.str x t)
  | .inl i, v, h => by
    obtain ⟨t, e⟩ := Value.isInt_shape (k := i) (v := v) h
    exact .inl ⟨i, t, rfl, e⟩
  | .inr x, v, h => by
    obtain ⟨t, e⟩ := Value.isStrOf_shape (x := x) (v := v) h
    exact .inr ⟨x, t, rfl, e⟩
theorem key_ll (a b : Int) : decide ((Sum.inl a : Key) = Sum.inl b) = (a == b) := by
  by_cases e : a = b
  · subst e; simp
  · have h : ¬ (Sum.inl a : Key) = Sum.inl b := fun q => e (Sum.inl.inj q)
    rw [decide_eq_false h]
    exact (beq_eq_false_iff_ne.mpr e).symm
theorem key_rr (a b : Str) : decide ((Sum.inr a : Key) = Sum.inr b) = decide (a = b) := by
  by_cases e : a = b
  · subst e; simp
  · have h : ¬ (Sum.inr a : Key) = Sum.inr b := fun q => e (Sum.inr.inj q)
    rw [decide_eq_false h, decide_eq_false e]
theorem key_lr (a : Int) (b : Str) : decide ((Sum.inl a : Key) = Sum.inr b) = false := decide_eq_false (fun q => nomatch q)
theorem key_rl (a : Str) (b : Int) : decide ((Sum.inr a : Key) = Sum.inl b) = false := decide_eq_false (fun q => nomatch q)
def mixKind (prog : Program) (w : World) : PySem.KeyKind prog w Key where
  is := keyIs
  hash := keyH w
  inj := fun v a b ha hb => by
    rcases keyIs_shape ha with ⟨i, t, rfl, rfl⟩ | ⟨x, t, rfl, rfl⟩
    · rcases keyIs_shape hb with ⟨j, u, rfl, e⟩ | ⟨y, u, rfl, e⟩
      · injection e with e1 _; rw [e1]
      · exact nomatch e
    · rcases keyIs_shape hb with ⟨j, u, rfl, e⟩ | ⟨y, u, rfl, e⟩
      · exact nomatch e
      · injection e with e1 _; rw [e1]
  byValue := fun k v h => by
    rcases keyIs_shape h with ⟨i, t, rfl, rfl⟩ | ⟨x, t, rfl, rfl⟩ <;> rfl
  pyHash := fun hv h => by
    rcases keyIs_shape hv with ⟨i, t, rfl, rfl⟩ | ⟨x, t, rfl, rfl⟩
    · exact wpAny_pyHash_int h
    · exact wpAny_pyHash_str h
  eqBool := fun hu hv h => by
    rcases keyIs_shape hu with ⟨i, t, rfl, rfl⟩ | ⟨x, t, rfl, rfl⟩
    · rcases keyIs_shape hv with ⟨j, u, rfl, rfl⟩ | ⟨y, u, rfl, rfl⟩
      · rw [key_ll] at h; exact wpAny_eqBool_int h
      · rw [key_lr] at h; exact SeqAt.EqAt.int_str i t y u _ _ _ _ h
    · rcases keyIs_shape hv with ⟨j, u, rfl, rfl⟩ | ⟨y, u, rfl, rfl⟩
      · rw [key_rl] at h; exact SeqAt.EqAt.str_int x t j u _ _ _ _ h
      · rw [key_rr] at h; exact wpAny_eqBool_str h
  «strs» := fun k x t v h => by
    rcases keyIs_shape h with ⟨i, u, rfl, e⟩ | ⟨y, u, rfl, e⟩
    · exact nomatch e
    · injection e with e1 _
      subst e1
      cases v <;> rfl
end L2
namespace L2
open PySem PySem.Spec PyProof.Rows
/-- a value, without the heap -/
inductive V where
  | non | bl (b : Bool) | int (i : Int) | str (x : Str) | byt (b : Array UInt8) | flt (b : UInt64) | ref (a : Addr) | ty (n : String)
  deriving DecidableEq
def RelV : V → Value → Prop
  | .non, u => u = Value.none
  | .bl b, u => u = Value.bool b
  | .int i, u => ∃ t, u = Value.int i t
  | .str x, u => ∃ t, u = Value.str x t
  | .byt b, u => ∃ t, u = Value.bytes b t
  | .flt b, u => ∃ t, u = Value.float b t
  | .ref a, u => u = Value.ref a
  | .ty n, u => u = Value.type n
abbrev Vals : List V → List Value → Prop := Paired RelV
theorem Vals.length {xs : List V} {us : List Value} (r : Vals xs us) : xs.length = us.length := Paired.length r
theorem Vals.get : ∀ {xs : List V} {us : List Value} {i : Nat} {x : V}, Vals xs us → xs[i]? = some x → ∃ u, us[i]? = some u ∧ RelV x u
  | _, _, _, _, .nil, e => by simp at e
  | _, _, 0, _, .cons r _, e => by simp at e; subst e; exact ⟨_, rfl, r⟩
  | _, _, i + 1, x, .cons _ t, e => by
    obtain ⟨u, h1, h2⟩ := Vals.get (i := i) (x := x) t (by simpa using e)
    exact ⟨u, by simpa using h1, h2⟩
theorem Vals.set {x : V} {u : Value} (r : RelV x u) : ∀ {xs : List V} {us : List Value} (i : Nat), Vals xs us → Vals (xs.set i x) (us.set i u)
  | _, _, _, .nil => .nil
  | _, _, 0, .cons _ t => .cons r t
  | _, _, i + 1, .cons q t => .cons q (Vals.set r i t)
theorem Vals.append : ∀ {xs ys : List V} {us ws : List Value}, Vals xs us → Vals ys ws → Vals (xs ++ ys) (us ++ ws)
  | _, _, _, _, .nil, s => s
  | _, _, _, _, .cons r t, s => .cons r (Vals.append t s)
theorem Vals.take : ∀ {xs : List V} {us : List Value} (n : Nat), Vals xs us → Vals (xs.take n) (us.take n)
  | _, _, 0, _ => .nil
  | _, _, _ + 1, .nil => .nil
  | _, _, n + 1, .cons r t => .cons r (Vals.take n t)
theorem Vals.drop : ∀ {xs : List V} {us : List Value} (n : Nat), Vals xs us → Vals (xs.drop n) (us.drop n)
  | _, _, 0, r => r
  | _, _, _ + 1, .nil => .nil
  | _, _, n + 1, .cons _ t => Vals.drop n t
def RelO : Option V → Option Value → Prop
  | some v, some u => RelV v u
  | none, none => True
  | _, _ => False
def KV {κ : Type} : List (κ × V) → List (κ × Value) → Prop := Paired fun (p : κ × V) (q : κ × Value) => p.1 = q.1 ∧ RelV p.2 q.2
/-- a key of a dict (00_mix): an int or a text -/
def kV : Key → V
  | .inl i => .int i
  | .inr x => .str x
/-- what stands at a tracked address -/
inductive HO where
  /-- a list -/
  | lst (xs : List V)
  /-- a tuple (never changes) -/
  | tup (xs : List V)
  /-- a dict whose keys are ints and texts; one whose keys are tuples of ints and texts (the empty one is both) -/
  | dK (kvs : List (Key × V)) | dT (kvs : List (List Key × V))
  /-- a set of ints: its members, its size -/
  | set (S : Int → Bool) (n : Nat)
  /-- an instance of the class at C, its dict at dx, its attributes -/
  | ins (C dx : Addr) (fs : List (Str × V))
  /-- the dict of the instance at x -/
  | own (x : Addr)
  /-- the dict of an exception -/
  | xd (fs : List (Str × V))
  /-- a bound method, f of x -/
  | met (f x : Addr)
  /-- a range object lo, lo + 1, .. below hi -/
  | rng (lo hi : Int)
  /-- a thing that is known to the object (the script; a dict while a loop walks it): read, never written while it is so -/
  | frz (o : Obj) (u : HO)
  /-- a code object's table -/
  | tbl (ps : Array Value)
  /-- any other thing, by what is true of its one object (a def of one's own: SetO a S n := HO.ext fun h => ..) -/
  | ext (φ : Heap → Prop)
abbrev Hp := Addr → Option HO
def upd (H : Hp) (a : Addr) (o : HO) : Hp := fun b => if b = a then some o else H b
theorem upd_same {H : Hp} {a : Addr} {o : HO} : upd H a o a = some o := by unfold upd; rw [if_pos rfl]
theorem upd_ne {H : Hp} {a b : Addr} {o : HO} (h : b ≠ a) : upd H a o b = H b := by unfold upd; rw [if_neg h]
theorem ne_of_none {H : Hp} {a b : Addr} {o : HO} (h : H a = some o) (h' : H b = none) : a ≠ b := by
  intro e; subst e; rw [h] at h'; cases h'
section
variable (P : Program) (w : World)
def ObjOk (H : Hp) (h : Heap) (a : Addr) : HO → Prop
  | .lst xs => xs.length ≤ sizeLine ∧ ∃ (its : List Value) (n : Nat), Vals xs its ∧ h.get? a = some { cls := .type "list", data := .seq its.toArray n }
  | .tup xs => xs.length ≤ sizeLine ∧ ∃ its : List Value, Vals xs its ∧ IsTup h a its.toArray
  | .dK kvs => kvs.length ≤ sizeLine ∧ (a == sysModules) = false ∧ ∃ vs, KV kvs vs ∧ h.DictOf (mixKind P w) a vs
  | .dT kvs => kvs.length ≤ sizeLine ∧ (a == sysModules) = false ∧ ∃ xs : List (List Key × Addr × Value),
      Paired (fun (p : List Key × V) (q : List Key × Addr × Value) => p.1 = q.1 ∧ H q.2.1 = some (.tup (p.1.map kV)) ∧ RelV p.2 q.2.2) kvs xs ∧
      ∃ o es ep, h.get? a = some o ∧ o.ExactDict ∧ o.data = .dict es ep ∧ es.toList = xs.map (entryOfKey (tupleKind (mixKind P w))) ∧ (xs.map (·.1)).Nodup
  | .set S n => h.SetOf (intKind P w) a S n
  | .ins C dx fs => H dx = some (.own a) ∧ fs.length ≤ 1000 ∧ dx ≠ a ∧ h.get? a = some (PySem.W.instObj C dx) ∧
      ∃ mA, h.Ns1 dx mA ∧ (∀ f, RelO (fs.lookup f) (mA f)) ∧ PySem.Within mA (fs.map (·.1))
  | .own _ => ∃ o, h.get? a = some o
  | .xd fs => ∃ mA, h.Ns1 a mA ∧ ∀ f, RelO (fs.lookup f) (mA f)
  | .rng lo hi => ∃ t u v, h.get? a = some { cls := .type "range", data := .fields #[.int lo t, .int hi u, .int 1 v] }
  | .frz o u => h.get? a = some o ∧ ObjOk H h a u
  | .tbl ps => h.get? a = some { cls := .none, data := .fields ps }
  | .met f x => h.get? a = some (PySem.W.methodObj (.ref f) (.ref x))
  | .ext φ => φ h ∧ (∃ o, h.get? a = some o) ∧ ∀ h1 h2 : Heap, φ h1 → (∀ o, h1.get? a = some o → h2.get? a = some o) → φ h2
/-- the abstract heap is held -/
def HOk (H : Hp) (h : Heap) : Prop := ∀ a o, H a = some o → ObjOk P w H h a o
end
section
variable {P : Program} {w : World} {H H' : Hp} {h h' : Heap} {a : Addr} {o : HO}
theorem ObjOk.lt (x : ObjOk P w H h a o) : a < h.objs.size := by
  cases o with
  | lst xs => obtain ⟨_, _, _, _, e⟩ := x; exact Heap.lt_size e
  | tup xs => obtain ⟨_, _, _, p⟩ := x; exact p.lt
  | dK kvs => obtain ⟨_, _, _, _, o, _, _, e, _⟩ := x; exact Heap.lt_size e
  | dT kvs => obtain ⟨_, _, _, _, o, _, _, e, _⟩ := x; exact Heap.lt_size e
  | set S n => obtain ⟨o, _, _, _, e, _⟩ := x; exact Heap.lt_size e
  | ins C dx fs => obtain ⟨_, _, _, e, _⟩ := x; exact Heap.lt_size e
  | own y => obtain ⟨_, e⟩ := x; exact Heap.lt_size e
  | xd fs => obtain ⟨_, ⟨_, _, _, e, _⟩, _⟩ := x; exact Heap.lt_size e
  | rng lo hi => obtain ⟨_, _, _, e⟩ := x; exact Heap.lt_size e
  | frz ob u => obtain ⟨e, _⟩ := x; exact Heap.lt_size e
  | tbl ps => exact Heap.lt_size (show h.get? a = some _ from x)
  | met f y => exact Heap.lt_size (show h.get? a = some _ from x)
  | ext φ => obtain ⟨_, ⟨_, e⟩, _⟩ := x; exact Heap.lt_size e
theorem Paired.mapP {α β : Type} {F G : α → β → Prop} : ∀ {l₁ : List α} {l₂ : List β}, Paired F l₁ l₂ → (∀ a b, F a b → G a b) → Paired G l₁ l₂
  | _, _, .nil, _ => .nil
  | _, _, .cons r t, f => .cons (f _ _ r) (Paired.mapP t f)
/-- what an object's description leans on: its own object, its own dict, the tuples -/
theorem ObjOk.stay (x : ObjOk P w H h a o) (k : ∀ b u, (b = a ∨ H b = some (.own a)) → h.get? b = some u → h'.get? b = some u)
    (ho : ∀ b, H b = some (.own a) → H' b = some (.own a)) (ht : ∀ b xs, H b = some (.tup xs) → H' b = some (.tup xs)) : ObjOk P w H' h' a o := by
  induction o with
  | lst xs => obtain ⟨z, its, n, r, e⟩ := x; exact ⟨z, its, n, r, k _ _ (.inl rfl) e⟩
  | tup xs => obtain ⟨z, its, r, ob, e, c⟩ := x; exact ⟨z, its, r, ob, k _ _ (.inl rfl) e, c⟩
  | dK kvs => obtain ⟨z, y, vs, r, ob, es, ep, e, c⟩ := x; exact ⟨z, y, vs, r, ob, es, ep, k _ _ (.inl rfl) e, c⟩
  | dT kvs =>
    obtain ⟨z, y, xs, r, ob, es, ep, e, c⟩ := x
    exact ⟨z, y, xs, Paired.mapP r fun p q z => ⟨z.1, ht _ _ z.2.1, z.2.2⟩, ob, es, ep, k _ _ (.inl rfl) e, c⟩
  | set S n => obtain ⟨ob, es, ep, t, e, c⟩ := x; exact ⟨ob, es, ep, t, k _ _ (.inl rfl) e, c⟩
  | ins C dx fs =>
    obtain ⟨d, z, ne, e, mA, ⟨od, es, ep, e2, c⟩, r⟩ := x
    exact ⟨ho _ d, z, ne, k _ _ (.inl rfl) e, mA, ⟨od, es, ep, k _ _ (.inr d) e2, c⟩, r⟩
  | own y => obtain ⟨ob, e⟩ := x; exact ⟨ob, k _ _ (.inl rfl) e⟩
  | xd fs => obtain ⟨mA, ⟨od, es, ep, e, c⟩, r⟩ := x; exact ⟨mA, ⟨od, es, ep, k _ _ (.inl rfl) e, c⟩, r⟩
  | rng lo hi => obtain ⟨t, u, v, e⟩ := x; exact ⟨t, u, v, k _ _ (.inl rfl) e⟩
  | frz ob u ih => obtain ⟨e, q⟩ := x; exact ⟨k _ _ (.inl rfl) e, ih q⟩
  | tbl ps =>
    have e : h.get? a = some { cls := .none, data := .fields ps } := x
    show h'.get? a = some { cls := .none, data := .fields ps }
    exact k a _ (.inl rfl) e
  | met f y =>
    have e : h.get? a = some (PySem.W.methodObj (.ref f) (.ref y)) := x
    show h'.get? a = some (PySem.W.methodObj (.ref f) (.ref y))
    exact k a _ (.inl rfl) e
  | ext φ => obtain ⟨p, ⟨o, e⟩, st⟩ := x; exact ⟨st _ _ p fun o q => k _ _ (.inl rfl) q, ⟨o, k _ _ (.inl rfl) e⟩, st⟩
theorem HOk.lt (x : HOk P w H h) (e : H a = some o) : a < h.objs.size := (x a o e).lt
theorem HOk.fresh (x : HOk P w H h) (e : h.objs.size ≤ a) : H a = none := by
  cases q : H a with
  | none => rfl
  | some u => exact absurd (Nat.lt_of_lt_of_le (x.lt q) e) (Nat.lt_irrefl _)
/-- every object of the heap is kept -/
theorem HOk.kept (x : HOk P w H h) (k : ∀ b u, h.get? b = some u → h'.get? b = some u) : HOk P w H h' := fun a o e =>
  (x a o e).stay (fun b u _ q => k b u q) (fun _ q => q) fun _ _ q => q
/-- a new object is laid and tracked -/
theorem HOk.laid (x : HOk P w H h) (k : ∀ b u, h.get? b = some u → h'.get? b = some u) (hp : h.objs.size ≤ a) (new : ObjOk P w (upd H a o) h' a o) : HOk P w (upd H a o) h' := fun b u e => by
  have hn := x.fresh hp
  by_cases hb : b = a
  · subst hb; rw [upd_same] at e; cases e; exact new
  · rw [upd_ne hb] at e
    exact (x b u e).stay (fun c v _ q => k c v q) (fun c q => by rw [upd_ne (ne_of_none q hn)]; exact q) fun c xs q => by rw [upd_ne (ne_of_none q hn)]; exact q
end
/-- what may be read as u: it is u, or a known u -/
def Rd (H : Hp) (a : Addr) (u : HO) : Prop := H a = some u ∨ ∃ o, H a = some (.frz o u)
theorem Rd.of {H : Hp} {a : Addr} {u : HO} (h : H a = some u) : Rd H a u := .inl h
theorem Rd.ok {P : Program} {w : World} {H : Hp} {h : Heap} {a : Addr} {u : HO} (r : Rd H a u) (x : HOk P w H h) : ObjOk P w H h a u := by
  rcases r with r | ⟨o, r⟩
  · exact x a u r
  · obtain ⟨_, q⟩ := x a _ r
    exact q
/-- what may be written -/
def Mut : Option HO → Prop
  | some (.lst _) => True
  | some (.dK _) => True
  | some (.dT _) => True
  | some (.set _ _) => True
  | some (.ins _ _ _) => True
  | some (.ext _) => True
  | _ => False
section
variable {P : Program} {w : World} {H : Hp} {h h' : Heap} {x e : Addr} {o' : HO}
/-- the object at e is changed: x itself, or the dict of the instance x -/
theorem HOk.write (ok : HOk P w H h) (mu : Mut (H x)) (he : e = x ∨ H e = some (.own x)) (k : ∀ b u, b ≠ e → h.get? b = some u → h'.get? b = some u) (heo : ∃ u, h'.get? e = some u)
    (new : ObjOk P w (upd H x o') h' x o') : HOk P w (upd H x o') h' := fun b u q => by
  have nown : ∀ c y, H c = some (.own y) → c ≠ x := fun c y r z => by subst z; rw [r] at mu; exact mu
  have ntup : ∀ c xs, H c = some (.tup xs) → c ≠ x := fun c xs r z => by subst z; rw [r] at mu; exact mu
  by_cases hb : b = x
  · subst hb; rw [upd_same] at q; cases q; exact new
  · rw [upd_ne hb] at q
    by_cases hbe : b = e
    · have q' : H b = some (.own x) := by
        rcases he with z | z
        · exact absurd (hbe.trans z) hb
        · rw [hbe]; exact z
      rw [q] at q'; cases q'
      obtain ⟨v, hv⟩ := heo
      exact ⟨v, by rw [hbe]; exact hv⟩
    · refine (ok b u q).stay (fun c v hc r => k c v ?_ r) (fun c r => by rw [upd_ne (nown c b r)]; exact r) fun c xs r => by rw [upd_ne (ntup c xs r)]; exact r
      rcases hc with rfl | hc
      · exact hbe
      · rintro rfl
        rcases he with z | z
        · exact nown c b hc z
        · rw [hc] at z; cases z; exact hb rfl
end
structure Un (fs ex : List Addr) (H H' : Hp) (h h' : Heap) : Prop where
  keep : ∀ b o, h.get? b = some o → H b = none → b ∉ fs → b ∉ ex → h'.get? b = some o
  slot : ∀ b o, h.get? b = some o → H b = none → b ∈ fs → b ∉ ex → ∃ sl, h'.get? b = some { o with slots := sl }
  free : ∀ b o, h.get? b = some o → H b = none → b ∉ ex → H' b = none
  there : ∀ b o, h.get? b = some o → b ∉ ex → ∃ o', h'.get? b = some o'
  tups : ∀ b xs, H b = some (.tup xs) → H' b = some (.tup xs)
  frzs : ∀ b o u, H b = some (.frz o u) → H' b = some (.frz o u)
  tbls : ∀ b ps, H b = some (.tbl ps) → ∃ more, H' b = some (.tbl (ps ++ more))
section
variable {fs fs' ex ex' : List Addr} {H H1 H2 : Hp} {h h1 h2 h' : Heap} {a x e : Addr} {o : HO}
theorem Un.any (u : Un fs ex H H1 h h1) {b : Addr} {ob : Obj} (q : h.get? b = some ob) (n : H b = none) (hx : b ∉ ex) : ∃ sl, h1.get? b = some { ob with slots := sl } := by
  by_cases hb : b ∈ fs
  · exact u.slot b ob q n hb hx
  · exact ⟨ob.slots, u.keep b ob q n hb hx⟩
theorem Un.trans (a : Un fs ex H H1 h h1) (b : Un fs ex H1 H2 h1 h2) : Un fs ex H H2 h h2 where
  keep := fun c ob q n hc hx => b.keep c ob (a.keep c ob q n hc hx) (a.free c ob q n hx) hc hx
  slot := fun c ob q n hc hx => by
    obtain ⟨sl, e1⟩ := a.slot c ob q n hc hx
    obtain ⟨sl', e2⟩ := b.slot c _ e1 (a.free c ob q n hx) hc hx
    exact ⟨sl', e2⟩
  free := fun c ob q n hx => by
    obtain ⟨o', e1⟩ := a.there c ob q hx
    exact b.free c o' e1 (a.free c ob q n hx) hx
  there := fun c ob q hx => by
    obtain ⟨o', e1⟩ := a.there c ob q hx
    exact b.there c o' e1 hx
  tups := fun c xs q => b.tups c xs (a.tups c xs q)
  frzs := fun c ob xs q => b.frzs c ob xs (a.frzs c ob xs q)
  tbls := fun c ps q => by
    obtain ⟨m1, e1⟩ := a.tbls c ps q
    obtain ⟨m2, e2⟩ := b.tbls c _ e1
    exact ⟨m1 ++ m2, by rw [e2, Array.append_assoc]⟩
theorem Un.kept (k : ∀ b u, h.get? b = some u → h'.get? b = some u) : Un fs ex H H h h' :=
  ⟨fun b ob q _ _ _ => k b ob q, fun b ob q _ _ _ => ⟨ob.slots, k b ob q⟩, fun _ _ _ n _ => n, fun b ob q _ => ⟨ob, k b ob q⟩, fun _ _ q => q, fun _ _ _ q => q, fun _ ps q => ⟨#[], by rw [q]; simp⟩⟩
theorem Un.refl : Un fs ex H H h h := Un.kept fun _ _ q => q
theorem Un.laid (k : ∀ b u, h.get? b = some u → h'.get? b = some u) (hp : h.objs.size ≤ a) (hn : H a = none) : Un fs ex H (upd H a o) h h' where
  keep := fun b u q _ _ _ => k b u q
  slot := fun b u q _ _ _ => ⟨u.slots, k b u q⟩
  free := fun b u q n _ => by rw [upd_ne (Nat.ne_of_lt (Nat.lt_of_lt_of_le (Heap.lt_size q) hp))]; exact n
  there := fun b u q _ => ⟨u, k b u q⟩
  tups := fun b xs q => by rw [upd_ne (ne_of_none q hn)]; exact q
  frzs := fun b u xs q => by rw [upd_ne (ne_of_none q hn)]; exact q
  tbls := fun b ps q => ⟨#[], by rw [upd_ne (ne_of_none q hn), q]; simp⟩
theorem Un.write (mu : Mut (H x)) (he : e = x ∨ H e = some (.own x)) (k : ∀ b u, b ≠ e → h.get? b = some u → h'.get? b = some u) (heo : ∃ u, h'.get? e = some u) : Un fs ex H (upd H x o) h h' := by
  have hx : ∀ b, H b = none → b ≠ x := fun b n z => by subst z; rw [n] at mu; exact mu
  have hb : ∀ b, H b = none → b ≠ e := fun b n z => by
    subst z
    rcases he with r | r
    · exact hx b n r
    · rw [n] at r; cases r
  have hm : ∀ b u, H b = some u → ¬ Mut (some u) → b ≠ x := fun b u q nm z => by subst z; rw [q] at mu; exact nm mu
  refine ⟨fun b u q n _ _ => k b u (hb b n) q, fun b u q n _ _ => ⟨u.slots, k b u (hb b n) q⟩, fun b u q n _ => by rw [upd_ne (hx b n)]; exact n, fun b u q _ => ?_,
    fun b xs q => by rw [upd_ne (hm b _ q fun z => z)]; exact q, fun b u xs q => by rw [upd_ne (hm b _ q fun z => z)]; exact q, fun b ps q => ⟨#[], by rw [upd_ne (hm b _ q fun z => z), q]; simp⟩⟩
  by_cases hbe : b = e
  · subst hbe; exact heo
  · exact ⟨u, k b u hbe q⟩
theorem Un.mono (u : Un fs ex H H1 h h1) (hs : ∀ b ∈ fs, b ∈ fs') (hx : ∀ b ∈ ex, b ∈ ex') : Un fs' ex' H H1 h h1 :=
  ⟨fun b ob q n hb he => u.keep b ob q n (fun z => hb (hs b z)) fun z => he (hx b z), fun _ _ q n _ he => u.any q n fun z => he (hx _ z), fun b ob q n he => u.free b ob q n fun z => he (hx b z), fun b ob q he => u.there b ob q fun z => he (hx b z), u.tups, u.frzs, u.tbls⟩
end
def trk (h : Heap) (H : Hp) : List Addr := (List.range h.objs.size).filter fun a => (H a).isSome
def hidT (h : Heap) (H : Hp) : Heap := PySem.W.hideAll h (trk h H)
theorem hidT_size (h : Heap) (H : Hp) : (hidT h H).objs.size = h.objs.size := PySem.W.hideAll_size _ _
theorem hidT_get {h : Heap} {H : Hp} {b : Addr} {o : Obj} (e : h.get? b = some o) (n : H b = none) : (hidT h H).get? b = some o :=
  PySem.W.hideAll_get _ e fun hm => by
    have q : (H b).isSome = true := (List.mem_filter.mp hm).2
    rw [n] at q; simp at q
theorem of_hidT {h : Heap} {H : Hp} {b : Addr} {o : Obj} (e : (hidT h H).get? b = some o) : h.get? b = some o ∧ H b = none := by
  have e' : h.get? b = some o := PySem.W.of_hideAll (trk h H) e
  refine ⟨e', ?_⟩
  cases q : H b with
  | none => rfl
  | some x =>
    have hm : b ∈ trk h H := List.mem_filter.mpr ⟨List.mem_range.mpr (Heap.lt_size e'), by simp [q]⟩
    have z : (hidT h H).get? b = none := PySem.W.hideAll_none (trk h H) hm
    rw [z] at e; cases e
def allNews (g h : Heap) (L : Addr) : List (Addr × Obj) := (List.range h.objs.size).filterMap fun a => if a = L ∨ (g.get? a).isSome = true then none else (h.get? a).map fun o => (a, o)
def rest (g h : Heap) (L d : Addr) : List (Addr × Obj) := (allNews g h L).filter fun p => decide (p.1 ≠ d)
end L2
namespace L2
open PySem PySem.Spec PyProof.Rows
/-- the module's facts, over the base: the heap at the law's entry without what is tracked there -/
structure Mod (K : PySem.W.Frag) (mg : Str → Option Value) (base : Heap) : Prop where
  kin : K.In base
  glob : base.Ns mainGlobals mg
  blt : ∃ mb, base.Ns builtinsNs mb ∧ ∀ x : Str, x ≠ "__name__" → mb x = bootBuiltins x
  nolimit : base.NoLimit
/-- the context: a def's body (or a comprehension's block) running. base: fixed through the whole law; s₀, H₀: the entry; outer: the frames whose slots others may change (a def's callers); stack: all frames that run;
   ex: iterators that were made ahead of the entry and are walked here (a comprehension's); fn: the names whose cells were made at the entry (a def: all; a comprehension's block: its own); calm: not within an except suite; pn: pins that every state bears; xe: what is wanted of an exception that leaves the code -/
structure Cx where
  prog : Program
  w : World
  K : PySem.W.Frag
  mg : Str → Option Value
  base : Heap
  A : Around
  N : List Str
  s_0 : Shared
  H_0 : Hp
  env : Env
  outer : List Env
  stack : List Env
  ex : List Addr
  fn : Str → Bool
  calm : Bool
  pn : List (Addr × Obj)
  xe : Value → Shared → Prop
/-- the callers' frames -/
def frs (l : List Env) : List Addr := l.filterMap (·.frame)
abbrev Cx.fs (X : Cx) : List Addr := frs X.outer
def Vis (sc : Scope) (x : Str) : Prop := sc.names.lookup x = some .local ∨ sc.names.lookup x = some .cell ∨ sc.names.lookup x = some .free
def Loc (sc : Scope) (x : Str) : Prop := sc.names.lookup x = some .local ∨ sc.names.lookup x = some .cell
def Look (env : Env) (h : Heap) (m : Str → Option Value) (x : Str) (u : Value) : Prop :=
  (env.kindOf x = some .local ∧ m x = some u) ∨ ((env.kindOf x = some .cell ∨ env.kindOf x = some .free) ∧ ∃ c, env.cells.lookup x = some c ∧ h.IsCell c (some u))
structure Cx.Ok (X : Cx) : Prop where
  mod : Mod X.K X.mg X.base
  kind : X.env.scope.kind = .function
  glob : X.env.globals = mainGlobals
  blt : X.env.builtins = builtinsNs
  above : X.s_0.heap.objs.size ≤ X.env.locals
  inj : ∀ x y c, X.env.cells.lookup x = some c → X.env.cells.lookup y = some c → x = y
  has : ∀ x, (X.env.kindOf x = some .cell ∨ X.env.kindOf x = some .free) → ∃ c, X.env.cells.lookup x = some c
  cab : ∀ x c, X.fn x = true → X.env.cells.lookup x = some c → X.s_0.heap.objs.size ≤ c
  hd : X.calm = true → X.A.handled = none
  frames : X.A.frames = some X.stack
  stk : X.stack = X.outer ∨ (X.stack = X.env :: X.outer ∧ X.env.frame = some X.env.locals)
  exf : ∀ b ∈ X.ex, b ≠ X.env.locals ∧ ∀ x c, X.env.cells.lookup x = some c → c ≠ b
  bs : ∀ b o, X.base.get? b = some o → X.s_0.heap.get? b = some o ∧ X.H_0 b = none
  bsz : X.base.objs.size ≤ X.s_0.heap.objs.size
  noex : ∀ b o, X.base.get? b = some o → b ∉ X.ex
  exfs : ∀ b ∈ X.ex, b ∉ X.fs
  funs : X.s_0.heap.FunFrames X.base X.outer
  frf : ∀ b ∈ X.fs, X.H_0 b = none
structure Inv (X : Cx) (pins : List (Addr × Obj)) (σ : List (Option V)) (H : Hp) (s : Shared) : Prop where
  ok : X.Ok
  os : s.os = X.s_0.os
  bare : AllBare s.gens
  base : Un X.fs X.ex X.H_0 H X.s_0.heap s.heap
  loc : ∃ m, s.heap.Ns X.env.locals m ∧ ∀ (i : Nat) (x : Str) (v : V), X.N[i]? = some x → σ[i]? = some (some v) → Vis X.env.scope x → ∃ u, RelV v u ∧ Look X.env s.heap m x u
  cell : ∀ x c, X.env.cells.lookup x = some c → ∃ v, s.heap.IsCell c v
  free : H X.env.locals = none
  freeC : ∀ x c, X.env.cells.lookup x = some c → H c = none
  pin : ∀ p ∈ X.pn ++ pins, s.heap.get? p.1 = some p.2 ∧ H p.1 = none ∧ p.1 ≠ X.env.locals ∧ p.1 ∉ X.fs ∧ ∀ v, p.2.data ≠ .cell v
  hok : HOk X.prog X.w H s.heap
  len : σ.length = X.N.length
section
variable {X : Cx} {pins : List (Addr × Obj)} {σ : List (Option V)} {H H' : Hp} {s : Shared} {h' : Heap}
theorem Cx.Ok.nofr (ok : X.Ok) {b : Addr} {o : Obj} (e : X.base.get? b = some o) : b ∉ X.fs := fun hb => by
  have := (ok.funs.mem hb).1
  rw [e] at this; cases this
theorem Inv.bs (I : Inv X pins σ H s) : ∀ b o, X.base.get? b = some o → s.heap.get? b = some o ∧ H b = none := fun b o e =>
  ⟨I.base.keep b o (I.ok.bs b o e).1 (I.ok.bs b o e).2 (I.ok.nofr e) (I.ok.noex b o e), I.base.free b o (I.ok.bs b o e).1 (I.ok.bs b o e).2 (I.ok.noex b o e)⟩
theorem Inv.bk (I : Inv X pins σ H s) : ∀ b o, X.base.get? b = some o → s.heap.get? b = some o := fun b o e => (I.bs b o e).1
theorem Inv.mod (I : Inv X pins σ H s) : Mod X.K X.mg X.base := I.ok.mod
theorem Inv.kIn (I : Inv X pins σ H s) : X.K.In s.heap := I.ok.mod.kin.keeps I.bk
theorem Inv.nolimit (I : Inv X pins σ H s) : s.heap.NoLimit := I.ok.mod.nolimit.keeps I.bk
theorem Inv.lt (I : Inv X pins σ H s) : X.env.locals < s.heap.objs.size := let ⟨_, hn, _⟩ := I.loc; hn.lt
theorem Inv.sz (I : Inv X pins σ H s) : X.s_0.heap.objs.size ≤ s.heap.objs.size := Nat.le_trans I.ok.above (Nat.le_of_lt I.lt)
theorem Inv.nofs (I : Inv X pins σ H s) {a : Addr} (h : s.heap.objs.size ≤ a) : a ∉ X.fs := fun hb => by
  obtain ⟨_, o, ho, _⟩ := I.ok.funs.mem hb
  exact absurd (Nat.lt_of_lt_of_le (Heap.lt_size ho) (Nat.le_trans I.sz h)) (Nat.lt_irrefl _)
theorem Inv.cne (I : Inv X pins σ H s) : ∀ x c, X.env.cells.lookup x = some c → c ≠ X.env.locals := fun x c e z => by
  obtain ⟨v, o, ho, hd⟩ := I.cell x c e
  obtain ⟨m, ⟨o', es, ep, ho', hd', _⟩, _⟩ := I.loc
  rw [z, ho'] at ho; cases ho; rw [hd'] at hd; cases hd
theorem Inv.funs (I : Inv X pins σ H s) : s.heap.FunFrames X.base X.outer := by
  have all : ∀ (l : List Env), (∀ b ∈ frs l, b ∈ X.fs) → X.s_0.heap.FunFrames X.base l → s.heap.FunFrames X.base l := by
    intro l
    induction l with
    | nil => intro _ _; trivial
    | cons env r ih =>
      intro hs hl
      obtain ⟨hk, ⟨L, o, hf, hn, ho, hd⟩, hr⟩ := hl
      have hL : L ∈ X.fs := hs L (by unfold frs; rw [List.filterMap_cons, hf]; exact List.mem_cons_self)
      obtain ⟨sl, e⟩ := I.base.slot L o ho (I.ok.frf L hL) hL fun z => I.ok.exfs L z hL
      exact ⟨hk, ⟨L, _, hf, hn, e, hd⟩, ih (fun b hb => hs b (by unfold frs; rw [List.filterMap_cons, hf]; exact List.mem_cons_of_mem _ hb)) hr⟩
  exact all X.outer (fun _ hb => hb) I.ok.funs
/-- the frames that run, for a call -/
theorem Inv.stack (I : Inv X pins σ H s) : s.heap.FunFrames X.base X.stack := by
  rcases I.ok.stk with e | ⟨e, hf⟩
  · rw [e]; exact I.funs
  · rw [e]
    obtain ⟨m, hn, _⟩ := I.loc
    refine .cons (by rw [I.ok.kind]; decide) hf hn ?_ I.funs
    exact Heap.get?_none_of_le (Nat.le_trans I.ok.bsz I.ok.above)
theorem Inv.stkSub (I : Inv X pins σ H s) : ∀ b ∈ frs X.stack, b ∈ X.env.locals :: X.fs := fun b hb => by
  rcases I.ok.stk with e | ⟨e, hf⟩
  · rw [e] at hb; exact List.mem_cons_of_mem _ hb
  · rw [e] at hb
    unfold frs at hb
    rw [List.filterMap_cons, hf] at hb
    exact hb
theorem Inv.stkFree (I : Inv X pins σ H s) : ∀ b ∈ frs X.stack, H b = none := fun b hb => by
  rcases List.mem_cons.mp (I.stkSub b hb) with e | hb
  · rw [e]; exact I.free
  · obtain ⟨_, o, ho, _⟩ := I.ok.funs.mem hb
    exact I.base.free b o ho (I.ok.frf b hb) fun z => I.ok.exfs b z hb
/-- THE STEP: the untracked objects but the frame and the records at ch are kept (the callers' frames up to slots), the frame's map is kept, the new abstract heap is held -/
theorem Inv.step {g' : Array GenState} {t' : Nat} {d' : Drawn} {ch : List Addr} (I : Inv X pins σ H s)
    (hch : ∀ b ∈ ch, (b ∈ X.ex ∨ X.s_0.heap.objs.size ≤ b) ∧ b ≠ X.env.locals ∧ (∀ x c, X.env.cells.lookup x = some c → c ≠ b) ∧ ∀ p ∈ X.pn ++ pins, p.1 ≠ b)
    (keep : ∀ b o, b ≠ X.env.locals → b ∉ X.fs → b ∉ ch → s.heap.get? b = some o → H b = none → h'.get? b = some o)
    (slot : ∀ b o, b ≠ X.env.locals → b ∈ X.fs → b ∉ ch → s.heap.get? b = some o → H b = none → ∃ sl, h'.get? b = some { o with slots := sl }) (free : ∀ b o, b ∉ ch → s.heap.get? b = some o → H b = none → H' b = none)
    (there : ∀ b o, b ∉ ch → s.heap.get? b = some o → ∃ o', h'.get? b = some o')
    (tups : ∀ b xs, H b = some (.tup xs) → H' b = some (.tup xs)) (frzs : ∀ b o u, H b = some (.frz o u) → H' b = some (.frz o u)) (tbls : ∀ b ps, H b = some (.tbl ps) → ∃ more, H' b = some (.tbl (ps ++ more)))
    (ns : ∀ m, s.heap.Ns X.env.locals m → h'.Ns X.env.locals m) (hok : HOk X.prog X.w H' h') (hg : AllBare g') :
    Inv X pins σ H' { s with heap := h', gens := g', drawn := d', toks := t' } := by
  have neL : ∀ b o, X.s_0.heap.get? b = some o → b ≠ X.env.locals := fun b o e => Nat.ne_of_lt (Nat.lt_of_lt_of_le (Heap.lt_size e) I.ok.above)
  have neC : ∀ b o, X.s_0.heap.get? b = some o → b ∉ X.ex → b ∉ ch := fun b o e hx hb => by
    rcases (hch b hb).1 with z | z
    · exact hx z
    · exact absurd (Nat.lt_of_lt_of_le (Heap.lt_size e) z) (Nat.lt_irrefl _)
  have cellK : ∀ x c, X.env.cells.lookup x = some c → ∀ v, s.heap.IsCell c v → h'.IsCell c v := fun x c e v ⟨o, ho, hd⟩ => by
    have nch : c ∉ ch := fun z => (hch c z).2.2.1 x c e rfl
    by_cases hc : c ∈ X.fs
    · obtain ⟨sl, q⟩ := slot c o (I.cne x c e) hc nch ho (I.freeC x c e)
      exact ⟨_, q, hd⟩
    · exact ⟨o, keep c o (I.cne x c e) hc nch ho (I.freeC x c e), hd⟩
  refine ⟨I.ok, I.os, hg, ⟨fun b o e n hb hx => ?_, fun b o e n hb hx => ?_, fun b o e n hx => ?_, fun b o e hx => ?_, fun b xs e => tups b xs (I.base.tups b xs e), fun b o xs e => frzs b o xs (I.base.frzs b o xs e), fun b ps e => ?_⟩, ?_, fun x c e => ?_, ?_, fun x c e => ?_, fun p hp => ?_, hok, I.len⟩
  · exact keep b o (neL b o e) hb (neC b o e hx) (I.base.keep b o e n hb hx) (I.base.free b o e n hx)
  · obtain ⟨sl, e1⟩ := I.base.slot b o e n hb hx
    obtain ⟨sl', e2⟩ := slot b _ (neL b o e) hb (neC b o e hx) e1 (I.base.free b o e n hx)
    exact ⟨sl', e2⟩
  · obtain ⟨o', e1⟩ := I.base.there b o e hx
    exact free b o' (neC b o e hx) e1 (I.base.free b o e n hx)
  · obtain ⟨o', e1⟩ := I.base.there b o e hx
    exact there b o' (neC b o e hx) e1
  · obtain ⟨m1, e1⟩ := I.base.tbls b ps e
    obtain ⟨m2, e2⟩ := tbls b _ e1
    exact ⟨m1 ++ m2, by rw [e2, Array.append_assoc]⟩
  · obtain ⟨m, hn, hl⟩ := I.loc
    refine ⟨m, ns m hn, fun i x v e1 e2 e3 => ?_⟩
    obtain ⟨u, r, l⟩ := hl i x v e1 e2 e3
    refine ⟨u, r, ?_⟩
    rcases l with l | ⟨k, c, e, z⟩
    · exact .inl l
    · exact .inr ⟨k, c, e, cellK x c e _ z⟩
  · obtain ⟨v, z⟩ := I.cell x c e
    exact ⟨v, cellK x c e v z⟩
  · obtain ⟨m, ⟨o, _, _, ho, _⟩, _⟩ := I.loc
    exact free _ o (fun z => (hch _ z).2.1 rfl) ho I.free
  · obtain ⟨v, o, ho, hd⟩ := I.cell x c e
    exact free c o (fun z => (hch c z).2.2.1 x c e rfl) ho (I.freeC x c e)
  · obtain ⟨e, n, ne, nf, d⟩ := I.pin p hp
    have nch : p.1 ∉ ch := fun z => (hch p.1 z).2.2.2 p hp rfl
    exact ⟨keep p.1 p.2 ne nf nch e n, free p.1 p.2 nch e n, ne, nf, d⟩
/-- .. where the frame's own object is kept too -/
theorem Inv.un {t' : Nat} (I : Inv X pins σ H s) (u : Un X.fs [] H H' s.heap h') (hok : HOk X.prog X.w H' h') : Inv X pins σ H' { s with heap := h', toks := t' } := by
  obtain ⟨m, ⟨o, es, ep, ho, r⟩, _⟩ := id I.loc
  obtain ⟨sl, hL⟩ := u.any ho I.free (by simp)
  exact I.step (g' := s.gens) (d' := s.drawn) (ch := []) (fun _ z => nomatch z) (fun b o _ hb _ e n => u.keep b o e n hb (by simp)) (fun b o _ hb _ e n => u.slot b o e n hb (by simp)) (fun b o _ e n => u.free b o e n (by simp)) (fun b o _ e => u.there b o e (by simp)) u.tups u.frzs u.tbls (fun m' hm => by
    obtain ⟨o', es', ep', ho', r'⟩ := hm
    rw [ho] at ho'; cases ho'
    exact ⟨_, es', ep', hL, r'⟩) hok I.bare
/-- behind a call (or a comprehension's block): the slots of this frame may have changed too, the records at ch may have turned -/
theorem Inv.call {g' : Array GenState} {t' : Nat} {d' : Drawn} {ch : List Addr} (I : Inv X pins σ H s) (u : Un (frs X.stack) ch H H' s.heap h') (hok : HOk X.prog X.w H' h') (hg : AllBare g')
    (hch : ∀ b ∈ ch, (b ∈ X.ex ∨ X.s_0.heap.objs.size ≤ b) ∧ b ≠ X.env.locals ∧ (∀ x c, X.env.cells.lookup x = some c → c ≠ b) ∧ ∀ p ∈ X.pn ++ pins, p.1 ≠ b) :
    Inv X pins σ H' { s with heap := h', gens := g', drawn := d', toks := t' } := by
  obtain ⟨m, ⟨o, es, ep, ho, r⟩, _⟩ := id I.loc
  obtain ⟨sl, hL⟩ := u.any ho I.free fun z => (hch _ z).2.1 rfl
  exact I.step (ch := ch) hch (fun b o hL hb hc e n => u.keep b o e n (fun z => (List.mem_cons.mp (I.stkSub b z)).elim hL hb) hc) (fun b o _ _ hc e n => u.any e n hc) (fun b o hc e n => u.free b o e n hc) (fun b o hc e => u.there b o e hc) u.tups u.frzs u.tbls (fun m' hm => by
    obtain ⟨o', es', ep', ho', r'⟩ := hm
    rw [ho] at ho'; cases ho'
    exact ⟨_, es', ep', hL, r'⟩) hok hg
/-- an untracked record of ours (an iterator) has turned -/
theorem Inv.turned {t' : Nat} {it : Addr} (I : Inv X pins σ H s) (k : ∀ b o, b ≠ it → s.heap.get? b = some o → h'.get? b = some o) (hn : H it = none) (hL : it ≠ X.env.locals)
    (h1 : it ∈ X.ex ∨ X.s_0.heap.objs.size ≤ it) (h2 : ∀ x c, X.env.cells.lookup x = some c → c ≠ it) (h3 : ∀ p ∈ X.pn ++ pins, p.1 ≠ it) : Inv X pins σ H { s with heap := h', toks := t' } := by
  have nit : ∀ b u, H b = some u → b ≠ it := fun b u e z => by rw [z, hn] at e; cases e
  refine I.step (g' := s.gens) (d' := s.drawn) (ch := [it]) (fun b hb => ?_) (fun b o _ _ hc e _ => k b o (fun z => hc (by simp [z])) e) (fun b o _ _ hc e _ => ⟨o.slots, k b o (fun z => hc (by simp [z])) e⟩) (fun _ _ _ _ n => n)
    (fun b o hc e => ⟨o, k b o (fun z => hc (by simp [z])) e⟩) (fun _ _ e => e) (fun _ _ _ e => e) (fun b ps e => ⟨#[], by rw [e]; simp⟩) (fun m hm => ?_) (fun b u e => ?_) I.bare
  · have e : b = it := by simpa using hb
    subst e
    exact ⟨h1, hL, h2, h3⟩
  · obtain ⟨o, es, ep, ho, r⟩ := hm
    exact ⟨o, es, ep, k _ o (Ne.symm hL) ho, r⟩
  · refine (I.hok b u e).stay (fun c v hc q => k c v ?_ q) (fun _ q => q) fun _ _ q => q
    rcases hc with z | z
    · rw [z]; exact nit b u e
    · exact nit c _ z
theorem Inv.tok (I : Inv X pins σ H s) (t : Nat) : Inv X pins σ H { s with toks := t } := I.un (h' := s.heap) (t' := t) Un.refl I.hok
/-- all objects kept -/
theorem Inv.kept {t' : Nat} (I : Inv X pins σ H s) (k : ∀ b u, s.heap.get? b = some u → h'.get? b = some u) : Inv X pins σ H { s with heap := h', toks := t' } := I.un (Un.kept k) (I.hok.kept k)
/-- a new object laid and tracked -/
theorem Inv.laid {a : Addr} {o : HO} {t' : Nat} (I : Inv X pins σ H s) (k : ∀ b u, s.heap.get? b = some u → h'.get? b = some u) (hp : s.heap.objs.size ≤ a) (new : ObjOk X.prog X.w (upd H a o) h' a o) :
    Inv X pins σ (upd H a o) { s with heap := h', toks := t' } := I.un (Un.laid k hp (I.hok.fresh hp)) (I.hok.laid k hp new)
/-- an object written -/
theorem Inv.write {x e : Addr} {o : HO} {t' : Nat} (I : Inv X pins σ H s) (mu : Mut (H x)) (he : e = x ∨ H e = some (.own x)) (k : ∀ b u, b ≠ e → s.heap.get? b = some u → h'.get? b = some u) (heo : ∃ u, h'.get? e = some u)
    (new : ObjOk X.prog X.w (upd H x o) h' x o) : Inv X pins σ (upd H x o) { s with heap := h', toks := t' } := I.un (Un.write mu he k heo) (I.hok.write mu he k heo new)
/-- forgetting slots, pins -/
theorem Inv.weak {σ' : List (Option V)} (I : Inv X pins σ H s) (hl : σ'.length = σ.length) (w : ∀ (i : Nat) v, σ'[i]? = some (some v) → σ[i]? = some (some v)) : Inv X pins σ' H s :=
  ⟨I.ok, I.os, I.bare, I.base, let ⟨m, hn, hl'⟩ := I.loc; ⟨m, hn, fun i x v e1 e2 e3 => hl' i x v e1 (w i v e2) e3⟩, I.cell, I.free, I.freeC, I.pin, I.hok, hl.trans I.len⟩
theorem Inv.pins_of {pins' : List (Addr × Obj)} (I : Inv X pins σ H s) (h : ∀ p ∈ pins', s.heap.get? p.1 = some p.2 ∧ H p.1 = none ∧ p.1 ≠ X.env.locals ∧ p.1 ∉ X.fs ∧ ∀ v, p.2.data ≠ .cell v) : Inv X pins' σ H s :=
  ⟨I.ok, I.os, I.bare, I.base, I.loc, I.cell, I.free, I.freeC, fun p hp => (List.mem_append.mp hp).elim (fun z => I.pin p (List.mem_append_left _ z)) (h p), I.hok, I.len⟩
theorem nodup_ix {N : List Str} (hN : N.Nodup) {i j : Nat} {x : Str} (a : N[i]? = some x) (b : N[j]? = some x) : i = j := by
  obtain ⟨h1, e1⟩ := List.getElem?_eq_some_iff.mp a
  obtain ⟨h2, e2⟩ := List.getElem?_eq_some_iff.mp b
  exact (List.getElem_inj hN).mp (e1.trans e2.symm)
/-- a name is stored; what changed -/
theorem store_ok2 {M : Model} {A : Around} {E : Value → Shared → Prop} {i : Nat} {x : Str} {v : V} {u : Value} {Q : Unit → Shared → Prop} (I : Inv X pins σ H s) (hN : X.N.Nodup) (hi : X.N[i]? = some x) (hx : Loc X.env.scope x) (r : RelV v u)
    (h : ∀ s', Inv X pins (σ.set i (some v)) H s' → (∃ a, Heap.SameBut a s.heap s'.heap ∧ (a = X.env.locals ∨ X.env.cells.lookup x = some a)) → Q () s') (hf : X.fn x = true ∨ X.env.scope.names.lookup x = some .local := by first | exact .inl rfl | exact .inr rfl | assumption) : wpAny M A (storeName X.env x u) Q E s := by
  obtain ⟨m, hn, hl⟩ := id I.loc
  have hcls : (X.env.scope.kind == .class || (X.env.scope.kind == .module && X.env.locals != X.env.globals)) = false := by rw [I.ok.kind]; rfl
  have hiσ : i < σ.length := by rw [I.len]; exact (List.getElem?_eq_some_iff.mp hi).1
  have cne := I.cne
  have tracked : ∀ {a : Addr} {h' : Heap}, (∃ o, s.heap.get? a = some o ∧ H a = none) → Heap.SameBut a s.heap h' → HOk X.prog X.w H h' := fun {a h'} ha hs b ob e => by
    obtain ⟨_, _, hfree⟩ := ha
    refine (I.hok b ob e).stay (fun c w' hc q => (hs.2 c ?_).trans q) (fun _ q => q) fun _ _ q => q
    rintro rfl
    rcases hc with rfl | hc
    · rw [hfree] at e; cases e
    · rw [hfree] at hc; cases hc
  rcases hx with hk | hk
  · refine wpAny_storeName_local hk hn (fun h' hn' hs => ?_) hcls
    obtain ⟨oL, _, _, hoL, _⟩ := id hn
    refine h _ ⟨I.ok, I.os, I.bare, ⟨fun b o e n hb hx => ?_, fun b o e n hb hx => ?_, I.base.free, fun b o e hx => ?_, I.base.tups, I.base.frzs, I.base.tbls⟩, ⟨_, hn', fun j y v' e1 e2 e3 => ?_⟩, fun y c e => ?_, I.free, I.freeC, fun p hp => ?_, tracked ⟨oL, hoL, I.free⟩ hs, by simpa using I.len⟩ ⟨_, hs, .inl rfl⟩
    · exact (hs.2 b (Nat.ne_of_lt (Nat.lt_of_lt_of_le (Heap.lt_size e) I.ok.above))).trans (I.base.keep b o e n hb hx)
    · obtain ⟨sl, e1⟩ := I.base.slot b o e n hb hx
      exact ⟨sl, (hs.2 b (Nat.ne_of_lt (Nat.lt_of_lt_of_le (Heap.lt_size e) I.ok.above))).trans e1⟩
    · obtain ⟨o', e1⟩ := I.base.there b o e hx
      exact ⟨o', (hs.2 b (Nat.ne_of_lt (Nat.lt_of_lt_of_le (Heap.lt_size e) I.ok.above))).trans e1⟩
    · by_cases hj : j = i
      · subst hj
        rw [hi] at e1; cases e1
        rw [List.getElem?_set_self hiσ] at e2
        cases e2
        exact ⟨u, r, .inl ⟨hk, by simp⟩⟩
      · rw [List.getElem?_set_ne (Ne.symm hj)] at e2
        obtain ⟨u', r', q⟩ := hl j y v' e1 e2 e3
        refine ⟨u', r', ?_⟩
        rcases q with ⟨k, e⟩ | ⟨k, c, e, z⟩
        · refine .inl ⟨k, ?_⟩
          have : y ≠ x := fun e => hj (nodup_ix hN e1 (e ▸ hi))
          simp [this, e]
        · exact .inr ⟨k, c, e, z.sameBut hs (cne y c e)⟩
    · obtain ⟨w', z⟩ := I.cell y c e
      exact ⟨w', z.sameBut hs (cne y c e)⟩
    · obtain ⟨e, n, ne, nf, d⟩ := I.pin p hp
      exact ⟨(hs.2 p.1 ne).trans e, n, ne, nf, d⟩
  · have hfn : X.fn x = true := by
      rcases hf with z | z
      · exact z
      · rw [z] at hk; cases hk
    obtain ⟨c, hc⟩ := I.ok.has x (.inl hk)
    obtain ⟨w', z⟩ := I.cell x c hc
    refine wpAny_storeName_cell I.ok.kind hk hc z (fun h' hc' hs => ?_)
    obtain ⟨oc, hoc, hocd⟩ := id z
    refine h { s with heap := h' } ⟨I.ok, I.os, I.bare, ⟨fun b o e n hb hx => ?_, fun b o e n hb hx => ?_, I.base.free, fun b o e hx => ?_, I.base.tups, I.base.frzs, I.base.tbls⟩, ⟨m, hn.sameBut hs (Ne.symm (cne x c hc)), fun j y v' e1 e2 e3 => ?_⟩, fun y c' e => ?_, I.free, I.freeC, fun p hp => ?_, tracked ⟨oc, hoc, I.freeC x c hc⟩ hs, by simpa using I.len⟩ ⟨c, hs, .inr hc⟩
    · exact (hs.2 b (Nat.ne_of_lt (Nat.lt_of_lt_of_le (Heap.lt_size e) (I.ok.cab x c hfn hc)))).trans (I.base.keep b o e n hb hx)
    · obtain ⟨sl, e1⟩ := I.base.slot b o e n hb hx
      exact ⟨sl, (hs.2 b (Nat.ne_of_lt (Nat.lt_of_lt_of_le (Heap.lt_size e) (I.ok.cab x c hfn hc)))).trans e1⟩
    · obtain ⟨o', e1⟩ := I.base.there b o e hx
      exact ⟨o', (hs.2 b (Nat.ne_of_lt (Nat.lt_of_lt_of_le (Heap.lt_size e) (I.ok.cab x c hfn hc)))).trans e1⟩
    · by_cases hj : j = i
      · subst hj
        rw [hi] at e1; cases e1
        rw [List.getElem?_set_self hiσ] at e2
        cases e2
        exact ⟨u, r, .inr ⟨.inl hk, c, hc, hc'⟩⟩
      · rw [List.getElem?_set_ne (Ne.symm hj)] at e2
        obtain ⟨u', r', q⟩ := hl j y v' e1 e2 e3
        refine ⟨u', r', ?_⟩
        rcases q with q | ⟨k, c', e, z'⟩
        · exact .inl q
        · refine .inr ⟨k, c', e, z'.sameBut hs ?_⟩
          rintro rfl
          exact hj (nodup_ix hN e1 (I.ok.inj _ _ _ e hc ▸ hi))
    · by_cases hcc : c' = c
      · subst hcc; exact ⟨_, hc'⟩
      · obtain ⟨w2, z2⟩ := I.cell y c' e
        exact ⟨w2, z2.sameBut hs hcc⟩
    · obtain ⟨e, n, ne, nf, d⟩ := I.pin p hp
      refine ⟨(hs.2 p.1 ?_).trans e, n, ne, nf, d⟩
      intro q
      rw [q, hoc] at e
      have q' : oc = p.2 := Option.some.inj e
      exact d w' (by rw [← q']; exact hocd)
theorem store_ok {M : Model} {A : Around} {E : Value → Shared → Prop} {i : Nat} {x : Str} {v : V} {u : Value} {Q : Unit → Shared → Prop} (I : Inv X pins σ H s) (hN : X.N.Nodup) (hi : X.N[i]? = some x) (hx : Loc X.env.scope x) (r : RelV v u)
    (h : ∀ s', Inv X pins (σ.set i (some v)) H s' → Q () s') (hf : X.fn x = true ∨ X.env.scope.names.lookup x = some .local := by first | exact .inl rfl | exact .inr rfl | assumption) : wpAny M A (storeName X.env x u) Q E s :=
  store_ok2 I hN hi hx r (fun s' I' _ => h s' I') hf
/-- behind a call or a block, the state as it is -/
theorem Inv.call' {s' : Shared} {ch : List Addr} (I : Inv X pins σ H s) (ho : s'.os = s.os) (u : Un (frs X.stack) ch H H' s.heap s'.heap) (hok : HOk X.prog X.w H' s'.heap) (hg : AllBare s'.gens)
    (hch : ∀ b ∈ ch, (b ∈ X.ex ∨ X.s_0.heap.objs.size ≤ b) ∧ b ≠ X.env.locals ∧ (∀ x c, X.env.cells.lookup x = some c → c ≠ b) ∧ ∀ p ∈ X.pn ++ pins, p.1 ≠ b) : Inv X pins σ H' s' := by
  obtain ⟨h', g', d', t', o'⟩ := s'
  have e : o' = s.os := ho
  subst e
  exact I.call (g' := g') (t' := t') (d' := d') u hok hg hch
end
/-- an exception: its class, its own dict's address (where it has one), the abstract heap behind it -/
abbrev XK := Value → Option Addr → Hp → Prop
abbrev St := List (Option V)
abbrev VK := V → Hp → Prop
/-- an expression's reading; a test's; an argument list's -/
abbrev TE := St → Hp → VK → Prop
abbrev TT := St → Hp → (Bool → Hp → Prop) → Prop
abbrev TA := St → Hp → (List V → Hp → Prop) → Prop
/-- what is wanted behind a statement -/
structure Ends where
  nx : St → Hp → Prop
  rt : VK
  bk : St → Hp → Prop := fun _ _ => False
  ct : St → Hp → Prop := fun _ _ => False
abbrev TS := Ends → St → Hp → Prop
def EP (X : Cx) (pins : List (Addr × Obj)) (σ : St) (Q : VK) (u : Value) (s' : Shared) : Prop := ∃ v H', Inv X pins σ H' s' ∧ RelV v u ∧ Q v H'
def TP (X : Cx) (pins : List (Addr × Obj)) (σ : St) (Q : Bool → Hp → Prop) (b : Bool) (s' : Shared) : Prop := ∃ H', Inv X pins σ H' s' ∧ Q b H'
def AP (X : Cx) (pins : List (Addr × Obj)) (σ : St) (Q : List V → Hp → Prop) (us : List Value) (s' : Shared) : Prop := ∃ vs H', Inv X pins σ H' s' ∧ Vals vs us ∧ Q vs H'
def SP (X : Cx) (pins : List (Addr × Obj)) (D : Ends) (f : Flow) (s' : Shared) : Prop :=
  match f with
  | .next => ∃ σ' H', Inv X pins σ' H' s' ∧ D.nx σ' H'
  | .brk => ∃ σ' H', Inv X pins σ' H' s' ∧ D.bk σ' H'
  | .cont => ∃ σ' H', Inv X pins σ' H' s' ∧ D.ct σ' H'
  | .ret u => ∃ v σ' H', Inv X pins σ' H' s' ∧ RelV v u ∧ D.rt v H'
def PE (X : Cx) (e : Expr) (t : TE) : Prop :=
  ∀ (pins : List (Addr × Obj)) (s : Shared) (σ : St) (H : Hp) (Q : VK), Inv X pins σ H s → t σ H Q → wpAny (model X.prog X.w) X.A (eval e X.env) (EP X pins σ Q) X.xe s
def PT (X : Cx) (e : Expr) (t : TT) : Prop :=
  ∀ (pins : List (Addr × Obj)) (s : Shared) (σ : St) (H : Hp) (Q : Bool → Hp → Prop), Inv X pins σ H s → t σ H Q → wpAny (model X.prog X.w) X.A (isTrue e X.env (eval e X.env)) (TP X pins σ Q) X.xe s
/-- a test whatever its 'whole' is (and, or) -/
def PW (X : Cx) (e : Expr) (t : TT) : Prop :=
  ∀ (whole : Sem Value) (pins : List (Addr × Obj)) (s : Shared) (σ : St) (H : Hp) (Q : Bool → Hp → Prop), Inv X pins σ H s → t σ H Q → wpAny (model X.prog X.w) X.A (isTrue e X.env whole) (TP X pins σ Q) X.xe s
theorem PW.pt {X : Cx} {e : Expr} {t : TT} (h : PW X e t) : PT X e t := h _
/-- an argument list (no star), from the left -/
def PA (X : Cx) (es : List Expr) (t : TA) : Prop :=
  ∀ (pos : Pos) (pins : List (Addr × Obj)) (s : Shared) (σ : St) (H : Hp) (Q : List V → Hp → Prop), Inv X pins σ H s → t σ H Q → wpAny (model X.prog X.w) X.A (spliced (backTo pos (starEach es X.env))) (AP X pins σ Q) X.xe s
def PS (X : Cx) (st : Stmt) (t : TS) : Prop :=
  ∀ (pins : List (Addr × Obj)) (s : Shared) (σ : St) (H : Hp) (D : Ends), Inv X pins σ H s → t D σ H → wpAny (model X.prog X.w) X.A (exec st X.env) (SP X pins D) X.xe s
def PSs (X : Cx) (st : List Stmt) (t : TS) : Prop :=
  ∀ (pins : List (Addr × Obj)) (s : Shared) (σ : St) (H : Hp) (D : Ends), Inv X pins σ H s → t D σ H → wpAny (model X.prog X.w) X.A (execs st X.env) (SP X pins D) X.xe s
/-- weaken the end -/
theorem thn {α : Type} {t : Sem α} {Q Q' : α → Shared → Prop} {M : Model} {A : Around} {E : Value → Shared → Prop} {s : Shared} (h : wpAny M A t Q E s) (hQ : ∀ a s, Q a s → Q' a s) : wpAny M A t Q' E s := wpAny_mono h hQ fun _ _ x => x
end L2
namespace L2
open PySem PySem.Spec PyProof.Rows
section
variable {X : Cx}
def tVar (i : Nat) : TE := fun σ H Q => ∃ v, σ[i]? = some (some v) ∧ Q v H
def tC (v : V) : TE := fun _ H Q => Q v H
theorem pe_var {i : Nat} {x : Str} {pos : Pos} (hN : X.N[i]? = some x) (hv : Vis X.env.scope x) (hd : (x == ("__debug__" : Str)) = false := by decide) (hcd : (x == ("__classdict__" : Str)) = false := by decide) : PE X (.Name x pos) (tVar i) := by
  intro pins s σ H Q I h
  obtain ⟨v, e, h⟩ := h
  obtain ⟨m, hn, hl⟩ := I.loc
  obtain ⟨u, r, l⟩ := hl i x v hN e hv
  have fin : EP X pins σ Q u s := ⟨v, H, I, r, h⟩
  rcases l with ⟨hk, hm⟩ | ⟨hk, c, hc, hcell⟩
  · exact wpAny_Name (wpAny_loadName_local I.ok.kind hk hn hm fin) hd
  · rcases hk with hk | hk
    · exact wpAny_Name (wpAny_loadName_cell I.ok.kind hk hc hcell fin) hd
    · exact wpAny_Name (wpAny_loadName_free I.ok.kind hk hc hcell fin hcd) hd
theorem pe_int {i j pos} : PE X (.Constant (.int i) j pos) (tC (.int i)) := fun _ _ _ H _ I h => wpAny_Constant_int ⟨.int i, H, I.tok _, ⟨_, rfl⟩, h⟩
theorem pe_bl {b j pos} : PE X (.Constant (.bool b) j pos) (tC (.bl b)) := fun _ _ _ H _ I h => Constant_bool ⟨.bl b, H, I, rfl, h⟩
/-- a global name of the def -/
def Gl (X : Cx) (x : Str) : Prop := X.env.kindOf x = some .globalImplicit
theorem ld_glob {E : Value → Shared → Prop} {pins : List (Addr × Obj)} {s : Shared} {σ : St} {H : Hp} {x : Str} {u : Value} {pos : Pos} {Q : Value → Shared → Prop} (I : Inv X pins σ H s) (hg : Gl X x) (hm : X.mg x = some u) (h : Q u s)
    (hd : (x == ("__debug__" : Str)) = false := by decide) : wpAny (model X.prog X.w) X.A (eval (.Name x pos) X.env) Q E s :=
  Calls.Name_function_global I.ok.kind hg (Calls.loadGlobal_global (by rw [I.ok.glob]; exact I.mod.glob.keeps I.bk) hm h) hd
theorem ld_blt {E : Value → Shared → Prop} {pins : List (Addr × Obj)} {s : Shared} {σ : St} {H : Hp} {x : Str} {u : Value} {pos : Pos} {Q : Value → Shared → Prop} (I : Inv X pins σ H s) (hg : Gl X x) (hm : X.mg x = none) (hv : bootBuiltins x = some u) (h : Q u s)
    (hn : x ≠ "__name__" := by decide) (hd : (x == ("__debug__" : Str)) = false := by decide) : wpAny (model X.prog X.w) X.A (eval (.Name x pos) X.env) Q E s := by
  obtain ⟨mb, h1, h2⟩ := I.mod.blt
  exact Calls.Name_function_global I.ok.kind hg (Calls.loadGlobal_builtin (by rw [I.ok.glob]; exact I.mod.glob.keeps I.bk) hm (by rw [I.ok.blt]; exact h1.keeps I.bk) ((h2 x hn).trans hv) h) hd
/-- a module's constant, a class, a function, as a value -/
theorem pe_glob {x : Str} {v : V} {u : Value} {pos : Pos} (hg : Gl X x) (hm : X.mg x = some u) (r : RelV v u) (hd : (x == ("__debug__" : Str)) = false := by decide) : PE X (.Name x pos) (tC v) :=
  fun _ _ _ H _ I h => ld_glob I hg hm ⟨v, H, I, r, h⟩ hd
variable {a b : Expr} {ta tb : TE} {pos : Pos}
variable {tA tB' : TT} {rest : List Expr}
def tAnd (t u : TT) : TT := fun σ H Q => t σ H fun c H1 => if c = true then u σ H1 Q else Q false H1
def tOr (t u : TT) : TT := fun σ H Q => t σ H fun c H1 => if c = true then Q true H1 else u σ H1 Q
def tNot (t : TT) : TT := fun σ H Q => t σ H fun c H1 => Q (!c) H1
theorem pw_and1 (ha : PT X a tA) : PW X (.BoolOp .And [a] pos) tA := by
  intro wh pins s σ H Q I h
  refine isTrue_and (thn (ha pins s σ H Q I h) fun c s1 e => ?_)
  cases c with
  | true => exact isTrue_and_nil e
  | false => exact e
theorem pw_or1 (ha : PT X a tA) : PW X (.BoolOp .Or [a] pos) tA := by
  intro wh pins s σ H Q I h
  refine isTrue_or (thn (ha pins s σ H Q I h) fun c s1 e => ?_)
  cases c with
  | false => exact isTrue_or_nil e
  | true => exact e
theorem pw_and (ha : PT X a tA) (hb : PW X (.BoolOp .And (b :: rest) pos) tB') : PW X (.BoolOp .And (a :: b :: rest) pos) (tAnd tA tB') := by
  intro wh pins s σ H Q I h
  refine isTrue_and (thn (ha pins s σ H _ I h) fun c s1 ⟨H1, I1, q1⟩ => ?_)
  cases c with
  | true => exact hb wh pins s1 σ H1 Q I1 q1
  | false => exact ⟨H1, I1, q1⟩
theorem pw_or (ha : PT X a tA) (hb : PW X (.BoolOp .Or (b :: rest) pos) tB') : PW X (.BoolOp .Or (a :: b :: rest) pos) (tOr tA tB') := by
  intro wh pins s σ H Q I h
  refine isTrue_or (thn (ha pins s σ H _ I h) fun c s1 ⟨H1, I1, q1⟩ => ?_)
  cases c with
  | true => exact ⟨H1, I1, q1⟩
  | false => exact hb wh pins s1 σ H1 Q I1 q1
theorem pt_not (ha : PT X a tA) : PT X (.UnaryOp .Not a pos) (tNot tA) := by
  intro pins s σ H Q I h
  exact isTrue_not (ha pins s σ H (fun c H1 => Q (!c) H1) I h)
/-- .. as values (bools) -/
def tAndV (ta tb : TE) : TE := fun σ H Q => ta σ H fun x H1 => ∃ c, x = .bl c ∧ if c = true then tb σ H1 Q else Q (.bl false) H1
theorem pe_one {op} {t : TE} (h : PE X a t) : PE X (.BoolOp op [a] pos) t := fun pins s σ H Q I hw => BoolOp_one (h pins s σ H Q I hw)
theorem pe_and (ha : PE X a ta) (hb : PE X (.BoolOp .And (b :: rest) pos) tb) : PE X (.BoolOp .And (a :: b :: rest) pos) (tAndV ta tb) := by
  intro pins s σ H Q I h
  refine BoolOp_and (thn (ha pins s σ H _ I h) fun v s1 ⟨x, H1, I1, r1, q1⟩ => ?_)
  obtain ⟨c, rfl, q1⟩ := q1
  cases r1
  refine wpAny_truthy_bool ?_
  cases c with
  | true => exact hb pins s1 σ H1 Q I1 q1
  | false => exact ⟨.bl false, H1, I1, rfl, q1⟩
/-- a if t else b -/
def tIf (t : TT) (ta tb : TE) : TE := fun σ H Q => t σ H fun c H1 => if c = true then ta σ H1 Q else tb σ H1 Q
theorem pe_ifExp {c : Expr} (hc : PT X c tA) (ha : PE X a ta) (hb : PE X b tb) : PE X (.IfExp c a b pos) (tIf tA ta tb) := by
  intro pins s σ H Q I h
  refine wpAny_IfExp (thn (hc pins s σ H _ I h) fun d s1 ⟨H1, I1, q1⟩ => ?_)
  cases d with
  | true => exact ha pins s1 σ H1 Q I1 q1
  | false => exact hb pins s1 σ H1 Q I1 q1
end
end L2
namespace L2
open PySem PySem.Spec PyProof.Rows
def SqL (K : PySem.W.Frag) (H : Hp) (a : Addr) (xs : List V) : Prop :=
  Rd H a (.lst xs) ∨
    ∃ (o : Obj) (its : Array Value) (n : Nat), K.lookup a = some o ∧ o.cls = .type "list" ∧ o.dict = none ∧ o.data = .seq its n ∧ its.size ≤ sizeLine ∧ Vals xs its.toList
def SqT (K : PySem.W.Frag) (H : Hp) (a : Addr) (xs : List V) : Prop :=
  Rd H a (.tup xs) ∨
    ∃ (o : Obj) (its : Array Value) (n : Nat), K.lookup a = some o ∧ o.cls = .type "tuple" ∧ o.data = .seq its n ∧ its.size ≤ sizeLine ∧ Vals xs its.toList
def absV : Value → Option V
  | .none => some .non
  | .bool b => some (.bl b)
  | .int i _ => some (.int i)
  | .str x _ => some (.str x)
  | .bytes b _ => some (.byt b)
  | .float b _ => some (.flt b)
  | .ref a => some (.ref a)
  | .type n => some (.ty n)
  | _ => none
theorem RelV.abs {x : V} {u : Value} (r : RelV x u) : absV u = some x := by
  cases x with
  | non => cases r; rfl
  | bl _ => cases r; rfl
  | int _ => obtain ⟨t, rfl⟩ := r; rfl
  | str _ => obtain ⟨t, rfl⟩ := r; rfl
  | byt _ => obtain ⟨t, rfl⟩ := r; rfl
  | flt _ => obtain ⟨t, rfl⟩ := r; rfl
  | ref _ => cases r; rfl
  | ty _ => cases r; rfl
theorem RelV.inj {x y : V} {u : Value} (r : RelV x u) (q : RelV y u) : x = y := Option.some.inj (r.abs.symm.trans q.abs)
theorem Vals.inj : ∀ {xs ys : List V} {us : List Value}, Vals xs us → Vals ys us → xs = ys
  | _, _, _, .nil, .nil => rfl
  | _, _, _, .cons r t, .cons r' t' => by rw [r.inj r', Vals.inj t t']
section
variable {X : Cx} {pins : List (Addr × Obj)} {σ : St} {H : Hp} {s : Shared} {a : Addr} {xs ys : List V}
theorem SqL.of {K : PySem.W.Frag} (h : H a = some (.lst xs)) : SqL K H a xs := .inl (.inl h)
theorem SqT.of {K : PySem.W.Frag} (h : H a = some (.tup xs)) : SqT K H a xs := .inl (.inl h)
theorem Inv.list (I : Inv X pins σ H s) (h : SqL X.K H a xs) : ∃ its : List Value, Vals xs its ∧ PlainL s.heap a its.toArray ∧ xs.length ≤ sizeLine := by
  rcases h with h | ⟨o, its, n, hk, hc, hd, hs, hz, r⟩
  · obtain ⟨z, its, n, r, e⟩ := h.ok I.hok
    exact ⟨its, r, ⟨_, n, e, rfl, rfl, rfl⟩, z⟩
  · refine ⟨its.toList, r, ⟨o, n, I.kIn a o hk, hc, hd, by simpa using hs⟩, ?_⟩
    have e := r.length
    simp only [Array.length_toList] at e
    omega
theorem Inv.tuple (I : Inv X pins σ H s) (h : SqT X.K H a xs) : ∃ its : List Value, Vals xs its ∧ IsTup s.heap a its.toArray ∧ xs.length ≤ sizeLine := by
  rcases h with h | ⟨o, its, n, hk, hc, hs, hz, r⟩
  · obtain ⟨z, its, r, p⟩ := h.ok I.hok
    exact ⟨its, r, p, z⟩
  · refine ⟨its.toList, r, ⟨o, I.kIn a o hk, hc, n, by simpa using hs⟩, ?_⟩
    have e := r.length
    simp only [Array.length_toList] at e
    omega
theorem Inv.list_inj (I : Inv X pins σ H s) (h : SqL X.K H a xs) (h' : SqL X.K H a ys) : xs = ys := by
  obtain ⟨its, r, ⟨o, n, e, _, _, d⟩, _⟩ := I.list h
  obtain ⟨its', r', ⟨o', n', e', _, _, d'⟩, _⟩ := I.list h'
  rw [e] at e'; cases e'
  rw [d] at d'
  injection d' with d1 _
  have : its = its' := by simpa using congrArg Array.toList d1
  subst this
  exact r.inj r'
theorem Inv.tuple_inj (I : Inv X pins σ H s) (h : SqT X.K H a xs) (h' : SqT X.K H a ys) : xs = ys := by
  obtain ⟨its, r, ⟨o, e, _, n, d⟩, _⟩ := I.tuple h
  obtain ⟨its', r', ⟨o', e', _, n', d'⟩, _⟩ := I.tuple h'
  rw [e] at e'; cases e'
  rw [d] at d'
  injection d' with d1 _
  have : its = its' := by simpa using congrArg Array.toList d1
  subst this
  exact r.inj r'
end
abbrev Cx.wish (X : Cx) (E : Value → Shared → Prop) : Cx := { X with xe := E }
/-- no exception leaves -/
abbrev Cx.nox (X : Cx) : Cx := X.wish fun _ _ => False
theorem Cx.Ok.wish {X : Cx} (ok : X.Ok) (E : Value → Shared → Prop) : (X.wish E).Ok :=
  ⟨ok.mod, ok.kind, ok.glob, ok.blt, ok.above, ok.inj, ok.has, ok.cab, ok.hd, ok.frames, ok.stk, ok.exf, ok.bs, ok.bsz, ok.noex, ok.exfs, ok.funs, ok.frf⟩
theorem Cx.Ok.unwish {X : Cx} {E : Value → Shared → Prop} (ok : (X.wish E).Ok) : X.Ok :=
  ⟨ok.mod, ok.kind, ok.glob, ok.blt, ok.above, ok.inj, ok.has, ok.cab, ok.hd, ok.frames, ok.stk, ok.exf, ok.bs, ok.bsz, ok.noex, ok.exfs, ok.funs, ok.frf⟩
section
variable {X : Cx} {pins : List (Addr × Obj)} {σ : St} {H : Hp} {s : Shared} {E : Value → Shared → Prop}
theorem Inv.wish (I : Inv X pins σ H s) (E : Value → Shared → Prop) : Inv (X.wish E) pins σ H s := ⟨I.ok.wish E, I.os, I.bare, I.base, I.loc, I.cell, I.free, I.freeC, I.pin, I.hok, I.len⟩
theorem Inv.unwish (I : Inv (X.wish E) pins σ H s) : Inv X pins σ H s := ⟨I.ok.unwish, I.os, I.bare, I.base, I.loc, I.cell, I.free, I.freeC, I.pin, I.hok, I.len⟩
theorem SP.unwish {D : Ends} {f : Flow} {s' : Shared} (h : SP (X.wish E) pins D f s') : SP X pins D f s' := by
  cases f with
  | next => obtain ⟨σ', H', I, q⟩ := h; exact ⟨σ', H', I.unwish, q⟩
  | brk => obtain ⟨σ', H', I, q⟩ := h; exact ⟨σ', H', I.unwish, q⟩
  | cont => obtain ⟨σ', H', I, q⟩ := h; exact ⟨σ', H', I.unwish, q⟩
  | ret u => obtain ⟨v, σ', H', I, r, q⟩ := h; exact ⟨v, σ', H', I.unwish, r, q⟩
theorem PE.nox {e : Expr} {t : TE} (h : PE X.nox e t) : PE X e t := fun pins s σ H Q I hw =>
  wpAny_mono (h pins s σ H Q (I.wish _) hw) (fun _ _ ⟨v, H', I', r, q⟩ => ⟨v, H', I'.unwish, r, q⟩) fun _ _ z => False.elim z
theorem PT.nox {e : Expr} {t : TT} (h : PT X.nox e t) : PT X e t := fun pins s σ H Q I hw =>
  wpAny_mono (h pins s σ H Q (I.wish _) hw) (fun _ _ ⟨H', I', q⟩ => ⟨H', I'.unwish, q⟩) fun _ _ z => False.elim z
theorem PSs.nox {st : List Stmt} {t : TS} (h : PSs X.nox st t) : PSs X st t := fun pins s σ H D I hw =>
  wpAny_mono (h pins s σ H D (I.wish _) hw) (fun _ _ q => q.unwish) fun _ _ z => False.elim z
end
section
variable {X : Cx} {st : Stmt} {rest : List Stmt} {t u : TS} {e : Expr} {te : TE} {pos : Pos}
def tNext : TS := fun D σ H => D.nx σ H
def tSeq (t u : TS) : TS := fun D σ H => t { D with nx := u D } σ H
theorem pss_nil : PSs X [] tNext := fun _ _ σ H _ I h => wpAny_execs_nil ⟨σ, H, I, h⟩
theorem pss_cons (h1 : PS X st t) (h2 : PSs X rest u) : PSs X (st :: rest) (tSeq t u) := by
  intro pins s σ H D I h
  refine wpAny_execs_cons (thn (h1 pins s σ H { D with nx := u D } I h) fun f s1 q => ?_)
  cases f with
  | next =>
    obtain ⟨σ', H', I', q⟩ := q
    exact h2 pins s1 σ' H' D I' q
  | ret v => exact q
  | brk => exact q
  | cont => exact q
theorem pss_one (h1 : PS X st t) : PSs X [st] t := by
  intro pins s σ H D I h
  refine wpAny_execs_cons (thn (h1 pins s σ H D I h) fun f s1 q => ?_)
  cases f with
  | next => exact wpAny_execs_nil q
  | ret v => exact q
  | brk => exact q
  | cont => exact q
/-- in a def's body nothing is shown -/
theorem Inv.quiet {pins : List (Addr × Obj)} {σ : St} {H : Hp} {s : Shared} (I : Inv X pins σ H s) : interactive X.env = false := by simp [interactive, I.ok.kind]
/-- an expression whose value is dropped -/
def tDrop (te : TE) : TS := fun D σ H => te σ H fun _ H1 => D.nx σ H1
theorem ps_expr (he : PE X e te) (hs : swapsWith e none pos.line X.env = pure false := by rfl) : PS X (.Expr e pos) (tDrop te) := by
  intro pins s σ H D I h
  exact wpAny_Expr_any (thn (he pins s σ H _ I h) fun v s1 ⟨x, H1, I1, r1, q1⟩ => ⟨σ, H1, I1, q1⟩) I.quiet hs
def tRet (te : TE) : TS := fun D σ H => te σ H D.rt
theorem ps_ret (he : PE X e te) : PS X (.Return (some e) pos) (tRet te) := by
  intro pins s σ H D I h
  exact wpAny_Return_some (thn (he pins s σ H _ I h) fun v s1 ⟨x, H1, I1, r1, q1⟩ => ⟨x, σ, H1, I1, r1, q1⟩)
def tIfS (c : TT) (t u : TS) : TS := fun D σ H => c σ H fun b H1 => if b = true then t D σ H1 else u D σ H1
theorem ps_if {c : Expr} {a b : List Stmt} {tc : TT} (hc : PT X c tc) (ha : PSs X a t) (hb : PSs X b u) : PS X (.If c a b pos) (tIfS tc t u) := by
  intro pins s σ H D I h
  refine wpAny_If (thn (hc pins s σ H _ I h) fun d s1 ⟨H1, I1, q1⟩ => ?_)
  cases d with
  | true => exact ha pins s1 σ H1 D I1 q1
  | false => exact hb pins s1 σ H1 D I1 q1
end
abbrev TG := V → St → Hp → (St → Hp → Prop) → Prop
abbrev TGs := List V → St → Hp → (St → Hp → Prop) → Prop
def PG (X : Cx) (target : Expr) (t : TG) : Prop :=
  ∀ (pins : List (Addr × Obj)) (s : Shared) (σ : St) (H : Hp) (v : V) (u : Value) (Q : St → Hp → Prop), Inv X pins σ H s → RelV v u → t v σ H Q →
    wpAny (model X.prog X.w) X.A (assign target X.env u) (fun _ s' => ∃ σ' H', Inv X pins σ' H' s' ∧ Q σ' H') X.xe s
/-- several targets, one after another -/
def PGs (X : Cx) (ts : List Expr) (t : TGs) : Prop :=
  ∀ (pins : List (Addr × Obj)) (s : Shared) (σ : St) (H : Hp) (vs : List V) (us : List Value) (Q : St → Hp → Prop), Inv X pins σ H s → Vals vs us → t vs σ H Q →
    wpAny (model X.prog X.w) X.A (assignInOrder ((assignEach ts X.env).map (·.2)) us) (fun _ s' => ∃ σ' H', Inv X pins σ' H' s' ∧ Q σ' H') X.xe s
/-- a op= b, by values -/
abbrev TIp := V → V → Hp → VK → Prop
def PIp (X : Cx) (op : Operator) (t : TIp) : Prop :=
  ∀ (pins : List (Addr × Obj)) (s : Shared) (σ : St) (H : Hp) (x y : V) (v u : Value) (Q : VK), Inv X pins σ H s → RelV x v → RelV y u → t x y H Q →
    wpAny (model X.prog X.w) X.A (inplaceOp op v u) (EP X pins σ Q) X.xe s
section
variable {X : Cx} {pos : Pos}
def gName (i : Nat) : TG := fun v σ H Q => Q (σ.set i (some v)) H
theorem pg_name {i : Nat} {x : Str} (hN : X.N.Nodup) (hi : X.N[i]? = some x) (hx : Loc X.env.scope x) (hf : X.fn x = true ∨ X.env.scope.names.lookup x = some .local := by first | exact .inl rfl | exact .inr rfl | assumption) : PG X (.Name x pos) (gName i) := by
  intro pins s σ H v u Q I r h
  exact wpAny_assign_Name (store_ok I hN hi hx r (fun s' I' => ⟨_, H, I', h⟩) hf)
def gNil : TGs := fun vs σ H Q => vs = [] ∧ Q σ H
def gCons (t : TG) (u : TGs) : TGs := fun vs σ H Q => ∃ v r, vs = v :: r ∧ t v σ H fun σ' H' => u r σ' H' Q
theorem pgs_nil : PGs X [] gNil := by
  intro pins s σ H vs us Q I r h
  obtain ⟨e, h⟩ := h
  subst e
  cases r
  exact assignInOrder_nil ⟨σ, H, I, h⟩
theorem pgs_cons {e : Expr} {es : List Expr} {t : TG} {u : TGs} (h1 : PG X e t) (h2 : PGs X es u)
    (hs : (assignEach (e :: es) X.env).map (·.2) = assign e X.env :: (assignEach es X.env).map (·.2) := by rfl) : PGs X (e :: es) (gCons t u) := by
  intro pins s σ H vs us Q I r h
  obtain ⟨v, vr, e1, h⟩ := h
  subst e1
  cases r with
  | cons r rr =>
    rw [hs]
    refine assignInOrder_cons (thn (h1 pins s σ H _ _ _ I r h) fun _ s1 ⟨σ1, H1, I1, q1⟩ => ?_)
    exact h2 pins s1 σ1 H1 _ _ Q I1 rr q1
/-- (a, b, ..) = a tuple of that length -/
def gTup (K : PySem.W.Frag) (n : Nat) (t : TGs) : TG := fun v σ H Q => ∃ a xs, v = .ref a ∧ SqT K H a xs ∧ xs.length = n ∧ t xs σ H Q
theorem pg_tup {es : List Expr} {k : Nat} {t : TGs} {n : Nat} (hc : X.calm = true) (h : PGs X es t)
    (hn : (assignEach es X.env).length = n := by rfl) (hst : (assignEach es X.env).findIdx? (·.1) = none := by rfl) : PG X (.Tuple es k pos) (gTup X.K n t) := by
  intro pins s σ H v u Q I r hw
  obtain ⟨a, xs, e1, hq, hl, hw⟩ := hw
  subst e1
  cases r
  obtain ⟨its, rv, ht, hz⟩ := I.tuple hq
  refine assign_Tuple_tuple (I.ok.hd hc) ht (by simp [hn, ← hl, rv.length]) hst fun h' hx => ?_
  have I1 : Inv X pins σ H { s with heap := h' } := I.kept (t' := s.toks) fun b o e => hx b o (Nat.ne_of_lt (Heap.lt_size e)) e
  exact h pins _ σ H xs _ Q I1 (by simpa using rv) hw
/-- target = value -/
def tAsg (te : TE) (g : TG) : TS := fun D σ H => te σ H fun x H1 => g x σ H1 D.nx
/-- name = value -/
theorem ps_set {i : Nat} {x : Str} {e : Expr} {te : TE} {pos' : Pos} (hN : X.N.Nodup) (hi : X.N[i]? = some x) (hx : Loc X.env.scope x) (he : PE X e te) (hs : swapsWith e (some (.Name x pos')) pos.line X.env = pure false := by rfl) (hf : X.fn x = true ∨ X.env.scope.names.lookup x = some .local := by first | exact .inl rfl | exact .inr rfl | assumption) :
    PS X (.Assign [.Name x pos'] e pos) (tAsg te (gName i)) := by
  intro pins s σ H D I h
  refine wpAny_Assign_Name (thn (he pins s σ H _ I h) fun v s1 ⟨y, H1, I1, r1, q1⟩ => ?_) hs
  exact store_ok I1 hN hi hx r1 (fun s2 I2 => ⟨_, H1, I2, q1⟩) hf
/-- name op= e -/
def tAug (i : Nat) (te : TE) (ti : TIp) : TS := fun D σ H => ∃ x, σ[i]? = some (some x) ∧ te σ H fun y H1 => ti x y H1 fun z H2 => D.nx (σ.set i (some z)) H2
theorem ps_aug {i : Nat} {x : Str} {e : Expr} {te : TE} {op : Operator} {ti : TIp} {pos' : Pos} (hN : X.N.Nodup) (hi : X.N[i]? = some x) (hx : Loc X.env.scope x) (he : PE X e te) (ho : PIp X op ti) (hf : X.fn x = true ∨ X.env.scope.names.lookup x = some .local := by first | exact .inl rfl | exact .inr rfl | assumption) :
    PS X (.AugAssign (.Name x pos') op e pos) (tAug i te ti) := by
  intro pins s σ H D I h
  obtain ⟨v, e1, h⟩ := h
  obtain ⟨m, hn, hl⟩ := I.loc
  have vis : Vis X.env.scope x := by rcases hx with k | k; exact .inl k; exact .inr (.inl k)
  obtain ⟨u, r, l⟩ := hl i x v hi e1 vis
  refine wpAny_AugAssign_Name ?_
  have go : wpAny (model X.prog X.w) X.A (eval e X.env) (fun w s₂ => wpAny (model X.prog X.w) X.A (inplaceOp op u w) (fun r s₃ => wpAny (model X.prog X.w) X.A (storeName X.env x r) (fun _ => SP X pins D .next) X.xe s₃) X.xe s₂) X.xe s := by
    refine thn (he pins s σ H _ I h) fun w s1 ⟨y, H1, I1, r1, q1⟩ => ?_
    refine thn (ho pins s1 σ H1 v y u w _ I1 r r1 q1) fun z s2 ⟨zv, H2, I2, r2, q2⟩ => ?_
    exact store_ok I2 hN hi hx r2 (fun s3 I3 => ⟨_, H2, I3, q2⟩) hf
  rcases l with ⟨hk, hm⟩ | ⟨hk, c, hc, hcell⟩
  · exact wpAny_loadName_local I.ok.kind hk hn hm go
  · rcases hk with hk | hk
    · exact wpAny_loadName_cell I.ok.kind hk hc hcell go
    · rcases hx with k | k
      · have : X.env.scope.names.lookup x = some .free := hk
        rw [k] at this; cases this
      · have : X.env.scope.names.lookup x = some .free := hk
        rw [k] at this; cases this
end
section
variable {X : Cx} {pos : Pos}
/-- the invariant W with its measure -/
def tWhile (c : TT) (tb : TS) : TS := fun D σ H => ∃ W : Nat → St → Hp → Prop, (∃ m, W m σ H) ∧ ∀ m σ H, W m σ H →
  c σ H fun b H1 => if b = true then ∃ N : St → Hp → Prop, (∀ σ' H', N σ' H' → ∃ m', m' < m ∧ W m' σ' H') ∧ tb { D with nx := N, ct := N, bk := D.nx } σ H1 else D.nx σ H1
theorem ps_while {c : Expr} {body : List Stmt} {tc : TT} {tb : TS} (hp : PassesOwn (model X.prog X.w) X.A X.env X.xe) (hc : PT X c tc) (hb : PSs X body tb) : PS X (.While c body [] pos) (tWhile tc tb) := by
  intro pins s σ H D I h
  obtain ⟨W, ⟨m0, w0⟩, turn⟩ := h
  refine wpAny_While (codeAny_whileLoop (fun n s' => ∃ σ' H', Inv X pins σ' H' s' ∧ W n σ' H') ?_ m0 ⟨σ, H, I, w0⟩)
  rintro n s1 ⟨σ1, H1, I1, w1⟩
  refine wpAny_passesOwn hp (thn (hc pins s1 σ1 H1 _ I1 (turn n σ1 H1 w1)) fun b s2 ⟨H2, I2, q2⟩ => ?_)
  cases b with
  | true =>
    obtain ⟨N, hN, q2⟩ := q2
    rw [if_pos rfl]
    refine wpAny_passesOwn hp (thn (hb pins s2 σ1 H2 _ I2 q2) fun f s3 q3 => ?_)
    cases f with
    | next =>
      obtain ⟨σ3, H3, I3, n3⟩ := q3
      obtain ⟨m', hm, w3⟩ := hN σ3 H3 n3
      exact ⟨m', hm, σ3, H3, I3, w3⟩
    | cont =>
      obtain ⟨σ3, H3, I3, n3⟩ := q3
      obtain ⟨m', hm, w3⟩ := hN σ3 H3 n3
      exact ⟨m', hm, σ3, H3, I3, w3⟩
    | brk => exact q3
    | ret v => exact q3
  | false =>
    rw [if_neg Bool.false_ne_true]
    exact wpAny_execs_nil ⟨σ1, H2, I2, q2⟩
end
/-- at turn i: it yields x (the heap may grow), or it stops -/
structure It where
  go : Nat → Hp → Prop
  yld : Nat → Hp → V → Hp → Prop
  stop : Nat → Hp → Prop
/-- the iterator's own objects may turn: they are not the frame's, not pinned, younger than the entry (or a comprehension's own) -/
def FpOk (X : Cx) (pins : List (Addr × Obj)) (H : Hp) (b : Addr) : Prop :=
  H b = none ∧ b ≠ X.env.locals ∧ b ∉ X.fs ∧ (b ∈ X.ex ∨ X.s_0.heap.objs.size ≤ b) ∧ (∀ x c, X.env.cells.lookup x = some c → c ≠ b) ∧ ∀ p ∈ X.pn ++ pins, p.1 ≠ b
theorem Inv.fpOk {X : Cx} {pins : List (Addr × Obj)} {σ : St} {H H' : Hp} {s : Shared} {b : Addr} (I : Inv X pins σ H s) (hb : s.heap.objs.size ≤ b) (hn : H' b = none) : FpOk X pins H' b := by
  refine ⟨hn, Nat.ne_of_gt (Nat.lt_of_lt_of_le I.lt hb), I.nofs hb, .inr (Nat.le_trans I.sz hb), fun x c e z => ?_, fun p hp z => ?_⟩
  · obtain ⟨v, q⟩ := I.cell x c e
    exact absurd (Nat.lt_of_lt_of_le q.lt (by rw [z]; exact hb)) (Nat.lt_irrefl _)
  · exact absurd (Nat.lt_of_lt_of_le (Heap.lt_size (I.pin p hp).1) (by rw [z]; exact hb)) (Nat.lt_irrefl _)
structure Turn (P : Program) (w : World) (K : PySem.W.Frag) (tg : Expr) (J : It) (fp : List Addr) (it : Addr) (tn : Nat → Heap → Prop) : Prop where
  mem : it ∈ fp
  obj : ∀ i h, tn i h → ∀ b ∈ fp, ∃ o, h.get? b = some o ∧ ∀ v, o.data ≠ .cell v
  keep : ∀ i h h', tn i h → (∀ b ∈ fp, ∀ o, h.get? b = some o → h'.get? b = some o) → tn i h'
  item : ∀ (X : Cx), X.prog = P → X.w = w → X.K = K → X.calm = true → ∀ (i : Nat) (pins : List (Addr × Obj)) (s : Shared) (σ : St) (H : Hp) (E : Value → Shared → Prop), Inv X pins σ H s → (∀ b ∈ fp, FpOk X pins H b) → tn i s.heap → J.go i H →
    wpAny (model P w) X.A (pyNext (.ref it)) (fun r s1 => ∃ u, r = some u ∧
      wpAny (model P w) X.A (letOwnedTupleGo tg (.ref it) u) (fun _ s2 => ∃ x H', Inv X pins σ H' s2 ∧ RelV x u ∧ J.yld i H x H' ∧ tn (i + 1) s2.heap ∧ ∀ b ∈ fp, H' b = none) E s1) E s
  done : ∀ (X : Cx), X.prog = P → X.w = w → X.K = K → X.calm = true → ∀ (i : Nat) (pins : List (Addr × Obj)) (s : Shared) (σ : St) (H : Hp) (E : Value → Shared → Prop), Inv X pins σ H s → (∀ b ∈ fp, FpOk X pins H b) → tn i s.heap → J.stop i H →
    wpAny (model P w) X.A (pyNext (.ref it)) (fun r s1 => r = none ∧ Inv X pins σ H s1) E s
  self : ∀ (A : Around) (i : Nat) (s : Shared) (Q : Value → Shared → Prop) (E : Value → Shared → Prop), tn i s.heap → Q (.ref it) s → wpAny (model P w) A (pyIter (.ref it)) Q E s
abbrev TI := St → Hp → (It → Hp → Prop) → Prop
/-- an iterator has come -/
def PIE (X : Cx) (pins : List (Addr × Obj)) (σ : St) (tg : Expr) (R : It → Hp → Prop) (itv : Value) (s2 : Shared) : Prop :=
  ∃ (it : Addr) (fp : List Addr) (tn : Nat → Heap → Prop) (J : It) (H' : Hp), itv = .ref it ∧ Inv X pins σ H' s2 ∧ Turn X.prog X.w X.K tg J fp it tn ∧ tn 0 s2.heap ∧ (∀ b ∈ fp, FpOk X pins H' b) ∧ R J H'
def PI (X : Cx) (tg iter : Expr) (wi : TI) : Prop :=
  ∀ (pins : List (Addr × Obj)) (s : Shared) (σ : St) (H : Hp) (R : It → Hp → Prop), Inv X pins σ H s → wi σ H R →
    wpAny (model X.prog X.w) X.A (eval iter X.env) (fun v s1 => wpAny (model X.prog X.w) X.A (pyIter v) (PIE X pins σ tg R) X.xe s1) X.xe s
/-- the step ahead of the store is nothing for an iterator that keeps no tuple -/
theorem go_of {M : Model} {A : Around} {E : Value → Shared → Prop} {s : Shared} {tg : Expr} {it : Addr} {u : Value} {o : Obj} {n : String} {vs : Array Value} {Q : Unit → Shared → Prop} (ho : s.heap.get? it = some o) (hc : o.cls = .type n) (hd : o.data = .fields vs)
    (hn : ["enumerate", "zip", "dict_itemiterator", "dict_reverseitemiterator", "odict_iterator", "itertools.zip_longest", "itertools.pairwise"].contains n = false) (hQ : Q () s) : wpAny M A (letOwnedTupleGo tg (.ref it) u) Q E s := by
  unfold letOwnedTupleGo
  cases tg <;> first
    | exact wpAny_pure hQ
    | (cases u <;> first
        | exact wpAny_pure hQ
        | (refine wpAny_bind (wpAny_load ho ?_)
           rw [hc, hd]
           show wpAny M A (if (["enumerate", "zip", "dict_itemiterator", "dict_reverseitemiterator", "odict_iterator", "itertools.zip_longest", "itertools.pairwise"].contains n && vs[0]? == some (rawInt _)) = true then _ else _) Q E s
           rw [if_neg (by intro h; rw [hn, Bool.false_and] at h; cases h)]
           exact wpAny_pure hQ))
/-- the list at a, as it stands at each turn (a loop may append to it) -/
def Itl (K : PySem.W.Frag) (a : Addr) : It :=
  ⟨fun i H => ∃ xs x, SqL K H a xs ∧ xs[i]? = some x, fun i H x H' => H' = H ∧ ∀ xs, SqL K H a xs → xs[i]? = some x, fun i H => ∃ xs, SqL K H a xs ∧ xs.length ≤ i⟩
def Itt (K : PySem.W.Frag) (a : Addr) : It :=
  ⟨fun i H => ∃ xs x, SqT K H a xs ∧ xs[i]? = some x, fun i H x H' => H' = H ∧ ∀ xs, SqT K H a xs → xs[i]? = some x, fun i H => ∃ xs, SqT K H a xs ∧ xs.length ≤ i⟩
/-- lo, lo + 1, .. (n of them) -/
def Itr (lo : Int) (n : Nat) : It := ⟨fun i _ => i < n, fun i H x H' => H' = H ∧ x = .int (lo + i), fun i _ => n ≤ i⟩
theorem turn_list {P : Program} {w : World} {K : PySem.W.Frag} {tg : Expr} (a it : Addr) : Turn P w K tg (Itl K a) [it] it (fun i h => h.IsListIter it a i) where
  mem := by simp
  obj := fun i h st b hb => by
    have e : b = it := by simpa using hb
    subst e
    obtain ⟨o, e, c, d⟩ := st
    exact ⟨o, e, fun v z => by rw [d] at z; cases z⟩
  keep := fun i h h' st k => st.at fun o e => k it (by simp) o e
  item := by
    intro X hP hw hK hc i pins s σ H E I hf st hg
    subst hP hw hK
    obtain ⟨xs, x, hq, hx⟩ := hg
    obtain ⟨its, rv, p, hz⟩ := I.list hq
    obtain ⟨u, hu, ru⟩ := rv.get hx
    obtain ⟨f0, f1, f2, f3, f4, f5⟩ := hf it (by simp)
    refine wpAny_pyNext_list_item st p.isList (x := u) (by simpa using hu) fun h' st' sb => ?_
    have I1 : Inv X pins σ H { s with heap := h' } := I.turned (t' := s.toks) (fun b o hb e => (sb.2 b hb).trans e) f0 f1 f3 f4 f5
    obtain ⟨o, e, c, d⟩ := id st'
    exact ⟨u, rfl, go_of (s := { s with heap := h' }) e c d (by decide) ⟨x, H, I1, ru, ⟨rfl, fun ys hy => by rw [I.list_inj hy hq]; exact hx⟩, st', fun b hb => (hf b hb).1⟩⟩
  done := by
    intro X hP hw hK hc i pins s σ H E I hf st hg
    subst hP hw hK
    obtain ⟨xs, hq, hx⟩ := hg
    obtain ⟨its, rv, p, hz⟩ := I.list hq
    obtain ⟨f0, f1, f2, f3, f4, f5⟩ := hf it (by simp)
    have hl := rv.length
    exact wpAny_pyNext_list_end (I.ok.hd hc) st p.isList (by simp; omega) fun h' eb => ⟨rfl, I.turned (t' := s.toks) (fun b o hb e => eb b o hb e) f0 f1 f3 f4 f5⟩
  self := fun _ _ _ _ _ st h => wpAny_pyIter_listiter st h
theorem turn_tuple {P : Program} {w : World} {K : PySem.W.Frag} {tg : Expr} (a it : Addr) : Turn P w K tg (Itt K a) [it] it (fun i h => h.IsTupleIter it a i) where
  mem := by simp
  obj := fun i h st b hb => by
    have e : b = it := by simpa using hb
    subst e
    obtain ⟨o, e, c, d⟩ := st
    exact ⟨o, e, fun v z => by rw [d] at z; cases z⟩
  keep := fun i h h' st k => st.at fun o e => k it (by simp) o e
  item := by
    intro X hP hw hK hc i pins s σ H E I hf st hg
    subst hP hw hK
    obtain ⟨xs, x, hq, hx⟩ := hg
    obtain ⟨its, rv, p, hz⟩ := I.tuple hq
    obtain ⟨u, hu, ru⟩ := rv.get hx
    obtain ⟨f0, f1, f2, f3, f4, f5⟩ := hf it (by simp)
    refine wpAny_pyNext_tuple_item st (show s.heap.IsTuple a its.toArray from p) (x := u) (by simpa using hu) fun h' st' sb => ?_
    have I1 : Inv X pins σ H { s with heap := h' } := I.turned (t' := s.toks) (fun b o hb e => (sb.2 b hb).trans e) f0 f1 f3 f4 f5
    obtain ⟨o, e, c, d⟩ := id st'
    exact ⟨u, rfl, go_of (s := { s with heap := h' }) e c d (by decide) ⟨x, H, I1, ru, ⟨rfl, fun ys hy => by rw [I.tuple_inj hy hq]; exact hx⟩, st', fun b hb => (hf b hb).1⟩⟩
  done := by
    intro X hP hw hK hc i pins s σ H E I hf st hg
    subst hP hw hK
    obtain ⟨xs, hq, hx⟩ := hg
    obtain ⟨its, rv, p, hz⟩ := I.tuple hq
    obtain ⟨f0, f1, f2, f3, f4, f5⟩ := hf it (by simp)
    have hl := rv.length
    exact wpAny_pyNext_tuple_end (I.ok.hd hc) st (show s.heap.IsTuple a its.toArray from p) (by simp; omega) fun h' eb => ⟨rfl, I.turned (t' := s.toks) (fun b o hb e => eb b o hb e) f0 f1 f3 f4 f5⟩
  self := fun _ _ _ _ _ st h => wpAny_pyIter_tupleiter st h
theorem turn_range {P : Program} {w : World} {K : PySem.W.Frag} {tg : Expr} (it : Addr) (lo : Int) (n : Nat) : Turn P w K tg (Itr lo n) [it] it (fun i h => IsRangeIter h it (lo + (i : Nat) * 1) ((n : Int) - (i : Nat)) 1) where
  mem := by simp
  obj := fun i h st b hb => by
    have e : b = it := by simpa using hb
    subst e
    exact ⟨_, st, fun v z => by
      have z' : Data.fields _ = Data.cell v := z
      cases z'⟩
  keep := fun i h h' st k => k it (by simp) _ st
  item := by
    intro X hP hw hK hc i pins s σ H E I hf st hg
    subst hP hw hK
    obtain ⟨f0, f1, f2, f3, f4, f5⟩ := hf it (by simp)
    have W := Walks.range (prog := X.prog) (w := X.w) (I.ok.hd hc) it lo 1 n
    refine W.item i s _ _ hg st fun v h' tk hv st' kk => ?_
    obtain ⟨t, rfl⟩ := hv
    have I1 : Inv X pins σ H { s with heap := h', toks := tk } := I.turned (fun b o hb e => kk b o (by simpa using hb) e) f0 f1 f3 f4 f5
    refine ⟨_, rfl, go_of (s := { s with heap := h', toks := tk }) (n := "range_iterator") st' rfl rfl (by decide) ⟨.int (lo + i), H, I1, ⟨t, ?_⟩, ⟨rfl, rfl⟩, st', fun b hb => (hf b hb).1⟩⟩
    rw [Int.mul_one]
  done := by
    intro X hP hw hK hc i pins s σ H E I hf st hg
    subst hP hw hK
    obtain ⟨f0, f1, f2, f3, f4, f5⟩ := hf it (by simp)
    exact wpAny_pyNext_range_end (I.ok.hd hc) st (by have : n ≤ i := hg; omega) fun h' eb => ⟨rfl, I.turned (t' := s.toks) (fun b o hb e => eb b o hb e) f0 f1 f3 f4 f5⟩
  self := fun _ _ _ _ _ st h => wpAny_pyIter_rangeiter st h
end L2
namespace L2
open PySem PySem.Spec PyProof.Rows
section
variable {X : Cx} {tg : Expr}
def iList (K : PySem.W.Frag) (tl : TE) : TI := fun σ H R => tl σ H fun x H1 => ∃ a, x = .ref a ∧ (∃ xs, SqL K H1 a xs) ∧ R (Itl K a) H1
def iTup (K : PySem.W.Frag) (tl : TE) : TI := fun σ H R => tl σ H fun x H1 => ∃ a, x = .ref a ∧ (∃ xs, SqT K H1 a xs) ∧ R (Itt K a) H1
theorem pi_list {l : Expr} {tl : TE} (hl : PE X l tl) : PI X tg l (iList X.K tl) := by
  intro pins s σ H R I h
  refine thn (hl pins s σ H _ I h) fun v s1 ⟨x, H1, I1, r1, q1⟩ => ?_
  obtain ⟨a, e, ⟨xs, hq⟩, q⟩ := q1
  subst e
  cases r1
  obtain ⟨its, rv, p, hz⟩ := I1.list hq
  refine wpAny_pyIter_list p.isList ?_
  refine ⟨s1.heap.objs.size, [s1.heap.objs.size], _, _, H1, rfl, I1.kept (t' := s1.toks) fun b o e => Heap.get?_push_of_some _ e, turn_list a _, ⟨_, Heap.get?_push_size _ rfl, rfl, rfl⟩, fun b hb => ?_, q⟩
  have e : b = s1.heap.objs.size := by simpa using hb
  subst e
  exact I1.fpOk (Nat.le_refl _) (I1.hok.fresh (Nat.le_refl _))
theorem pi_tup {l : Expr} {tl : TE} (hl : PE X l tl) : PI X tg l (iTup X.K tl) := by
  intro pins s σ H R I h
  refine thn (hl pins s σ H _ I h) fun v s1 ⟨x, H1, I1, r1, q1⟩ => ?_
  obtain ⟨a, e, ⟨xs, hq⟩, q⟩ := q1
  subst e
  cases r1
  obtain ⟨its, rv, p, hz⟩ := I1.tuple hq
  refine wpAny_pyIter_tuple (show s1.heap.IsTuple a its.toArray from p) ?_
  refine ⟨s1.heap.objs.size, [s1.heap.objs.size], _, _, H1, rfl, I1.kept (t' := s1.toks) fun b o e => Heap.get?_push_of_some _ e, turn_tuple a _, ⟨_, Heap.get?_push_size _ rfl, rfl, rfl⟩, fun b hb => ?_, q⟩
  have e : b = s1.heap.objs.size := by simpa using hb
  subst e
  exact I1.fpOk (Nat.le_refl _) (I1.hok.fresh (Nat.le_refl _))
/-- a range object just made, walked -/
theorem range_it {pins : List (Addr × Obj)} {σ : St} {H : Hp} {s : Shared} {R : It → Hp → Prop} {E : Value → Shared → Prop} {lo hi : Int} {t u v : Tok} {tk : Nat} (I : Inv X pins σ H s) (h1 : -(2 ^ 62) ≤ lo) (h2 : lo < 2 ^ 62) (h3 : -(2 ^ 62) ≤ hi) (h4 : hi < 2 ^ 62)
    (q : R (Itr lo (hi - lo).toNat) H) : wpAny (model X.prog X.w) X.A (pyIter (.ref s.heap.objs.size)) (PIE X pins σ tg R) E { s with heap := s.heap.push { cls := .type "range", data := .fields #[.int lo t, .int hi u, .int 1 v] }, toks := tk } := by
  refine wpAny_pyIter_range (IsRange.new ..) (small_one h1 h2 h3 h4) ?_
  have I1 : Inv X pins σ H { s with heap := s.heap.push { cls := .type "range", data := .fields #[.int lo t, .int hi u, .int 1 v] }, toks := tk } := I.kept fun b o e => Heap.get?_push_of_some _ e
  refine ⟨(s.heap.push { cls := .type "range", data := .fields #[.int lo t, .int hi u, .int 1 v] }).objs.size, [(s.heap.push { cls := .type "range", data := .fields #[.int lo t, .int hi u, .int 1 v] }).objs.size], _, _, H, rfl,
    I1.kept (t' := tk) fun b o e => Heap.get?_push_of_some _ e, turn_range _ lo (hi - lo).toNat, ?_, fun b hb => ?_, q⟩
  · have e1 : lo + ((0 : Nat) : Int) * 1 = lo := by simp
    have e2 : (((hi - lo).toNat : Nat) : Int) - ((0 : Nat) : Int) = Builtin.Range.rangeSize lo hi 1 := by rw [rangeSize_one]; split <;> omega
    show IsRangeIter _ _ (lo + ((0 : Nat) : Int) * 1) ((((hi - lo).toNat : Nat) : Int) - ((0 : Nat) : Int)) 1
    rw [e1, e2]
    exact Heap.get?_push_size _ rfl
  · have e : b = (s.heap.push { cls := .type "range", data := .fields #[.int lo t, .int hi u, .int 1 v] }).objs.size := by simpa using hb
    subst e
    exact I1.fpOk (Nat.le_refl _) (I1.hok.fresh (Nat.le_refl _))
def iRng2 (ta : TA) : TI := fun σ H R => ta σ H fun vs H1 => ∃ i j : Int, vs = [.int i, .int j] ∧ (-(2 ^ 62) ≤ i ∧ i < 2 ^ 62 ∧ -(2 ^ 62) ≤ j ∧ j < 2 ^ 62) ∧ R (Itr i (j - i).toNat) H1
theorem pi_range2 {a b : Expr} {ta : TA} {p pos : Pos} (hg : Gl X "range") (hm : X.mg "range" = none) (ha : PA X [a, b] ta) (hs : starEach [a, b] X.env = [(false, eval a X.env), (false, eval b X.env)] := by rfl) (hs2 : starEach [b] X.env = [(false, eval b X.env)] := by rfl) :
    PI X tg (.Call (.Name "range" p) [a, b] [] pos) (iRng2 ta) := by
  intro pins s σ H R I h
  refine Call_ (ld_blt I hg hm boot_range (PyProof.Rows.callWith_type1 (thn (ha pos pins s σ H _ I h) fun us s1 ⟨vs, H1, I1, r1, q1⟩ => ?_) (by rw [hs, hs2]) (by rw [hs2]; rfl)))
  obtain ⟨i, j, e, ⟨q1, q2, q3, q4⟩, q⟩ := q1
  subst e
  cases r1 with
  | cons r rr =>
    cases rr with
    | cons r' rr =>
      cases rr
      obtain ⟨t, rfl⟩ := r
      obtain ⟨t', rfl⟩ := r'
      exact call_range_2 (range_it I1 q1 q2 q3 q4 q)
/-- W: the invariant by the turn and a measure; N: what the body is to reach -/
def tFor (wi : TI) (g : TG) (tb : TS) : TS := fun D σ H => wi σ H fun J H1 => ∃ W : Nat → Nat → St → Hp → Prop, (∃ m, W 0 m σ H1) ∧ ∀ i m σ H, W i m σ H →
  (J.stop i H ∧ D.nx σ H) ∨ (J.go i H ∧ ∃ N : St → Hp → Prop, (∀ σ' H', N σ' H' → ∃ m', m' < m ∧ W (i + 1) m' σ' H') ∧ ∀ x H', J.yld i H x H' → g x σ H' fun σ2 H2 => tb { D with nx := N, ct := N, bk := D.nx } σ2 H2)
/-- the records at fp as they stand -/
def pinsAt (fp : List Addr) (h : Heap) : List (Addr × Obj) := fp.filterMap fun b => (h.get? b).map fun o => (b, o)
theorem mem_pinsAt {fp : List Addr} {h : Heap} {b : Addr} {o : Obj} (hb : b ∈ fp) (e : h.get? b = some o) : (b, o) ∈ pinsAt fp h := List.mem_filterMap.mpr ⟨b, hb, by rw [e]; rfl⟩
theorem of_pinsAt {fp : List Addr} {h : Heap} {p : Addr × Obj} (hp : p ∈ pinsAt fp h) : p.1 ∈ fp ∧ h.get? p.1 = some p.2 := by
  obtain ⟨b, hb, e⟩ := List.mem_filterMap.mp hp
  cases q : h.get? b with
  | none => rw [q] at e; cases e
  | some o =>
    rw [q] at e
    have e' : (b, o) = p := Option.some.inj e
    subst e'
    exact ⟨hb, q⟩
theorem Inv.pinned {pins : List (Addr × Obj)} {σ : St} {H : Hp} {s : Shared} {fp : List Addr} (I : Inv X pins σ H s) (hf : ∀ b ∈ fp, FpOk X pins H b) (ho : ∀ b ∈ fp, ∃ o, s.heap.get? b = some o ∧ ∀ v, o.data ≠ .cell v) : Inv X (pins ++ pinsAt fp s.heap) σ H s :=
  I.pins_of fun p hp => (List.mem_append.mp hp).elim (fun z => I.pin p (List.mem_append_right _ z)) fun z => by
    obtain ⟨hb, e⟩ := of_pinsAt z
    obtain ⟨f0, f1, f2, _⟩ := hf p.1 hb
    obtain ⟨o, e', d⟩ := ho p.1 hb
    rw [e] at e'; cases e'
    exact ⟨e, f0, f1, f2, d⟩
theorem Inv.unpinned {pins pl : List (Addr × Obj)} {σ : St} {H : Hp} {s : Shared} (I : Inv X (pins ++ pl) σ H s) : Inv X pins σ H s := I.pins_of fun p hp => I.pin p (List.mem_append_right _ (List.mem_append_left _ hp))
theorem ps_for {iter : Expr} {body : List Stmt} {wi : TI} {g : TG} {tb : TS} {pos : Pos} (hp : PassesOwn (model X.prog X.w) X.A X.env X.xe) (hc : X.calm = true) (hi : PI X tg iter wi) (hg : PG X tg g) (hb : PSs X body tb)
    (hs : ∀ x, foldedSetIterable iter X.env x = pure x := by intro _; rfl) : PS X (.For tg iter body [] pos) (tFor wi g tb) := by
  intro pins s σ H D I h
  refine wpAny_For (thn (hi pins s σ H _ I h) fun v s1 h1 => thn h1 fun itv s2 h2 => ?_) hs
  obtain ⟨it, fp, tn, J, H2, e, I2, T, st2, f2, W, ⟨m0, w0⟩, turn⟩ := h2
  subst e
  -- what stays true of the iterator's objects through the loop
  have stat : ∀ {H' : Hp}, (∀ b ∈ fp, H' b = none) → ∀ b ∈ fp, FpOk X pins H' b := fun hn b hb => ⟨hn b hb, (f2 b hb).2⟩
  refine codeAny_forLoop_any (fun n s' => ∃ i σ' H', Inv X pins σ' H' s' ∧ tn i s'.heap ∧ (∀ b ∈ fp, H' b = none) ∧ W i n σ' H') ?_ m0 ⟨0, σ, H2, I2, st2, fun b hb => (f2 b hb).1, w0⟩
  rintro n s3 ⟨i, σ3, H3, I3, st3, fr3, w3⟩
  rcases turn i n σ3 H3 w3 with ⟨stop, qn⟩ | ⟨go, N, hN, step⟩
  · refine wpAny_passesOwn hp (thn (T.done X rfl rfl rfl hc i pins s3 σ3 H3 X.xe I3 (stat fr3) st3 stop) fun r s4 ⟨hr, I4⟩ => ?_)
    subst hr
    exact wpAny_execs_nil ⟨σ3, H3, I4, qn⟩
  · refine wpAny_passesOwn hp (thn (T.item X rfl rfl rfl hc i pins s3 σ3 H3 X.xe I3 (stat fr3) st3 go) fun r s4 ⟨u, hr, h4⟩ => ?_)
    subst hr
    refine wpAny_passesOwn hp (thn h4 fun _ s5 ⟨x, H5, I5, r5, y5, st5, fr5⟩ => ?_)
    have I5' := I5.pinned (stat fr5) (T.obj _ _ st5)
    refine wpAny_passesOwn hp (thn (hg _ s5 σ3 H5 x u _ I5' r5 (step x H5 y5)) fun _ s6 ⟨σ6, H6, I6, q6⟩ => ?_)
    refine wpAny_passesOwn hp (thn (hb _ s6 σ6 H6 _ I6 q6) fun f s7 q7 => ?_)
    have again : ∀ {σ7 : St} {H7 : Hp}, Inv X (pins ++ pinsAt fp s5.heap) σ7 H7 s7 → N σ7 H7 → ∃ m, m < n ∧ ∃ i σ' H', Inv X pins σ' H' s7 ∧ tn i s7.heap ∧ (∀ b ∈ fp, H' b = none) ∧ W i m σ' H' := fun {σ7 H7} I7 n7 => by
      obtain ⟨m', hm, w7⟩ := hN σ7 H7 n7
      refine ⟨m', hm, i + 1, σ7, H7, I7.unpinned, T.keep _ _ _ st5 fun b hb o e => (I7.pin (b, o) (List.mem_append_right _ (List.mem_append_right _ (mem_pinsAt hb e)))).1, fun b hb => ?_, w7⟩
      obtain ⟨o, e, d⟩ := T.obj _ _ st5 b hb
      exact (I7.pin (b, o) (List.mem_append_right _ (List.mem_append_right _ (mem_pinsAt hb e)))).2.1
    cases f with
    | next => obtain ⟨σ7, H7, I7, n7⟩ := q7; exact again I7 n7
    | cont => obtain ⟨σ7, H7, I7, n7⟩ := q7; exact again I7 n7
    | brk => obtain ⟨σ7, H7, I7, q7⟩ := q7; exact ⟨σ7, H7, I7.unpinned, q7⟩
    | ret v => obtain ⟨x7, σ7, H7, I7, r7, q7⟩ := q7; exact ⟨x7, σ7, H7, I7.unpinned, r7, q7⟩
end
/-- over a list that the body leaves as it is -/
theorem for_list {K : PySem.W.Frag} {a : Addr} {xs : List V} {g : TG} {tb : TS} {D : Ends} {σ : St} {H : Hp} (Pv : Nat → St → Hp → Prop) (h0 : Pv 0 σ H) (hl : ∀ i σ H, i ≤ xs.length → Pv i σ H → SqL K H a xs)
    (hs : ∀ i x σ H, xs[i]? = some x → Pv i σ H → g x σ H fun σ2 H2 => tb { D with nx := Pv (i + 1), ct := Pv (i + 1), bk := D.nx } σ2 H2) (hd : ∀ σ H, Pv xs.length σ H → D.nx σ H) :
    ∃ W : Nat → Nat → St → Hp → Prop, (∃ m, W 0 m σ H) ∧ ∀ i m σ H, W i m σ H →
      ((Itl K a).stop i H ∧ D.nx σ H) ∨ ((Itl K a).go i H ∧ ∃ N : St → Hp → Prop, (∀ σ' H', N σ' H' → ∃ m', m' < m ∧ W (i + 1) m' σ' H') ∧ ∀ x H', (Itl K a).yld i H x H' → g x σ H' fun σ2 H2 => tb { D with nx := N, ct := N, bk := D.nx } σ2 H2) := by
  refine ⟨fun i m σ H => m = xs.length - i ∧ i ≤ xs.length ∧ Pv i σ H, ⟨xs.length, by simp, Nat.zero_le _, h0⟩, ?_⟩
  rintro i m σ H ⟨rfl, hi, p⟩
  have q := hl i σ H hi p
  by_cases hlt : i < xs.length
  · refine .inr ⟨⟨xs, xs[i], q, by simp [hlt]⟩, Pv (i + 1), fun σ' H' p' => ⟨xs.length - (i + 1), by omega, rfl, hlt, p'⟩, fun x H' y => ?_⟩
    obtain ⟨e, y⟩ := y
    subst e
    exact hs i x σ _ (y xs q) p
  · have e : i = xs.length := by omega
    subst e
    exact .inl ⟨⟨xs, q, Nat.le_refl _⟩, hd σ H p⟩
theorem for_range {lo : Int} {n : Nat} {g : TG} {tb : TS} {D : Ends} {σ : St} {H : Hp} (Pv : Nat → St → Hp → Prop) (h0 : Pv 0 σ H)
    (hs : ∀ i σ H, i < n → Pv i σ H → g (.int (lo + i)) σ H fun σ2 H2 => tb { D with nx := Pv (i + 1), ct := Pv (i + 1), bk := D.nx } σ2 H2) (hd : ∀ σ H, Pv n σ H → D.nx σ H) :
    ∃ W : Nat → Nat → St → Hp → Prop, (∃ m, W 0 m σ H) ∧ ∀ i m σ H, W i m σ H →
      ((Itr lo n).stop i H ∧ D.nx σ H) ∨ ((Itr lo n).go i H ∧ ∃ N : St → Hp → Prop, (∀ σ' H', N σ' H' → ∃ m', m' < m ∧ W (i + 1) m' σ' H') ∧ ∀ x H', (Itr lo n).yld i H x H' → g x σ H' fun σ2 H2 => tb { D with nx := N, ct := N, bk := D.nx } σ2 H2) := by
  refine ⟨fun i m σ H => m = n - i ∧ i ≤ n ∧ Pv i σ H, ⟨n, by simp, Nat.zero_le _, h0⟩, ?_⟩
  rintro i m σ H ⟨rfl, hi, p⟩
  by_cases hlt : i < n
  · refine .inr ⟨hlt, Pv (i + 1), fun σ' H' p' => ⟨n - (i + 1), by omega, rfl, hlt, p'⟩, fun x H' y => ?_⟩
    obtain ⟨e, y⟩ := y
    subst e y
    exact hs i σ _ hlt p
  · have e : i = n := by omega
    subst e
    exact .inl ⟨Nat.le_refl _, hd σ H p⟩
end L2
namespace L2
open PySem PySem.Spec PyProof.Rows
abbrev R2 := V → V → Hp → VK → Prop
/-- a two-place operation on values: f is binaryOp op, inplaceOp op or compareOp op -/
def OpR (X : Cx) (f : Value → Value → Sem Value) (r : R2) : Prop :=
  ∀ (pins : List (Addr × Obj)) (s : Shared) (σ : St) (H : Hp) (x y : V) (v u : Value) (Q : VK), Inv X pins σ H s → RelV x v → RelV y u → r x y H Q →
    wpAny (model X.prog X.w) X.A (f v u) (EP X pins σ Q) X.xe s
/-- a one-place operation -/
def UnR (X : Cx) (f : Value → Sem Value) (r : V → Hp → VK → Prop) : Prop :=
  ∀ (pins : List (Addr × Obj)) (s : Shared) (σ : St) (H : Hp) (x : V) (v : Value) (Q : VK), Inv X pins σ H s → RelV x v → r x H Q →
    wpAny (model X.prog X.w) X.A (f v) (EP X pins σ Q) X.xe s
/-- a call of a value that is known (a builtin, a type) with values -/
def CallR (X : Cx) (f : Value) (r : List V → Hp → VK → Prop) : Prop :=
  ∀ (pins : List (Addr × Obj)) (s : Shared) (σ : St) (H : Hp) (xs : List V) (us : List Value) (Q : VK), Inv X pins σ H s → Vals xs us → r xs H Q →
    wpAny (model X.prog X.w) X.A (call f us) (EP X pins σ Q) X.xe s
/-- a value's truth -/
def TruR (X : Cx) (r : V → Hp → (Bool → Hp → Prop) → Prop) : Prop :=
  ∀ (pins : List (Addr × Obj)) (s : Shared) (σ : St) (H : Hp) (x : V) (v : Value) (Q : Bool → Hp → Prop), Inv X pins σ H s → RelV x v → r x H Q →
    wpAny (model X.prog X.w) X.A (truthy v) (TP X pins σ Q) X.xe s
def tOp (r : R2) (ta tb : TE) : TE := fun σ H Q => ta σ H fun x H1 => tb σ H1 fun y H2 => r x y H2 Q
def tUn (r : V → Hp → VK → Prop) (ta : TE) : TE := fun σ H Q => ta σ H fun x H1 => r x H1 Q
/-- ints in, under C, and a value out -/
def rI (C : Int → Int → Prop) (g : Int → Int → V) : R2 := fun x y H Q => ∃ i j, x = .int i ∧ y = .int j ∧ C i j ∧ Q (g i j) H
def rI0 (g : Int → Int → V) : R2 := fun x y H Q => ∃ i j, x = .int i ∧ y = .int j ∧ Q (g i j) H
def rU (g : Int → V) : V → Hp → VK → Prop := fun x H Q => ∃ i, x = .int i ∧ Q (g i) H
section
variable {X : Cx} {a b c : Expr} {ta tb tc : TE} {pos : Pos}
theorem binT (ha : PE X a ta) (hb : PE X b tb) {pins : List (Addr × Obj)} {s : Shared} {σ : St} {H : Hp} {R : V → V → Hp → Prop} (I : Inv X pins σ H s)
    (h : ta σ H fun x H1 => tb σ H1 fun y H2 => R x y H2) {Q : Value → Shared → Prop} {f : Value → Value → Sem Value}
    (hf : ∀ v u s2 x y H2, Inv X pins σ H2 s2 → RelV x v → RelV y u → R x y H2 → wpAny (model X.prog X.w) X.A (f v u) Q X.xe s2) :
    wpAny (model X.prog X.w) X.A (eval a X.env) (fun v s₁ => wpAny (model X.prog X.w) X.A (eval b X.env) (fun u s₂ => wpAny (model X.prog X.w) X.A (f v u) Q X.xe s₂) X.xe s₁) X.xe s := by
  refine thn (ha pins s σ H _ I h) fun v s1 ⟨x, H1, I1, r1, q1⟩ => ?_
  refine thn (hb pins s1 σ H1 _ I1 q1) fun u s2 ⟨y, H2, I2, r2, q2⟩ => ?_
  exact hf v u s2 x y H2 I2 r1 r2 q2
theorem pe_op {op : Operator} {r : R2} (ho : OpR X (binaryOp op) r) (ha : PE X a ta) (hb : PE X b tb) : PE X (.BinOp a op b pos) (tOp r ta tb) := by
  intro pins s σ H Q I h
  exact wpAny_BinOp (binT ha hb I h fun v u s2 x y H2 I2 rx ry q => ho pins s2 σ H2 x y v u Q I2 rx ry q)
theorem pe_un {op : UnaryOp} {r : V → Hp → VK → Prop} (ho : UnR X (unaryOp op) r) (ha : PE X a ta) : PE X (.UnaryOp op a pos) (tUn r ta) := by
  intro pins s σ H Q I h
  exact UnaryOp_ (thn (ha pins s σ H _ I h) fun v s1 ⟨x, H1, I1, r1, q1⟩ => ho pins s1 σ H1 x v Q I1 r1 q1)
theorem opI {f : Value → Value → Sem Value} {C : Int → Int → Prop} {g : Int → Int → Int}
    (rule : ∀ (i j : Int) (t u : Tok) (s : Shared) (Q : Value → Shared → Prop) (E : Value → Shared → Prop), C i j → Q (.int (g i j) s.toks) { s with toks := s.toks + 1 } → wpAny (model X.prog X.w) X.A (f (.int i t) (.int j u)) Q E s) :
    OpR X f (rI C fun i j => .int (g i j)) := by
  intro pins s σ H x y v u Q I rx ry h
  obtain ⟨i, j, rfl, rfl, hc, q⟩ := h
  obtain ⟨t, rfl⟩ := rx
  obtain ⟨t', rfl⟩ := ry
  exact rule i j t t' s _ _ hc ⟨.int (g i j), H, I.tok _, ⟨_, rfl⟩, q⟩
theorem opI0 {f : Value → Value → Sem Value} {g : Int → Int → Int}
    (rule : ∀ (i j : Int) (t u : Tok) (s : Shared) (Q : Value → Shared → Prop) (E : Value → Shared → Prop), Q (.int (g i j) s.toks) { s with toks := s.toks + 1 } → wpAny (model X.prog X.w) X.A (f (.int i t) (.int j u)) Q E s) :
    OpR X f (rI0 fun i j => .int (g i j)) := by
  intro pins s σ H x y v u Q I rx ry h
  obtain ⟨i, j, rfl, rfl, q⟩ := h
  obtain ⟨t, rfl⟩ := rx
  obtain ⟨t', rfl⟩ := ry
  exact rule i j t t' s _ _ ⟨.int (g i j), H, I.tok _, ⟨_, rfl⟩, q⟩
theorem opB0 {f : Value → Value → Sem Value} {g : Int → Int → Bool}
    (rule : ∀ (i j : Int) (t u : Tok) (s : Shared) (Q : Value → Shared → Prop) (E : Value → Shared → Prop), Q (.bool (g i j)) s → wpAny (model X.prog X.w) X.A (f (.int i t) (.int j u)) Q E s) :
    OpR X f (rI0 fun i j => .bl (g i j)) := by
  intro pins s σ H x y v u Q I rx ry h
  obtain ⟨i, j, rfl, rfl, q⟩ := h
  obtain ⟨t, rfl⟩ := rx
  obtain ⟨t', rfl⟩ := ry
  exact rule i j t t' s _ _ ⟨.bl (g i j), H, I, rfl, q⟩
def CMul (i j : Int) : Prop := (-(2 ^ 64) < i ∧ i < 2 ^ 64) ∨ (-(2 ^ 64) < j ∧ j < 2 ^ 64)
theorem CMul.ok {i j : Int} (h : CMul i j) : IntMulOk i j := by
  rcases h with ⟨h1, h2⟩ | ⟨h1, h2⟩
  · exact .of_left (intBits_le_64 h1 h2)
  · exact .of_right (intBits_le_64 h1 h2)
theorem op_add : OpR X (binaryOp .Add) (rI0 fun i j => .int (i + j)) := opI0 fun _ _ _ _ _ _ _ q => add_int q
theorem op_sub : OpR X (binaryOp .Sub) (rI0 fun i j => .int (i - j)) := opI0 fun _ _ _ _ _ _ _ q => sub_int q
theorem op_mul : OpR X (binaryOp .Mult) (rI CMul fun i j => .int (i * j)) := opI fun _ _ _ _ _ _ _ hc q => mul_int q hc.ok
/-- % by a positive divisor of any size -/
theorem op_mod : OpR X (binaryOp .Mod) (rI (fun _ j => 0 < j) fun i j => .int (i % j)) := opI fun i j _ _ _ _ _ hc q => by
  have h1 : (0 : Int) < j := hc
  exact mod_int' (by omega) (by rw [Int.fmod_eq_emod_of_nonneg i (by omega)]; exact q)
theorem iop_add : OpR X (inplaceOp .Add) (rI0 fun i j => .int (i + j)) := opI0 fun _ _ _ _ _ _ _ q => iadd_int q
theorem unI {f : Value → Sem Value} {g : Int → Int}
    (rule : ∀ (i : Int) (t : Tok) (s : Shared) (Q : Value → Shared → Prop) (E : Value → Shared → Prop), Q (.int (g i) s.toks) { s with toks := s.toks + 1 } → wpAny (model X.prog X.w) X.A (f (.int i t)) Q E s) :
    UnR X f (rU fun i => .int (g i)) := by
  intro pins s σ H x v Q I rx h
  obtain ⟨i, rfl, q⟩ := h
  obtain ⟨t, rfl⟩ := rx
  exact rule i t s _ _ ⟨.int (g i), H, I.tok _, ⟨_, rfl⟩, q⟩
theorem un_neg : UnR X (unaryOp .USub) (rU fun i => .int (-i)) := unI fun _ _ _ _ _ q => neg_int q
end
/-- the scalars that == tells apart as data does -/
def scal : V → V → Bool
  | .non, .non => true | .non, .int _ => true | .int _, .non => true | .non, .bl _ => true | .bl _, .non => true | .non, .str _ => true | .str _, .non => true
  | .int _, .int _ => true | .bl _, .bl _ => true | .str _, .str _ => true | .byt _, .byt _ => true
  | .int _, .str _ => true | .str _, .int _ => true | .bl _, .str _ => true | .str _, .bl _ => true
  | _, _ => false
def rEq : R2 := fun x y H Q => scal x y = true ∧ Q (.bl (decide (x = y))) H
def rNe : R2 := fun x y H Q => scal x y = true ∧ Q (.bl (!decide (x = y))) H
theorem dec_int {i j : Int} : decide (V.int i = V.int j) = (i == j) := by
  rw [Bool.eq_iff_iff]
  simp
theorem dec_bl {i j : Bool} : decide (V.bl i = V.bl j) = (i == j) := by
  rw [Bool.eq_iff_iff]
  simp
theorem dec_str {i j : Str} : decide (V.str i = V.str j) = (i == j) := by
  rw [Bool.eq_iff_iff]
  simp
theorem dec_byt {i j : Array UInt8} : decide (V.byt i = V.byt j) = (i.toList == j.toList) := by
  rw [Bool.eq_iff_iff]
  cases i
  cases j
  simp
section
variable {X : Cx} {a b c : Expr} {ta tb tc : TE} {pos : Pos}
theorem fin_bl {pins : List (Addr × Obj)} {σ : St} {H : Hp} {s : Shared} {Q : VK} {k k' : Bool} (I : Inv X pins σ H s) (q : Q (.bl k) H) (e : k = k') : EP X pins σ Q (.bool k') s := by
  subst e
  exact ⟨.bl k, H, I, rfl, q⟩
theorem op_eq : OpR X (compareOp .Eq) rEq := by
  intro pins s σ H x y v u Q I rx ry h
  obtain ⟨hs, q⟩ := h
  cases x with
  | non =>
    cases rx
    cases y with
    | non => cases ry; exact PySem.EqNone.eq_none_none (fin_bl I q (by simp))
    | bl j => cases ry; exact PySem.EqNone.eq_none_bool (fin_bl I q (by simp))
    | int j => obtain ⟨t', rfl⟩ := ry; exact PySem.EqNone.eq_none_int (fin_bl I q (by simp))
    | str j => obtain ⟨t', rfl⟩ := ry; exact PySem.EqNone.eq_none_str (fin_bl I q (by simp))
    | _ => exact absurd (show false = true from hs) Bool.false_ne_true
  | bl i =>
    cases rx
    cases y with
    | non => cases ry; exact PySem.EqNone.eq_bool_none (fin_bl I q (by simp))
    | bl j => cases ry; exact eq_bool (fin_bl I q dec_bl)
    | str j => obtain ⟨t', rfl⟩ := ry; exact PySem.EqMixed.eq_bool_str (fin_bl I q (by simp))
    | _ => exact absurd (show false = true from hs) Bool.false_ne_true
  | int i =>
    obtain ⟨t, rfl⟩ := rx
    cases y with
    | non => cases ry; exact PySem.EqNone.eq_int_none (fin_bl I q (by simp))
    | int j => obtain ⟨t', rfl⟩ := ry; exact eq_int (fin_bl I q dec_int)
    | str j => obtain ⟨t', rfl⟩ := ry; exact PySem.EqMixed.eq_int_str (fin_bl I q (by simp))
    | _ => exact absurd (show false = true from hs) Bool.false_ne_true
  | str i =>
    obtain ⟨t, rfl⟩ := rx
    cases y with
    | non => cases ry; exact PySem.EqNone.eq_str_none (fin_bl I q (by simp))
    | bl j => cases ry; exact PySem.EqMixed.eq_str_bool (fin_bl I q (by simp))
    | int j => obtain ⟨t', rfl⟩ := ry; exact PySem.EqMixed.eq_str_int (fin_bl I q (by simp))
    | str j => obtain ⟨t', rfl⟩ := ry; exact eq_str (fin_bl I q dec_str)
    | _ => exact absurd (show false = true from hs) Bool.false_ne_true
  | byt i =>
    obtain ⟨t, rfl⟩ := rx
    cases y with
    | byt j => obtain ⟨t', rfl⟩ := ry; exact PySem.W.eq_bytes (fin_bl I q dec_byt)
    | _ => exact absurd (show false = true from hs) Bool.false_ne_true
  | _ => cases y <;> exact absurd (show false = true from hs) Bool.false_ne_true
theorem op_ne : OpR X (compareOp .NotEq) rNe := by
  intro pins s σ H x y v u Q I rx ry h
  obtain ⟨hs, q⟩ := h
  cases x with
  | non =>
    cases rx
    cases y with
    | non => cases ry; exact PySem.EqNone.ne_none_none (fin_bl I q (by simp))
    | bl j => cases ry; exact PySem.EqNone.ne_none_bool (fin_bl I q (by simp))
    | int j => obtain ⟨t', rfl⟩ := ry; exact PySem.EqNone.ne_none_int (fin_bl I q (by simp))
    | str j => obtain ⟨t', rfl⟩ := ry; exact PySem.EqNone.ne_none_str (fin_bl I q (by simp))
    | _ => exact absurd (show false = true from hs) Bool.false_ne_true
  | bl i =>
    cases rx
    cases y with
    | non => cases ry; exact PySem.EqNone.ne_bool_none (fin_bl I q (by simp))
    | bl j => cases ry; exact ne_bool (fin_bl I q (congrArg not dec_bl))
    | str j => obtain ⟨t', rfl⟩ := ry; exact PySem.EqMixed.ne_bool_str (fin_bl I q (by simp))
    | _ => exact absurd (show false = true from hs) Bool.false_ne_true
  | int i =>
    obtain ⟨t, rfl⟩ := rx
    cases y with
    | non => cases ry; exact PySem.EqNone.ne_int_none (fin_bl I q (by simp))
    | int j => obtain ⟨t', rfl⟩ := ry; exact ne_int (fin_bl I q (congrArg not dec_int))
    | str j => obtain ⟨t', rfl⟩ := ry; exact PySem.EqMixed.ne_int_str (fin_bl I q (by simp))
    | _ => exact absurd (show false = true from hs) Bool.false_ne_true
  | str i =>
    obtain ⟨t, rfl⟩ := rx
    cases y with
    | non => cases ry; exact PySem.EqNone.ne_str_none (fin_bl I q (by simp))
    | bl j => cases ry; exact PySem.EqMixed.ne_str_bool (fin_bl I q (by simp))
    | int j => obtain ⟨t', rfl⟩ := ry; exact PySem.EqMixed.ne_str_int (fin_bl I q (by simp))
    | str j => obtain ⟨t', rfl⟩ := ry; exact ne_str (fin_bl I q (congrArg not dec_str))
    | _ => exact absurd (show false = true from hs) Bool.false_ne_true
  | byt i =>
    obtain ⟨t, rfl⟩ := rx
    cases y with
    | byt j => obtain ⟨t', rfl⟩ := ry; exact PySem.W.ne_bytes (fin_bl I q (congrArg not dec_byt))
    | _ => exact absurd (show false = true from hs) Bool.false_ne_true
  | _ => cases y <;> exact absurd (show false = true from hs) Bool.false_ne_true
theorem op_lt : OpR X (compareOp .Lt) (rI0 fun i j => .bl (decide (i < j))) := opB0 fun _ _ _ _ _ _ _ q => lt_int q
theorem op_le : OpR X (compareOp .LtE) (rI0 fun i j => .bl (decide (i ≤ j))) := opB0 fun _ _ _ _ _ _ _ q => le_int q
theorem op_gt : OpR X (compareOp .Gt) (rI0 fun i j => .bl (decide (j < i))) := opB0 fun _ _ _ _ _ _ _ q => gt_int q
theorem op_ge : OpR X (compareOp .GtE) (rI0 fun i j => .bl (decide (j ≤ i))) := opB0 fun _ _ _ _ _ _ _ q => ge_int q
/-- two rules for one operation: by cases -/
theorem OpR.or {f : Value → Value → Sem Value} {r r' : R2} (h : OpR X f r) (h' : OpR X f r') : OpR X f (fun x y H Q => r x y H Q ∨ r' x y H Q) := by
  intro pins s σ H x y v u Q I rx ry q
  rcases q with q | q
  · exact h pins s σ H x y v u Q I rx ry q
  · exact h' pins s σ H x y v u Q I rx ry q
theorem nomark (b : Expr) {op : CmpOp} (h : op ≠ .In := by decide) (h2 : op ≠ .NotIn := by decide) : behindInMarks op b = false := by
  have e1 : (op == CmpOp.In) = false := by cases op <;> first | rfl | exact absurd rfl h
  have e2 : (op == CmpOp.NotIn) = false := by cases op <;> first | rfl | exact absurd rfl h2
  cases b <;> simp [behindInMarks, e1, e2]
/-- a comparison as a value; hm: nomark b, or (for in, not in) by with_unfolding_all rfl -/
theorem pe_cmpR {op : CmpOp} {r : R2} (ho : OpR X (compareOp op) r) (ha : PE X a ta) (hb : PE X b tb) (hm : behindInMarks op b = false) : PE X (.Compare a [op] [b] pos) (tOp r ta tb) := by
  intro pins s σ H Q I h
  exact wpAny_Compare1 (binT ha hb I h fun v u s2 x y H2 I2 rx ry q => ho pins s2 σ H2 x y v u Q I2 rx ry q) hm
/-- a reading of a value as a test -/
def tTest (t : TE) : TT := fun σ H Q => t σ H fun x H' => ∃ k, x = .bl k ∧ Q k H'
theorem pt_cmpR {op : CmpOp} {r : R2} (ho : OpR X (compareOp op) r) (ha : PE X a ta) (hb : PE X b tb) (hm : behindInMarks op b = false) : PT X (.Compare a [op] [b] pos) (tTest (tOp r ta tb)) := by
  intro pins s σ H Q I h
  refine wpAny_isTrue_Compare1 (thn (ha pins s σ H _ I h) fun v s1 ⟨x, H1, I1, r1, q1⟩ => thn (hb pins s1 σ H1 _ I1 q1) fun u s2 ⟨y, H2, I2, r2, q2⟩ =>
    thn (ho pins s2 σ H2 x y v u _ I2 r1 r2 q2) fun c s3 ⟨z, H3, I3, r3, k, e, q3⟩ => ?_) hm
  subst e
  cases r3
  exact wpAny_truthy_bool ⟨H3, I3, q3⟩
/-- a op1 b op2 c -/
def tChain (r r' : R2) (ta tb tc : TE) : TE := fun σ H Q => ta σ H fun x H1 => tb σ H1 fun y H2 => r x y H2 fun z H3 => ∃ k, z = .bl k ∧
  (if k = true then tc σ H3 fun w' H4 => r' y w' H4 Q else Q (.bl false) H3)
theorem pe_chain {op op' : CmpOp} {r r' : R2} (ho : OpR X (compareOp op) r) (ho' : OpR X (compareOp op') r') (ha : PE X a ta) (hb : PE X b tb) (hc : PE X c tc)
    (hm : lastMarks [op, op'] [b, c] = false := by with_unfolding_all rfl) : PE X (.Compare a [op, op'] [b, c] pos) (tChain r r' ta tb tc) := by
  intro pins s σ H Q I h
  refine Compare_chain (thn (ha pins s σ H _ I h) fun v s1 ⟨x, H1, I1, r1, q1⟩ => chain_link (thn (hb pins s1 σ H1 _ I1 q1) fun u s2 ⟨y, H2, I2, r2, q2⟩ =>
    thn (ho pins s2 σ H2 x y v u _ I2 r1 r2 q2) fun d s3 ⟨z, H3, I3, r3, k, e, q3⟩ => ?_)) hm
  subst e
  cases r3
  refine wpAny_truthy_bool ?_
  cases k with
  | false => exact ite_ff ⟨.bl false, H3, I3, rfl, q3⟩
  | true => exact ite_tt (chain_last (thn (hc pins s3 σ H3 _ I3 q3) fun w' s4 ⟨z', H4, I4, r4, q4⟩ => ho' pins s4 σ H4 y z' u w' Q I4 r2 r4 q4))
/-- a value's truth by the abstract heap -/
def TruV (K : PySem.W.Frag) (x : V) (H : Hp) (k : Bool) : Prop :=
  match x with
  | .non => k = false
  | .bl b => k = b
  | .int i => k = (i != 0)
  | .str y => y.length ≤ sizeLine ∧ k = ((y.length : Int) != 0)
  | .byt y => y.size ≤ sizeLine ∧ k = ((y.size : Int) != 0)
  | .ref p => (∃ xs, SqL K H p xs ∧ k = !xs.isEmpty) ∨ (∃ xs, SqT K H p xs ∧ k = !xs.isEmpty) ∨ ∃ kvs, H p = some (.dK kvs) ∧ k = !kvs.isEmpty
  | _ => False
theorem isEmpty_kv {κ : Type} {kvs : List (κ × V)} {vs : List (κ × Value)} (r : KV kvs vs) : (!vs.isEmpty) = !kvs.isEmpty := by
  cases r <;> rfl
theorem isEmpty_of {xs : List V} {its : List Value} (r : Vals xs its) : (!its.toArray.isEmpty) = !xs.isEmpty := by
  cases r <;> simp
theorem line63 : (sizeLine : Nat) < 2 ^ 63 := by rw [sizeLine_eq]; decide
theorem tru_ok : TruR X (fun x H Q => ∃ k, TruV X.K x H k ∧ Q k H) := by
  intro pins s σ H x v Q I rx h
  obtain ⟨k, e, q⟩ := h
  have hl := line63
  have hs : sizeLine = 16777216 := sizeLine_eq
  cases x with
  | non =>
    cases rx
    have e' : k = false := e
    subst e'
    exact truthy_none ⟨H, I, q⟩
  | bl b =>
    cases rx
    have e' : k = b := e
    subst e'
    exact wpAny_truthy_bool ⟨H, I, q⟩
  | int i =>
    obtain ⟨t, rfl⟩ := rx
    have e' : k = (i != 0) := e
    subst e'
    exact PySem.P.truthy_int ⟨H, I, q⟩
  | str y =>
    obtain ⟨t, rfl⟩ := rx
    obtain ⟨hy, e'⟩ : y.length ≤ sizeLine ∧ k = ((y.length : Int) != 0) := e
    subst e'
    exact PySem.P.truthy_str (by omega) ⟨H, I.tok _, q⟩
  | byt y =>
    obtain ⟨t, rfl⟩ := rx
    obtain ⟨hy, e'⟩ : y.size ≤ sizeLine ∧ k = ((y.size : Int) != 0) := e
    subst e'
    exact PySem.W.truthy_bytes (by omega) ⟨H, I.tok _, q⟩
  | ref p =>
    cases rx
    have e' : (∃ xs, SqL X.K H p xs ∧ k = !xs.isEmpty) ∨ (∃ xs, SqT X.K H p xs ∧ k = !xs.isEmpty) ∨ ∃ kvs, H p = some (.dK kvs) ∧ k = !kvs.isEmpty := e
    rcases e' with ⟨xs, hx, e'⟩ | ⟨xs, hx, e'⟩ | ⟨kvs, hx, e'⟩
    · subst e'
      obtain ⟨its, r, pl, hz⟩ := I.list hx
      have hlen := r.length
      exact wpAny_truthy_list pl.isList (by simp only [List.size_toArray]; omega) ⟨H, I.tok _, by rw [isEmpty_of r]; exact q⟩
    · subst e'
      obtain ⟨its, r, pl, hz⟩ := I.tuple hx
      have hlen := r.length
      exact truthy_tuple pl (by simp only [List.size_toArray]; omega) ⟨H, I.tok _, by rw [isEmpty_of r]; exact q⟩
    · subst e'
      obtain ⟨hz, hS, vs, r, m⟩ : kvs.length ≤ sizeLine ∧ (p == sysModules) = false ∧ ∃ vs, KV kvs vs ∧ s.heap.DictOf (mixKind X.prog X.w) p vs := I.hok p _ hx
      have hlen : kvs.length = vs.length := Paired.length r
      exact wpAny_truthy_dict hS m (by omega) ⟨H, I.tok _, by rw [isEmpty_kv r]; exact q⟩
  | _ => exact (show False from e).elim
/-- any expression whose test is its value's truth (a name, a call, a subscript, a field ..: he by fun _ => rfl) -/
theorem pt_truth (ha : PE X a ta) (he : ∀ whole, isTrue a X.env whole = (do let v ← whole; standAt a.pos; holding [v] (truthy v))) :
    PT X a (fun σ H Q => ta σ H fun x H' => ∃ k, TruV X.K x H' k ∧ Q k H') := by
  intro pins s σ H Q I h
  exact isTrue_plain (thn (ha pins s σ H _ I h) fun v s1 ⟨x, H1, I1, r1, q1⟩ => tru_ok pins s1 σ H1 x v Q I1 r1 q1) (he _)
theorem vals1 {x : V} {us : List Value} (r : Vals [x] us) : ∃ u, us = [u] ∧ RelV x u := by
  cases r with
  | cons r1 r2 => cases r2; exact ⟨_, rfl, r1⟩
theorem vals2 {x y : V} {us : List Value} (r : Vals [x, y] us) : ∃ u w', us = [u, w'] ∧ RelV x u ∧ RelV y w' := by
  cases r with
  | cons r1 r2 =>
    cases r2 with
    | cons r3 r4 => cases r4; exact ⟨_, _, rfl, r1, r3⟩
theorem call_min2 (hc : X.calm = true) : CallR X (.builtin "min") (fun xs H Q => ∃ i j, xs = [.int i, .int j] ∧ Q (.int (if j < i then j else i)) H) := by
  intro pins s σ H xs us Q I r h
  obtain ⟨i, j, rfl, q⟩ := h
  obtain ⟨u, w', rfl, ⟨t, rfl⟩, ⟨t', rfl⟩⟩ := vals2 r
  refine min_two_ints (I.ok.hd hc) fun h' tk k => ⟨_, H, I.kept k, ?_, q⟩
  by_cases hj : j < i
  · rw [if_pos hj, if_pos hj]; exact ⟨_, rfl⟩
  · rw [if_neg hj, if_neg hj]; exact ⟨_, rfl⟩
end
end L2
namespace L2
open PySem PySem.Spec PyProof.Rows
structure ObjM (h : Heap) (x dx C : Addr) (mA : Str → Option Value) : Prop where
  obj : h.get? x = some (PySem.W.instObj C dx)
  ns : h.Ns1 dx mA
  ne : dx ≠ x
theorem lookIn_ns {h : Heap} {dx : Addr} {mA : Str → Option Value} (n : h.Ns1 dx mA) : ∃ od, h.get? dx = some od ∧ ∀ name, PySem.W.lookIn name od = some (mA name) := by
  obtain ⟨o, es, ep, ho, hd, hk, _, hm⟩ := n
  refine ⟨o, ho, fun name => ?_⟩
  have e := hm name
  unfold nsFind findBy at e
  rw [← Array.find?_toList] at e
  unfold PySem.W.lookIn
  rw [hd]
  dsimp only
  split
  · rename_i y q
    rw [q] at e
    exact congrArg some e
  · rename_i q
    rw [q] at e
    have a : es.toList.any (·.refKey) = false := by
      rw [List.any_eq_false]
      intro y hy
      obtain ⟨z, t, hkey⟩ := hk y (Array.mem_toList_iff.mp hy)
      simp [DictEntry.refKey, hkey]
    have a' : ¬ es.toList.any (·.refKey) = true := by rw [a]; exact Bool.false_ne_true
    rw [if_neg a']
    exact congrArg some e
theorem ObjM.look {h : Heap} {x dx C : Addr} {mA : Str → Option Value} (I : ObjM h x dx C mA) : ∃ od, PySem.W.InstAt h x (PySem.W.instObj C dx) C (some od) ∧ ∀ name, PySem.W.lookIn name od = some (mA name) :=
  let ⟨od, ho, hl⟩ := lookIn_ns I.ns
  ⟨od, ⟨I.obj, rfl, rfl, ho⟩, hl⟩
section
variable {prog : Program} {w : World} {A : Around} {E : Value → Shared → Prop} {s : Shared} {K : PySem.W.Frag} {x dx C f : Addr} {mA : Str → Option Value} {name : Str} {v : Value}
end
section
variable {P : Program} {w : World} {H H' : Hp} {h h' : Heap} {a C dx : Addr} {fs fs' : List (Str × V)}
end
structure Cls (K : PySem.W.Frag) (C : Addr) : Prop where
  pg : PySem.W.plainGet K C Str.empty = true
  hd : PySem.W.hasDictIn K C = true
  po : PySem.W.plainOver K C = true
  sa : PySem.W.findIn K (.ref C) "__setattr__" = some (some (.builtin "object.__setattr__"))
theorem Cls.get {K : PySem.W.Frag} {C : Addr} (c : Cls K C) (f : Str) : PySem.W.plainGet K C f = true := c.pg
section
variable {X : Cx} {pins : List (Addr × Obj)} {σ : St} {H : Hp} {s : Shared} {a C dx : Addr} {fs : List (Str × V)} {f : Str} {v : V} {A : Around} {E : Value → Shared → Prop}
/-- a new instance, tracked, without attributes -/
theorem Inv.made (I : Inv X pins σ H s) : Inv X pins σ (upd (upd H s.heap.objs.size (.own (s.heap.objs.size + 1))) (s.heap.objs.size + 1) (.ins C s.heap.objs.size []))
    { s with heap := (s.heap.push PySem.W.emptyDict).push (PySem.W.instObj C s.heap.objs.size) } := by
  have e1 : (s.heap.push PySem.W.emptyDict).get? s.heap.objs.size = some PySem.W.emptyDict := Heap.get?_push_size s.heap rfl
  have e2 : ((s.heap.push PySem.W.emptyDict).push (PySem.W.instObj C s.heap.objs.size)).get? (s.heap.objs.size + 1) = some (PySem.W.instObj C s.heap.objs.size) := by
    have := Heap.get?_push_size (s.heap.push PySem.W.emptyDict) (o := PySem.W.instObj C s.heap.objs.size) rfl
    rwa [Heap.size_push] at this
  have e3 : (s.heap.push PySem.W.emptyDict).Ns s.heap.objs.size (fun _ => none) := ⟨PySem.W.emptyDict, #[], _, e1, rfl, (fun e he => absurd he (by simp)), fun _ => rfl⟩
  have I1 := I.laid (a := s.heap.objs.size) (o := .own (s.heap.objs.size + 1)) (h' := s.heap.push PySem.W.emptyDict) (t' := s.toks) (fun b u q => Heap.get?_push_of_some _ q) (Nat.le_refl _) ⟨_, e1⟩
  refine I1.laid (a := s.heap.objs.size + 1) (o := .ins C s.heap.objs.size []) (t' := s.toks) (fun b u q => Heap.get?_push_of_some _ q) (Nat.le_of_eq (Heap.size_push _ _)) ?_
  have ne : s.heap.objs.size ≠ s.heap.objs.size + 1 := Nat.ne_of_lt (Nat.lt_succ_self _)
  refine ⟨by rw [upd_ne ne, upd_same], Nat.zero_le _, ne, e2, fun _ => none, (Heap.Ns1.of_empty e3).at fun o q => Heap.get?_push_of_some _ q, fun _ => True.intro, fun y hy => absurd rfl hy⟩
end
section
variable {X : Cx} {o e value : Expr} {f : Str} {pos pos' tpos : Pos} {ta tv : TE}
end
section
variable {X : Cx} {pins : List (Addr × Obj)} {σ : St} {H : Hp} {s : Shared} {A : Around} {E : Value → Shared → Prop} {Q : Value → Shared → Prop} {c : Value} {b : Bool}
end
end L2
namespace L2
open PySem PySem.Spec PyProof.Rows
structure Room (k : Nat) (A : Around) : Prop where
  hd : A.handled = none
  dp : A.depth + 3 * k + 5 < recursionLimit
  un : A.units + 16 * k + 200 < cLine
theorem Room.mono {j k : Nat} {A : Around} (r : Room k A) (h : j ≤ k) : Room j A := ⟨r.hd, by have := r.dp; omega, by have := r.un; omega⟩
theorem Room.deeper {k : Nat} {A : Around} (r : Room (k + 1) A) (env : Env) : Room k (A.deeper env) :=
  ⟨r.hd, by have := r.dp; show A.depth + 1 + 3 * k + 5 < _; omega, by have := r.un; show A.units + 3 + 16 * k + 200 < _; omega⟩
theorem Room.in1 {k : Nat} {A : Around} (r : Room (k + 1) A) : Room k A.in1 :=
  ⟨r.hd, by have := r.dp; show A.depth + 3 * k + 5 < _; omega, by have := r.un; show A.units + 1 + 16 * k + 200 < _; omega⟩
theorem Room.depth {k : Nat} {A : Around} (r : Room k A) : A.depth < recursionLimit := by have := r.dp; omega
theorem Room.units {k : Nat} {A : Around} (r : Room k A) : A.units + 64 < cLine := by have := r.un; omega
def tNil : TA := fun _ H Q => Q [] H
def tCons (ta : TE) (tr : TA) : TA := fun σ H Q => ta σ H fun x H1 => tr σ H1 fun xs H2 => Q (x :: xs) H2
section
variable {X : Cx} {e : Expr} {es : List Expr} {te : TE} {t : TA} {pos : Pos}
theorem pa_nil : PA X [] tNil := fun _ _ _ _ H Q I h => Calls.spliced_nil ⟨[], H, I, .nil, h⟩
theorem pa_cons (ha : PE X e te) (hr : PA X es t) (hs : starEach (e :: es) X.env = (false, eval e X.env) :: starEach es X.env := by rfl) : PA X (e :: es) (tCons te t) := by
  intro pos pins s σ H Q I h
  rw [hs]
  show wpAny _ _ (spliced ((false, eval e X.env) :: backTo pos (starEach es X.env))) _ _ s
  refine Calls.spliced_cons (thn (ha pins s σ H _ I h) fun u s1 ⟨x, H1, I1, r1, q1⟩ => ?_)
  exact thn (hr pos pins s1 σ H1 _ I1 q1) fun us s2 ⟨xs, H2, I2, r2, q2⟩ => ⟨x :: xs, H2, I2, .cons r1 r2, q2⟩
/-- a tuple, a list of written items -/
def tTup (t : TA) : TE := fun σ H Q => t σ H fun xs H1 => xs.length ≤ sizeLine ∧ ∀ p, H1 p = none → Q (.ref p) (upd H1 p (.tup xs))
def tLst (t : TA) : TE := fun σ H Q => t σ H fun xs H1 => xs.length ≤ sizeLine ∧ ∀ p, H1 p = none → Q (.ref p) (upd H1 p (.lst xs))
theorem pe_tup {x1} (h : PA X es t) : PE X (.Tuple es x1 pos) (tTup t) := by
  intro pins s σ H Q I hq
  refine wpAny_Tuple_spliced (thn (h pos pins s σ H _ I hq) fun us s1 ⟨xs, H1, I1, r, z, q⟩ => ⟨by rw [← r.length]; exact z, ?_⟩)
  have hf : H1 s1.heap.objs.size = none := I1.hok.fresh (Nat.le_refl _)
  refine ⟨.ref s1.heap.objs.size, upd H1 s1.heap.objs.size (.tup xs), I1.laid (t' := s1.toks) (fun b u e => Heap.get?_push_of_some _ e) (Nat.le_refl _) ?_, rfl, q _ hf⟩
  exact ⟨z, us, r, ⟨_, Heap.get?_push_size _ rfl, rfl, _, rfl⟩⟩
theorem pe_lst (h : PA X es t) : PE X (.List es pos) (tLst t) := by
  intro pins s σ H Q I hq
  refine wpAny_List_spliced (thn (h pos pins s σ H _ I hq) fun us s1 ⟨xs, H1, I1, r, z, q⟩ => ⟨by rw [← r.length]; exact z, ?_⟩)
  have hf : H1 s1.heap.objs.size = none := I1.hok.fresh (Nat.le_refl _)
  refine ⟨.ref s1.heap.objs.size, upd H1 s1.heap.objs.size (.lst xs), I1.laid (t' := s1.toks) (fun b u e => Heap.get?_push_of_some _ e) (Nat.le_refl _) ?_, rfl, q _ hf⟩
  exact ⟨z, us, 0, r, Heap.get?_push_size _ rfl⟩
end
/-- a def's promise: the bound arguments in the parameters' order, the heap, the wanted end, the wanted exception -/
abbrev Sp := List V → Hp → VK → XK → Prop
/-- how an exception lies behind a call (file 08 gives it): the callers' frames, abstract heap and state ahead of the call, the wish, the exception, the state -/
abbrev CXT := List Env → Hp → Shared → XK → Value → Shared → Prop
/-- the state at a call -/
structure Env0 (P : Program) (w : World) (K : PySem.W.Frag) (mg : Str → Option Value) (base : Heap) (A : Around) (outer : List Env) (s : Shared) (H : Hp) : Prop where
  frames : A.frames = some outer
  mod : Mod K mg base
  bs : ∀ b o, base.get? b = some o → s.heap.get? b = some o ∧ H b = none
  bsz : base.objs.size ≤ s.heap.objs.size
  funs : s.heap.FunFrames base outer
  frf : ∀ b ∈ frs outer, H b = none
  hok : HOk P w H s.heap
  bare : AllBare s.gens
/-- a call's end -/
def CE (outer : List Env) (P : Program) (w : World) (H : Hp) (s : Shared) (Q : VK) (u : Value) (s' : Shared) : Prop :=
  ∃ v H', s'.os = s.os ∧ AllBare s'.gens ∧ Un (frs outer) [] H H' s.heap s'.heap ∧ HOk P w H' s'.heap ∧ RelV v u ∧ Q v H'
def CR (CX : CXT) (outer : List Env) (P : Program) (w : World) (H : Hp) (s : Shared) (Q : VK) (E : XK) (r : Result) (s' : Shared) : Prop :=
  match r with
  | .ok (.ret u) => CE outer P w H s Q u s'
  | .ok _ => False
  | .error e => CX outer H s E e s'
structure FnOk (P : Program) (w : World) (K : PySem.W.Frag) (mg : Str → Option Value) (base : Heap) (CX : CXT) (k : Nat) (f : Addr) (fd : FuncData) (ps : List Str) (sp : Sp) : Prop where
  len : ∀ vs H Q E, sp vs H Q E → vs.length = ps.length
  run : ∀ (A : Around) (outer : List Env) (s : Shared) (H : Hp) (args : Args) (us : List Value) (vs : List V) (Q : VK) (E : XK), Room k A → Env0 P w K mg base A outer s H → BindsTo s fd args (ps.zip us) → Vals vs us → sp vs H Q E →
    codeAny (model P w) A (.call (.ref f) args) (CR CX outer P w H s Q E) s
theorem FnOk.mono {P : Program} {w : World} {K : PySem.W.Frag} {mg : Str → Option Value} {base : Heap} {CX : CXT} {j k : Nat} {f : Addr} {fd : FuncData} {ps : List Str} {sp : Sp} (F : FnOk P w K mg base CX j f fd ps sp) (h : j ≤ k) :
    FnOk P w K mg base CX k f fd ps sp := ⟨F.len, fun A outer s H args us vs Q E hr => F.run A outer s H args us vs Q E (hr.mono h)⟩
/-- a weaker promise -/
theorem FnOk.imp {P : Program} {w : World} {K : PySem.W.Frag} {mg : Str → Option Value} {base : Heap} {CX : CXT} {k : Nat} {f : Addr} {fd : FuncData} {ps : List Str} {sp sp' : Sp} (F : FnOk P w K mg base CX k f fd ps sp)
    (h : ∀ vs H Q E, sp' vs H Q E → sp vs H Q E) : FnOk P w K mg base CX k f fd ps sp' :=
  ⟨fun vs H Q E q => F.len vs H Q E (h _ _ _ _ q), fun A outer s H args us vs Q E hr he hb hv hs => F.run A outer s H args us vs Q E hr he hb hv (h _ _ _ _ hs)⟩
theorem Env0.in1 {P : Program} {w : World} {K : PySem.W.Frag} {mg : Str → Option Value} {base : Heap} {A : Around} {outer : List Env} {s : Shared} {H : Hp} (e : Env0 P w K mg base A outer s H) :
    Env0 P w K mg base A.in1 outer s H := ⟨e.frames, e.mod, e.bs, e.bsz, e.funs, e.frf, e.hok, e.bare⟩
section
variable {X : Cx} {pins : List (Addr × Obj)} {σ : St} {H : Hp} {s s' : Shared}
/-- from a body: what a callee wants -/
theorem Inv.env0 (I : Inv X pins σ H s) : Env0 X.prog X.w X.K X.mg X.base X.A X.stack s H :=
  ⟨I.ok.frames, I.ok.mod, I.bs, Nat.le_trans I.ok.bsz I.sz, I.stack, I.stkFree, I.hok, I.bare⟩
/-- behind a call -/
theorem Inv.after {Q : VK} {u : Value} (I : Inv X pins σ H s) (h : CE X.stack X.prog X.w H s Q u s') : EP X pins σ Q u s' := by
  obtain ⟨v, H', os, bare, un, hok, r, q⟩ := h
  obtain ⟨hh, g, d, t, os'⟩ := s'
  obtain rfl : os' = s.os := os
  exact ⟨v, H', I.call (h' := hh) (g' := g) (d' := d) (t' := t) (ch := []) un hok bare (fun b z => absurd z (by simp)), r, q⟩
end
/-- f(..): the written arguments, then the defaults dvs; E: what is wanted of an exception -/
def tCall (sp : Sp) (dvs : List V) (E : XK) (t : TA) : TE := fun σ H Q => t σ H fun vs H1 => sp (vs ++ dvs) H1 Q E
/-- how the parameters are bound: us the positional arguments, kw the keywords' values by name, ds the defaults that fill up -/
def Binds (K : PySem.W.Frag) (fd : FuncData) (ps : List Str) (ds : List Value) : Prop :=
  ∀ (s : Shared) (us : List Value), K.In s.heap → (us ++ ds).length = ps.length → BindsTo s fd ⟨us, []⟩ (ps.zip (us ++ ds))
/-- every parameter is given -/
theorem Binds.all {K : PySem.W.Frag} {fd : FuncData} {ps : List Str} (h : ∀ us : List Value, us.length = ps.length → bindArgs fd ⟨us, []⟩ = pure (ps.zip us)) : Binds K fd ps [] := fun s us _ hl => by
  rw [List.append_nil] at hl ⊢
  exact .of_eq (h us hl)
/-- an exception of a callee reaches what this body wants of exceptions -/
def Passes (CX : CXT) (X : Cx) (E : XK) : Prop := ∀ (pins : List (Addr × Obj)) (σ : St) (H : Hp) (s : Shared) (e : Value) (s' : Shared), Inv X pins σ H s → CX X.stack H s E e s' → X.xe e s'
section
variable {X : Cx} {CX : CXT} {k : Nat} {f C : Addr} {fd : FuncData} {ps : List Str} {sp : Sp} {dvs : List V} {ds : List Value} {E : XK} {x m : Str} {p pos apos : Pos} {e o : Expr} {es : List Expr} {ta : TE} {t : TA}
/-- the callee runs -/
theorem run_fn {pins : List (Addr × Obj)} {σ : St} {H : Hp} {s : Shared} {Q : VK} {us : List Value} {vs : List V} (F : FnOk X.prog X.w X.K X.mg X.base CX k f fd ps sp) (hr : Room k X.A) (hb : Binds X.K fd ps ds) (hd : Vals dvs ds) (hx : Passes CX X E)
    (I : Inv X pins σ H s) (r : Vals vs us) (h : sp (vs ++ dvs) H Q E) : wpAny (model X.prog X.w) X.A (call (.ref f) us) (EP X pins σ Q) X.xe s := by
  have r2 : Vals (vs ++ dvs) (us ++ ds) := r.append hd
  have hl : (us ++ ds).length = ps.length := by rw [← r2.length]; exact F.len _ _ _ _ h
  refine wpAny_call (codeAny_mono (F.run X.A X.stack s H ⟨us, []⟩ (us ++ ds) (vs ++ dvs) Q E hr I.env0 (hb s us I.kIn hl) r2 h) fun r s' hq => ?_)
  cases r with
  | error e => exact hx pins σ H s e s' I hq
  | ok fl =>
    cases fl with
    | ret u => exact I.after hq
    | next => exact False.elim hq
    | brk => exact False.elim hq
    | cont => exact False.elim hq
theorem pe_call (F : FnOk X.prog X.w X.K X.mg X.base CX k f fd ps sp) (hr : Room k X.A) (hg : Gl X x) (hm : X.mg x = some (.ref f)) (hk : PySem.W.keepIn X.K (.ref f) = true) (hb : Binds X.K fd ps ds) (hd : Vals dvs ds) (hx : Passes CX X E)
    (ha : PA X (e :: es) t) (hdb : (x == ("__debug__" : Str)) = false := by decide) (he : starEach (e :: es) X.env = (false, eval e X.env) :: starEach es X.env := by rfl) (hpl : (backTo pos (starEach es X.env)).any (·.1) = false := by rfl) :
    PE X (.Call (.Name x p) (e :: es) [] pos) (tCall sp dvs E t) := by
  intro pins s σ H Q I h
  refine wpAny_Call_Name_kw (ld_glob I hg hm ?_ hdb)
  refine PySem.W.callWith_K (h₀ := X.base) I.ok.mod.kin hk (thn (ha pos pins s σ H _ I h) fun us s1 ⟨vs, H1, I1, r, q⟩ => ⟨I1.kIn, ?_⟩) he hpl
  exact run_fn F hr hb hd hx I1 r q
end
section
variable {X : Cx} {CX : CXT} {k : Nat} {f C : Addr} {fd : FuncData} {ps ks : List Str} {sp : Sp} {E : XK} {x m : Str} {p pos apos kpos : Pos} {e o : Expr} {es : List Expr} {kws : List Keyword} {te ta : TE} {t tk : TA} {nm : Option Str}
variable {g : List Value → List Value → List Value} {gV : List V → List V → List V}
end
/-- names: the parameters first -/
structure FnScope (N P : List Str) (sc : Scope) : Prop where
  kind : sc.kind = .function
  co : sc.isCoroutine = false
  gen : sc.isGenerator = false
  nd : N.Nodup
  pre : N.take P.length = P
  par : ∀ x ∈ P, sc.names.lookup x = some .local ∨ sc.names.lookup x = some .cell
  nofree : ∀ y ∈ sc.names, y.2 ≠ .free
theorem bindL_out {kindOf : Str → Option NameKind} {x : Str} : ∀ {binds : List (Str × Value)} {m : Str → Option Value}, (∀ v, (x, v) ∉ binds) → bindL kindOf binds m x = m x
  | [], _, _ => rfl
  | (n, v) :: r, m, h => by
    unfold bindL
    rw [bindL_out fun w hw => h w (List.mem_cons_of_mem _ hw)]
    split
    · have : x ≠ n := by rintro rfl; exact h v List.mem_cons_self
      simp [this]
    · rfl
theorem bindC_out {kindOf : Str → Option NameKind} {x : Str} : ∀ {binds : List (Str × Value)} {m : Str → Option Value}, (∀ v, (x, v) ∉ binds) → bindC kindOf binds m x = m x
  | [], _, _ => rfl
  | (n, v) :: r, m, h => by
    unfold bindC
    rw [bindC_out fun w hw => h w (List.mem_cons_of_mem _ hw)]
    split
    · rfl
    · have : x ≠ n := by rintro rfl; exact h v List.mem_cons_self
      simp [this]
theorem bindL_get {kindOf : Str → Option NameKind} {x : Str} {v : Value} : ∀ {P : List Str} {vs : List Value} {i : Nat} {m : Str → Option Value}, P.Nodup → P[i]? = some x → vs[i]? = some v → kindOf x = some .local →
    bindL kindOf (P.zip vs) m x = some v
  | [], _, _, _, _, h, _, _ => by simp at h
  | _ :: _, [], _, _, _, _, h, _ => by simp at h
  | p :: P, w :: vs, 0, m, nd, h1, h2, hk => by
    simp at h1 h2; subst h1; subst h2
    show bindL kindOf ((p, w) :: P.zip vs) m p = _
    unfold bindL
    rw [bindL_out fun v hv => (List.nodup_cons.mp nd).1 (List.of_mem_zip hv).1, if_pos hk]
    simp
  | p :: P, w :: vs, i + 1, m, nd, h1, h2, hk => by
    show bindL kindOf ((p, w) :: P.zip vs) m x = _
    unfold bindL
    exact bindL_get (i := i) (List.nodup_cons.mp nd).2 (by simpa using h1) (by simpa using h2) hk
theorem bindC_get {kindOf : Str → Option NameKind} {x : Str} {v : Value} : ∀ {P : List Str} {vs : List Value} {i : Nat} {m : Str → Option Value}, P.Nodup → P[i]? = some x → vs[i]? = some v → kindOf x ≠ some .local →
    bindC kindOf (P.zip vs) m x = some v
  | [], _, _, _, _, h, _, _ => by simp at h
  | _ :: _, [], _, _, _, _, h, _ => by simp at h
  | p :: P, w :: vs, 0, m, nd, h1, h2, hk => by
    simp at h1 h2; subst h1; subst h2
    show bindC kindOf ((p, w) :: P.zip vs) m p = _
    unfold bindC
    rw [bindC_out fun v hv => (List.nodup_cons.mp nd).1 (List.of_mem_zip hv).1, if_neg hk]
    simp
  | p :: P, w :: vs, i + 1, m, nd, h1, h2, hk => by
    show bindC kindOf ((p, w) :: P.zip vs) m x = _
    unfold bindC
    exact bindC_get (i := i) (List.nodup_cons.mp nd).2 (by simpa using h1) (by simpa using h2) hk
/-- the names' values at the entry -/
def start (N : List Str) (vs : List V) : St := vs.map some ++ List.replicate (N.length - vs.length) none
/-- the context of a def's body, at its entry; an exception leaves the frame, then lies as CX says -/
def cxOf (CX : CXT) (P : Program) (w : World) (K : PySem.W.Frag) (mg : Str → Option Value) (base : Heap) (N : List Str) (qual : Str) (scope : Scope) (f : Addr) (cd : Value) (A : Around) (outer : List Env) (s : Shared) (H : Hp) (E : XK) : Cx where
  prog := P
  w := w
  K := K
  mg := mg
  base := base
  A := A.deeper (envOfC qual scope s.heap.objs.size f cd)
  N := N
  s_0 := s
  H_0 := H
  env := envOfC qual scope s.heap.objs.size f cd
  outer := outer
  stack := envOfC qual scope s.heap.objs.size f cd :: outer
  ex := []
  calm := true
  fn := fun _ => true
  pn := []
  xe := fun e s' => wpAny (model P w) (A.deeper (envOfC qual scope s.heap.objs.size f cd)) (leaving (envOfC qual scope s.heap.objs.size f cd) e) (fun _ s'' => CX outer H s E e s'') (fun e' s'' => CX outer H s E e' s'') s'
theorem cell_has {sc : Scope} {n : Nat} {x : Str} (h : sc.names.lookup x = some .cell) : ∃ c, (cellsFrom n sc.names []).lookup x = some c := by
  have q := PySem.W.cellsFrom_some sc.names n [] (.inl h)
  exact Option.isSome_iff_exists.mp q
theorem inv_start {CX : CXT} {P : Program} {w : World} {K : PySem.W.Frag} {mg : Str → Option Value} {base : Heap} {N ps : List Str} {qual : Str} {scope : Scope} {f : Addr} {cd : Value} {A : Around} {outer : List Env} {s s1 : Shared} {H : Hp} {E : XK} {us : List Value} {vs : List V}
    (S : FnScope N ps scope) (hd : A.handled = none) (e0 : Env0 P w K mg base A outer s H) (hl : vs.length = ps.length) (r : Vals vs us)
    (x : InCallC s s.heap.objs.size (bindL (envOfC qual scope s.heap.objs.size f cd).kindOf (ps.zip us) fun _ => none) (cellsFrom (s.heap.objs.size + 1) scope.names []) (bindC (envOfC qual scope s.heap.objs.size f cd).kindOf (ps.zip us) fun _ => none) s1) :
    Inv (cxOf CX P w K mg base N qual scope f cd A outer s H E) [] (start N vs) H s1 := by
  have hpl : ps.length ≤ N.length := by have := congrArg List.length S.pre; rw [List.length_take] at this; omega
  obtain ⟨h1, tk, rfl, hk⟩ := x.done
  have noA : ∀ b : Addr, b ∉ (cxOf CX P w K mg base N qual scope f cd A outer s H E).ex := fun b z => absurd (show b ∈ ([] : List Addr) from z) (by simp)
  refine ⟨⟨e0.mod, S.kind, rfl, rfl, Nat.le_refl _, fun y z c h1 h2 => ?_, fun y hy => ?_, fun y c _ h => ?_, fun _ => hd, Around.frames_deeper e0.frames, .inr ⟨rfl, rfl⟩, fun b z => absurd z (noA b), e0.bs, e0.bsz, fun b _ _ => noA b, fun b z => absurd z (noA b), e0.funs, e0.frf⟩,
    rfl, e0.bare, Un.kept hk, ⟨_, x.toInCall.ns, fun i y v h1 h2 h3 => ?_⟩, fun y c h => ⟨_, x.cell y c h⟩, e0.hok.fresh (Nat.le_refl _), fun y c h => ?_, fun p hp => absurd (show p ∈ ([] : List (Addr × Obj)) from hp) (by simp), e0.hok.kept hk, ?_⟩
  · exact name_of_addr x.apart (PySem.mem_of_lookup h1) (PySem.mem_of_lookup h2)
  · have hy : scope.names.lookup y = some .cell ∨ scope.names.lookup y = some .free := hy
    rcases hy with hy | hy
    · exact cell_has hy
    · exact absurd rfl (S.nofree _ (PySem.mem_of_lookup hy))
  · exact Nat.le_of_lt (x.above y c (PySem.mem_of_lookup h))
  · have hi : i < vs.length := by
      unfold start at h2
      by_cases hi : i < vs.length
      · exact hi
      · rw [List.getElem?_append_right (by simpa using hi)] at h2
        rw [List.getElem?_replicate] at h2
        split at h2 <;> cases h2
    have ha : vs[i]? = some v := by
      unfold start at h2
      rw [List.getElem?_append_left (by simpa using hi), List.getElem?_map] at h2
      cases e : vs[i]? with
      | none => rw [e] at h2; cases h2
      | some a => rw [e] at h2; cases h2; rfl
    obtain ⟨u, hu, rv⟩ := r.get ha
    have hp : ps[i]? = some y := by
      rw [← S.pre, List.getElem?_take_of_lt (by omega)]; exact h1
    have ndP : ps.Nodup := by rw [← S.pre]; exact S.nd.sublist (List.take_sublist _ _)
    refine ⟨u, rv, ?_⟩
    rcases S.par y (List.mem_of_getElem? hp) with k | k
    · exact .inl ⟨k, bindL_get ndP hp hu k⟩
    · obtain ⟨c, e⟩ := cell_has (n := s.heap.objs.size + 1) k
      refine .inr ⟨.inl k, c, e, ?_⟩
      have q := x.cell y c e
      rw [bindC_get ndP hp hu (by show scope.names.lookup y ≠ _; rw [k]; decide)] at q
      exact q
  · exact e0.hok.fresh (Nat.le_of_lt (x.above y c (PySem.mem_of_lookup h)))
  · unfold start
    show _ = N.length
    rw [List.length_append, List.length_map, List.length_replicate]
    omega
/-- THE RULE: a def (or a method) of the text, by its body. The body's reading t is chosen for each entry; it is run at the parameters' values -/
theorem fn_of {CX : CXT} {P : Program} {w : World} {K : PySem.W.Frag} {mg : Str → Option Value} {base : Heap} {k : Nat} {f : Addr} {name qual : Str} {params : Arguments} {body : List Stmt} {scope : Scope} {dV kV doc pm cdv ct oc : Value} {an od : Option Addr}
    {osl : Array (Option Value)} {N ps : List Str} {sp : Sp} (lk : K.lookup f = some ⟨oc, od, .func (PySem.W.fnOf name qual params body scope dV kV doc pm an cdv ct), osl⟩) (hcd : PySem.W.codeIn K cdv qual = true) (S : FnScope N ps scope)
    (len : ∀ vs H Q E, sp vs H Q E → vs.length = ps.length)
    (hbody : ∀ (A : Around) (outer : List Env) (s : Shared) (H : Hp) (vs : List V) (Q : VK) (E : XK), Room k (A.deeper (envOfC qual scope s.heap.objs.size f cdv)) → sp vs H Q E →
      ∃ t, PSs (cxOf CX P w K mg base N qual scope f cdv A outer s H E) body t ∧ t { nx := fun _ H' => Q .non H', rt := Q } (start N vs) H) :
    FnOk P w K mg base CX (k + 1) f (PySem.W.fnOf name qual params body scope dV kV doc pm an cdv ct) ps sp := by
  refine ⟨len, fun A outer s H args us vs Q E hr e0 hb r hsp => ?_⟩
  have hl := len _ _ _ _ hsp
  have KX : K.In s.heap := e0.mod.kin.keeps fun b o e => (e0.bs b o e).1
  have lim : s.heap.NoLimit := e0.mod.nolimit.keeps fun b o e => (e0.bs b o e).1
  have hkind : ∀ y ∈ ps.zip us, scope.names.lookup y.1 = some .local ∨ (scope.names.lookup y.1 = some .cell ∧ ((cellsFrom (s.heap.objs.size + 1) scope.names []).lookup y.1).isSome = true) := fun ⟨n, v⟩ hy => by
    rcases S.par n (List.of_mem_zip hy).1 with q | q
    · exact .inl q
    · exact .inr ⟨q, PySem.W.cellsFrom_some _ _ _ (.inl q)⟩
  refine codeAny_call_function hr.depth (KX _ _ lk) rfl S.co S.gen rfl (PySem.W.codeRec_of KX hcd) (hb _ _ _ _ ?_)
  refine wpAny_newFunctionEnv_cells S.kind hkind fun env he s1 x => ?_
  subst he
  refine ⟨lim.keeps x.toInCall.keep, codeAny_func ?_⟩
  obtain ⟨t, ht, hq⟩ := hbody A outer s H vs Q E (hr.deeper _) hsp
  have I : Inv (cxOf CX P w K mg base N qual scope f cdv A outer s H E) [] (start N vs) H s1 := inv_start S hr.hd e0 hl r x
  refine wpAny_mono (ht [] s1 (start N vs) H _ I hq) (fun fl s' hs => ?_) fun e s' hs => hs
  have fin : ∀ {σ' : St} {H' : Hp} {v : V} {u : Value}, Inv (cxOf CX P w K mg base N qual scope f cdv A outer s H E) [] σ' H' s' → RelV v u → Q v H' → CE outer P w H s Q u s' :=
    fun {σ' H' v u} J rv q => ⟨v, H', J.os, J.bare, J.base, J.hok, rv, q⟩
  cases fl with
  | ret u =>
    obtain ⟨v, σ', H', J, rv, q⟩ := hs
    exact fin J rv q
  | next =>
    obtain ⟨σ', H', J, q⟩ := hs
    exact fin (v := V.non) (u := Value.none) J rfl q
  | brk =>
    obtain ⟨_, _, _, q⟩ := hs
    exact False.elim q
  | cont =>
    obtain ⟨_, _, _, q⟩ := hs
    exact False.elim q
end L2
namespace L2
open PySem PySem.Spec PyProof.Rows
section
variable {X : Cx} {x : Str} {p pos : Pos} {e : Expr} {es : List Expr} {t : TA} {id T : String} {r : List V → Hp → VK → Prop}
def tCB (r : List V → Hp → VK → Prop) (t : TA) : TE := fun σ H Q => t σ H fun vs H1 => r vs H1 Q
/-- f(e, ..), f a built-in function -/
theorem pe_callB (hc : CallR X (.builtin id) r) (hg : Gl X x) (hm : X.mg x = none) (hv : bootBuiltins x = some (.builtin id)) (ha : PA X (e :: es) t) (hn : x ≠ "__name__" := by decide) (hdb : (x == ("__debug__" : Str)) = false := by decide)
    (he : starEach (e :: es) X.env = (false, eval e X.env) :: starEach es X.env := by rfl) (hpl : (backTo pos (starEach es X.env)).any (·.1) = false := by rfl) : PE X (.Call (.Name x p) (e :: es) [] pos) (tCB r t) := by
  intro pins s σ H Q I h
  refine wpAny_Call_Name_kw (ld_blt I hg hm hv ?_ hn hdb)
  exact PyProof.Rows.callWith_builtin1 (thn (ha pos pins s σ H _ I h) fun us s1 ⟨vs, H1, I1, r1, q1⟩ => hc pins s1 σ H1 vs us Q I1 r1 q1) he hpl
/-- T(e, ..), T a built-in type -/
theorem pe_callTy (hc : CallR X (.type T) r) (hg : Gl X x) (hm : X.mg x = none) (hv : bootBuiltins x = some (.type T)) (ha : PA X (e :: es) t) (hn : x ≠ "__name__" := by decide) (hdb : (x == ("__debug__" : Str)) = false := by decide)
    (he : starEach (e :: es) X.env = (false, eval e X.env) :: starEach es X.env := by rfl) (hpl : (backTo pos (starEach es X.env)).any (·.1) = false := by rfl) : PE X (.Call (.Name x p) (e :: es) [] pos) (tCB r t) := by
  intro pins s σ H Q I h
  refine wpAny_Call_Name_kw (ld_blt I hg hm hv ?_ hn hdb)
  exact PyProof.Rows.callWith_type1 (thn (ha pos pins s σ H _ I h) fun us s1 ⟨vs, H1, I1, r1, q1⟩ => hc pins s1 σ H1 vs us Q I1 r1 q1) he hpl
end
end L2
namespace HT
open PySem PyProof.Rows
section
open PySem.SeqAt
open PySem.AutoSeq1 (wpAny_loadPart')
open PySem.MeetsSeq PySem.MeetsSeq2 PySem.MeetsSeq3
end
section
variable {prog : Program} {w : World} {A : Around} {E : Value → Shared → Prop} {s : Shared}
/-- a slice's bound as a place among n (d where it is left out) -/
def sIx (n d : Nat) : Option Int → Nat
  | none => d
  | some v => if v < 0 then (v + (n : Int)).toNat else min v.toNat n
end
end HT
namespace L2
open PySem PySem.Spec PyProof.Rows
abbrev TO := St → Hp → (Option Int → Hp → Prop) → Prop
/-- a slice's part (left out, or an int) -/
def PO (X : Cx) (e : Option Expr) (t : TO) : Prop :=
  ∀ (pins : List (Addr × Obj)) (s : Shared) (σ : St) (H : Hp) (Q : Option Int → Hp → Prop), Inv X pins σ H s → t σ H Q →
    wpAny (model X.prog X.w) X.A (evalPart e X.env) (fun u s' => ∃ o H', Inv X pins σ H' s' ∧ IsPart u o ∧ Q o H') X.xe s
def tNoPart : TO := fun _ H Q => Q none H
def tPart (t : TE) : TO := fun σ H Q => t σ H fun x H1 => ∃ i, x = .int i ∧ Q (some i) H1
section
variable {X : Cx} {e : Expr} {te : TE} {lo hi : Option Expr} {tl th : TO} {pos p2 : Pos}
theorem po_none : PO X none tNoPart := by
  intro pins s σ H Q I h
  rw [evalPart_none]
  exact wpAny_pure ⟨none, H, I, .none, h⟩
theorem po_some (h : PE X e te) : PO X (some e) (tPart te) := by
  intro pins s σ H Q I hw
  rw [evalPart_some]
  refine thn (h pins s σ H _ I hw) fun u s1 ⟨x, H1, I1, r1, q1⟩ => ?_
  obtain ⟨i, rfl, q⟩ := q1
  obtain ⟨t, rfl⟩ := r1
  exact ⟨some i, H1, I1, .int i t, q⟩
/-- what a slice of a value is, by values: the slice object stands at sl -/
def SlR (X : Cx) (r : V → Option Int → Option Int → Hp → VK → Prop) : Prop :=
  ∀ (pins : List (Addr × Obj)) (s : Shared) (σ : St) (H : Hp) (x : V) (v vl vu : Value) (lo hi : Option Int) (sl : Addr) (Q : VK), Inv X pins σ H s → RelV x v → s.heap.IsSliceOf sl vl vu .none → IsPart vl lo → IsPart vu hi → r x lo hi H Q →
    ∃ T id, typeLookup (.type T) "__getitem__" = pure (some (.builtin id)) ∧ s.TypeIs v T ∧ wpAny (model X.prog X.w) X.A (getItem v (.ref sl)) (EP X pins σ Q) X.xe s
theorem SlR.or {r r' : V → Option Int → Option Int → Hp → VK → Prop} (h : SlR X r) (h' : SlR X r') : SlR X (fun x lo hi H Q => r x lo hi H Q ∨ r' x lo hi H Q) := by
  intro pins s σ H x v vl vu lo hi sl Q I rx hs pl pu q
  rcases q with q | q
  · exact h pins s σ H x v vl vu lo hi sl Q I rx hs pl pu q
  · exact h' pins s σ H x v vl vu lo hi sl Q I rx hs pl pu q
def tSl (r : V → Option Int → Option Int → Hp → VK → Prop) (te : TE) (tl th : TO) : TE := fun σ H Q => te σ H fun x H1 => tl σ H1 fun l H2 => th σ H2 fun u H3 => r x l u H3 Q
/-- a[lo:hi], any a -/
theorem pe_slice {r : V → Option Int → Option Int → Hp → VK → Prop} (hr : SlR X r) (he : PE X e te) (hl : PO X lo tl) (hu : PO X hi th) : PE X (.Subscript e (.Slice lo hi none p2) pos) (tSl r te tl th) := by
  intro pins s σ H Q I h
  refine Subscript_ (thn (he pins s σ H _ I h) fun v s1 ⟨x, H1, I1, r1, q1⟩ => ?_)
  refine wpAny_Slice (thn (hl pins s1 σ H1 _ I1 q1) fun vl s2 ⟨l, H2, I2, pl, q2⟩ => thn (hu pins s2 σ H2 _ I2 q2) fun vu s3 ⟨u, H3, I3, pu, q3⟩ => ?_)
  rw [evalPart_none]
  refine wpAny_pure ?_
  have I4 : Inv X pins σ H3 { s3 with heap := s3.heap.push { cls := .type "slice", data := .fields #[vl, vu, .none] } } := I3.kept (t' := s3.toks) fun b ob q => Heap.get?_push_of_some _ q
  obtain ⟨T, id, hT, ht, hg⟩ := hr pins { s3 with heap := s3.heap.push { cls := .type "slice", data := .fields #[vl, vu, .none] } } σ H3 x v vl vu l u s3.heap.objs.size Q I4 r1 (Heap.IsSliceOf.new ..) pl pu q3
  show wpAny (model X.prog X.w) X.A (subscriptTail e (.Slice lo hi none p2) v (.ref s3.heap.objs.size)) (EP X pins σ Q) X.xe { s3 with heap := s3.heap.push { cls := .type "slice", data := .fields #[vl, vu, .none] } }
  exact tail_any (ops := [.ref s3.heap.objs.size, v]) ht hT hg (by with_unfolding_all rfl)
/-- the items of xs[lo:hi] -/
def cutV (xs : List V) (lo hi : Option Int) : List V := (xs.drop (HT.sIx xs.length 0 lo)).take (HT.sIx xs.length xs.length hi - HT.sIx xs.length 0 lo)
theorem cutV_length (xs : List V) (lo hi : Option Int) : (cutV xs lo hi).length ≤ xs.length := by
  unfold cutV
  rw [List.length_take, List.length_drop]
  omega
end
end L2
namespace L2
open PySem PySem.Spec PyProof.Rows
/-- the place that an index of any sign means -/
def ixN (n : Nat) (i : Int) : Option Nat := if 0 ≤ i then (if i < n then some i.toNat else none) else if -(n : Int) ≤ i then some (i + n).toNat else none
def atI {α : Type} (xs : List α) (i : Int) : Option α := (ixN xs.length i).bind fun j => xs[j]?
theorem ixN_seq {n : Nat} {i : Int} {j : Nat} (h : ixN n i = some j) : seqIndex? i n = some j ∧ j < n ∧ -(n : Int) ≤ i ∧ i < n := by
  unfold ixN at h
  by_cases h0 : 0 ≤ i
  · rw [if_pos h0] at h
    by_cases h1 : i < n
    · rw [if_pos h1] at h
      have e : i.toNat = j := Option.some.inj h
      exact ⟨by rw [seqIndex_of h0 h1, e], by omega, by omega, h1⟩
    · rw [if_neg h1] at h; cases h
  · rw [if_neg h0] at h
    by_cases h1 : -(n : Int) ≤ i
    · rw [if_pos h1] at h
      have e : (i + n).toNat = j := Option.some.inj h
      exact ⟨by rw [seqIndex_neg (by omega) h1, e], by omega, h1, by omega⟩
    · rw [if_neg h1] at h; cases h
theorem atI_get {α : Type} {xs : List α} {i : Int} {v : α} (h : atI xs i = some v) : ∃ j, seqIndex? i xs.length = some j ∧ xs[j]? = some v ∧ j < xs.length ∧ -(xs.length : Int) ≤ i ∧ i < xs.length := by
  unfold atI at h
  cases e : ixN xs.length i with
  | none => rw [e] at h; cases h
  | some j =>
    rw [e] at h
    obtain ⟨h1, h2, h3, h4⟩ := ixN_seq e
    exact ⟨j, h1, h, h2, h3, h4⟩
theorem atI_nat {α : Type} {xs : List α} {j : Nat} {v : α} (h : xs[j]? = some v) : atI xs (j : Int) = some v := by
  have hj : j < xs.length := (List.getElem?_eq_some_iff.mp h).1
  have e : ixN xs.length (j : Int) = some j := by
    unfold ixN
    rw [if_pos (by omega), if_pos (by omega)]; simp
  unfold atI; rw [e]; exact h
theorem atI_last {α : Type} (xs : List α) (v : α) : atI (xs ++ [v]) (-1) = some v := by
  have hl : (xs ++ [v]).length = xs.length + 1 := by simp
  have e : ixN (xs ++ [v]).length (-1) = some xs.length := by
    unfold ixN
    rw [hl, if_neg (by decide), if_pos (by omega)]
    congr 1
    omega
  unfold atI
  rw [e]
  show (xs ++ [v])[xs.length]? = some v
  simp
/-- what stands as an index of a plain subscript -/
def PlainIx (b : Expr) : Prop := ∀ o i, subscripted b false o i = operate [o, i] (getItem o i)
/-- a subscript by values -/
def IxR (X : Cx) (r : R2) : Prop :=
  ∀ (value slice : Expr) (pins : List (Addr × Obj)) (s : Shared) (σ : St) (H : Hp) (x y : V) (v u : Value) (Q : VK), Inv X pins σ H s → RelV x v → RelV y u → r x y H Q →
    subscripted slice false v u = operate [v, u] (getItem v u) → wpAny (model X.prog X.w) X.A (subscriptTail value slice v u) (EP X pins σ Q) X.xe s
/-- a call of a builtin's method by values: the receiver, the arguments -/
def MtR (X : Cx) (id : String) (r : V → List V → Hp → VK → Prop) : Prop :=
  ∀ (pins : List (Addr × Obj)) (s : Shared) (σ : St) (H : Hp) (x : V) (xs : List V) (v : Value) (us : List Value) (Q : VK), Inv X pins σ H s → RelV x v → Vals xs us → r x xs H Q →
    wpAny (model X.prog X.w) X.A (call (.builtin id) (v :: us)) (EP X pins σ Q) X.xe s
section
variable {X : Cx} {a b : Expr} {ta tb : TE} {pos : Pos}
theorem IxR.or {r r' : R2} (h : IxR X r) (h' : IxR X r') : IxR X (fun x y H Q => r x y H Q ∨ r' x y H Q) := by
  intro value slice pins s σ H x y v u Q I rx ry q hs
  rcases q with q | q
  · exact h value slice pins s σ H x y v u Q I rx ry q hs
  · exact h' value slice pins s σ H x y v u Q I rx ry q hs
theorem MtR.or {id : String} {r r' : V → List V → Hp → VK → Prop} (h : MtR X id r) (h' : MtR X id r') : MtR X id (fun x xs H Q => r x xs H Q ∨ r' x xs H Q) := by
  intro pins s σ H x xs v us Q I rx rs q
  rcases q with q | q
  · exact h pins s σ H x xs v us Q I rx rs q
  · exact h' pins s σ H x xs v us Q I rx rs q
/-- a[b] -/
theorem pe_ix {r : R2} (hr : IxR X r) (ha : PE X a ta) (hb : PE X b tb) (hs : PlainIx b) : PE X (.Subscript a b pos) (tOp r ta tb) := by
  intro pins s σ H Q I h
  exact Subscript_ (binT ha hb I h fun v u s2 x y H2 I2 rx ry q => hr a b pins s2 σ H2 x y v u Q I2 rx ry q (hs _ _))
def rIxL (K : PySem.W.Frag) : R2 := fun x y H Q => ∃ p xs i v, x = .ref p ∧ y = .int i ∧ SqL K H p xs ∧ atI xs i = some v ∧ Q v H
def rIxT (K : PySem.W.Frag) : R2 := fun x y H Q => ∃ p xs i v, x = .ref p ∧ y = .int i ∧ SqT K H p xs ∧ atI xs i = some v ∧ Q v H
theorem ix_list : IxR X (rIxL X.K) := by
  intro value slice pins s σ H x y v u Q I rx ry h hs
  obtain ⟨p, xs, i, z, rfl, rfl, hq, he, q⟩ := h
  cases rx
  obtain ⟨t, rfl⟩ := ry
  obtain ⟨its, r, pl, hz⟩ := I.list hq
  obtain ⟨j, h1, h2, h3, h4, h5⟩ := atI_get he
  obtain ⟨w, ew, rw'⟩ := r.get h2
  have hl := r.length
  have hn := line63
  have fin : EP X pins σ Q w s := ⟨z, H, I, rw', q⟩
  by_cases h0 : 0 ≤ i
  · have hj : i.toNat = j := by
      rw [seqIndex_of h0 h5] at h1
      exact Option.some.inj h1
    exact item_listR pl.isList h0 (by omega) (by rw [hj]; simpa using ew) fin hs
  · have hj : (i + (its.toArray.size : Int)).toNat = j := by
      rw [seqIndex_neg (by omega) h4] at h1
      rw [List.size_toArray, ← hl]
      exact Option.some.inj h1
    exact subscriptTail_builtinR (x := w) pl.isList.typeIs slot_list_getitem.lookup
      (wpAny_getItem_list_neg (Q := fun r s' => r = w ∧ EP X pins σ Q r s') pl.isList (by omega) (by rw [List.size_toArray] <;> omega) (by omega) (by rw [hj]; simpa using ew) ⟨rfl, fin⟩) hs
theorem ix_tup : IxR X (rIxT X.K) := by
  intro value slice pins s σ H x y v u Q I rx ry h hs
  obtain ⟨p, xs, i, z, rfl, rfl, hq, he, q⟩ := h
  cases rx
  obtain ⟨t, rfl⟩ := ry
  obtain ⟨its, r, pl, hz⟩ := I.tuple hq
  obtain ⟨j, h1, h2, h3, h4, h5⟩ := atI_get he
  obtain ⟨w, ew, rw'⟩ := r.get h2
  have hl := r.length
  have hn := line63
  have fin : EP X pins σ Q w s := ⟨z, H, I, rw', q⟩
  exact subscriptTail_builtinR (x := w) pl.typeIs slot_tuple_getitem.lookup
    (getItem_tuple (j := j) (Q := fun r s' => r = w ∧ EP X pins σ Q r s') pl (by omega) (by omega) (by rw [List.size_toArray, ← hl]; exact h1) (by simpa using ew) ⟨rfl, fin⟩) hs
theorem Inv.lst {pins : List (Addr × Obj)} {σ : St} {H : Hp} {s : Shared} {p : Addr} {xs : List V} (I : Inv X pins σ H s) (h : H p = some (.lst xs)) :
    ∃ (its : List Value) (n : Nat), Vals xs its ∧ s.heap.get? p = some { cls := .type "list", data := .seq its.toArray n } ∧ xs.length ≤ sizeLine := by
  obtain ⟨z, its, n, r, e⟩ := I.hok p _ h
  exact ⟨its, n, r, e, z⟩
theorem slice_bounds (lo hi : Option Int) (n : Nat) : (sliceBounds lo hi none n).1 = ((HT.sIx n 0 lo : Nat) : Int) ∧ (sliceBounds lo hi none n).2.1 = ((HT.sIx n n hi : Nat) : Int) ∧ (sliceBounds lo hi none n).2.2 = 1 := by
  refine ⟨?_, ?_, rfl⟩
  · cases lo with
    | none => simp [sliceBounds, HT.sIx]
    | some i =>
      simp only [sliceBounds, HT.sIx, Option.getD_none, show (1 : Int) > 0 by decide, if_true]
      by_cases h : i < 0
      · simp only [h, if_true] <;> omega
      · simp only [h, if_false] <;> omega
  · cases hi with
    | none => simp [sliceBounds, HT.sIx]
    | some i =>
      simp only [sliceBounds, HT.sIx, Option.getD_none, show (1 : Int) > 0 by decide, if_true]
      by_cases h : i < 0
      · simp only [h, if_true] <;> omega
      · simp only [h, if_false] <;> omega
theorem slicePick_cut (its : List Value) (lo hi : Option Int) : slicePick its.toArray lo hi none = ((its.drop (HT.sIx its.length 0 lo)).take (HT.sIx its.length its.length hi - HT.sIx its.length 0 lo)).toArray := by
  obtain ⟨h1, h2, h3⟩ := slice_bounds lo hi its.toArray.size
  unfold slicePick
  rw [h1, h2, h3]
  simp only [sliceRange_one, pick_run, List.size_toArray] <;> rfl
/-- xs[lo:hi] of a list: a new list -/
def rSlL (K : PySem.W.Frag) : V → Option Int → Option Int → Hp → VK → Prop := fun x lo hi H Q => ∃ a xs, x = .ref a ∧ SqL K H a xs ∧ ∀ p, H p = none → Q (.ref p) (upd H p (.lst (cutV xs lo hi)))
theorem sl_list : SlR X (rSlL X.K) := by
  intro pins s σ H x v vl vu lo hi sl Q I rx hs pl pu h
  obtain ⟨a, xs, rfl, hx, q⟩ := h
  cases rx
  obtain ⟨its, r, ht, hz⟩ := I.list hx
  have hlen := r.length
  refine ⟨"list", _, slot_list_getitem.lookup, ht.isList.typeIs, ?_⟩
  refine wpAny_getItem_list_slice ht.isList hs pl pu .none (by simp) ?_ (by rw [List.size_toArray] <;> omega)
  rw [slicePick_cut, ← hlen]
  refine ⟨.ref s.heap.objs.size, _, I.laid (t' := s.toks) (o := .lst (cutV xs lo hi)) (fun b ob q => Heap.get?_push_of_some _ q) (Nat.le_refl _) ?_, rfl, q _ (I.hok.fresh (Nat.le_refl _))⟩
  exact ⟨Nat.le_trans (cutV_length xs lo hi) hz, _, 0, (r.drop (HT.sIx xs.length 0 lo)).take (HT.sIx xs.length xs.length hi - HT.sIx xs.length 0 lo), Heap.get?_push_size _ rfl⟩
theorem call_len_seq : CallR X (.builtin "len") (fun xs H Q => ∃ p ys, xs = [.ref p] ∧ (SqL X.K H p ys ∨ SqT X.K H p ys) ∧ Q (.int ys.length) H) := by
  intro pins s σ H xs us Q I r h
  obtain ⟨p, ys, rfl, hq, q⟩ := h
  obtain ⟨u, rfl, rx⟩ := vals1 r
  cases rx
  have hn := line63
  rcases hq with hq | hq
  · obtain ⟨its, r', pl, hz⟩ := I.list hq
    have hlen := r'.length
    exact Calls.call_len_list pl.isList (by simp only [List.size_toArray] <;> omega) ⟨.int ys.length, H, I.tok _, ⟨s.toks + 1, by rw [List.size_toArray, hlen]⟩, q⟩
  · obtain ⟨its, r', pl, hz⟩ := I.tuple hq
    have hlen := r'.length
    exact len_tuple pl (by simp only [List.size_toArray] <;> omega) ⟨.int ys.length, H, I.tok _, ⟨s.toks + 1, by rw [List.size_toArray, hlen]⟩, q⟩
theorem CallR.or {f : Value} {r r' : List V → Hp → VK → Prop} (h : CallR X f r) (h' : CallR X f r') : CallR X f (fun xs H Q => r xs H Q ∨ r' xs H Q) := by
  intro pins s σ H xs us Q I rs q
  rcases q with q | q
  · exact h pins s σ H xs us Q I rs q
  · exact h' pins s σ H xs us Q I rs q
theorem call_list_of : CallR X (.type "list") (fun xs H Q => ∃ p ys, xs = [.ref p] ∧ (SqL X.K H p ys ∨ SqT X.K H p ys) ∧ ∀ l, H l = none → Q (.ref l) (upd H l (.lst ys))) := by
  intro pins s σ H xs us Q I r h
  obtain ⟨p, ys, rfl, hq, q⟩ := h
  obtain ⟨u, rfl, rx⟩ := vals1 r
  cases rx
  have fin : ∀ (its : List Value), Vals ys its → ys.length ≤ sizeLine → ∀ (h' : Heap) (c' : Nat), (∀ b o', s.heap.get? b = some o' → h'.get? b = some o') →
      h'.get? s.heap.objs.size = some { cls := .type "list", dict := none, data := .seq its.toArray c', slots := #[] } → EP X pins σ Q (.ref s.heap.objs.size) { s with heap := h' } := fun its r' hz h' c' kp e =>
    ⟨.ref s.heap.objs.size, _, I.laid (t' := s.toks) kp (Nat.le_refl _) (show ObjOk X.prog X.w _ h' _ (.lst ys) from ⟨hz, its, c', r', e⟩), rfl, q _ (I.hok.fresh (Nat.le_refl _))⟩
  rcases hq with hq | hq
  · obtain ⟨its, r', pl, hz⟩ := I.list hq
    have hlen := r'.length
    obtain ⟨o, ho, hc, n, hd⟩ := pl.isList
    exact call_list_seq p (.inl rfl) ho hc hd (fun h' c' kp e => fin its r' hz h' c' kp e) (by simp only [List.size_toArray] <;> omega)
  · obtain ⟨its, r', pl, hz⟩ := I.tuple hq
    have hlen := r'.length
    obtain ⟨o, ho, hc, n, hd⟩ := pl
    exact call_list_seq p (.inr rfl) ho hc hd (fun h' c' kp e => fin its r' hz h' c' kp e) (by simp only [List.size_toArray] <;> omega)
/-- the value is of that builtin type -/
def tyV (K : PySem.W.Frag) (T : String) (x : V) (H : Hp) : Prop := match x with
  | .str _ => T = "str"
  | .int _ => T = "int"
  | .ref p => (T = "list" ∧ ∃ xs, SqL K H p xs) ∨ (T = "tuple" ∧ ∃ o, K.lookup p = some o ∧ o.cls = .type "tuple" ∧ o.dict = none) ∨
      (T = "dict" ∧ ((∃ kvs, H p = some (.dK kvs)) ∨ ∃ kvs, H p = some (.dT kvs))) ∨ (T = "set" ∧ ∃ S n, H p = some (.set S n))
  | _ => False
theorem tyV_is {pins : List (Addr × Obj)} {σ : St} {H : Hp} {s : Shared} {T : String} {x : V} {v : Value} (I : Inv X pins σ H s) (r : RelV x v) (ty : tyV X.K T x H) :
    s.TypeIs v T ∧ ∀ a, v = .ref a → ∃ ob, s.heap.get? a = some ob ∧ ob.dict = none := by
  cases x with
  | str z =>
    obtain ⟨t, rfl⟩ := r
    cases (show T = "str" from ty)
    exact ⟨typeIs_str s z t, fun _ e => nomatch e⟩
  | int i =>
    obtain ⟨t, rfl⟩ := r
    cases (show T = "int" from ty)
    exact ⟨typeIs_int s i t, fun _ e => nomatch e⟩
  | ref p =>
    cases r
    rcases ty with ⟨rfl, xs, hq⟩ | ⟨rfl, o, hk, hc, hd⟩ | ⟨rfl, hk⟩ | ⟨rfl, S, n, hk⟩
    · obtain ⟨its, _, pl, _⟩ := I.list hq
      refine ⟨pl.isList.typeIs, fun a e => ?_⟩
      cases e
      obtain ⟨o, n, e, c, hd, _⟩ := pl
      exact ⟨o, e, hd⟩
    · refine ⟨⟨o, I.kIn p o hk, hc⟩, fun a e => ?_⟩
      cases e
      exact ⟨o, I.kIn _ o hk, hd⟩
    · have z : ∃ o, s.heap.get? p = some o ∧ o.ExactDict := by
        rcases hk with ⟨kvs, hk⟩ | ⟨kvs, hk⟩
        · obtain ⟨_, _, _, _, o, _, _, e, ex, _⟩ := I.hok p _ hk
          exact ⟨o, e, ex⟩
        · obtain ⟨_, _, _, _, o, _, _, e, ex, _⟩ := I.hok p _ hk
          exact ⟨o, e, ex⟩
      obtain ⟨o, e, ex⟩ := z
      refine ⟨⟨o, e, ex.1⟩, fun a e2 => ?_⟩
      cases e2
      exact ⟨o, e, ex.2.1⟩
    · obtain ⟨o, _, _, _, e, ex, _⟩ := I.hok p _ hk
      refine ⟨⟨o, e, ex.1⟩, fun a e2 => ?_⟩
      cases e2
      exact ⟨o, e, ex.2.1⟩
  | _ => exact False.elim ty
def tBM (K : PySem.W.Frag) (T : String) (r : V → List V → Hp → VK → Prop) (to : TE) (t : TA) : TE := fun σ H Q => to σ H fun x H1 => tyV K T x H1 ∧ t σ H1 fun xs H2 => r x xs H2 Q
variable {o e : Expr} {es : List Expr} {to : TE} {t : TA} {name : Str} {apos cpos : Pos} {T id : String} {r : V → List V → Hp → VK → Prop}
theorem pe_bm (pa : PlainAttrs T) (slot : Slot T name id) (hty : typeOf (.builtin id) = pure (.type "method_descriptor")) (hm : MtR X id r) (ho : PE X o to) (ha : PA X (e :: es) t)
    (hbase : attributeBase o name X.env (eval o X.env) = eval o X.env := by rfl)
    (hfew : ((backTo cpos (starEach (e :: es) X.env)).all (fun x => !x.1) && (backToKw cpos (keywordEach [] X.env)).all (fun x => x.1.isSome)
      && decide ((e :: es).length + ([] : List Keyword).length + (if ([] : List Keyword).isEmpty then 0 else 1) < 30)) = true := by rfl)
    (hline : (apos.endLine == cpos.line) = true := by rfl) (hs : starEach (e :: es) X.env = (false, eval e X.env) :: starEach es X.env := by rfl) (hplain : (backTo cpos (starEach es X.env)).any (·.1) = false := by rfl) :
    PE X (.Call (.Attribute o name apos) (e :: es) [] cpos) (tBM X.K T r to t) := by
  intro pins s σ H Q I h
  refine wpAny_Call_method_late hbase hfew hline rfl (thn (ho pins s σ H _ I h) fun v s1 ⟨x, H1, I1, r1, ty, q1⟩ => ?_)
  obtain ⟨h1, h2⟩ := tyV_is I1 r1 ty
  refine ⟨T, id, pa, slot, hty, h1, h2, ?_⟩
  have hA := ha cpos pins s1 σ H1 _ I1 q1
  rw [hs] at hA ⊢
  refine Calls.callWith_builtin (by show (false || (backTo cpos (starEach es X.env)).any (·.1)) = false; rw [hplain] <;> rfl) (Calls.evalArgs_plain ?_)
  exact thn hA fun us s2 ⟨vs, H2, I2, r2, q2⟩ => hm pins s2 σ H2 x vs v us Q I2 r1 r2 q2
end
end L2
namespace L2
open PySem PySem.Spec PyProof.Rows
def MtM (X : Cx) (id : String) (r : V → List V → Hp → VK → Prop) : Prop :=
  ∀ (pins : List (Addr × Obj)) (s : Shared) (σ : St) (H : Hp) (x : V) (xs : List V) (v : Value) (us : List Value) (Q : VK), Inv X pins σ H s → RelV x v → Vals xs us → r x xs H Q →
    wpAny (model X.prog X.w) X.A (call (.builtin id) (v :: us)) (EP X pins σ Q) X.xe s
theorem Vals.one : ∀ {x : V} {us : List Value}, Vals [x] us → ∃ u, us = [u] ∧ RelV x u
  | _, _, .cons r .nil => ⟨_, rfl, r⟩
theorem Vals.two : ∀ {x y : V} {us : List Value}, Vals [x, y] us → ∃ u v, us = [u, v] ∧ RelV x u ∧ RelV y v
  | _, _, _, .cons r (.cons q .nil) => ⟨_, _, rfl, r, q⟩
theorem Vals.zero : ∀ {us : List Value}, Vals [] us → us = []
  | _, .nil => rfl
theorem Vals.dropLast {xs : List V} {us : List Value} (h : Vals xs us) : Vals xs.dropLast us.dropLast := by
  induction h with
  | nil => exact .nil
  | cons r t ih =>
    cases t with
    | nil => exact .nil
    | cons q t' => exact .cons r ih
section
variable {X : Cx} {pins : List (Addr × Obj)} {σ : St} {H : Hp} {s : Shared} {l b : Addr} {xs ys zs : List V}
theorem Inv.lset {its its' : List Value} {n : Nat} {f : Array Value → Array Value} {t' : Nat} (I : Inv X pins σ H s) (hH : H l = some (.lst xs))
    (e : s.heap.get? l = some { cls := .type "list", data := .seq its.toArray n }) (hf : f its.toArray = its'.toArray) (hv : Vals ys its') (hz : ys.length ≤ sizeLine) :
    Inv X pins σ (upd H l (.lst ys)) { s with heap := s.heap.update l (Obj.mapSeq f), toks := t' } := by
  have q := PySem.IsL.update e f
  rw [hf] at q
  refine I.write (x := l) (e := l) (by rw [hH]; exact trivial) (.inl rfl) (fun b' u hb hu => (Heap.get?_update_other s.heap (Obj.mapSeq f) (Ne.symm hb)).trans hu) ⟨_, q⟩ ?_
  exact ⟨hz, its', _, hv, q⟩
theorem Inv.lnew {its : List Value} {t' : Nat} (I : Inv X pins σ H s) (hv : Vals ys its) (hz : ys.length ≤ sizeLine) :
    Inv X pins σ (upd H s.heap.objs.size (.lst ys)) { s with heap := s.heap.push { cls := .type "list", data := .seq its.toArray }, toks := t' } :=
  I.laid (fun _ _ q => Heap.get?_push_of_some _ q) (Nat.le_refl _) ⟨hz, its, 0, hv, Heap.get?_push_size _ rfl⟩
theorem Inv.fresh (I : Inv X pins σ H s) : H s.heap.objs.size = none := I.hok.fresh (Nat.le_refl _)
theorem Inv.lstM (I : Inv X pins σ H s) (hH : H l = some (.lst xs)) : xs.length ≤ sizeLine ∧ ∃ (its : List Value) (n : Nat), Vals xs its ∧ xs.length = its.length ∧ s.heap.get? l = some { cls := .type "list", data := .seq its.toArray n } := by
  obtain ⟨z, its, n, r, e⟩ := I.hok l _ hH
  exact ⟨z, its, n, r, r.length, e⟩
theorem notLongL {n : Nat} (h : n ≤ sizeLine) : Builtin.List.listTooLong n = false := by
  unfold Builtin.List.listTooLong
  exact decide_eq_false (by omega)
end
section
variable {X : Cx}
def rAppend : V → List V → Hp → VK → Prop := fun x vs H Q => ∃ l xs y, x = .ref l ∧ vs = [y] ∧ H l = some (.lst xs) ∧ xs.length < sizeLine ∧ Q .non (upd H l (.lst (xs ++ [y])))
theorem mt_append : MtM X "list.append" rAppend := by
  intro pins s σ H x vs v us Q I rx rv h
  obtain ⟨l, xs, y, rfl, rfl, hH, hz, q⟩ := h
  cases rx
  obtain ⟨u, rfl, ru⟩ := rv.one
  obtain ⟨z, its, n, r, hl, e⟩ := I.lstM hH
  refine call_meets F.slot_list_append ⟨_, e, rfl⟩ F.entry_list_append (F.args_list_append_2 _ _) (PySem.list_append l its.toArray n u (by rw [List.size_toArray]; omega)) ⟨e, ?_⟩
  refine ⟨.non, _, I.lset (its' := its ++ [u]) hH e (by simp) (r.append (.cons ru .nil)) ?_, rfl, q⟩
  rw [List.length_append, List.length_singleton]
  omega
def rExtend : V → List V → Hp → VK → Prop := fun x vs H Q => ∃ l b xs zs, x = .ref l ∧ vs = [.ref b] ∧ H l = some (.lst xs) ∧ H b = some (.lst zs) ∧ xs.length + zs.length ≤ sizeLine ∧ Q .non (upd H l (.lst (xs ++ zs)))
theorem mt_extend : MtM X "list.extend" rExtend := by
  intro pins s σ H x vs v us Q I rx rv h
  obtain ⟨l, b, xs, zs, rfl, rfl, hH, hB, hz, q⟩ := h
  cases rx
  obtain ⟨u, rfl, ru⟩ := rv.one
  cases ru
  obtain ⟨z, its, n, r, hl, e⟩ := I.lstM hH
  obtain ⟨z2, its2, n2, r2, hl2, e2⟩ := I.lstM hB
  have hsz : its.toArray.size + its2.toArray.size ≤ sizeLine := by rw [List.size_toArray, List.size_toArray]; omega
  have hlong : ¬ (!its.toArray.isEmpty && Builtin.List.listTooLong (its.toArray.size + its2.toArray.size)) = true := by
    rw [notLongL hsz, Bool.and_false]
    exact Bool.false_ne_true
  refine call_meets F.slot_list_extend ⟨_, e, rfl⟩ F.entry_list_extend (F.args_list_extend_2 _ _)
    (AutoSeq1.list_extend_list_list_0 l its.toArray n b its2.toArray n2 hlong (by rw [List.size_toArray]; omega) (by omega)) ⟨e, e2, ?_⟩
  refine ⟨.non, _, I.lset (its' := its ++ its2) hH e (by simp) (r.append r2) ?_, rfl, q⟩
  rw [List.length_append]
  omega
end
section
variable {prog : Program} {w : World} {A : Around} {E : Value → Shared → Prop} {s : Shared}
set_option maxRecDepth 100000 in
end
section
variable {X : Cx}
end
end L2
namespace L2
open PySem PySem.Spec PyProof.Rows
theorem Vals.ints : ∀ {ns : List Int} {us : List Value}, Vals (ns.map V.int) us → IntsAre us ns
  | [], us, h => by
    rw [List.map_nil] at h
    cases h
    exact IntsAre.nil
  | n :: ns, us, h => by
    rw [List.map_cons] at h
    cases h with
    | cons r t =>
      obtain ⟨k, rfl⟩ := r
      exact IntsAre.cons n k (Vals.ints t)
theorem Vals.strs : ∀ {xs : List Str} {us : List Value}, Vals (xs.map V.str) us → StrsAre us xs
  | [], us, h => by
    rw [List.map_nil] at h
    cases h
    exact StrsAre.nil
  | x :: xs, us, h => by
    rw [List.map_cons] at h
    cases h with
    | cons r t =>
      obtain ⟨k, rfl⟩ := r
      exact StrsAre.cons x k (Vals.strs t)
theorem Vals.bls : ∀ {bs : List Bool} {us : List Value}, Vals (bs.map V.bl) us → us = bs.map Value.bool
  | [], us, h => by
    rw [List.map_nil] at h
    cases h
    rfl
  | b :: bs, us, h => by
    rw [List.map_cons] at h
    cases h with
    | cons r t =>
      cases r
      rw [Vals.bls t, List.map_cons]
theorem Vals.ref1 {a : Addr} {us : List Value} (r : Vals [V.ref a] us) : us = [Value.ref a] := by
  cases r with
  | cons r t =>
    cases t
    cases r
    rfl
section
variable {prog : Program} {w : World} {A : Around} {E : Value → Shared → Prop} {s : Shared} {l : Addr} {its : List Value} {ns : List Int} {Q : Value → Shared → Prop}
end
section
variable {X : Cx}
end
section
variable {X : Cx}
end
section
variable {X : Cx}
end
theorem iter_any {prog : Program} {w : World} {A : Around} {E : Value → Shared → Prop} {s : Shared} {l : Addr} {items : Array Value} {Q : Value → Shared → Prop} (hl : s.heap.IsList l items)
    (h : ∀ s₂ : Shared, s₂ = { s with heap := s.heap.push { cls := .type "list_iterator", data := .fields #[.ref l, .int 0 0] } } →
      (s₂.heap.IsListIter s.heap.objs.size l 0 ∧ s₂.heap.IsList l items) → l ≠ s.heap.objs.size → Q (.ref s.heap.objs.size) s₂) : wpAny (model prog w) A (pyIter (.ref l)) Q E s := by
  have hlt : l < s.heap.objs.size := by obtain ⟨_, e, _⟩ := hl; exact Heap.lt_size e
  exact wpAny_pyIter_list hl (h _ rfl ⟨⟨_, Heap.get?_push_size _ rfl, rfl, rfl⟩, hl.push _⟩ (Nat.ne_of_lt hlt))
theorem truth_bools {prog : Program} {w : World} {A : Around} {bs : List Bool} {its : List Value} (e : its = bs.map Value.bool) :
    TruthOf prog w A (fun i v => its.toArray[i]? = some v) (fun i => bs.getD i false) := fun i v s Q E hv hq => by
  have hv' : its[i]? = some v := by simpa using hv
  rw [e, List.getElem?_map] at hv'
  obtain ⟨b, hb, rfl⟩ := Option.map_eq_some_iff.mp hv'
  have hg : bs.getD i false = b := by rw [List.getD_eq_getElem?_getD, hb] <;> rfl
  have hq' : Q (bs.getD i false) s := hq
  rw [hg] at hq'
  exact wpAny_truthy_bool hq'
theorem any_range : ∀ bs : List Bool, (List.range bs.length).any (fun i => bs.getD i false) = bs.any id
  | [] => rfl
  | b :: bs => by
    rw [List.length_cons, List.range_succ_eq_map, List.any_cons, List.any_map, List.any_cons, ← any_range bs]
    all_goals rfl
theorem all_range : ∀ bs : List Bool, (List.range bs.length).all (fun i => bs.getD i false) = bs.all id
  | [] => rfl
  | b :: bs => by
    rw [List.length_cons, List.range_succ_eq_map, List.all_cons, List.all_map, List.all_cons, ← all_range bs]
    all_goals rfl
section
variable {X : Cx}
def rAny (K : PySem.W.Frag) : List V → Hp → VK → Prop := fun vs H Q => ∃ (a : Addr) (bs : List Bool), vs = [V.ref a] ∧ SqL K H a (bs.map V.bl) ∧ Q (.bl (bs.any id)) H
def rAll (K : PySem.W.Frag) : List V → Hp → VK → Prop := fun vs H Q => ∃ (a : Addr) (bs : List Bool), vs = [V.ref a] ∧ SqL K H a (bs.map V.bl) ∧ Q (.bl (bs.all id)) H
theorem cr_any (hc : X.calm = true) : CallR X (.builtin "any") (rAny X.K) := by
  intro pins s σ H vs us Q I r h
  obtain ⟨a, bs, rfl, hs, q⟩ := h
  obtain ⟨its, rv, hl, _⟩ := I.list hs
  rw [Vals.ref1 r]
  have hb := rv.bls
  refine call_any_walk (iter_any hl.isList fun s₂ e2 st hne => ?_)
  subst e2
  refine ⟨_, _, _, _, _, _, _, rfl, Walks.list (A := X.A.in1) (I.ok.hd hc) _ a hne its.toArray, st, truth_bools hb, fun h' tk hk => ?_⟩
  refine ⟨.bl _, H, I.kept fun b o eo => hk b o (fun hmem => ?_) (Heap.get?_push_of_some _ eo), ?_, q⟩
  · rcases List.mem_cons.mp hmem with e1 | hmem
    · exact absurd (e1 ▸ Heap.lt_size eo) (Nat.lt_irrefl _)
    · cases hmem
  · show Value.bool _ = Value.bool _
    rw [← any_range, hb, List.size_toArray, List.length_map]
theorem cr_all (hc : X.calm = true) : CallR X (.builtin "all") (rAll X.K) := by
  intro pins s σ H vs us Q I r h
  obtain ⟨a, bs, rfl, hs, q⟩ := h
  obtain ⟨its, rv, hl, _⟩ := I.list hs
  rw [Vals.ref1 r]
  have hb := rv.bls
  refine call_all_walk (iter_any hl.isList fun s₂ e2 st hne => ?_)
  subst e2
  refine ⟨_, _, _, _, _, _, _, rfl, Walks.list (A := X.A.in1) (I.ok.hd hc) _ a hne its.toArray, st, truth_bools hb, fun h' tk hk => ?_⟩
  refine ⟨.bl _, H, I.kept fun b o eo => hk b o (fun hmem => ?_) (Heap.get?_push_of_some _ eo), ?_, q⟩
  · rcases List.mem_cons.mp hmem with e1 | hmem
    · exact absurd (e1 ▸ Heap.lt_size eo) (Nat.lt_irrefl _)
    · cases hmem
  · show Value.bool _ = Value.bool _
    rw [← all_range, hb, List.size_toArray, List.length_map]
end
mutual
inductive Dp (K : PySem.W.Frag) (H : Hp) : V → PyData → Prop
  | non : Dp K H .non .none
  | bl (b : Bool) : Dp K H (.bl b) (.bool b)
  | int (i : Int) : Dp K H (.int i) (.int i)
  | str (x : Str) : Dp K H (.str x) (.str x)
  | lst {a : Addr} {xs : List V} {ds : List PyData} : SqL K H a xs → DpAll K H xs ds → Dp K H (.ref a) (.list ds)
  | tup {a : Addr} {xs : List V} {ds : List PyData} : SqT K H a xs → DpAll K H xs ds → Dp K H (.ref a) (.tuple ds)
inductive DpAll (K : PySem.W.Frag) (H : Hp) : List V → List PyData → Prop
  | nil : DpAll K H [] []
  | cons {v : V} {vs : List V} {d : PyData} {ds : List PyData} : Dp K H v d → DpAll K H vs ds → DpAll K H (v :: vs) (d :: ds)
end
section
variable {X : Cx} {pins : List (Addr × Obj)} {σ : St} {H : Hp} {s : Shared}
mutual
theorem Dp.reads (I : Inv X pins σ H s) : ∀ (d : PyData) (v : V) (u : Value), Dp X.K H v d → RelV v u → ∃ as, Reads s.heap u d as
  | .none, _, _, h, r => by
    cases h
    cases r
    exact ⟨_, Reads.none⟩
  | .bool b, _, _, h, r => by
    cases h
    cases r
    exact ⟨_, Reads.bool b⟩
  | .int i, _, _, h, r => by
    cases h
    obtain ⟨t, rfl⟩ := r
    exact ⟨_, Reads.int i t⟩
  | .str x, _, _, h, r => by
    cases h
    obtain ⟨t, rfl⟩ := r
    exact ⟨_, Reads.str x t⟩
  | .list ds, _, _, h, r => by
    cases h with
    | lst hs ha =>
      cases r
      obtain ⟨its, rv, ⟨o, n, ho, hc, _, hd⟩, _⟩ := I.list hs
      obtain ⟨as, hr⟩ := Dp.readsAll I ds _ its ha rv
      exact ⟨_, Reads.list ho hc hd hr⟩
  | .tuple ds, _, _, h, r => by
    cases h with
    | tup hs ha =>
      cases r
      obtain ⟨its, rv, ⟨o, ho, hc, n, hd⟩, _⟩ := I.tuple hs
      obtain ⟨as, hr⟩ := Dp.readsAll I ds _ its ha rv
      exact ⟨_, Reads.tuple ho hc hd hr⟩
  | .dict _, _, _, h, _ => by cases h
theorem Dp.readsAll (I : Inv X pins σ H s) : ∀ (ds : List PyData) (vs : List V) (us : List Value), DpAll X.K H vs ds → Vals vs us → ∃ as, ReadsAll s.heap us ds as
  | [], _, _, h, r => by
    cases h
    cases r
    exact ⟨_, ReadsAll.nil⟩
  | d :: ds, _, _, h, r => by
    cases h with
    | cons h1 h2 =>
      cases r with
      | cons r1 r2 =>
        obtain ⟨as, q1⟩ := Dp.reads I d _ _ h1 r1
        obtain ⟨bs, q2⟩ := Dp.readsAll I ds _ _ h2 r2
        exact ⟨_, ReadsAll.cons q1 q2⟩
end
end
section
variable {X : Cx}
end
end L2
namespace L2
open PySem PySem.Spec PyProof.Rows
abbrev CellAt (h : Heap) (c : Addr) (v : Option Value) : Prop := h.IsCell c v
def relS (scope sc : Scope) : Scope :=
  { scope with names := scope.names.map fun (n, k) => if (k == .free && sc.kind == .function && sc.names.lookup n == some .cell) then (n, .cell) else (n, k) }
def cloFrom (cells : List (Str × Addr)) : List (Str × NameKind) → List (Str × Addr) → List (Str × Addr)
  | [], acc => acc
  | (n, k) :: r, acc => if k == .free then cloFrom cells r ((n, (cells.lookup n).getD 0) :: acc) else cloFrom cells r acc
theorem closure_loop (env : Env) (f : Str × NameKind → List (Str × Addr) → Sem (ForInStep (List (Str × Addr))))
    (hf : ∀ n k c, f (n, k) c = if k == .free then (do let a ← cellOf env n; pure (.yield ((n, a) :: c))) else pure (.yield c)) :
    ∀ (names : List (Str × NameKind)) (acc : List (Str × Addr)), (∀ y ∈ names, y.2 = .free → ∃ c, env.cells.lookup y.1 = some c) → forIn names acc f = pure (cloFrom env.cells names acc)
  | [], acc, _ => by rw [List.forIn_nil]; rfl
  | (n, k) :: r, acc, h => by
    rw [List.forIn_cons, hf]
    have ih := fun acc => closure_loop env f hf r acc fun y hy => h y (List.mem_cons_of_mem _ hy)
    unfold cloFrom
    by_cases hk : (k == NameKind.free) = true
    · rw [if_pos hk, if_pos hk]
      obtain ⟨c, hc⟩ := h (n, k) List.mem_cons_self (by simpa using hk)
      have e : cellOf env n = pure c := by unfold cellOf; rw [hc]
      rw [e]
      have e2 : (env.cells.lookup n).getD 0 = c := by rw [hc]; rfl
      rw [e2]
      exact ih _
    · rw [if_neg hk, if_neg hk]
      exact ih _
theorem closure_ok {scope : Scope} {env : Env} (h : ∀ y ∈ scope.names, y.2 = .free → ∃ c, env.cells.lookup y.1 = some c) : closureFor scope env = pure (cloFrom env.cells scope.names []) := by
  simp only [closureFor]
  rw [closure_loop env _ (fun n k c => rfl) scope.names [] h]
  rfl
theorem mem_lookup {α : Type} : ∀ {l : List (Str × α)} {n : Str} {c : α}, (n, c) ∈ l → ∃ c', l.lookup n = some c'
  | (k, v) :: r, n, c, h => by
    rw [List.lookup_cons]
    cases hb : n == k with
    | true => exact ⟨_, rfl⟩
    | false =>
      rcases List.mem_cons.mp h with e | h
      · cases e; simp at hb
      · exact mem_lookup h
theorem cloFrom_mem {cells : List (Str × Addr)} : ∀ {names : List (Str × NameKind)} {acc : List (Str × Addr)} {n : Str} {c : Addr}, (n, c) ∈ cloFrom cells names acc → (n, c) ∈ acc ∨ ((n, .free) ∈ names ∧ c = (cells.lookup n).getD 0)
  | [], _, _, _, h => .inl h
  | (m, k) :: r, acc, n, c, h => by
    unfold cloFrom at h
    split at h
    · rename_i hk
      have hk : k = .free := by simpa using hk
      rcases cloFrom_mem h with h | ⟨h1, h2⟩
      · rcases List.mem_cons.mp h with e | h
        · cases e; exact .inr ⟨hk ▸ List.mem_cons_self, rfl⟩
        · exact .inl h
      · exact .inr ⟨List.mem_cons_of_mem _ h1, h2⟩
    · rcases cloFrom_mem h with h | ⟨h1, h2⟩
      · exact .inl h
      · exact .inr ⟨List.mem_cons_of_mem _ h1, h2⟩
theorem cloFrom_acc {cells : List (Str × Addr)} : ∀ {names : List (Str × NameKind)} {acc : List (Str × Addr)} {p : Str × Addr}, p ∈ acc → p ∈ cloFrom cells names acc
  | [], _, _, h => h
  | (m, k) :: r, acc, p, h => by
    unfold cloFrom
    split
    · exact cloFrom_acc (List.mem_cons_of_mem _ h)
    · exact cloFrom_acc h
theorem cloFrom_has {cells : List (Str × Addr)} : ∀ {names : List (Str × NameKind)} {acc : List (Str × Addr)} {n : Str}, (n, .free) ∈ names → (n, (cells.lookup n).getD 0) ∈ cloFrom cells names acc
  | (m, k) :: r, acc, n, h => by
    unfold cloFrom
    rcases List.mem_cons.mp h with e | h
    · cases e
      exact cloFrom_acc List.mem_cons_self
    · split
      · exact cloFrom_has h
      · exact cloFrom_has h
theorem cells_mem : ∀ {names : List (Str × NameKind)} {h : Heap} {acc : List (Str × Addr)} {x : Str} {c : Addr}, (x, c) ∈ cellsFrom h.objs.size names acc →
    (x, c) ∈ acc ∨ ((x, .cell) ∈ names ∧ h.objs.size ≤ c ∧ CellAt (pushCells h names) c none)
  | [], _, _, _, _, h => .inl h
  | (n, k) :: r, h, acc, x, c, hm => by
    unfold cellsFrom at hm
    unfold pushCells
    split at hm
    · rename_i hk
      rw [if_pos hk]
      have hk : k = .cell := by simpa using hk
      rw [← Heap.size_push h { cls := .type "cell", data := .cell none }] at hm
      rcases cells_mem hm with hm | ⟨h1, h2, h3⟩
      · rcases List.mem_cons.mp hm with e | hm
        · cases e
          exact .inr ⟨hk ▸ List.mem_cons_self, Nat.le_refl _, _, pushCells_keeps r _ _ _ (Heap.get?_push_size _ rfl), rfl⟩
        · exact .inl hm
      · rw [Heap.size_push] at h2
        exact .inr ⟨List.mem_cons_of_mem _ h1, Nat.le_of_succ_le h2, h3⟩
    · rename_i hk
      rw [if_neg hk]
      rcases cells_mem hm with hm | ⟨h1, h2, h3⟩
      · exact .inl hm
      · exact .inr ⟨List.mem_cons_of_mem _ h1, h2, h3⟩
theorem cells_acc : ∀ {names : List (Str × NameKind)} {n : Nat} {acc : List (Str × Addr)} {p : Str × Addr}, p ∈ acc → p ∈ cellsFrom n names acc
  | [], _, _, _, h => h
  | (m, k) :: r, n, acc, p, h => by
    unfold cellsFrom
    split
    · exact cells_acc (List.mem_cons_of_mem _ h)
    · exact cells_acc h
theorem cells_has : ∀ {names : List (Str × NameKind)} {n : Nat} {acc : List (Str × Addr)} {x : Str}, (x, .cell) ∈ names → ∃ c, (x, c) ∈ cellsFrom n names acc
  | (m, k) :: r, n, acc, x, h => by
    unfold cellsFrom
    rcases List.mem_cons.mp h with e | h
    · cases e
      exact ⟨n, cells_acc List.mem_cons_self⟩
    · split
      · exact cells_has h
      · exact cells_has h
theorem cells_inj : ∀ {names : List (Str × NameKind)} {h : Heap} {acc : List (Str × Addr)} {x y : Str} {c : Addr}, (∀ p ∈ acc, p.2 < h.objs.size) → (∀ x y c, (x, c) ∈ acc → (y, c) ∈ acc → x = y) →
    (x, c) ∈ cellsFrom h.objs.size names acc → (y, c) ∈ cellsFrom h.objs.size names acc → x = y
  | [], _, _, _, _, _, _, hi, h1, h2 => hi _ _ _ h1 h2
  | (n, k) :: r, h, acc, x, y, c, hl, hi, h1, h2 => by
    unfold cellsFrom at h1 h2
    split at h1
    · rename_i hk
      rw [if_pos hk] at h2
      rw [← Heap.size_push h { cls := .type "cell", data := .cell none }] at h1 h2
      refine cells_inj (h := h.push _) (fun p hp => ?_) (fun x y c a b => ?_) h1 h2
      · rw [Heap.size_push]
        rcases List.mem_cons.mp hp with rfl | hp
        · exact Nat.lt_succ_self _
        · exact Nat.lt_succ_of_lt (hl p hp)
      · rcases List.mem_cons.mp a with e | a <;> rcases List.mem_cons.mp b with e' | b
        · cases e; cases e'; rfl
        · cases e; exact absurd (hl _ b) (Nat.lt_irrefl _)
        · cases e'; exact absurd (hl _ a) (Nat.lt_irrefl _)
        · exact hi _ _ _ a b
    · rename_i hk
      rw [if_neg hk] at h2
      exact cells_inj hl hi h1 h2
theorem newEnv_comp {M : Model} {A : Around} {E : Value → Shared → Prop} {s : Shared} {scope : Scope} {globals : Addr} {closure : List (Str × Addr)} {qual : Str} {func : Option Addr} {code : Value} {around : Env} {builtins : Addr} {Q : Env → Shared → Prop}
    (h : Q (newEnv scope s.heap.objs.size globals (cellsFrom (s.heap.objs.size + 1) scope.names closure) qual func code (some around) builtins)
      { s with heap := pushCells (s.heap.push { cls := .type "dict", data := .dict #[] }) scope.names }) :
    wpAny M A (newFunctionEnv scope globals closure [] qual func code (some around) builtins) Q E s := by
  simp only [newFunctionEnv, Option.isSome_some, if_true]
  refine wpAny_bind (wpAny_alloc ?_)
  refine wpAny_bind (wpAny_layCells _ (fun n k c => rfl) scope.names closure _ _ ?_)
  rw [show ({ s with heap := s.heap.push { cls := .type "dict", data := .dict #[] } } : Shared).heap.objs.size = s.heap.objs.size + 1 from Heap.size_push ..]
  rw [List.forIn_nil]
  exact wpAny_bind (wpAny_pure (wpAny_pure h))
/-- every name of the written scope, in the scope that runs -/
theorem lookup_relS {sc : Scope} : ∀ {names : List (Str × NameKind)} {x : Str} {k : NameKind},
    (names.map fun (n, k) => if (k == NameKind.free && sc.kind == .function && sc.names.lookup n == some .cell) then (n, NameKind.cell) else (n, k)).lookup x = some k →
    ∃ k', names.lookup x = some k' ∧ (k = k' ∨ (k' = .free ∧ k = .cell))
  | [], _, _, h => by simp at h
  | (n, k₀) :: r, x, k, h => by
    have ih := @lookup_relS sc r x k
    have h' : List.lookup x ((if (k₀ == NameKind.free && sc.kind == .function && sc.names.lookup n == some .cell) = true then (n, NameKind.cell) else (n, k₀)) :: (r.map _)) = some k := h
    cases hx : x == n with
    | true =>
      simp only [List.lookup_cons, hx]
      by_cases hc : (k₀ == NameKind.free && sc.kind == .function && sc.names.lookup n == some .cell) = true
      · rw [if_pos hc] at h'
        simp only [List.lookup_cons, hx] at h'
        cases h'
        simp only [Bool.and_eq_true, beq_iff_eq] at hc
        exact ⟨k₀, rfl, .inr ⟨hc.1.1, rfl⟩⟩
      · rw [if_neg hc] at h'
        simp only [List.lookup_cons, hx] at h'
        cases h'
        exact ⟨_, rfl, .inl rfl⟩
    | false =>
      simp only [List.lookup_cons, hx]
      by_cases hc : (k₀ == NameKind.free && sc.kind == .function && sc.names.lookup n == some .cell) = true
      · rw [if_pos hc] at h'
        simp only [List.lookup_cons, hx] at h'
        exact ih h'
      · rw [if_neg hc] at h'
        simp only [List.lookup_cons, hx] at h'
        exact ih h'
/-- the names of a comprehension's block: its own (with their places in N), or captured -/
structure BlkOk (N : List Str) (sc scope : Scope) (own : List (Str × Nat)) : Prop where
  kind : scope.kind = .function
  uniq : ∀ y ∈ scope.names, scope.names.lookup y.1 = some y.2
  ix : ∀ p ∈ own, N[p.2]? = some p.1
  free : ∀ y ∈ scope.names, y.2 = .free → sc.names.lookup y.1 = some .cell ∨ sc.names.lookup y.1 = some .free
  own : ∀ y ∈ scope.names, y.2 = .local ∨ y.2 = .cell → y.1 ∈ own.map (·.1) ∨ y.1 ∉ N
/-- the slots of the block's own names forgotten -/
def wipe (σ : St) : List Nat → St
  | [] => σ
  | v :: vs => (wipe σ vs).set v none
theorem wipe_length (σ : St) : ∀ vs : List Nat, (wipe σ vs).length = σ.length
  | [] => rfl
  | v :: vs => by unfold wipe; rw [List.length_set, wipe_length σ vs]
theorem wipe_some {σ : St} {i : Nat} {x : V} : ∀ {vs : List Nat}, (wipe σ vs)[i]? = some (some x) → σ[i]? = some (some x) ∧ i ∉ vs
  | [], h => ⟨h, by simp⟩
  | v :: vs, h => by
    unfold wipe at h
    by_cases hi : v = i
    · subst hi
      by_cases hv : v < (wipe σ vs).length
      · rw [List.getElem?_set_self hv] at h; cases h
      · rw [List.getElem?_eq_none (by simpa using hv)] at h; cases h
    · rw [List.getElem?_set_ne hi] at h
      obtain ⟨h1, h2⟩ := wipe_some h
      exact ⟨h1, by simp only [List.mem_cons, not_or]; exact ⟨fun e => hi e.symm, h2⟩⟩
/-- the context of a block that starts at s, its iterator's objects at fp -/
abbrev Cx.blk (X : Cx) (s : Shared) (H : Hp) (scope : Scope) (cenv : Env) (fp : List Addr) : Cx := { X with s_0 := s, H_0 := H, env := cenv, outer := X.stack, ex := fp, fn := fun x => scope.names.lookup x == some .cell, pn := [], xe := fun _ _ => False }
section
variable {X : Cx} {pins : List (Addr × Obj)} {σ : St} {H : Hp} {s : Shared}
theorem block_start {scope : Scope} {own : List (Str × Nat)} {fp : List Addr} (I : Inv X pins σ H s) (ok : BlkOk X.N X.env.scope scope own) (hN : X.N.Nodup) (hfp : ∀ b ∈ fp, FpOk X pins H b ∧ b < s.heap.objs.size) :
    Inv (X.blk s H scope (compEnvC scope (cellsFrom (s.heap.objs.size + 1) scope.names (cloFrom X.env.cells scope.names [])) s.heap.objs.size X.env) fp) [] (wipe σ (own.map (·.2))) H { s with heap := pushCells (s.heap.push { cls := .type "dict", data := .dict #[] }) scope.names } := by
  have hfree : ∀ y ∈ scope.names, y.2 = .free → ∃ c, X.env.cells.lookup y.1 = some c := fun y hy e => by
    rcases ok.free y hy e with k | k
    · exact I.ok.has _ (.inl k)
    · exact I.ok.has _ (.inr k)
  generalize hcenv : compEnvC scope (cellsFrom (s.heap.objs.size + 1) scope.names (cloFrom X.env.cells scope.names [])) s.heap.objs.size X.env = cenv
  have kp : ∀ b o, s.heap.get? b = some o → (pushCells (s.heap.push { cls := .type "dict", data := .dict #[] }) scope.names).get? b = some o := fun b o e => pushCells_keeps _ _ _ _ (Heap.get?_push_of_some _ e)
  have hL : cenv.locals = s.heap.objs.size := by rw [← hcenv]; rfl
  have hcl : cenv.cells = cellsFrom (s.heap.objs.size + 1) scope.names (cloFrom X.env.cells scope.names []) := by rw [← hcenv]; rfl
  have hsc : cenv.scope = relS scope X.env.scope := by rw [← hcenv]; rfl
  rw [← Heap.size_push s.heap { cls := .type "dict", data := .dict #[] }] at hcl
  have cm : ∀ {y c}, (y, c) ∈ cloFrom X.env.cells scope.names [] → X.env.cells.lookup y = some c ∧ c < s.heap.objs.size := fun {y c} hm => by
    rcases cloFrom_mem hm with hm | ⟨h1, rfl⟩
    · cases hm
    · obtain ⟨c, hc⟩ := hfree _ h1 rfl
      rw [hc]
      obtain ⟨w, z⟩ := I.cell _ _ hc
      exact ⟨rfl, z.lt⟩
  have mem : ∀ {y c}, cenv.cells.lookup y = some c → (X.env.cells.lookup y = some c ∧ c < s.heap.objs.size) ∨ (s.heap.objs.size + 1 ≤ c ∧ CellAt (pushCells (s.heap.push { cls := .type "dict", data := .dict #[] }) scope.names) c none) := fun {y c} e => by
    rw [hcl] at e
    rcases cells_mem (PySem.mem_of_lookup e) with hm | ⟨_, h2, h3⟩
    · exact .inl (cm hm)
    · rw [Heap.size_push] at h2; exact .inr ⟨h2, h3⟩
  have look : ∀ {y}, scope.names.lookup y = some .free → ∃ c, cenv.cells.lookup y = some c ∧ X.env.cells.lookup y = some c := fun {y} hl => by
    have hy : (y, NameKind.free) ∈ scope.names := PySem.mem_of_lookup hl
    obtain ⟨c', e'⟩ := mem_lookup (cells_acc (names := scope.names) (n := (s.heap.push { cls := .type "dict", data := .dict #[] }).objs.size) (cloFrom_has (cells := X.env.cells) (acc := []) hy))
    rw [← hcl] at e'
    refine ⟨c', e', ?_⟩
    rw [hcl] at e'
    rcases cells_mem (PySem.mem_of_lookup e') with hm | ⟨h1, _, _⟩
    · exact (cm hm).1
    · have := ok.uniq _ h1
      rw [hl] at this; cases this
  have okB : (X.blk s H scope cenv fp).Ok := by
    refine ⟨I.ok.mod, by show cenv.scope.kind = _; rw [hsc]; exact ok.kind, by show cenv.globals = _; rw [← hcenv]; exact I.ok.glob, by show cenv.builtins = _; rw [← hcenv]; exact I.ok.blt, by show s.heap.objs.size ≤ cenv.locals; rw [hL]; exact Nat.le_refl _,
      fun y z c e1 e2 => ?_, fun y hy => ?_, fun y c z e => ?_, I.ok.hd, I.ok.frames, .inl rfl, fun b hb => ⟨?_, fun y c e z => ?_⟩, I.bs, Nat.le_trans I.ok.bsz I.sz, fun b o e hb => ?_, fun b hb z => ?_, I.stack, I.stkFree⟩
    · have e1 : cenv.cells.lookup y = some c := e1
      have e2 : cenv.cells.lookup z = some c := e2
      rw [hcl] at e1 e2
      refine cells_inj (fun p hp => ?_) (fun y z c a b => I.ok.inj y z c (cm a).1 (cm b).1) (PySem.mem_of_lookup e1) (PySem.mem_of_lookup e2)
      rw [Heap.size_push]
      exact Nat.lt_succ_of_lt (cm (y := p.1) (c := p.2) hp).2
    · show ∃ c, cenv.cells.lookup y = some c
      have key : ∀ k, cenv.kindOf y = some k → (k = .cell ∨ k = .free) → ∃ c, cenv.cells.lookup y = some c := fun k hk hk' => by
        unfold Env.kindOf at hk
        rw [hsc] at hk
        obtain ⟨k', e, r⟩ := lookup_relS hk
        have : k' = .cell ∨ k' = .free := by
          rcases r with rfl | ⟨rfl, _⟩
          · exact hk'
          · exact .inr rfl
        rcases this with rfl | rfl
        · obtain ⟨c, hm⟩ := cells_has (n := (s.heap.push { cls := .type "dict", data := .dict #[] }).objs.size) (acc := cloFrom X.env.cells scope.names []) (PySem.mem_of_lookup e)
          obtain ⟨c', e'⟩ := mem_lookup hm
          exact ⟨c', by rw [hcl]; exact e'⟩
        · obtain ⟨c, h1, _⟩ := look e
          exact ⟨c, h1⟩
      rcases hy with hy | hy
      · exact key _ hy (.inl rfl)
      · exact key _ hy (.inr rfl)
    · have z : (scope.names.lookup y == some NameKind.cell) = true := z
      have z : scope.names.lookup y = some .cell := by simpa using z
      have e : cenv.cells.lookup y = some c := e
      rw [hcl] at e
      rcases cells_mem (PySem.mem_of_lookup e) with hm | ⟨_, h2, _⟩
      · rcases cloFrom_mem hm with hm | ⟨h1, _⟩
        · cases hm
        · have q := ok.uniq _ h1
          rw [z] at q; cases q
      · rw [Heap.size_push] at h2
        exact Nat.le_of_succ_le h2
    · show b ≠ cenv.locals
      rw [hL]; exact Nat.ne_of_lt (hfp b hb).2
    · have e : cenv.cells.lookup y = some c := e
      rcases mem e with ⟨h1, _⟩ | ⟨h1, _⟩
      · exact (hfp b hb).1.2.2.2.2.1 y c h1 z
      · have h2 : s.heap.objs.size + 1 ≤ b := by rw [← z]; exact h1
        exact absurd (Nat.lt_of_lt_of_le (hfp b hb).2 (Nat.le_of_succ_le h2)) (Nat.lt_irrefl _)
    · rcases (hfp b hb).1.2.2.2.1 with z | z
      · exact I.ok.noex b o e z
      · exact absurd (Nat.lt_of_lt_of_le (Heap.lt_size e) (Nat.le_trans I.ok.bsz z)) (Nat.lt_irrefl _)
    · rcases List.mem_cons.mp (I.stkSub b z) with z | z
      · exact (hfp b hb).1.2.1 z
      · exact (hfp b hb).1.2.2.1 z
  refine ⟨okB, rfl, I.bare, Un.kept kp, ⟨fun _ => none, ?_, fun i y av e1 e2 e3 => ?_⟩, fun y c e => ?_, ?_, fun y c e => ?_, fun p hp => ?_, I.hok.kept kp, by rw [wipe_length]; exact I.len⟩
  · show Heap.Ns _ cenv.locals _
    rw [hL]
    exact Heap.Ns.keeps (Heap.Ns.new ..) fun b o e => pushCells_keeps _ _ _ _ e
  · obtain ⟨e2, hne⟩ := wipe_some e2
    have hfr : scope.names.lookup y = some .free ∧ (cenv.kindOf y = some .cell ∨ cenv.kindOf y = some .free) := by
      have key : ∀ k, cenv.scope.names.lookup y = some k → k = .local ∨ k = .cell ∨ k = .free → scope.names.lookup y = some .free ∧ (cenv.kindOf y = some .cell ∨ cenv.kindOf y = some .free) := fun k hk hk' => by
        have hk0 := hk
        rw [hsc] at hk
        obtain ⟨k', e, r⟩ := lookup_relS hk
        have no : ¬ (k' = .local ∨ k' = .cell) := fun hh => by
          rcases ok.own _ (PySem.mem_of_lookup e) hh with e' | e'
          · obtain ⟨p, hp, hpy⟩ := List.mem_map.mp e'
            have e3 := ok.ix p hp
            have : p.1 = y := hpy
            rw [this] at e3
            exact hne (List.mem_map.mpr ⟨p, hp, nodup_ix hN e3 e1⟩)
          · exact e' (List.mem_of_getElem? e1)
        rcases r with rfl | ⟨rfl, rfl⟩
        · rcases hk' with rfl | rfl | rfl
          · exact absurd (.inl rfl) no
          · exact absurd (.inr rfl) no
          · exact ⟨e, .inr hk0⟩
        · exact ⟨e, .inl hk0⟩
      have e3 : Vis cenv.scope y := e3
      rcases e3 with e3 | e3 | e3
      · exact key _ e3 (.inl rfl)
      · exact key _ e3 (.inr (.inl rfl))
      · exact key _ e3 (.inr (.inr rfl))
    obtain ⟨m, hn, hl⟩ := I.loc
    have hvis : Vis X.env.scope y := (ok.free _ (PySem.mem_of_lookup hfr.1) rfl).elim (fun k => .inr (.inl k)) (fun k => .inr (.inr k))
    obtain ⟨w, r, q⟩ := hl i y av e1 e2 hvis
    refine ⟨w, r, .inr ⟨hfr.2, ?_⟩⟩
    obtain ⟨c, h1, h2⟩ := look hfr.1
    rcases q with ⟨k, _⟩ | ⟨_, c', e', z⟩
    · have k : X.env.scope.names.lookup y = some .local := k
      rcases ok.free _ (PySem.mem_of_lookup hfr.1) rfl with k' | k' <;> rw [show X.env.scope.names.lookup y = _ from k'] at k <;> cases k
    · rw [h2] at e'; cases e'
      exact ⟨c, h1, z.keeps kp⟩
  · have e : cenv.cells.lookup y = some c := e
    rcases mem e with ⟨h1, _⟩ | ⟨_, z⟩
    · obtain ⟨w, z⟩ := I.cell y c h1
      exact ⟨w, z.keeps kp⟩
    · exact ⟨_, z⟩
  · show H cenv.locals = none
    rw [hL]; exact I.hok.fresh (Nat.le_refl _)
  · have e : cenv.cells.lookup y = some c := e
    rcases mem e with ⟨h1, _⟩ | ⟨h1, _⟩
    · exact I.freeC y c h1
    · exact I.hok.fresh (Nat.le_of_succ_le h1)
  · exact absurd (show p ∈ ([] : List (Addr × Obj)) ++ [] from hp) (by simp)
/-- an item appended to a tracked list -/
theorem app_ok {E : Value → Shared → Prop} {D : Addr} {xs : List V} {y : V} {v : Value} {Q : Value → Shared → Prop} (I : Inv X pins σ H s) (hD : H D = some (.lst xs)) (hz : xs.length < sizeLine) (r : RelV y v)
    (h : ∀ s', Inv X pins σ (upd H D (.lst (xs ++ [y]))) s' → Q .none s') : wpAny (model X.prog X.w) X.A (call (.builtin "list.append") [.ref D, v]) Q E s := by
  obtain ⟨hz', its, n, ri, e⟩ := I.hok D _ hD
  have hl := ri.length
  refine append_at (hsz := by rw [List.size_toArray]; omega) e fun h' sb ho' => ?_
  refine h { s with heap := h' } (I.write (t' := s.toks) (by rw [hD]; trivial) (.inl rfl) (fun b u hb q => (sb.2 b hb).trans q) ⟨_, ho'⟩ ⟨by rw [List.length_append]; exact hz, its ++ [v], n + 1, ri.append (.cons r .nil), ?_⟩)
  rw [ho']
  simp
/-- a clause's tests -/
def PTs (X : Cx) (ifs : List Expr) (t : TT) : Prop :=
  ∀ (pins : List (Addr × Obj)) (s : Shared) (σ : St) (H : Hp) (Q : Bool → Hp → Prop), Inv X pins σ H s → t σ H Q →
    wpAny (model X.prog X.w) X.A (forIn ifs true fun c r => if r = true then do let ok ← isTrue c X.env (eval c X.env); pure (ForInStep.yield ok) else pure (ForInStep.yield r)) (TP X pins σ Q) X.xe s
def tYes : TT := fun _ H Q => Q true H
theorem pts_nil : PTs X [] tYes := fun _ _ _ H _ I h => wpAny_tests_nil ⟨H, I, h⟩
end
theorem thnF {α : Type} {t : Sem α} {Q Q' : α → Shared → Prop} {M : Model} {A : Around} {E : Value → Shared → Prop} {s : Shared} (h : wpAny M A t Q (fun _ _ => False) s) (hQ : ∀ a s, Q a s → Q' a s) : wpAny M A t Q' E s := wpAny_mono h hQ fun _ _ z => False.elim z
/-- the loop of a list comprehension's block, the target of any form (codeAny_compLoop_tests asks a target that no tuple goes to; statement and proof follow it, PyProof/CompMap.lean:41-61, with the step letOwnedTupleGo kept) -/
theorem compLoop_any {prog : Program} {w : World} {A : Around} {R : Result → Shared → Prop} {s : Shared} {elt target iter : Expr} {ifs : List Expr} {scope : Scope} {pos : Pos} {it acc : Value} {env : Env} (I : Nat → Shared → Prop)
    (turn : ∀ n s, I n s → wpAny (model prog w) A (pyNext it) (fun r s₁ => match r with
      | none => R (.ok .next) s₁
      | some v => wpAny (model prog w) A (letOwnedTupleGo target it v) (fun _ s₁' => wpAny (model prog w) A (assign target env v) (fun _ s₂ =>
          wpAny (model prog w) A (forIn ifs true fun c r => if r = true then do let ok ← isTrue c env (eval c env); pure (ForInStep.yield ok) else pure (ForInStep.yield r)) (fun ok s₃ =>
            if ok = true then wpAny (model prog w) A (eval elt env) (fun x s₄ =>
              wpAny (model prog w) A (call (.builtin "list.append") [acc, x]) (fun _ s₅ => ∃ m, m < n ∧ I m s₅) (notedBy (model prog w) A env fun e s' => R (.error e) s') s₄) (notedBy (model prog w) A env fun e s' => R (.error e) s') s₃
            else ∃ m, m < n ∧ I m s₃) (notedBy (model prog w) A env fun e s' => R (.error e) s') s₂) (notedBy (model prog w) A env fun e s' => R (.error e) s') s₁') (notedBy (model prog w) A env fun e s' => R (.error e) s') s₁) (notedBy (model prog w) A env fun e s' => R (.error e) s') s)
    (n : Nat) (h : I n s) :
    codeAny (model prog w) A (.compLoop (.ListComp elt [⟨target, iter, ifs, 0⟩] scope pos) 0 it acc env) R s := by
  refine codeAny_loop rfl I (fun n s hI => ?_) n h
  show wpAny _ A ((compTurn (.ListComp elt [⟨target, iter, ifs, 0⟩] scope pos) 0 it acc env).onRaise (fun x => do noteFrame x env; theTreesLotGoes x)) _ _ s
  refine wpAny_noted ?_
  rw [compTurn_list]
  refine wpAny_bind (wpAny_standAt (wpAny_bind (wpAny_mono (turn n s hI) (fun r s₁ h₁ => ?_) fun _ _ h' => h')))
  cases r with
  | none => exact wpAny_pure h₁
  | some v =>
    refine wpAny_bind (wpAny_mono h₁ (fun _ s₁' h₁' => ?_) fun _ _ h' => h')
    refine wpAny_bind (wpAny_mono h₁' (fun _ s₂ h₂ => wpAny_bind (wpAny_mono h₂ (fun ok s₃ h₃ => ?_) fun _ _ h' => h')) fun _ _ h' => h')
    cases ok with
    | false => exact wpAny_pure ⟨rfl, h₃⟩
    | true =>
      exact wpAny_bind (wpAny_bind (wpAny_mono h₃ (fun x s₄ h₄ => wpAny_bind (wpAny_mono h₄ (fun _ s₅ h₅ => wpAny_pure (wpAny_pure ⟨rfl, h₅⟩)) fun _ _ h' => h')) fun _ _ h' => h'))
section
variable {X : Cx}
/-- [elt for target in iter if ..]: D the new list; W by the turn and a measure, Nx what a turn is to reach -/
def tLc (wi : TI) (g : TG) (tt : TT) (te : TE) (vs : List Nat) : TE := fun σ H Q => wi σ H fun J H1 => ∀ D, H1 D = none → ∃ W : Nat → Nat → Hp → Prop, (∃ m, W 0 m (upd H1 D (.lst []))) ∧ ∀ i m H, W i m H →
  (J.stop i H ∧ Q (.ref D) H) ∨ (J.go i H ∧ ∃ Nx : Hp → Prop, (∀ H', Nx H' → ∃ m', m' < m ∧ W (i + 1) m' H') ∧ ∀ x H', J.yld i H x H' → g x (wipe σ vs) H' fun σ2 H2 => wipe σ2 vs = wipe σ vs ∧ tt σ2 H2 fun b H3 =>
    if b = true then te σ2 H3 fun y H4 => ∃ acc, H4 D = some (.lst acc) ∧ acc.length < sizeLine ∧ Nx (upd H4 D (.lst (acc ++ [y]))) else Nx H3)
theorem lc_core {pins : List (Addr × Obj)} {s : Shared} {σ : St} {H : Hp} {Q : VK} {elt tg iter : Expr} {ifs : List Expr} {scope : Scope} {own : List (Str × Nat)} {pos pos' : Pos} {wi : TI} {g : TG} {tt : TT} {te : TE} {use : Option (Value → Sem Unit)} {Qf : Value → Shared → Prop}
    (hc : X.calm = true) (hN : X.N.Nodup) (I : Inv X pins σ H s) (hi : PI X tg iter wi) (ok : BlkOk X.N X.env.scope scope own)
    (hg : ∀ (s : Shared) (H : Hp) (C : Addr) (cl : List (Str × Addr)) (fp : List Addr), PG (X.blk s H scope (compEnvC scope cl C X.env) fp) tg g) (ht : ∀ (s : Shared) (H : Hp) (C : Addr) (cl : List (Str × Addr)) (fp : List Addr), PTs (X.blk s H scope (compEnvC scope cl C X.env) fp) ifs tt)
    (he : ∀ (s : Shared) (H : Hp) (C : Addr) (cl : List (Str × Addr)) (fp : List Addr), PE (X.blk s H scope (compEnvC scope cl C X.env) fp) elt te) (hs : ∀ x, foldedSetIterable iter X.env x = pure x)
    (h : tLc wi g tt te (own.map (·.2)) σ H Q)
    (hRR : ∀ D C s' m H', Inv X pins σ H' s' → Q (.ref D) H' → s'.heap.Ns C m → FpOk X pins H' C → compPost (model X.prog X.w) X.A X.xe use Qf (.ref D) C (.ok .next) s') :
    wpAny (model X.prog X.w) X.A (comprehension (.ListComp elt [⟨tg, iter, ifs, 0⟩] scope pos) scope X.env pos' (newList []) false (eval iter X.env) use) Qf X.xe s := by
  have hfree : ∀ y ∈ scope.names, y.2 = .free → ∃ c, X.env.cells.lookup y.1 = some c := fun y hy e => by
    rcases ok.free y hy e with k | k
    · exact I.ok.has _ (.inl k)
    · exact I.ok.has _ (.inr k)
  refine wpAny_comprehension_free (use := use) rfl hs (closure_ok hfree) ok.kind (fun y hy e => by rw [ok.uniq y hy, e])
    (thn (hi pins s σ H _ I h) fun xv s1 hx => thn hx fun itv s2 h2 => ?_)
  obtain ⟨it, fp, tn, J, H2, e, I2, T, st2, f2, q⟩ := h2
  subst e
  refine wpAny_newObj_type (newEnv_comp ?_) (by show 0 ≤ sizeLine; decide)
  generalize hD : s2.heap.objs.size = D
  have hDn : H2 D = none := I2.hok.fresh (Nat.le_of_eq hD)
  obtain ⟨W, ⟨m0, w0⟩, turn⟩ := q D hDn
  -- the new list
  generalize hs3 : ({ s2 with heap := s2.heap.push { cls := .type "list", data := .seq ([] : List Value).toArray } } : Shared) = s3
  have I3 : Inv X pins σ (upd H2 D (.lst [])) s3 := by
    rw [← hs3]
    refine I2.laid (t' := s2.toks) (fun b o e => Heap.get?_push_of_some _ e) (Nat.le_of_eq hD) ⟨Nat.zero_le _, [], 0, .nil, ?_⟩
    rw [← hD]
    exact Heap.get?_push_size _ rfl
  have h3 : s3.heap = s2.heap.push { cls := .type "list", data := .seq ([] : List Value).toArray } := by rw [← hs3]
  have sz : ∀ b ∈ fp, b < s2.heap.objs.size := fun b hb => by
    obtain ⟨o, e, _⟩ := T.obj _ _ st2 b hb
    exact Heap.lt_size e
  have f3 : ∀ b ∈ fp, FpOk X pins (upd H2 D (.lst [])) b ∧ b < s3.heap.objs.size := fun b hb => by
    have hlt := sz b hb
    refine ⟨⟨?_, (f2 b hb).2⟩, by rw [h3, Heap.size_push]; exact Nat.lt_succ_of_lt hlt⟩
    rw [upd_ne (by rw [← hD]; exact Nat.ne_of_lt hlt)]
    exact (f2 b hb).1
  have st3 : tn 0 s3.heap := T.keep _ _ _ st2 fun b _ o e => by rw [h3]; exact Heap.get?_push_of_some _ e
  have I4 := block_start I3 ok hN f3
  have pg := hg s3 (upd H2 D (.lst [])) s3.heap.objs.size (cellsFrom (s3.heap.objs.size + 1) scope.names (cloFrom X.env.cells scope.names [])) fp
  have pt := ht s3 (upd H2 D (.lst [])) s3.heap.objs.size (cellsFrom (s3.heap.objs.size + 1) scope.names (cloFrom X.env.cells scope.names [])) fp
  have pe := he s3 (upd H2 D (.lst [])) s3.heap.objs.size (cellsFrom (s3.heap.objs.size + 1) scope.names (cloFrom X.env.cells scope.names [])) fp
  show codeAny _ _ (.compStart (.ListComp elt [⟨tg, iter, ifs, 0⟩] scope pos) 0 (.ref it) (.ref D) (compEnvC scope (cellsFrom (s3.heap.objs.size + 1) scope.names (cloFrom X.env.cells scope.names [])) s3.heap.objs.size X.env)) (compPost (model X.prog X.w) X.A X.xe use Qf (.ref D) s3.heap.objs.size) { s3 with heap := pushCells (s3.heap.push { cls := .type "dict", data := .dict #[] }) scope.names }
  have nfp : ∀ b ∈ fp, (upd H2 D (.lst [])) b = none := fun b hb => (f3 b hb).1.1
  generalize hce : compEnvC scope (cellsFrom (s3.heap.objs.size + 1) scope.names (cloFrom X.env.cells scope.names [])) s3.heap.objs.size X.env = ce at I4 pg pt pe ⊢
  have cL : ce.locals = s3.heap.objs.size := by subst hce; rfl
  generalize hH3 : upd H2 D (.lst []) = H3 at I3 I4 pg pt pe w0 nfp f3
  generalize hs4 : ({ s3 with heap := pushCells (s3.heap.push { cls := .type "dict", data := .dict #[] }) scope.names } : Shared) = s4 at I4 ⊢
  have st4 : tn 0 s4.heap := T.keep _ _ _ st3 fun b _ o e => by rw [← hs4]; exact pushCells_keeps _ _ _ _ (Heap.get?_push_of_some _ e)
  have stat : ∀ {σ' : St} {H' : Hp} {s' : Shared}, Inv (X.blk s3 H3 scope ce fp) [] σ' H' s' → (∀ b ∈ fp, H' b = none) → ∀ b ∈ fp, FpOk (X.blk s3 H3 scope ce fp) [] H' b := fun {σ' H' s'} I' hn b hb =>
    ⟨hn b hb, (I'.ok.exf b hb).1, I'.ok.exfs b hb, .inl hb, fun x c e => (I'.ok.exf b hb).2 x c e, fun p hp => absurd (show p ∈ ([] : List (Addr × Obj)) ++ [] from hp) (by simp)⟩
  have loop : codeAny (model X.prog X.w) X.A (.compLoop (.ListComp elt [⟨tg, iter, ifs, 0⟩] scope pos) 0 (.ref it) (.ref D) ce) (compPost (model X.prog X.w) X.A X.xe use Qf (.ref D) s3.heap.objs.size) s4 := by
    refine compLoop_any (fun n s' => ∃ i H', Inv (X.blk s3 H3 scope ce fp) [] (wipe σ (own.map (·.2))) H' s' ∧ tn i s'.heap ∧ (∀ b ∈ fp, H' b = none) ∧ W i n H') ?_ m0 ⟨0, H3, I4, st4, nfp, w0⟩
    rintro n s5 ⟨i, H5, I5, st5, n5, w5⟩
    rcases turn i n H5 w5 with ⟨stop, qq⟩ | ⟨go, Nx, hNx, step⟩
    · have td := T.done (X.blk s3 H3 scope ce fp) rfl rfl rfl hc i [] s5 _ H5 (fun _ _ => False) I5 (stat I5 n5) st5 stop
      refine thnF td fun r s6 ⟨hr, I6⟩ => ?_
      subst hr
      -- back in the def's context
      have I7 : Inv X pins σ H5 s6 := I3.call' (ch := fp) I6.os I6.base I6.hok I6.bare fun b hb => ⟨(f3 b hb).1.2.2.2.1, (f3 b hb).1.2.1, (f3 b hb).1.2.2.2.2.1, (f3 b hb).1.2.2.2.2.2⟩
      have nC : H5 s3.heap.objs.size = none := by
        have z : H5 ce.locals = none := I6.free
        rw [cL] at z
        exact z
      obtain ⟨m, hn, _⟩ := I6.loc
      have hn : s6.heap.Ns ce.locals m := hn
      rw [cL] at hn
      exact hRR D s3.heap.objs.size s6 m H5 I7 qq hn (I3.fpOk (Nat.le_refl _) nC)
    · have ti := T.item (X.blk s3 H3 scope ce fp) rfl rfl rfl hc i [] s5 _ H5 (fun _ _ => False) I5 (stat I5 n5) st5 go
      refine thnF ti fun r s6 ⟨u, hr, h6⟩ => ?_
      subst hr
      refine thnF h6 fun _ s7 ⟨x, H7, I7, r7, y7, st7, n7⟩ => ?_
      have I7' := I7.pinned (stat I7 n7) (T.obj _ _ st7)
      refine thnF (pg _ s7 _ H7 x u _ I7' r7 (step x H7 y7)) fun _ s8 ⟨σ8, H8, I8, hw8, q8⟩ => ?_
      refine thnF (pt _ s8 σ8 H8 _ I8 q8) fun b s9 ⟨H9, I9, q9⟩ => ?_
      -- the turn's end
      have fin : ∀ {s' : Shared} {H' : Hp}, Inv (X.blk s3 H3 scope ce fp) ([] ++ pinsAt fp s7.heap) σ8 H' s' → Nx H' → ∃ m, m < n ∧ ∃ i H', Inv (X.blk s3 H3 scope ce fp) [] (wipe σ (own.map (·.2))) H' s' ∧ tn i s'.heap ∧ (∀ b ∈ fp, H' b = none) ∧ W i m H' := fun {s' H'} I' nx => by
        obtain ⟨m', hm, w'⟩ := hNx H' nx
        have pin' : ∀ b ∈ fp, ∀ o, s7.heap.get? b = some o → s'.heap.get? b = some o ∧ H' b = none := fun b hb o e =>
          let z := I'.pin (b, o) (List.mem_append_right _ (List.mem_append_right _ (mem_pinsAt hb e)))
          ⟨z.1, z.2.1⟩
        have hl : (wipe σ (own.map (·.2))).length = σ8.length := by rw [← hw8, wipe_length]
        refine ⟨m', hm, i + 1, H', (I'.unpinned (pins := [])).weak hl (fun j v e => ?_), T.keep _ _ _ st7 fun b hb o e => (pin' b hb o e).1, fun b hb => ?_, w'⟩
        · rw [← hw8] at e
          exact (wipe_some e).1
        · obtain ⟨o, e, _⟩ := T.obj _ _ st7 b hb
          exact (pin' b hb o e).2
      cases b with
      | false =>
        simp only [Bool.false_eq_true, if_false] at q9 ⊢
        exact fin I9 q9
      | true =>
        simp only [if_true] at q9 ⊢
        refine thnF (pe _ s9 σ8 H9 _ I9 q9) fun z s10 ⟨yv, H10, I10, r10, acc, hD10, hz10, nx⟩ => ?_
        exact app_ok (X := X.blk s3 H3 scope ce fp) I10 hD10 hz10 r10 fun s11 I11 => fin I11 nx
  exact codeAny_compStart_list loop (T.self X.A 0 _ _ _ st4 loop)
/-- as a value -/
theorem pe_lc {elt tg iter : Expr} {ifs : List Expr} {scope : Scope} {own : List (Str × Nat)} {pos : Pos} {wi : TI} {g : TG} {tt : TT} {te : TE} (hc : X.calm = true) (hN : X.N.Nodup) (hi : PI X tg iter wi) (ok : BlkOk X.N X.env.scope scope own)
    (hg : ∀ (s : Shared) (H : Hp) (C : Addr) (cl : List (Str × Addr)) (fp : List Addr), PG (X.blk s H scope (compEnvC scope cl C X.env) fp) tg g) (ht : ∀ (s : Shared) (H : Hp) (C : Addr) (cl : List (Str × Addr)) (fp : List Addr), PTs (X.blk s H scope (compEnvC scope cl C X.env) fp) ifs tt)
    (he : ∀ (s : Shared) (H : Hp) (C : Addr) (cl : List (Str × Addr)) (fp : List Addr), PE (X.blk s H scope (compEnvC scope cl C X.env) fp) elt te) (hs : ∀ x, foldedSetIterable iter X.env x = pure x := by intro _; rfl) :
    PE X (.ListComp elt [⟨tg, iter, ifs, 0⟩] scope pos) (tLc wi g tt te (own.map (·.2))) := by
  intro pins s σ H Q I h
  rw [eval_ListComp]
  refine lc_core hc hN I hi ok hg ht he hs h fun D C s' m H' I' q hn f => ⟨m, hn, fun h'' sb => ?_⟩
  obtain ⟨f0, f1, f2, f3, f4, f5⟩ := f
  exact ⟨.ref D, H', I'.turned (t' := s'.toks) (fun b o hb e => (sb.2 b hb).trans e) f0 f1 f3 f4 f5, rfl, q⟩
/-- name = [..] on one line, the name a local -/
theorem ps_setLc {i : Nat} {y : Str} {py : Pos} {elt tg iter : Expr} {ifs : List Expr} {scope : Scope} {own : List (Str × Nat)} {pos spos : Pos} {wi : TI} {g : TG} {tt : TT} {te : TE} (hc : X.calm = true) (hN : X.N.Nodup) (hy : X.N[i]? = some y) (hyl : X.env.scope.names.lookup y = some .local)
    (hsw : swapsWith (.ListComp elt [⟨tg, iter, ifs, 0⟩] scope pos) (some (.Name y py)) spos.line X.env = pure true) (hi : PI X tg iter wi) (ok : BlkOk X.N X.env.scope scope own)
    (hg : ∀ (s : Shared) (H : Hp) (C : Addr) (cl : List (Str × Addr)) (fp : List Addr), PG (X.blk s H scope (compEnvC scope cl C X.env) fp) tg g) (ht : ∀ (s : Shared) (H : Hp) (C : Addr) (cl : List (Str × Addr)) (fp : List Addr), PTs (X.blk s H scope (compEnvC scope cl C X.env) fp) ifs tt)
    (he : ∀ (s : Shared) (H : Hp) (C : Addr) (cl : List (Str × Addr)) (fp : List Addr), PE (X.blk s H scope (compEnvC scope cl C X.env) fp) elt te) (hs : ∀ x, foldedSetIterable iter X.env x = pure x := by intro _; rfl) :
    PS X (.Assign [.Name y py] (.ListComp elt [⟨tg, iter, ifs, 0⟩] scope pos) spos) (tAsg (tLc wi g tt te (own.map (·.2))) (gName i)) := by
  intro pins s σ H D I h
  rw [exec_Assign_Name_used _ _ _ _ hsw]
  refine wpAny_bind (wpAny_standAt (wpAny_bind ?_))
  show wpAny _ X.A (do let _ ← comprehension (.ListComp elt [⟨tg, iter, ifs, 0⟩] scope pos) scope X.env (firstIterPos [⟨tg, iter, ifs, 0⟩] pos) (newList []) false (eval iter X.env) (some (assign (.Name y py) X.env))) _ _ s
  have h : tLc wi g tt te (own.map (·.2)) σ H (fun x H1 => gName i x σ H1 D.nx) := h
  refine wpAny_bind (thn (lc_core (Qf := fun _ s' => SP X pins D .next s') hc hN I hi ok hg ht he hs h fun L C s' m H' I' q hn f => ?_) fun _ s' hq => wpAny_pure (wpAny_pure hq))
  show wpAny _ _ (assign (.Name y py) X.env (.ref L)) _ _ _
  refine wpAny_assign_Name (store_ok2 (v := V.ref L) I' hN hy (.inl hyl) rfl (fun s2 I2 ⟨a, sb, ha⟩ => ?_) (.inr hyl))
  obtain ⟨f0, f1, f2, f3, f4, f5⟩ := f
  have haC : C ≠ a := by
    rcases ha with z | z
    · rw [z]; exact f1
    · exact fun e => f4 y a z e.symm
  refine ⟨m, hn.sameBut sb haC, fun h3 sb3 => ?_⟩
  exact ⟨_, H', I2.turned (t' := s2.toks) (fun b o hb e => (sb3.2 b hb).trans e) f0 f1 f3 f4 f5, q⟩
theorem sw_true {elt : Expr} {gs : List Comprehension} {scope : Scope} {pos py : Pos} {y : Str} {l : Nat} {env : Env} (hk : env.scope.kind = .function) (hy : env.scope.names.lookup y = some .local) (hl : (py.line == pos.line) = true)
    (ha : (scope.names.any fun (n, k) => n == y && (k == .local || k == .cell)) = false) : swapsWith (.ListComp elt gs scope pos) (some (.Name y py)) l env = pure true := by
  have ky : env.kindOf y = some .local := hy
  have hb : env.blockKind = .function := by unfold Env.blockKind; rw [hk]; rfl
  unfold swapsWith
  simp only [hb, ky, ha, Expr.pos, hl]
  rfl
end
/-- over a list that the block leaves as it is -/
theorem lc_list {K : PySem.W.Frag} {a : Addr} {xs : List V} {g : TG} {tt : TT} {te : TE} {vs : List Nat} {σ : St} {H1 : Hp} {D : Addr} {Qd : Hp → Prop} (Pv : Nat → Hp → Prop) (h0 : Pv 0 (upd H1 D (.lst []))) (hl : ∀ i H, i ≤ xs.length → Pv i H → SqL K H a xs)
    (hs : ∀ i x H, xs[i]? = some x → Pv i H → g x (wipe σ vs) H fun σ2 H2 => wipe σ2 vs = wipe σ vs ∧ tt σ2 H2 fun b H3 =>
      if b = true then te σ2 H3 fun y H4 => ∃ acc, H4 D = some (.lst acc) ∧ acc.length < sizeLine ∧ Pv (i + 1) (upd H4 D (.lst (acc ++ [y]))) else Pv (i + 1) H3) (hd : ∀ H, Pv xs.length H → Qd H) :
    ∃ W : Nat → Nat → Hp → Prop, (∃ m, W 0 m (upd H1 D (.lst []))) ∧ ∀ i m H, W i m H →
      ((Itl K a).stop i H ∧ Qd H) ∨ ((Itl K a).go i H ∧ ∃ Nx : Hp → Prop, (∀ H', Nx H' → ∃ m', m' < m ∧ W (i + 1) m' H') ∧ ∀ x H', (Itl K a).yld i H x H' → g x (wipe σ vs) H' fun σ2 H2 => wipe σ2 vs = wipe σ vs ∧ tt σ2 H2 fun b H3 =>
        if b = true then te σ2 H3 fun y H4 => ∃ acc, H4 D = some (.lst acc) ∧ acc.length < sizeLine ∧ Nx (upd H4 D (.lst (acc ++ [y]))) else Nx H3) := by
  refine ⟨fun i m H => m = xs.length - i ∧ i ≤ xs.length ∧ Pv i H, ⟨xs.length, by simp, Nat.zero_le _, h0⟩, ?_⟩
  rintro i m H ⟨rfl, hi, p⟩
  have q := hl i H hi p
  by_cases hlt : i < xs.length
  · refine .inr ⟨⟨xs, xs[i], q, by simp [hlt]⟩, Pv (i + 1), fun H' p' => ⟨xs.length - (i + 1), by omega, rfl, hlt, p'⟩, fun x H' y => ?_⟩
    obtain ⟨e, y⟩ := y
    subst e
    exact hs i x _ (y xs q) p
  · have e : i = xs.length := by omega
    subst e
    exact .inl ⟨⟨xs, q, Nat.le_refl _⟩, hd H p⟩
/-- over a tuple -/
theorem lc_tup {K : PySem.W.Frag} {a : Addr} {xs : List V} {g : TG} {tt : TT} {te : TE} {vs : List Nat} {σ : St} {H1 : Hp} {D : Addr} {Qd : Hp → Prop} (Pv : Nat → Hp → Prop) (h0 : Pv 0 (upd H1 D (.lst []))) (hl : ∀ i H, i ≤ xs.length → Pv i H → SqT K H a xs)
    (hs : ∀ i x H, xs[i]? = some x → Pv i H → g x (wipe σ vs) H fun σ2 H2 => wipe σ2 vs = wipe σ vs ∧ tt σ2 H2 fun b H3 =>
      if b = true then te σ2 H3 fun y H4 => ∃ acc, H4 D = some (.lst acc) ∧ acc.length < sizeLine ∧ Pv (i + 1) (upd H4 D (.lst (acc ++ [y]))) else Pv (i + 1) H3) (hd : ∀ H, Pv xs.length H → Qd H) :
    ∃ W : Nat → Nat → Hp → Prop, (∃ m, W 0 m (upd H1 D (.lst []))) ∧ ∀ i m H, W i m H →
      ((Itt K a).stop i H ∧ Qd H) ∨ ((Itt K a).go i H ∧ ∃ Nx : Hp → Prop, (∀ H', Nx H' → ∃ m', m' < m ∧ W (i + 1) m' H') ∧ ∀ x H', (Itt K a).yld i H x H' → g x (wipe σ vs) H' fun σ2 H2 => wipe σ2 vs = wipe σ vs ∧ tt σ2 H2 fun b H3 =>
        if b = true then te σ2 H3 fun y H4 => ∃ acc, H4 D = some (.lst acc) ∧ acc.length < sizeLine ∧ Nx (upd H4 D (.lst (acc ++ [y]))) else Nx H3) := by
  refine ⟨fun i m H => m = xs.length - i ∧ i ≤ xs.length ∧ Pv i H, ⟨xs.length, by simp, Nat.zero_le _, h0⟩, ?_⟩
  rintro i m H ⟨rfl, hi, p⟩
  have q := hl i H hi p
  by_cases hlt : i < xs.length
  · refine .inr ⟨⟨xs, xs[i], q, by simp [hlt]⟩, Pv (i + 1), fun H' p' => ⟨xs.length - (i + 1), by omega, rfl, hlt, p'⟩, fun x H' y => ?_⟩
    obtain ⟨e, y⟩ := y
    subst e
    exact hs i x _ (y xs q) p
  · have e : i = xs.length := by omega
    subst e
    exact .inl ⟨⟨xs, q, Nat.le_refl _⟩, hd H p⟩
def blkC (N : List Str) (sc scope : Scope) (own : List (Str × Nat)) : Bool :=
  (match scope.kind with | .function => true | _ => false) && (scope.names.all fun y => decide (scope.names.lookup y.1 = some y.2)) && (own.all fun p => decide (N[p.2]? = some p.1)) &&
    (scope.names.all fun y => match y.2 with
      | .free => (match sc.names.lookup y.1 with | some .cell => true | some .free => true | _ => false)
      | .local => decide (y.1 ∈ own.map (·.1)) || decide (y.1 ∉ N)
      | .cell => decide (y.1 ∈ own.map (·.1)) || decide (y.1 ∉ N)
      | _ => true)
theorem blkOk_by {N : List Str} {sc scope : Scope} {own : List (Str × Nat)} (h : blkC N sc scope own = true) : BlkOk N sc scope own := by
  unfold blkC at h
  simp only [Bool.and_eq_true, List.all_eq_true, decide_eq_true_eq] at h
  obtain ⟨⟨⟨h1, h2⟩, h3⟩, h4⟩ := h
  refine ⟨?_, h2, h3, fun y hy e => ?_, fun y hy e => ?_⟩
  · split at h1
    · assumption
    · cases h1
  · have q := h4 y hy
    simp only [e] at q
    split at q <;> first | exact .inl (by assumption) | exact .inr (by assumption) | cases q
  · have q := h4 y hy
    rcases e with e | e <;> (simp only [e, Bool.or_eq_true, decide_eq_true_eq] at q; exact q)
end L2
namespace L2
open PySem PySem.Spec PyProof.Rows
section
variable {prog : Program} {w : World} {A : Around} {R : Result → Shared → Prop} {s : Shared} {elt t0 i0 t1 i1 : Expr} {ifs0 ifs1 : List Expr} {scope : Scope} {pos : Pos} {it acc : Value} {env : Env}
end
section
variable {X : Cx}
end
end L2
namespace L2
open PySem PySem.Spec PyProof.Rows
section
variable {κ : Type} [DecidableEq κ]
def valV (kvs : List (κ × V)) (k : κ) : Option V := (kvs.find? fun kv => decide (kv.1 = k)).map (·.2)
/-- in its place, or at the end -/
def putK (kvs : List (κ × V)) (k : κ) (v : V) : List (κ × V) :=
  if (kvs.any fun kv => decide (kv.1 = k)) = true then kvs.map (fun kv => if kv.1 = k then (kv.1, v) else kv) else kvs ++ [(k, v)]
def dropK (kvs : List (κ × V)) (k : κ) : List (κ × V) := kvs.filter fun kv => decide (kv.1 ≠ k)
theorem valV_pos {p : κ × V} {r : List (κ × V)} {k : κ} (e : p.1 = k) : valV (p :: r) k = some p.2 := by simp [valV, List.find?_cons, e]
theorem valV_neg {p : κ × V} {r : List (κ × V)} {k : κ} (e : ¬ p.1 = k) : valV (p :: r) k = valV r k := by simp [valV, List.find?_cons, e]
theorem valV_any (k : κ) : ∀ kvs : List (κ × V), (kvs.any fun kv => decide (kv.1 = k)) = (valV kvs k).isSome
  | [] => rfl
  | p :: r => by
    rw [List.any_cons]
    by_cases e : p.1 = k
    · simp only [valV_pos e, decide_eq_true e, Bool.true_or, Option.isSome_some]
    · rw [valV_neg e, decide_eq_false e, Bool.false_or]; exact valV_any k r
theorem RelO.isSome_eq {o : Option V} {u : Option Value} (r : RelO o u) : o.isSome = u.isSome := by
  cases o with
  | none => cases u with
    | none => rfl
    | some _ => exact (show False from r).elim
  | some _ => cases u with
    | none => exact (show False from r).elim
    | some _ => rfl
theorem RelO.getD {o : Option V} {u : Option Value} {d : V} {d' : Value} (r : RelO o u) (rd : RelV d d') : RelV (o.getD d) (u.getD d') := by
  cases o with
  | none => cases u with
    | none => exact rd
    | some _ => exact (show False from r).elim
  | some _ => cases u with
    | none => exact (show False from r).elim
    | some _ => exact r
/-- raw tables of the same keys -/
theorem KV.val {kvs : List (κ × V)} {vs : List (κ × Value)} (r : KV kvs vs) (k : κ) : RelO (valV kvs k) (valueAt vs k) := by
  unfold KV at r
  induction r with
  | nil => exact True.intro
  | @cons p q ps qs h t ih =>
    obtain ⟨h1, h2⟩ := h
    by_cases e : p.1 = k
    · have e' : q.1 = k := h1.symm.trans e
      have b : valueAt (q :: qs) k = some q.2 := by simp [valueAt, List.find?_cons, e']
      rw [valV_pos e, b]; exact h2
    · have e' : ¬ q.1 = k := fun z => e (h1.trans z)
      have b : valueAt (q :: qs) k = valueAt qs k := by simp [valueAt, List.find?_cons, e']
      rw [valV_neg e, b]; exact ih
theorem KV.any {kvs : List (κ × V)} {vs : List (κ × Value)} (r : KV kvs vs) (k : κ) : (kvs.any fun kv => decide (kv.1 = k)) = vs.any fun kv => decide (kv.1 = k) := by
  unfold KV at r
  induction r with
  | nil => rfl
  | cons h t ih => rw [List.any_cons, List.any_cons, ih, h.1]
theorem KV.repl {kvs : List (κ × V)} {vs : List (κ × Value)} (r : KV kvs vs) (k : κ) {y : V} {u : Value} (ry : RelV y u) :
    KV (kvs.map fun kv => if kv.1 = k then (kv.1, y) else kv) (vs.map fun kv => if kv.1 = k then (kv.1, u) else kv) := by
  unfold KV at r ⊢
  induction r with
  | nil => exact .nil
  | @cons p q ps qs h t ih =>
    rw [List.map_cons, List.map_cons]
    refine .cons ?_ ih
    obtain ⟨h1, h2⟩ := h
    by_cases e : p.1 = k
    · rw [if_pos e, if_pos (h1.symm.trans e)]; exact ⟨h1, ry⟩
    · rw [if_neg e, if_neg (fun z => e (h1.trans z))]; exact ⟨h1, h2⟩
theorem KV.put {kvs : List (κ × V)} {vs : List (κ × Value)} (r : KV kvs vs) (k : κ) {y : V} {u : Value} (ry : RelV y u) : KV (putK kvs k y) (stored vs k u) := by
  unfold putK stored
  rw [r.any k]
  by_cases e : (vs.any fun kv => decide (kv.1 = k)) = true
  · rw [if_pos e, if_pos e]; exact r.repl k ry
  · rw [if_neg e, if_neg e]; exact Paired.snoc r ⟨rfl, ry⟩
theorem KV.drop {kvs : List (κ × V)} {vs : List (κ × Value)} (r : KV kvs vs) (k : κ) : KV (dropK kvs k) (without vs k) := by
  unfold KV at r ⊢
  unfold dropK without
  induction r with
  | nil => exact .nil
  | @cons p q ps qs h t ih =>
    obtain ⟨h1, h2⟩ := h
    rw [List.filter_cons, List.filter_cons]
    by_cases e : p.1 = k
    · have a : ¬ decide (p.1 ≠ k) = true := by simp [e]
      have b : ¬ decide (q.1 ≠ k) = true := by simp [h1.symm.trans e]
      rw [if_neg a, if_neg b]; exact ih
    · have e' : ¬ q.1 = k := fun z => e (h1.trans z)
      have a : decide (p.1 ≠ k) = true := by simp [e]
      have b : decide (q.1 ≠ k) = true := by simp [e']
      rw [if_pos a, if_pos b]; exact .cons ⟨h1, h2⟩ ih
theorem KV.keys {kvs : List (κ × V)} {vs : List (κ × Value)} (r : KV kvs vs) : kvs.map (·.1) = vs.map (·.1) := by
  unfold KV at r
  induction r with
  | nil => rfl
  | cons h t ih => rw [List.map_cons, List.map_cons, ih, h.1]
theorem KV.length {kvs : List (κ × V)} {vs : List (κ × Value)} (r : KV kvs vs) : kvs.length = vs.length := Paired.length r
end
/-- raw entries of a dict with tuple keys -/
abbrev KT (H : Hp) : List (List Key × V) → List (List Key × Addr × Value) → Prop := Paired fun p q => p.1 = q.1 ∧ H q.2.1 = some (.tup (p.1.map kV)) ∧ RelV p.2 q.2.2
theorem KT.val {H : Hp} {kvs : List (List Key × V)} {xs : List (List Key × Addr × Value)} (r : KT H kvs xs) (k : List Key) : RelO (valV kvs k) ((atKey xs k).map (·.2)) := by
  induction r with
  | nil => exact True.intro
  | @cons p q ps qs h t ih =>
    obtain ⟨h1, _, h2⟩ := h
    by_cases e : p.1 = k
    · have e' : q.1 = k := h1.symm.trans e
      have b : atKey (q :: qs) k = some q.2 := by simp [atKey, List.find?_cons, e']
      rw [valV_pos e, b]; exact h2
    · have e' : ¬ q.1 = k := fun z => e (h1.trans z)
      have b : atKey (q :: qs) k = atKey qs k := by simp [atKey, List.find?_cons, e']
      rw [valV_neg e, b]; exact ih
theorem KT.repl {H : Hp} {kvs : List (List Key × V)} {xs : List (List Key × Addr × Value)} (r : KT H kvs xs) (k : List Key) {y : V} {u : Value} (ry : RelV y u) :
    KT H (kvs.map fun kv => if kv.1 = k then (kv.1, y) else kv) (xs.map (putAt k u)) := by
  induction r with
  | nil => exact .nil
  | @cons p q ps qs h t ih =>
    rw [List.map_cons, List.map_cons]
    refine .cons ?_ ih
    obtain ⟨h1, h2, h3⟩ := h
    unfold putAt
    by_cases e : p.1 = k
    · rw [if_pos e, if_pos (h1.symm.trans e)]; exact ⟨h1, h2, ry⟩
    · rw [if_neg e, if_neg (fun z => e (h1.trans z))]; exact ⟨h1, h2, h3⟩
theorem KT.put {H : Hp} {kvs : List (List Key × V)} {xs : List (List Key × Addr × Value)} (r : KT H kvs xs) (k : List Key) {b : Addr} {y : V} {u : Value} (hb : H b = some (.tup (k.map kV))) (ry : RelV y u) :
    KT H (putK kvs k y) (storedH xs k b u) := by
  have e : (kvs.any fun kv => decide (kv.1 = k)) = (atKey xs k).isSome := by
    rw [valV_any, (r.val k).isSome_eq, Option.isSome_map]
  unfold putK storedH
  rw [e]
  by_cases q : (atKey xs k).isSome = true
  · rw [if_pos q, if_pos q]; exact r.repl k ry
  · rw [if_neg q, if_neg q]; exact Paired.snoc r ⟨rfl, hb, ry⟩
theorem KT.keeps {H H' : Hp} {kvs : List (List Key × V)} {xs : List (List Key × Addr × Value)} (r : KT H kvs xs) (ht : ∀ b ys, H b = some (.tup ys) → H' b = some (.tup ys)) : KT H' kvs xs :=
  Paired.mapP r fun _ _ z => ⟨z.1, ht _ _ z.2.1, z.2.2⟩
section
variable {P : Program} {w : World} {H : Hp} {h : Heap} {a : Addr}
end
/-- what the dict at a holds at the key y -/
def DGet (H : Hp) (a : Addr) (y : V) (r : Option V) : Prop :=
  (∃ kvs k, Rd H a (.dK kvs) ∧ y = kV k ∧ r = valV kvs k) ∨ ∃ kvs k b, Rd H a (.dT kvs) ∧ y = .ref b ∧ H b = some (.tup (k.map kV)) ∧ r = valV kvs k
/-- the heap behind a[y] = v -/
def DPut (H : Hp) (a : Addr) (y v : V) (H' : Hp) : Prop :=
  (∃ kvs k, H a = some (.dK kvs) ∧ y = kV k ∧ kvs.length < sizeLine ∧ H' = upd H a (.dK (putK kvs k v))) ∨
  ∃ kvs k b, H a = some (.dT kvs) ∧ y = .ref b ∧ H b = some (.tup (k.map kV)) ∧ kvs.length < sizeLine ∧ H' = upd H a (.dT (putK kvs k v))
theorem DGet.k {H : Hp} {a : Addr} {kvs : List (Key × V)} {k : Key} (e : H a = some (.dK kvs)) : DGet H a (kV k) (valV kvs k) := .inl ⟨kvs, k, .inl e, rfl, rfl⟩
theorem DGet.t {H : Hp} {a b : Addr} {kvs : List (List Key × V)} {k : List Key} (e : H a = some (.dT kvs)) (eb : H b = some (.tup (k.map kV))) : DGet H a (.ref b) (valV kvs k) := .inr ⟨kvs, k, b, .inl e, rfl, eb, rfl⟩
theorem DPut.k {H : Hp} {a : Addr} {kvs : List (Key × V)} {k : Key} {v : V} (e : H a = some (.dK kvs)) (hl : kvs.length < sizeLine) : DPut H a (kV k) v (upd H a (.dK (putK kvs k v))) := .inl ⟨kvs, k, e, rfl, hl, rfl⟩
theorem DPut.t {H : Hp} {a b : Addr} {kvs : List (List Key × V)} {k : List Key} {v : V} (e : H a = some (.dT kvs)) (eb : H b = some (.tup (k.map kV))) (hl : kvs.length < sizeLine) :
    DPut H a (.ref b) v (upd H a (.dT (putK kvs k v))) := .inr ⟨kvs, k, b, e, rfl, eb, hl, rfl⟩
section
variable {X : Cx} {pins : List (Addr × Obj)} {σ : St} {H : Hp} {s : Shared} {a : Addr} {y v : V} {u r : Value} {o : Option V} {A : Around} {E : Value → Shared → Prop}
end
section
variable {X : Cx} {pins : List (Addr × Obj)} {σ : St} {H : Hp} {s : Shared} {a : Addr} {kvs : List (Key × V)} {k : Key} {u : Value} {A : Around} {E : Value → Shared → Prop}
end
section
variable {X : Cx} {o i e value : Expr} {pos pos' tpos : Pos} {td ty tv : TE}
end
section
variable {X : Cx} {pos : Pos}
end
section
variable {X : Cx} {pins : List (Addr × Obj)} {σ : St} {H : Hp} {s : Shared} {a : Addr} {y d : V} {u r : Value} {o : Option V} {A : Around} {E : Value → Shared → Prop}
end
section
variable {X : Cx} {o e f : Expr} {apos cpos : Pos} {td ty tx : TE}
end
section
variable {X : Cx} {pins : List (Addr × Obj)} {σ : St} {H : Hp} {s : Shared} {a : Addr} {kvs : List (Key × V)} {A : Around} {E : Value → Shared → Prop}
end
section
variable {X : Cx} {pins : List (Addr × Obj)} {σ : St} {H : Hp} {s : Shared} {a : Addr} {y : V} {u : Value} {A : Around} {E : Value → Shared → Prop}
end
end L2
namespace L2
open PySem PySem.Spec PyProof.Rows
section
variable {prog : Program} {w : World} {A : Around} {E : Value → Shared → Prop}
end
section
variable {X : Cx}
end
end L2
namespace L2
open PySem PySem.Spec PyProof.Rows
section
variable {X : Cx} {pins : List (Addr × Obj)} {σ : St} {H : Hp} {s : Shared} {h' : Heap}
/-- several records of ours have turned -/
theorem Inv.turnedL {t' : Nat} {ch : List Addr} (I : Inv X pins σ H s) (k : ∀ b o, b ∉ ch → s.heap.get? b = some o → h'.get? b = some o) (hf : ∀ b ∈ ch, FpOk X pins H b) : Inv X pins σ H { s with heap := h', toks := t' } := by
  have nit : ∀ b u, H b = some u → b ∉ ch := fun b u e z => by
    have q := (hf b z).1
    rw [q] at e; cases e
  refine I.step (g' := s.gens) (d' := s.drawn) (ch := ch) (fun b hb => ⟨(hf b hb).2.2.2.1, (hf b hb).2.1, (hf b hb).2.2.2.2.1, (hf b hb).2.2.2.2.2⟩) (fun b o _ _ hc e _ => k b o hc e) (fun b o _ _ hc e _ => ⟨o.slots, k b o hc e⟩)
    (fun _ _ _ _ n => n) (fun b o hc e => ⟨o, k b o hc e⟩) (fun _ _ e => e) (fun _ _ _ e => e) (fun b ps e => ⟨#[], by rw [e]; simp⟩) (fun m hm => ?_) (fun b u e => ?_) I.bare
  · obtain ⟨o, es, ep, ho, r⟩ := hm
    exact ⟨o, es, ep, k _ o (fun z => (hf _ z).2.1 rfl) ho, r⟩
  · refine (I.hok b u e).stay (fun c v hc q => k c v ?_ q) (fun _ q => q) fun _ _ q => q
    rcases hc with z | z
    · rw [z]; exact nit b u e
    · exact nit c _ z
/-- .. and one new object is laid -/
theorem Inv.turnedNew {t' : Nat} {ch : List Addr} {T : Addr} {ob : HO} (I : Inv X pins σ H s) (k : ∀ b o, b ∉ ch → s.heap.get? b = some o → h'.get? b = some o) (hf : ∀ b ∈ ch, FpOk X pins H b) (hT : s.heap.objs.size ≤ T)
    (new : ObjOk X.prog X.w (upd H T ob) h' T ob) : Inv X pins σ (upd H T ob) { s with heap := h', toks := t' } := by
  have hn : H T = none := I.hok.fresh hT
  have nit : ∀ b u, H b = some u → b ∉ ch := fun b u e z => by
    have q := (hf b z).1
    rw [q] at e; cases e
  refine I.step (g' := s.gens) (d' := s.drawn) (ch := ch) (fun b hb => ⟨(hf b hb).2.2.2.1, (hf b hb).2.1, (hf b hb).2.2.2.2.1, (hf b hb).2.2.2.2.2⟩) (fun b o _ _ hc e _ => k b o hc e) (fun b o _ _ hc e _ => ⟨o.slots, k b o hc e⟩)
    (fun b o _ e n => ?_) (fun b o hc e => ⟨o, k b o hc e⟩) (fun b xs e => ?_) (fun b o u e => ?_) (fun b ps e => ⟨#[], ?_⟩) (fun m hm => ?_) (fun b u e => ?_) I.bare
  · rw [upd_ne (Nat.ne_of_lt (Nat.lt_of_lt_of_le (Heap.lt_size e) hT))]; exact n
  · rw [upd_ne (ne_of_none e hn)]; exact e
  · rw [upd_ne (ne_of_none e hn)]; exact e
  · rw [upd_ne (ne_of_none e hn), e]; simp
  · obtain ⟨o, es, ep, ho, r⟩ := hm
    exact ⟨o, es, ep, k _ o (fun z => (hf _ z).2.1 rfl) ho, r⟩
  · by_cases hb : b = T
    · subst hb
      rw [upd_same] at e
      cases e
      exact new
    · rw [upd_ne hb] at e
      refine (I.hok b u e).stay (fun c v hc q => k c v ?_ q) (fun c q => by rw [upd_ne (ne_of_none q hn)]; exact q) fun c xs q => by rw [upd_ne (ne_of_none q hn)]; exact q
      rcases hc with z | z
      · rw [z]; exact nit b u e
      · exact nit c _ z
end
section
variable {X : Cx}
end
section
variable {X : Cx} {tg : Expr}
end
section
variable {X : Cx} {tg : Expr}
end
section
variable {prog : Program} {w : World} {A : Around} {E : Value → Shared → Prop} {s : Shared}
end
theorem paired_get {α β : Type} {G : α → β → Prop} {l₁ : List α} {l₂ : List β} (h : Paired G l₁ l₂) : ∀ {i : Nat} {a : α}, l₁[i]? = some a → ∃ b, l₂[i]? = some b ∧ G a b := by
  induction h with
  | nil => intro i a e; simp at e
  | @cons a b l₁ l₂ r t ih =>
    intro i a' e
    cases i with
    | zero =>
      simp only [List.getElem?_cons_zero, Option.some.injEq] at e
      subst e
      exact ⟨b, rfl, r⟩
    | succ j =>
      simp only [List.getElem?_cons_succ] at e ⊢
      exact ih e
section
variable {X : Cx} {pins : List (Addr × Obj)} {σ : St} {H : Hp} {s : Shared} {d : Addr} {o : Obj}
end
section
variable {P : Program} {w : World} {K : PySem.W.Frag} {tg : Expr} {d : Addr} {o : Obj} {es : Array DictEntry} {ep : Nat}
end
section
variable {X : Cx} {tg e : Expr} {td : TE} {apos cpos : Pos}
end
theorem boot_zip5 : bootBuiltins "zip" = some (.type "zip") := by decide +kernel
end L2
section 
namespace Bits
open PySem PyProof.Rows
end Bits
end 
section 
namespace TL
open PySem PySem.Builtin PySem.Builtin.Str PySem.StrLaws
abbrev tl (x : Str) : List Nat := x.cps.toList
/-- S stands at the head of l -/
def pre (S l : List Nat) : Bool := l.take S.length == S
/-- what stands before the first S, and behind it -/
def par (S : List Nat) : List Nat → List Nat → Option (List Nat × List Nat)
  | _, [] => none
  | acc, c :: r => if pre S (c :: r) = true then some (acc, (c :: r).drop S.length) else par S (acc ++ [c]) r
end TL
end 
namespace L2
open PySem PySem.Spec PyProof.Rows
section
variable {X : Cx} {pins : List (Addr × Obj)} {σ : St} {H : Hp} {s : Shared} {Q : VK}
end
section
variable {X : Cx}
end
section
variable {X : Cx} {o e : Expr} {to te : TE}
end
end L2
namespace L2
open PySem PySem.Spec PyProof.Rows
section
variable {X : Cx}
end
theorem IsPart.raw {v : Value} {o : Option Int} (p : IsPart v o) : ∃ l : Option (Int × Tok), v = partValue l ∧ l.map (·.1) = o := by
  cases p with
  | none => exact ⟨none, rfl, rfl⟩
  | int i t => exact ⟨some (i, t), rfl, rfl⟩
end L2
namespace Att
open PySem PySem.W PySem.Calls PyProof.Rows
section
variable {prog : Program} {w : World} {A : Around} {E : Value → Shared → Prop} {s : Shared} {K : Frag}
end
end Att
namespace L2
open PySem PySem.Spec PyProof.Rows
end L2
namespace L2
open PySem PySem.Spec PyProof.Rows
end L2
namespace L2
open PySem PySem.Spec PyProof.Rows
def defArgs (s : Stmt) : Arguments := match s with
  | .FunctionDef _ a _ _ _ _ _ _ _ _ => a
  | _ => { posonlyargs := [], args := [], vararg := none, kwonlyargs := [], kw_defaults := [], kwarg := none, defaults := [] }
def defBody (s : Stmt) : List Stmt := match s with
  | .FunctionDef _ _ b _ _ _ _ _ _ _ => b
  | _ => []
def defScope (s : Stmt) : Scope := match s with
  | .FunctionDef _ _ _ _ _ _ sc _ _ _ => sc
  | _ => { kind := .function, names := [], isGenerator := false, isCoroutine := false }
abbrev CX0 : CXT := fun _ _ _ _ _ _ => False
abbrev E0 : XK := fun _ _ _ => False
theorem pass0 {X : Cx} : Passes CX0 X E0 := fun _ _ _ _ _ _ _ h => h.elim
structure Fun (K : PySem.W.Frag) (x qual : Str) (st : Stmt) (f : Addr) (fd : FuncData) : Prop where
  ex : ∃ (oc : Value) (od : Option Addr) (kV doc pm : Value) (an : Option Addr) (cdv ct : Value) (osl : Array (Option Value)),
    fd = PySem.W.fnOf x qual (defArgs st) (defBody st) (defScope st) .none kV doc pm an cdv ct ∧ K.lookup f = some ⟨oc, od, .func fd, osl⟩ ∧ PySem.W.codeIn K cdv qual = true
  kp : PySem.W.keepIn K (.ref f) = true
section
variable {P : Program} {w : World} {K : PySem.W.Frag} {mg : Str → Option Value} {base : Heap}
/-- THE RULE for a def: its body as a term of rules, and the reading of that term -/
theorem Fun.ok {x qual : Str} {st : Stmt} {f : Addr} {fd : FuncData} {N ps : List Str} {k : Nat} {sp : Sp} (F : Fun K x qual st f fd) (S : FnScope N ps (defScope st)) (len : ∀ vs H Q E, sp vs H Q E → vs.length = ps.length)
    (hbody : ∀ (cdv : Value) (A : Around) (outer : List Env) (s : Shared) (H : Hp) (vs : List V) (Q : VK) (E : XK), Room k (A.deeper (envOfC qual (defScope st) s.heap.objs.size f cdv)) → sp vs H Q E →
      ∃ t, PSs (cxOf CX0 P w K mg base N qual (defScope st) f cdv A outer s H E).nox (defBody st) t ∧ t { nx := fun _ H' => Q .non H', rt := Q } (start N vs) H) : FnOk P w K mg base CX0 (k + 1) f fd ps sp := by
  obtain ⟨oc, od, kV, doc, pm, an, cdv, ct, osl, rfl, lk, hcd⟩ := F.ex
  refine fn_of lk hcd S len fun A outer s H vs Q E hr hsp => ?_
  obtain ⟨t, h, q⟩ := hbody cdv A outer s H vs Q E hr hsp
  exact ⟨t, h.nox, q⟩
/-- how its arguments bind (no defaults): h is «fun _ _ _ _ _ _ us hl => match us, hl with | [_, _], _ => rfl», one _ a parameter -/
theorem Fun.binds {x qual : Str} {st : Stmt} {f : Addr} {fd : FuncData} {ps : List Str} (F : Fun K x qual st f fd)
    (h : ∀ (kV doc pm : Value) (an : Option Addr) (cdv ct : Value) (us : List Value), us.length = ps.length → bindArgs (PySem.W.fnOf x qual (defArgs st) (defBody st) (defScope st) .none kV doc pm an cdv ct) ⟨us, []⟩ = pure (ps.zip us)) : Binds K fd ps [] := by
  obtain ⟨oc, od, kV, doc, pm, an, cdv, ct, osl, rfl, lk, hcd⟩ := F.ex
  exact .all (h kV doc pm an cdv ct)
theorem fun_mk {x qual : Str} {st : Stmt} {f : Addr} {oc : Value} {od an : Option Addr} {osl : Array (Option Value)} {kV doc pm cdv ct : Value} (l : K.lookup f = some ⟨oc, od, .func (PySem.W.fnOf x qual (defArgs st) (defBody st) (defScope st) .none kV doc pm an cdv ct), osl⟩)
    (c : PySem.W.codeIn K cdv qual = true) (k : PySem.W.keepIn K (.ref f) = true) : Fun K x qual st f (PySem.W.fnOf x qual (defArgs st) (defBody st) (defScope st) .none kV doc pm an cdv ct) := ⟨⟨oc, od, kV, doc, pm, an, cdv, ct, osl, rfl, l, c⟩, k⟩
end
section
variable {X : Cx}
theorem pv (i : Nat) {x : Str} {pos : Pos} (hN : X.N[i]? = some x := by rfl) (hv : Vis X.env.scope x := by first | exact Or.inl rfl | exact Or.inr (Or.inl rfl) | exact Or.inr (Or.inr rfl)) (hd : (x == ("__debug__" : Str)) = false := by decide)
    (hcd : (x == ("__classdict__" : Str)) = false := by decide) : PE X (.Name x pos) (tVar i) := pe_var hN hv hd hcd
end
theorem iteF {A B : Prop} (h : B) : if false = true then A else B := by
  rw [if_neg Bool.false_ne_true]
  exact h
theorem iteT {A B : Prop} (h : A) : if true = true then A else B := by
  rw [if_pos rfl]
  exact h
/-- all that was tracked is as it was -/
def Same (H H' : Hp) : Prop := ∀ b o, H b = some o → H' b = some o
theorem Same.refl (H : Hp) : Same H H := fun _ _ h => h
theorem Same.trans {H H1 H2 : Hp} (a : Same H H1) (b : Same H1 H2) : Same H H2 := fun c o h => b c o (a c o h)
theorem Same.free {H H' : Hp} (e : Same H H') {l : Addr} (h : H' l = Option.none) : H l = Option.none := by
  cases q : H l with
  | none => rfl
  | some o =>
    rw [e l o q] at h
    cases h
theorem Same.seq {K : PySem.W.Frag} {H H' : Hp} {a : Addr} {xs : List V} (e : Same H H') (h : SqL K H a xs) : SqL K H' a xs := by
  rcases h with (h | ⟨o, h⟩) | h
  · exact .inl (.inl (e _ _ h))
  · exact .inl (.inr ⟨o, e _ _ h⟩)
  · exact .inr h
section
variable {κ : Type} [DecidableEq κ]
end
/-- a new instance and its __init__ leave all that was tracked as it was -/
theorem Same.made {H H1 : Hp} {x dx C : Addr} (nx : H x = Option.none) (nd : H dx = Option.none) (k : ∀ b o, (upd (upd H dx (.own x)) x (.ins C dx [])) b = some o → b ≠ x → H1 b = some o) : Same H H1 := fun b o e =>
  k b o (by rw [upd_ne (ne_of_none e nx), upd_ne (ne_of_none e nd)]; exact e) (ne_of_none e nx)
end L2
end
section
set_option Elab.async false
set_option linter.all false
set_option maxRecDepth 100000
set_option maxHeartbeats 2000000
namespace L2
open PySem PySem.Spec PyProof.Rows
open PySem.W (WData Codec OpenSpec Well WellAll ReadsW ReadsAllW)
mutual
/-- x stands for the datum d, lists and tuples all the way -/
inductive Dw (K : PySem.W.Frag) (H : Hp) : V → WData → Prop
  | non : Dw K H .non .none
  | bl (b : Bool) : Dw K H (.bl b) (.bool b)
  | int (i : Int) : Dw K H (.int i) (.int i)
  | str (x : Str) : Dw K H (.str x) (.str x)
  | byt (b : Array UInt8) : Dw K H (.byt b) (.bytes b.toList)
  | lst {a : Addr} {xs : List V} {ds : List WData} : SqL K H a xs → DwAll K H xs ds → Dw K H (.ref a) (.list ds)
  | tup {a : Addr} {xs : List V} {ds : List WData} : SqT K H a xs → DwAll K H xs ds → Dw K H (.ref a) (.tuple ds)
inductive DwAll (K : PySem.W.Frag) (H : Hp) : List V → List WData → Prop
  | nil : DwAll K H [] []
  | cons {v : V} {vs : List V} {d : WData} {ds : List WData} : Dw K H v d → DwAll K H vs ds → DwAll K H (v :: vs) (d :: ds)
end
theorem dw_ints {K : PySem.W.Frag} {H : Hp} : ∀ ns : List Int, DwAll K H (ns.map V.int) (ns.map WData.int)
  | [] => .nil
  | n :: r => .cons (.int n) (dw_ints r)
theorem ints_dw {K : PySem.W.Frag} {H : Hp} : ∀ (ns : List Int) (xs : List V), DwAll K H xs (ns.map WData.int) → xs = ns.map V.int
  | [], xs, h => by
    cases h
    rfl
  | n :: r, xs, h => by
    cases h with
    | cons h1 h2 =>
      cases h1
      rw [ints_dw r _ h2] <;> rfl
section
variable {P : Program} {w : World} {K : PySem.W.Frag} {H : Hp} {h : Heap} {R : PySem.W.WRecords} {cl : Str → Option Addr}
theorem sqL_at {a : Addr} {xs : List V} (hok : HOk P w H h) (KX : K.In h) (q : SqL K H a xs) : ∃ (its : List Value) (o : Obj) (n : Nat), Vals xs its ∧ h.get? a = some o ∧ o.cls = .type "list" ∧ o.data = .seq its.toArray n := by
  rcases q with q | ⟨o, its, n, e, hc, _, hd, _, hv⟩
  · obtain ⟨_, its, n, hv, e⟩ := (show ObjOk P w H h a (.lst xs) from q.ok hok)
    exact ⟨its, _, n, hv, e, rfl, rfl⟩
  · exact ⟨its.toList, o, n, hv, KX _ _ e, hc, by simp [hd]⟩
theorem sqT_at {a : Addr} {xs : List V} (hok : HOk P w H h) (KX : K.In h) (q : SqT K H a xs) : ∃ (its : List Value) (o : Obj) (n : Nat), Vals xs its ∧ h.get? a = some o ∧ o.cls = .type "tuple" ∧ o.data = .seq its.toArray n := by
  rcases q with q | ⟨o, its, n, e, hc, hd, _, hv⟩
  · obtain ⟨_, its, hv, o, e, hc, n, hd⟩ := (show ObjOk P w H h a (.tup xs) from q.ok hok)
    exact ⟨its, o, n, hv, e, hc, hd⟩
  · exact ⟨its.toList, o, n, hv, KX _ _ e, hc, by simp [hd]⟩
mutual
theorem Dw.reads (hok : HOk P w H h) (KX : K.In h) : ∀ (d : WData) (v : V) (u : Value), Dw K H v d → RelV v u → ∃ as, ReadsW R cl h u d as
  | .none, _, _, x, r => by
    cases x
    cases r
    exact ⟨_, ReadsW.none⟩
  | .bool b, _, _, x, r => by
    cases x
    cases r
    exact ⟨_, ReadsW.bool b⟩
  | .int i, _, _, x, r => by
    cases x
    obtain ⟨t, rfl⟩ := r
    exact ⟨_, ReadsW.int i t⟩
  | .str s, _, _, x, r => by
    cases x
    obtain ⟨t, rfl⟩ := r
    exact ⟨_, ReadsW.str s t⟩
  | .bytes b, _, _, x, r => by
    cases x
    obtain ⟨t, rfl⟩ := r
    exact ⟨_, ReadsW.bytes _ t⟩
  | .list ds, _, _, x, r => by
    cases x with
    | lst hs ha =>
      cases r
      obtain ⟨its, o, n, rv, ho, hc, hd⟩ := sqL_at hok KX hs
      obtain ⟨as, hr⟩ := Dw.readsAll hok KX ds _ its ha rv
      exact ⟨_, ReadsW.list ho hc hd hr⟩
  | .tuple ds, _, _, x, r => by
    cases x with
    | tup hs ha =>
      cases r
      obtain ⟨its, o, n, rv, ho, hc, hd⟩ := sqT_at hok KX hs
      obtain ⟨as, hr⟩ := Dw.readsAll hok KX ds _ its ha rv
      exact ⟨_, ReadsW.tuple ho hc hd hr⟩
  | .float _, _, _, x, _ => by cases x
  | .dict _, _, _, x, _ => by cases x
  | .bytearray _, _, _, x, _ => by cases x
  | .set _, _, _, x, _ => by cases x
  | .frozenset _, _, _, x, _ => by cases x
  | .obj _ _, _, _, x, _ => by cases x
theorem Dw.readsAll (hok : HOk P w H h) (KX : K.In h) : ∀ (ds : List WData) (vs : List V) (us : List Value), DwAll K H vs ds → Vals vs us → ∃ as, ReadsAllW R cl h us ds as
  | [], _, _, x, r => by
    cases x
    cases r
    exact ⟨_, ReadsAllW.nil⟩
  | d :: ds, _, _, x, r => by
    cases x with
    | cons h1 h2 =>
      cases r with
      | cons r1 r2 =>
        obtain ⟨as, q1⟩ := Dw.reads hok KX d _ _ h1 r1
        obtain ⟨bs, q2⟩ := Dw.readsAll hok KX ds _ _ h2 r2
        exact ⟨_, ReadsAllW.cons q1 q2⟩
end
end
mutual
/-- data that a codec tells -/
def plW : WData → Bool
  | .none => true
  | .bool _ => true
  | .int _ => true
  | .str _ => true
  | .bytes _ => true
  | .list xs => plWs xs
  | .tuple xs => plWs xs
  | _ => false
def plWs : List WData → Bool
  | [] => true
  | x :: r => plW x && plWs r
end
theorem plWs_map {α : Type} {f : α → WData} (h : ∀ a, plW (f a) = true) : ∀ l : List α, plWs (l.map f) = true
  | [] => rfl
  | x :: r => by
    show (plW (f x) && plWs (r.map f)) = true
    rw [h x, plWs_map h r] <;> rfl
theorem pl_enc : ∀ (c : Codec) (a : c.denote), plW (c.enc a) = true
  | .unit, _ => rfl
  | .bool, _ => rfl
  | .int _ _, _ => rfl
  | .nat _ _, _ => rfl
  | .u8, _ => rfl
  | .bytes _ _, _ => rfl
  | .text _ _ _ _, _ => rfl
  | .list _ _ c, a => plWs_map (fun x => pl_enc c x) a
  | .pair c d, a => by
    show (plW (c.enc a.1) && (plW (d.enc a.2) && true)) = true
    rw [pl_enc c a.1, pl_enc d a.2] <;> rfl
  | .triple c d e, a => by
    show (plW (c.enc a.1) && (plW (d.enc a.2.1) && (plW (e.enc a.2.2) && true))) = true
    rw [pl_enc c a.1, pl_enc d a.2.1, pl_enc e a.2.2] <;> rfl
  | .option c, none => rfl
  | .option c, some x => pl_enc c x
theorem pl_encAll : ∀ (cs : List Codec) (a : Codec.denoteAll cs), plWs (Codec.encAll cs a) = true
  | [], _ => rfl
  | c :: cs, a => by
    show (plW (c.enc a.1) && plWs (Codec.encAll cs a.2)) = true
    rw [pl_enc c a.1, pl_encAll cs a.2] <;> rfl
theorem weight_mem : ∀ {xs : List WData} {d : WData}, d ∈ xs → d.weight ≤ WData.weightAll xs
  | [], d, h => absurd h (by simp)
  | x :: r, d, h => by
    show d.weight ≤ x.weight + 1 + WData.weightAll r
    rcases List.mem_cons.mp h with e | m
    · rw [e]
      omega
    · have z := weight_mem m
      omega
def toV : Value → V
  | .none => .non
  | .bool b => .bl b
  | .int i _ => .int i
  | .str x _ => .str x
  | .bytes b _ => .byt b
  | .ref a => .ref a
  | _ => .non
/-- a value of the arguments, its objects among A -/
def OkU (A : List Addr) : Value → Prop
  | .none => True
  | .bool _ => True
  | .int _ _ => True
  | .str _ _ => True
  | .bytes _ _ => True
  | .ref a => a ∈ A
  | _ => False
theorem OkU.mono {A B : List Addr} (h : ∀ a ∈ A, a ∈ B) : ∀ {u : Value}, OkU A u → OkU B u := fun {u} x => by
  cases u with
  | ref a => exact h a x
  | none => trivial
  | bool b => trivial
  | int i t => trivial
  | str s t => trivial
  | bytes b t => trivial
  | _ => exact False.elim x
theorem relV_toV {A : List Addr} {u : Value} (x : OkU A u) : RelV (toV u) u := by
  cases u with
  | ref a => rfl
  | none => rfl
  | bool b => rfl
  | int i t => exact ⟨t, rfl⟩
  | str s t => exact ⟨t, rfl⟩
  | bytes b t => exact ⟨t, rfl⟩
  | _ => exact False.elim x
theorem vals_toV {A : List Addr} : ∀ {vs : List Value}, (∀ u ∈ vs, OkU A u) → Vals (vs.map toV) vs
  | [], _ => .nil
  | u :: r, h => .cons (relV_toV (h u (List.mem_cons_self ..))) (vals_toV fun x hx => h x (List.mem_cons_of_mem _ hx))
/-- an object of the arguments -/
def ArgOb (h : Heap) (A : List Addr) (a : Addr) : Prop := ∃ vs : List Value, vs.length ≤ sizeLine ∧ (∀ u ∈ vs, OkU A u) ∧
  (h.get? a = some { cls := .type "list", data := .seq vs.toArray } ∨ h.get? a = some { cls := .type "tuple", data := .seq vs.toArray })
theorem ArgOb.mono {h : Heap} {A B : List Addr} {a : Addr} (k : ∀ a ∈ A, a ∈ B) (x : ArgOb h A a) : ArgOb h B a := by
  obtain ⟨vs, h1, h2, h3⟩ := x
  exact ⟨vs, h1, fun u hu => (h2 u hu).mono k, h3⟩
theorem wellAll_len {P : Params} {h : Heap} : ∀ {vs : List Value} {ds : List WData}, WellAll P h vs ds → vs.length = ds.length
  | _, _, .nil => rfl
  | _, _, .cons _ b => by
    show _ + 1 = _ + 1
    rw [wellAll_len b]
theorem well_list {P : Params} {h : Heap} {v : Value} {ds : List WData} (x : Well P h v (.list ds)) : ∃ (a : Addr) (vs : List Value), v = .ref a ∧ h.get? a = some { cls := .type "list", data := .seq vs.toArray } ∧ WellAll P h vs ds := by
  cases x with
  | list ho hall => exact ⟨_, _, rfl, ho, hall⟩
theorem well_tuple {P : Params} {h : Heap} {v : Value} {ds : List WData} (x : Well P h v (.tuple ds)) : ∃ (a : Addr) (vs : List Value), v = .ref a ∧ h.get? a = some { cls := .type "tuple", data := .seq vs.toArray } ∧ WellAll P h vs ds := by
  cases x with
  | tuple ho hall => exact ⟨_, _, rfl, ho, hall⟩
theorem well_cons {P : Params} {h : Heap} {us : List Value} {d : WData} {ds : List WData} (x : WellAll P h us (d :: ds)) : ∃ (v : Value) (vs : List Value), us = v :: vs ∧ Well P h v d ∧ WellAll P h vs ds := by
  cases x with
  | cons a b => exact ⟨_, _, rfl, a, b⟩
theorem line_of {n : Nat} (h : n ≤ 1048576) : n ≤ sizeLine := Nat.le_trans h (by decide)
section
variable {P : Params} {h : Heap}
mutual
theorem area_one : ∀ (d : WData) (v : Value), Well P h v d → plW d = true → d.weight ≤ 1048576 → ∃ A : List Addr, OkU A v ∧ ∀ a ∈ A, ArgOb h A a
  | .none, _, x, _, _ => by
    cases x
    exact ⟨[], trivial, fun a m => absurd m (by simp)⟩
  | .bool b, _, x, _, _ => by
    cases x
    exact ⟨[], trivial, fun a m => absurd m (by simp)⟩
  | .int i, _, x, _, _ => by
    cases x
    exact ⟨[], trivial, fun a m => absurd m (by simp)⟩
  | .str s, _, x, _, _ => by
    cases x
    exact ⟨[], trivial, fun a m => absurd m (by simp)⟩
  | .bytes b, _, x, _, _ => by
    cases x
    exact ⟨[], trivial, fun a m => absurd m (by simp)⟩
  | .list ds, _, x, p, z => by
    obtain ⟨a, vs, rfl, ho, hall⟩ := well_list x
    have z2 : WData.weightAll ds ≤ 1048576 := z
    obtain ⟨A, h1, h2⟩ := area_all ds _ hall p fun d hd => Nat.le_trans (weight_mem hd) z2
    have k : ∀ b ∈ A, b ∈ a :: A := fun b hb => List.mem_cons_of_mem _ hb
    refine ⟨a :: A, List.mem_cons_self .., fun b hb => ?_⟩
    rcases List.mem_cons.mp hb with e | m
    · rw [e]
      exact ⟨vs, line_of (by rw [wellAll_len hall]; exact Nat.le_trans (PySem.W.length_le_weightAllW ds) z2), fun u hu => (h1 u hu).mono k, .inl ho⟩
    · exact (h2 b m).mono k
  | .tuple ds, _, x, p, z => by
    obtain ⟨a, vs, rfl, ho, hall⟩ := well_tuple x
    have z2 : WData.weightAll ds ≤ 1048576 := z
    obtain ⟨A, h1, h2⟩ := area_all ds _ hall p fun d hd => Nat.le_trans (weight_mem hd) z2
    have k : ∀ b ∈ A, b ∈ a :: A := fun b hb => List.mem_cons_of_mem _ hb
    refine ⟨a :: A, List.mem_cons_self .., fun b hb => ?_⟩
    rcases List.mem_cons.mp hb with e | m
    · rw [e]
      exact ⟨vs, line_of (by rw [wellAll_len hall]; exact Nat.le_trans (PySem.W.length_le_weightAllW ds) z2), fun u hu => (h1 u hu).mono k, .inr ho⟩
    · exact (h2 b m).mono k
  | .float _, _, _, p, _ => Bool.noConfusion (show false = true from p)
  | .dict _, _, _, p, _ => Bool.noConfusion (show false = true from p)
  | .bytearray _, _, _, p, _ => Bool.noConfusion (show false = true from p)
  | .set _, _, _, p, _ => Bool.noConfusion (show false = true from p)
  | .frozenset _, _, _, p, _ => Bool.noConfusion (show false = true from p)
  | .obj _ _, _, _, p, _ => Bool.noConfusion (show false = true from p)
theorem area_all : ∀ (ds : List WData) (vs : List Value), WellAll P h vs ds → plWs ds = true → (∀ d ∈ ds, d.weight ≤ 1048576) → ∃ A : List Addr, (∀ u ∈ vs, OkU A u) ∧ ∀ a ∈ A, ArgOb h A a
  | [], _, x, _, _ => by
    cases x
    exact ⟨[], fun u m => absurd m (by simp), fun a m => absurd m (by simp)⟩
  | d :: ds, _, x, p, z => by
    obtain ⟨v, vs, rfl, x1, x2⟩ := well_cons x
    have q : plW d = true ∧ plWs ds = true := Bool.and_eq_true_iff.mp p
    obtain ⟨A, a1, a2⟩ := area_one d v x1 q.1 (z d (List.mem_cons_self ..))
    obtain ⟨B, b1, b2⟩ := area_all ds vs x2 q.2 fun e he => z e (List.mem_cons_of_mem _ he)
    have kA : ∀ b ∈ A, b ∈ A ++ B := fun b hb => List.mem_append.mpr (.inl hb)
    have kB : ∀ b ∈ B, b ∈ A ++ B := fun b hb => List.mem_append.mpr (.inr hb)
    refine ⟨A ++ B, fun u hu => ?_, fun b hb => ?_⟩
    · rcases List.mem_cons.mp hu with e | m
      · rw [e]
        exact a1.mono kA
      · exact (b1 u m).mono kB
    · rcases List.mem_append.mp hb with m | m
      · exact (a2 b m).mono kA
      · exact (b2 b m).mono kB
end
end
/-- what is tracked of an argument's object -/
def hoOf (o : Obj) : Option HO := match o.data with
  | .seq vs _ => if (o.cls == Value.type "list") = true then some (.frz o (.lst (vs.toList.map toV))) else some (.frz o (.tup (vs.toList.map toV)))
  | _ => none
def argH (K : PySem.W.Frag) (h : Heap) (A : List Addr) : Hp := fun b => if b ∈ A then (if (K.lookup b).isNone = true then (h.get? b).bind hoOf else none) else none
/-- nothing is tracked but what is known to the object -/
def OnlyF (H : Hp) : Prop := ∀ b, H b = none ∨ ∃ o u, H b = some (.frz o u)
theorem hoOf_lst (vs : List Value) : hoOf { cls := .type "list", data := .seq vs.toArray } = some (.frz { cls := .type "list", data := .seq vs.toArray } (.lst (vs.map toV))) := by
  show (if (Value.type "list" == Value.type "list") = true then some (HO.frz { cls := .type "list", data := .seq vs.toArray } (.lst (vs.toArray.toList.map toV))) else some (HO.frz { cls := .type "list", data := .seq vs.toArray } (.tup (vs.toArray.toList.map toV)))) = _
  rw [if_pos (beq_self_eq_true _)]
theorem hoOf_tup (vs : List Value) : hoOf { cls := .type "tuple", data := .seq vs.toArray } = some (.frz { cls := .type "tuple", data := .seq vs.toArray } (.tup (vs.map toV))) := by
  show (if (Value.type "tuple" == Value.type "list") = true then some (HO.frz { cls := .type "tuple", data := .seq vs.toArray } (.lst (vs.toArray.toList.map toV))) else some (HO.frz { cls := .type "tuple", data := .seq vs.toArray } (.tup (vs.toArray.toList.map toV)))) = _
  rw [if_neg (by decide)]
section
variable {P : Program} {w : World} {K : PySem.W.Frag} {h : Heap} {A : List Addr}
theorem argH_at {b : Addr} {o : Obj} (hb : b ∈ A) (hk : K.lookup b = none) (e : h.get? b = some o) : argH K h A b = hoOf o := by
  unfold argH
  rw [if_pos hb, hk, if_pos (show (none : Option Obj).isNone = true from rfl), e] <;> rfl
theorem of_argH {b : Addr} {u : HO} (q : argH K h A b = some u) : b ∈ A ∧ K.lookup b = none := by
  unfold argH at q
  by_cases hb : b ∈ A
  · rw [if_pos hb] at q
    cases hk : K.lookup b with
    | none => exact ⟨hb, rfl⟩
    | some o =>
      rw [hk, if_neg (by simp)] at q
      cases q
  · rw [if_neg hb] at q
    cases q
/-- what stands tracked -/
theorem argH_is (ar : ∀ a ∈ A, ArgOb h A a) {b : Addr} {u : HO} (q : argH K h A b = some u) : K.lookup b = none ∧ ∃ vs : List Value, vs.length ≤ sizeLine ∧ (∀ u ∈ vs, OkU A u) ∧
    ((h.get? b = some { cls := .type "list", data := .seq vs.toArray } ∧ u = .frz { cls := .type "list", data := .seq vs.toArray } (.lst (vs.map toV))) ∨
     (h.get? b = some { cls := .type "tuple", data := .seq vs.toArray } ∧ u = .frz { cls := .type "tuple", data := .seq vs.toArray } (.tup (vs.map toV)))) := by
  obtain ⟨hb, hk⟩ := of_argH q
  obtain ⟨vs, h1, h2, h3⟩ := ar b hb
  refine ⟨hk, vs, h1, h2, ?_⟩
  rcases h3 with e | e
  · rw [argH_at hb hk e, hoOf_lst] at q
    exact .inl ⟨e, (Option.some.inj q).symm⟩
  · rw [argH_at hb hk e, hoOf_tup] at q
    exact .inr ⟨e, (Option.some.inj q).symm⟩
theorem argH_only (ar : ∀ a ∈ A, ArgOb h A a) : OnlyF (argH K h A) := fun b => by
  cases q : argH K h A b with
  | none => exact .inl rfl
  | some u =>
    obtain ⟨_, vs, _, _, ⟨_, e⟩ | ⟨_, e⟩⟩ := argH_is ar q
    · exact .inr ⟨_, _, by rw [e]⟩
    · exact .inr ⟨_, _, by rw [e]⟩
theorem argH_ok (ar : ∀ a ∈ A, ArgOb h A a) : HOk P w (argH K h A) h := fun b u q => by
  obtain ⟨_, vs, h1, h2, ⟨e, rfl⟩ | ⟨e, rfl⟩⟩ := argH_is ar q
  · exact ⟨e, by rw [List.length_map]; exact h1, vs, _, vals_toV h2, e⟩
  · exact ⟨e, by rw [List.length_map]; exact h1, vs, vals_toV h2, _, e, rfl, _, rfl⟩
theorem seq_inj {c c' : Value} {vs us : List Value} (e : (some { cls := c, data := .seq vs.toArray } : Option Obj) = some { cls := c', data := .seq us.toArray }) : c = c' ∧ vs = us := by
  have e1 := Option.some.inj e
  have e2 : c = c' := congrArg Obj.cls e1
  have e3 : Data.seq vs.toArray = Data.seq us.toArray := congrArg Obj.data e1
  injection e3 with e4
  refine ⟨e2, ?_⟩
  have e5 := congrArg Array.toList e4
  simpa using e5
/-- a list argument -/
theorem argL (KX : K.In h) (ar : ∀ a ∈ A, ArgOb h A a) {a : Addr} {vs : List Value} (ha : a ∈ A) (e : h.get? a = some { cls := .type "list", data := .seq vs.toArray }) : (∀ u ∈ vs, OkU A u) ∧ SqL K (argH K h A) a (vs.map toV) := by
  obtain ⟨us, h1, h2, h3⟩ := ar a ha
  have hu : us = vs := by
    rcases h3 with q | q
    · rw [e] at q
      exact (seq_inj q).2.symm
    · rw [e] at q
      exact absurd (Value.type.inj (seq_inj q).1) (by decide)
  subst hu
  refine ⟨h2, ?_⟩
  cases hk : K.lookup a with
  | none => exact .inl (.inr ⟨_, by rw [argH_at ha hk e, hoOf_lst]⟩)
  | some o =>
    have e2 := KX a o hk
    rw [e] at e2
    obtain rfl := Option.some.inj e2
    exact .inr ⟨_, us.toArray, _, hk, rfl, rfl, rfl, by rw [List.size_toArray]; exact h1, by simpa using vals_toV h2⟩
theorem argT (KX : K.In h) (ar : ∀ a ∈ A, ArgOb h A a) {a : Addr} {vs : List Value} (ha : a ∈ A) (e : h.get? a = some { cls := .type "tuple", data := .seq vs.toArray }) : (∀ u ∈ vs, OkU A u) ∧ SqT K (argH K h A) a (vs.map toV) := by
  obtain ⟨us, h1, h2, h3⟩ := ar a ha
  have hu : us = vs := by
    rcases h3 with q | q
    · rw [e] at q
      exact absurd (Value.type.inj (seq_inj q).1) (by decide)
    · rw [e] at q
      exact (seq_inj q).2.symm
  subst hu
  refine ⟨h2, ?_⟩
  cases hk : K.lookup a with
  | none => exact .inl (.inr ⟨_, by rw [argH_at ha hk e, hoOf_tup]⟩)
  | some o =>
    have e2 := KX a o hk
    rw [e] at e2
    obtain rfl := Option.some.inj e2
    exact .inr ⟨_, us.toArray, _, hk, rfl, rfl, by rw [List.size_toArray]; exact h1, by simpa using vals_toV h2⟩
mutual
theorem dw_one {Pm : Params} (KX : K.In h) (ar : ∀ a ∈ A, ArgOb h A a) : ∀ (d : WData) (v : Value), Well Pm h v d → plW d = true → OkU A v → Dw K (argH K h A) (toV v) d
  | .none, _, x, _, _ => by
    cases x
    exact .non
  | .bool b, _, x, _, _ => by
    cases x
    exact .bl b
  | .int i, _, x, _, _ => by
    cases x
    exact .int i
  | .str s, _, x, _, _ => by
    cases x
    exact .str s
  | .bytes b, _, x, _, _ => by
    cases x
    have z := Dw.byt (K := K) (H := argH K h A) b.toArray
    exact z
  | .list ds, _, x, p, hu => by
    obtain ⟨a, vs, rfl, ho, hall⟩ := well_list x
    obtain ⟨h2, hs⟩ := argL KX ar hu ho
    exact .lst hs (dw_all KX ar ds _ hall p h2)
  | .tuple ds, _, x, p, hu => by
    obtain ⟨a, vs, rfl, ho, hall⟩ := well_tuple x
    obtain ⟨h2, hs⟩ := argT KX ar hu ho
    exact .tup hs (dw_all KX ar ds _ hall p h2)
  | .float _, _, _, p, _ => Bool.noConfusion (show false = true from p)
  | .dict _, _, _, p, _ => Bool.noConfusion (show false = true from p)
  | .bytearray _, _, _, p, _ => Bool.noConfusion (show false = true from p)
  | .set _, _, _, p, _ => Bool.noConfusion (show false = true from p)
  | .frozenset _, _, _, p, _ => Bool.noConfusion (show false = true from p)
  | .obj _ _, _, _, p, _ => Bool.noConfusion (show false = true from p)
theorem dw_all {Pm : Params} (KX : K.In h) (ar : ∀ a ∈ A, ArgOb h A a) : ∀ (ds : List WData) (vs : List Value), WellAll Pm h vs ds → plWs ds = true → (∀ u ∈ vs, OkU A u) → DwAll K (argH K h A) (vs.map toV) ds
  | [], _, x, _, _ => by
    cases x
    exact .nil
  | d :: ds, _, x, p, hu => by
    obtain ⟨v, vs, rfl, x1, x2⟩ := well_cons x
    have q : plW d = true ∧ plWs ds = true := Bool.and_eq_true_iff.mp p
    exact .cons (dw_one KX ar d v x1 q.1 (hu _ (List.mem_cons_self ..))) (dw_all KX ar ds vs x2 q.2 fun u m => hu u (List.mem_cons_of_mem _ m))
end
end
theorem spec_call {P : Program} {w : World} {K : PySem.W.Frag} {mg mb : Str → Option Value} {CX : CXT} {k : Nat} {fa : Addr} {fd : FuncData} {ps : List Str} {sp : Sp} {s₁ : Shared} {vals : List Value} {ds : List WData} {R : PySem.W.WRecords} {cl : Str → Option Addr} {d0 : WData}
    (KX : K.In s₁.heap) (hns : s₁.heap.Ns mainGlobals mg) (hb : s₁.heap.Ns builtinsNs mb) (hbb : ∀ x : Str, x ≠ "__name__" → mb x = bootBuiltins x) (hlim : s₁.heap.NoLimit) (hg : s₁.gens = #[])
    (hwl : WellAll w.params s₁.heap vals ds) (hpl : plWs ds = true) (hwt : ∀ d ∈ ds, d.weight ≤ 1048576) (hr : Room k callerA)
    (F : ∀ base : Heap, K.In base → base.Ns mainGlobals mg → FnOk P w K mg base CX k fa fd ps sp) (hbind : ∀ (s : Shared) (us : List Value), us.length = ps.length → BindsTo s fd ⟨us, []⟩ (ps.zip us)) (hlen : ds.length = ps.length)
    (hsp : ∀ (H : Hp) (xs : List V), OnlyF H → DwAll K H xs ds → sp xs H (fun v H' => Dw K H' v d0) fun _ _ _ => False)
    (hCX : ∀ H e s', CX [] H s₁ (fun _ _ _ => False) e s' → False) :
    codeAny (model P w) callerA (.call (.ref fa) ⟨vals, []⟩) (fun r s' => ∃ u as, r = .ok (.ret u) ∧ ReadsW R cl s'.heap u d0 as ∧ OldK s₁.heap s'.heap ∧ s'.os = s₁.os ∧ AllBare s'.gens) s₁ := by
  obtain ⟨A, ho, ar⟩ := area_all ds vals hwl hpl hwt
  have hO : OnlyF (argH K s₁.heap A) := argH_only ar
  have hok : HOk P w (argH K s₁.heap A) s₁.heap := argH_ok ar
  have hS := dw_all KX ar ds vals hwl hpl ho
  have hV := vals_toV ho
  have hK : ∀ b u, argH K s₁.heap A b = some u → K.lookup b = none := fun b u q => (argH_is ar q).1
  have noA : ∀ {b : Addr} {o : Obj} {es : Array DictEntry} {ep : Nat}, s₁.heap.get? b = some o → o.data = .dict es ep → argH K s₁.heap A b = none := fun {b o es ep} e d => by
    cases q : argH K s₁.heap A b with
    | none => rfl
    | some u =>
      obtain ⟨_, vs, _, _, ⟨e2, _⟩ | ⟨e2, _⟩⟩ := argH_is ar q
      · rw [e2] at e
        cases e
        have d' : Data.seq vs.toArray _ = Data.dict es ep := d
        cases d'
      · rw [e2] at e
        cases e
        have d' : Data.seq vs.toArray _ = Data.dict es ep := d
        cases d'
  generalize argH K s₁.heap A = H at hO hok hS hK noA
  have base_of : ∀ {b : Addr} {o : Obj}, s₁.heap.get? b = some o → H b = none → (hidT s₁.heap H).get? b = some o := fun e n => hidT_get e n
  have nsK : ∀ {b : Addr} {m : Str → Option Value}, s₁.heap.Ns b m → (hidT s₁.heap H).Ns b m := fun {b m} ⟨o, es, ep, e, d, r⟩ => ⟨o, es, ep, base_of e (noA e d), d, r⟩
  have nK : ∀ b o, K.lookup b = some o → H b = none := fun b o e => by
    cases q : H b with
    | none => rfl
    | some u =>
      rw [hK b u q] at e
      cases e
  have hKb : K.In (hidT s₁.heap H) := fun b o e => base_of (KX b o e) (nK b o e)
  have hM : Mod K mg (hidT s₁.heap H) := ⟨hKb, nsK hns, ⟨mb, nsK hb, hbb⟩, let ⟨mc, h1, h2⟩ := hlim; ⟨mc, nsK h1, h2⟩⟩
  have e0 : Env0 P w K mg (hidT s₁.heap H) callerA [] s₁ H := ⟨rfl, hM, fun b o e => of_hidT e, Nat.le_of_eq (hidT_size _ _), trivial, fun b hb => absurd (show b ∈ ([] : List Addr) from hb) (by simp), hok, .of_eq hg⟩
  have hl : vals.length = ps.length := by rw [wellAll_len hwl]; exact hlen
  refine codeAny_mono ((F _ hKb (nsK hns)).run callerA [] s₁ H ⟨vals, []⟩ vals (vals.map toV) _ _ hr e0 (hbind s₁ vals hl) hV (hsp H _ hO hS)) fun r s' x => ?_
  cases r with
  | error e => exact (hCX H e s' x).elim
  | ok fl =>
    cases fl with
    | next => exact False.elim x
    | brk => exact False.elim x
    | cont => exact False.elim x
    | ret u =>
      obtain ⟨v, H', os, bare, un, hok', r', q⟩ := x
      have kept : ∀ b o, s₁.heap.get? b = some o → s'.heap.get? b = some o := fun b o e => by
        cases q2 : H b with
        | none => exact un.keep b o e q2 (by intro z; exact absurd (show b ∈ ([] : List Addr) from z) (by simp)) (by simp)
        | some u2 =>
          rcases hO b with z | ⟨ob, u3, z⟩
          · rw [q2] at z
            cases z
          · have z2 := un.frzs b ob _ z
            obtain ⟨e1, _⟩ := hok b _ z
            obtain ⟨e2, _⟩ := hok' b _ z2
            rw [e] at e1
            cases e1
            exact e2
      have KX' : K.In s'.heap := fun b o e => kept b o (KX b o e)
      obtain ⟨as, hrd⟩ := Dw.reads (R := R) (cl := cl) hok' KX' d0 v u q r'
      exact ⟨u, as, rfl, hrd, OldK.of_keep kept, os, bare⟩
theorem layable_weight {ds : List WData} (h : WData.layableAll ds = true) : ∀ d ∈ ds, d.weight ≤ 1048576 := fun d hd =>
  (PySem.W.layableW_iff.mp (List.all_eq_true.mp h d hd)).2.2
theorem encAll_len : ∀ (cs : List Codec) (a : Codec.denoteAll cs), (Codec.encAll cs a).length = cs.length
  | [], _ => rfl
  | c :: cs, a => by
    show (Codec.encAll cs a.2).length + 1 = cs.length + 1
    rw [encAll_len cs a.2]
/-- the goal that k_headS leaves (case hc), from the promise of the row's def: whatever the arguments that the codecs let and the row asks for, the def gives what stands for enc (f ..) -/
theorem walk_spec {r : OpenSpec} {k : Nat} {q : Program} {loose : List Str} {XP : (Str → Option Value) → Heap → Prop} {YP : World → Heap → Prop} {d : DefRec} {K : Params → PySem.W.Frag} {CX : World → CXT} {ps : List Str} {sp : World → Sp}
    (hwell : r.wellSaid = true) (hdf : d.params.defaults = []) (hlen : r.args.length = ps.length) (hr : Room k callerA)
    (hY : ∀ (w : World) (h : Heap), YP w h → (K w.params).In h)
    (F : ∀ (w : World) (mg : Str → Option Value) (fa : Addr) (h : Heap), YP w h → (K w.params).In h → h.Ns mainGlobals mg → mg d.name = some (.ref fa) →
      ∃ fd : FuncData, (∀ (s : Shared) (us : List Value), us.length = ps.length → BindsTo s fd ⟨us, []⟩ (ps.zip us)) ∧
        ∀ base : Heap, (K w.params).In base → base.Ns mainGlobals mg → FnOk r.prog w (K w.params) mg base (CX w) k fa fd ps (sp w))
    (hsp : ∀ (w : World) (H : Hp) (xs : List V) (a : Codec.denoteAll r.args), OnlyF H → Codec.withinAll r.args a = true → Codec.app r.args r.asked a = true → DwAll (K w.params) H xs (Codec.encAll r.args a) →
      sp w xs H (fun v H' => Dw (K w.params) H' v (r.ret.enc (Codec.app r.args r.f a))) fun _ _ _ => False)
    (hCX : ∀ (w : World) (H : Hp) (s : Shared) (e : Value) (s' : Shared), CX w [] H s (fun _ _ _ => False) e s' → False) :
    PySem.W.WalkOS q loose XP YP r d [] (fun f vs => PySem.call f vs) := by
  intro w s_0 s₁ mg mb G Y fa o pm cd doc dV kV ho hd hcd hD hmg hg args vals as hpre hlay hrd hwl hlo
  obtain ⟨a, e1, e2⟩ := PySem.W.os_pre_some hpre
  obtain ⟨e3, hwi⟩ := Codec.encAll_of_decAll r.args args a e1
  subst e3
  have KX := hY w _ Y
  obtain ⟨fd, hb, hF⟩ := F w mg fa _ Y KX G.T.g hmg
  refine PySem.W.enter_call (codeAny_mono (spec_call (R := []) (cl := classAt s_0.heap) (d0 := r.ret.enc (Codec.app r.args r.f a)) KX G.T.g G.T.b G.T.builtins G.T.nolimit hg hwl (pl_encAll _ _) (layable_weight hlay) hr hF hb (by rw [encAll_len]; exact hlen)
    (fun H xs hO hS => hsp w H xs a hO hwi e2 hS) fun H e s' => hCX w H s₁ e s') fun r' s' hq => ?_)
  obtain ⟨u, as', rfl, h1, h2, h3, h4⟩ := hq
  exact ⟨.inl ⟨u, _, as', rfl, fun _ => rfl, h1, (OpenSpec.post_iff hwell hwi _ _).mpr rfl, fun z => Bool.noConfusion (show false = true from z)⟩, h2, h3, h4⟩
/-- the same where the promise hangs on the written part alone -/
theorem walk_specK {r : OpenSpec} {k : Nat} {q : Program} {loose : List Str} {XP : (Str → Option Value) → Heap → Prop} {YP : World → Heap → Prop} {d : DefRec} {K : Params → PySem.W.Frag} {CX : CXT} {ps : List Str} {sp : PySem.W.Frag → Sp}
    (hwell : r.wellSaid = true) (hdf : d.params.defaults = []) (hlen : r.args.length = ps.length) (hr : Room k callerA)
    (hY : ∀ (w : World) (h : Heap), YP w h → (K w.params).In h)
    (F : ∀ (w : World) (mg : Str → Option Value) (fa : Addr) (h : Heap), YP w h → (K w.params).In h → h.Ns mainGlobals mg → mg d.name = some (.ref fa) →
      ∃ fd : FuncData, (∀ (s : Shared) (us : List Value), us.length = ps.length → BindsTo s fd ⟨us, []⟩ (ps.zip us)) ∧
        ∀ base : Heap, (K w.params).In base → base.Ns mainGlobals mg → FnOk r.prog w (K w.params) mg base CX k fa fd ps (sp (K w.params)))
    (hsp : ∀ (K : PySem.W.Frag) (H : Hp) (xs : List V) (a : Codec.denoteAll r.args), OnlyF H → Codec.withinAll r.args a = true → Codec.app r.args r.asked a = true → DwAll K H xs (Codec.encAll r.args a) →
      sp K xs H (fun v H' => Dw K H' v (r.ret.enc (Codec.app r.args r.f a))) fun _ _ _ => False)
    (hCX : ∀ (H : Hp) (s : Shared) (e : Value) (s' : Shared), CX [] H s (fun _ _ _ => False) e s' → False) :
    PySem.W.WalkOS q loose XP YP r d [] (fun f vs => PySem.call f vs) :=
  walk_spec (K := K) (CX := fun _ => CX) (sp := fun w => sp (K w.params)) hwell hdf hlen hr hY F (fun w H xs a h1 h2 h3 h4 => hsp (K w.params) H xs a h1 h2 h3 h4) fun _ H s e s' => hCX H s e s'
end L2
end
section
set_option Elab.async false
namespace M
open Vbcnaa
def isB (n : Int) : Bool := decide (0 ≤ n) && decide (n ≤ 255)
theorem isB_iff {n : Int} : isB n = true ↔ 0 ≤ n ∧ n ≤ 255 := by
  unfold isB
  rw [Bool.and_eq_true, decide_eq_true_eq, decide_eq_true_eq]
theorem bytesOf_cons (x : Int) (l : List Int) : bytesOf (x :: l) = (if x < 0 ∨ 255 < x then 256 else x.toNat) :: bytesOf l := rfl
theorem bytesOf_length (l : List Int) : (bytesOf l).length = l.length := List.length_map ..
theorem areBytes_cons (x : Nat) (l : List Nat) : areBytes (x :: l) = (isByte x && areBytes l) := rfl
theorem isByte_of (x : Int) : isByte (if x < 0 ∨ 255 < x then 256 else x.toNat) = isB x := by
  unfold isByte isB
  by_cases h : x < 0 ∨ 255 < x
  · rw [if_pos h]
    rcases h with h | h
    · rw [decide_eq_false (show ¬ 0 ≤ x by omega)]
      rfl
    · rw [decide_eq_false (show ¬ x ≤ 255 by omega), Bool.and_false]
      rfl
  · rw [if_neg h, decide_eq_true (show 0 ≤ x by omega), decide_eq_true (show x ≤ 255 by omega), decide_eq_true (show x.toNat < 256 by omega)]
    rfl
theorem areBytes_bytesOf : ∀ l : List Int, areBytes (bytesOf l) = l.all isB
  | [] => rfl
  | x :: l => by
    rw [bytesOf_cons, areBytes_cons, isByte_of, areBytes_bytesOf l, List.all_cons]
theorem ints_bytesOf : ∀ {l : List Int}, l.all isB = true → Vbcnaa.ints (bytesOf l) = l
  | [], _ => rfl
  | x :: l, h => by
    rw [List.all_cons, Bool.and_eq_true] at h
    have hx := isB_iff.mp h.1
    rw [bytesOf_cons, if_neg (by omega)]
    show ((x.toNat : Nat) : Int) :: Vbcnaa.ints (bytesOf l) = x :: l
    rw [ints_bytesOf h.2, Int.toNat_of_nonneg hx.1]
theorem areBytes_iff {l : List Nat} : areBytes l = true ↔ ∀ b ∈ l, b < 256 := by
  unfold areBytes isByte
  rw [List.all_eq_true]
  exact ⟨fun h b hb => of_decide_eq_true (h b hb), fun h b hb => decide_eq_true (h b hb)⟩
theorem bytes_lt {l : List Int} (h : l.all isB = true) : ∀ b ∈ bytesOf l, b < 256 := areBytes_iff.mp (by rw [areBytes_bytesOf]; exact h)
theorem all_snoc (l : List Int) (x : Int) : (l ++ [x]).all isB = (l.all isB && isB x) := by
  rw [List.all_append, List.all_cons, List.all_nil, Bool.and_true]
theorem all_take_false {l : List Int} {i : Nat} {x : Int} (h : l[i]? = some x) (hx : isB x = false) : l.all isB = false := by
  rw [Bool.eq_false_iff]
  intro q
  have := (List.all_eq_true.mp q) x (List.mem_of_getElem? h)
  rw [hx] at this
  cases this
theorem take_snoc {α : Type} : ∀ {l : List α} {i : Nat} {x : α}, l[i]? = some x → l.take (i + 1) = l.take i ++ [x]
  | [], i, x, h => by simp at h
  | a :: l, 0, x, h => by
    have e : a = x := Option.some.inj h
    subst e
    rfl
  | a :: l, i + 1, x, h => by
    have ih := take_snoc (l := l) (i := i) (x := x) h
    show a :: l.take (i + 1) = a :: l.take i ++ [x]
    rw [ih]
    rfl
end M

end
section
set_option Elab.async false
set_option linter.all false
set_option maxRecDepth 100000
namespace M
open Vbcnaa
theorem ints_length (l : List Nat) : (Vbcnaa.ints l).length = l.length := List.length_map ..
theorem ints_take (n : Nat) (a : List Nat) : Vbcnaa.ints (a.take n) = (Vbcnaa.ints a).take n := List.map_take ..
theorem ints_drop (n : Nat) (a : List Nat) : Vbcnaa.ints (a.drop n) = (Vbcnaa.ints a).drop n := List.map_drop ..
theorem be_length : ∀ (k n : Nat), (be k n).length = k
  | 0, _ => rfl
  | k + 1, n => by
    show (be k (n / 256) ++ [n % 256]).length = k + 1
    rw [List.length_append, be_length k]
    rfl
/-- in so many bytes, the lowest first -/
def leB : Nat → Nat → List Nat
  | 0, _ => []
  | k + 1, n => (n % 256) :: leB k (n / 256)
theorem leB_length : ∀ (k n : Nat), (leB k n).length = k
  | 0, _ => rfl
  | k + 1, n => congrArg (· + 1) (leB_length k (n / 256))
/-- a row's number -/
def numI (l : List Int) : Int := l.foldl (fun n b => n * 256 + b) 0
theorem numI_snoc (l : List Int) (x : Int) : numI (l ++ [x]) = numI l * 256 + x := by
  unfold numI
  rw [List.foldl_append]
  rfl
theorem numI_foldl : ∀ (l : List Nat) (s : Nat), (Vbcnaa.ints l).foldl (fun n b => n * 256 + b) (s : Int) = ((l.foldl (fun n b => 256 * n + b) s : Nat) : Int)
  | [], _ => rfl
  | x :: l, s => by
    show (Vbcnaa.ints l).foldl (fun n b => n * 256 + b) ((s : Int) * 256 + (x : Int)) = ((l.foldl (fun n b => 256 * n + b) (256 * s + x) : Nat) : Int)
    rw [← numI_foldl l (256 * s + x)]
    congr 1
    omega
theorem numI_ints (l : List Nat) : numI (Vbcnaa.ints l) = ((num l : Nat) : Int) := numI_foldl l 0
theorem numI_field (l : List Nat) (a k : Nat) : numI (((Vbcnaa.ints l).drop a).take k) = ((field l a k : Nat) : Int) := by
  rw [← ints_drop, ← ints_take, numI_ints]
  rfl
theorem getD_field (l : List Nat) (a : Nat) : (Vbcnaa.ints l).getD a 0 = ((field l a 1 : Nat) : Int) := by
  unfold field
  rw [List.getD_eq_getElem?_getD]
  unfold Vbcnaa.ints
  rw [List.getElem?_map]
  cases e : l[a]? with
  | none =>
    have : l.length ≤ a := List.getElem?_eq_none_iff.mp e
    rw [List.drop_of_length_le this]
    rfl
  | some x =>
    have h : a < l.length := (List.getElem?_eq_some_iff.mp e).1
    have hx : l[a] = x := (List.getElem?_eq_some_iff.mp e).2
    rw [List.drop_eq_getElem_cons h, hx]
    show (x : Int) = ((256 * 0 + x : Nat) : Int)
    omega
/-- a refusal's number, or 0 -/
def code {α : Type} (x : Except Int α) : Int := match x with
  | .error e => e
  | .ok _ => 0
theorem bytesOf_ints {l : List Nat} (h : ∀ b ∈ l, b < 256) : bytesOf (Vbcnaa.ints l) = l := by
  induction l with
  | nil => rfl
  | cons x l ih =>
    have hx := h x (by simp)
    show (if (x : Int) < 0 ∨ 255 < (x : Int) then 256 else (x : Int).toNat) :: bytesOf (Vbcnaa.ints l) = x :: l
    rw [ih fun b hb => h b (by simp [hb]), if_neg (by omega), Int.toNat_natCast]
/-- a row that is all bytes is one of numbers from 0 on -/
theorem ints_of {l : List Int} (h : l.all isB = true) : ∃ bs : List Nat, l = Vbcnaa.ints bs ∧ ∀ b ∈ bs, b < 256 := ⟨bytesOf l, (ints_bytesOf h).symm, bytes_lt h⟩
theorem areBytes_of {l : List Nat} (h : ∀ b ∈ l, b < 256) : areBytes l = true := areBytes_iff.mpr h
end M
namespace M
open Vbcnaa
end M
namespace M
open Vbcnaa
abbrev sl (b : List Nat) (a k : Nat) : List Nat := (b.drop a).take k
end M
namespace M
open Vbcnaa
end M
namespace M
open Vbcnaa
end M
namespace M
open Vbcnaa
end M
namespace M
open Vbcnaa
def tagI (n : Int) : List Int := [n / 8192, n / 4096 % 2, n % 4096]
theorem tagI_length (n : Int) : (tagI n).length = 3 := rfl
end M
namespace M
open Vbcnaa
end M
namespace M
open Vbcnaa
end M
namespace M
open Vbcnaa
def inR (n : Int) (r : List Int) : Bool := decide (r.getD 0 0 ≤ n) && decide (n ≤ r.getD 1 0)
def wits (ns : List Int) (rs : List (List Int)) : Bool := (ns.zip rs).all fun p => inR p.1 p.2
theorem two_of {r : List Int} (h : (r.length == 2) = true) : ∃ lo hi, r = [lo, hi] := by
  match r, h with
  | [a, b], _ => exact ⟨a, b, rfl⟩
theorem wits_take {ns : List Int} {rs : List (List Int)} {i : Nat} {z : Int} {r : List Int} (h1 : ns[i]? = some z) (h2 : rs[i]? = some r) : (ns.zip rs)[i]? = some (z, r) := by
  rw [List.getElem?_zip_eq_some]
  exact ⟨h1, h2⟩
theorem all_at_false {α : Type} {l : List α} {p : α → Bool} {i : Nat} {x : α} (h : l[i]? = some x) (hx : p x = false) : l.all p = false := by
  rw [Bool.eq_false_iff]
  intro q
  have := (List.all_eq_true.mp q) x (List.mem_of_getElem? h)
  rw [hx] at this
  cases this
end M
namespace M
open Vbcnaa
end M
namespace M
open Vbcnaa
end M
namespace M
theorem qhead_length : Vbcnaa.QHEAD.length = 7 := rfl
end M
namespace M
open Vbcnaa
theorem hd1_length (a b q c e n : Nat) : ([69, a] ++ be 2 (20 + n) ++ be 2 b ++ be 2 q ++ [c, e] : List Nat).length = 10 := by
  simp only [List.length_append, be_length]
  rfl
/-- a head's first ten bytes -/
def hd1 (a b q c e n : Nat) : List Nat := [69, a] ++ be 2 (20 + n) ++ be 2 b ++ be 2 q ++ [c, e]
theorem hd1_len (a b q c e n : Nat) : (hd1 a b q c e n).length = 10 := hd1_length a b q c e n
theorem packet_eq (a b k m o c e f g : Nat) (bs : List Nat) : packetBytes { tos := a, id := b, keep := k, more := m, offset := o, hops := c, proto := e, src := f, dst := g, body := bs } =
    hd1 a b (k * 16384 + m * 8192 + o) c e bs.length ++ (be 2 (sum16 (hd1 a b (k * 16384 + m * 8192 + o) c e bs.length ++ ([0, 0] ++ (be 4 f ++ be 4 g)))) ++ ((be 4 f ++ be 4 g) ++ bs)) := by
  have h : ∀ s : Nat, headWith { tos := a, id := b, keep := k, more := m, offset := o, hops := c, proto := e, src := f, dst := g, body := bs } s = hd1 a b (k * 16384 + m * 8192 + o) c e bs.length ++ (be 2 s ++ (be 4 f ++ be 4 g)) := fun s => by
    unfold headWith hd1
    simp only [List.append_assoc]
  unfold packetBytes
  rw [h, h, show be 2 0 = [0, 0] from rfl]
  simp only [List.append_assoc]
theorem packet_length (p : Packet) : (packetBytes p).length = 20 + p.body.length := by
  obtain ⟨a, b, k, m, o, c, e, f, g, bs⟩ := p
  rw [packet_eq]
  simp only [List.length_append, hd1_len, be_length]
  omega
end M
namespace M
open Vbcnaa
end M
namespace M
open Vbcnaa
end M
namespace M
open Vbcnaa
end M
namespace M
open Vbcnaa
end M
namespace M
open Vbcnaa
end M
namespace M
open Vbcnaa
end M
namespace M
open Vbcnaa
end M
namespace M
open Vbcnaa
abbrev valI (f : List Int) : Bool := decide ((0 : Int) ≤ ((f.drop 1).length : Int)) && decide (((f.drop 1).length : Int) ≤ 1000) && (f.drop 1).all isB
abbrev fI (f : Field) : List Int := (f.code : Int) :: Vbcnaa.ints f.value
end M
namespace M
open Vbcnaa
theorem drop_cons {α : Type} {l : List α} {i : Nat} {z : α} (h : l[i]? = some z) : l.drop i = z :: l.drop (i + 1) := by
  have hi := (List.getElem?_eq_some_iff.mp h).1
  rw [List.drop_eq_getElem_cons hi, (List.getElem?_eq_some_iff.mp h).2]
end M
namespace M
open Vbcnaa
end M
namespace M
open Vbcnaa
end M
namespace M
open Vbcnaa
end M
namespace M
open Vbcnaa
end M
namespace M
open Vbcnaa
end M

end
section
set_option Elab.async false
set_option linter.all false
set_option maxRecDepth 100000
namespace M
open Vbcnaa
theorem raw_fuel : ∀ (n m : Nat) (l : List Nat), l.length < n → l.length < m → rawFields n l = rawFields m l
  | 0, _, l, h, _ => by omega
  | _ + 1, 0, l, _, h => by omega
  | n + 1, m + 1, [], _, _ => rfl
  | n + 1, m + 1, c :: r, h1, h2 => by
    have a1 : r.length + 1 < n + 1 := h1
    have a2 : r.length + 1 < m + 1 := h2
    cases r with
    | nil => rfl
    | cons k s =>
      have a3 : (k :: s).length = s.length + 1 := rfl
      have ih := raw_fuel n m (s.drop k) (by rw [List.length_drop]; omega) (by rw [List.length_drop]; omega)
      show (if c = 255 then some ([], k :: s) else if c = 0 then none else if s.length < k then none else (rawFields n (s.drop k)).map fun x => ({ code := c, value := s.take k } :: x.1, x.2)) = _
      rw [ih]
      rfl
def raw (b : List Nat) (p : Nat) : Option (List Field × List Nat) := rawFields (b.length + 1) (b.drop p)
theorem raw_ge {b : List Nat} {p : Nat} (h : b.length ≤ p) : raw b p = none := by
  unfold raw
  rw [List.drop_of_length_le h]
  rfl
theorem drop_getD {b : List Nat} {p : Nat} (h : p < b.length) : b.drop p = b.getD p 0 :: b.drop (p + 1) := by
  rw [List.drop_eq_getElem_cons h, List.getD_eq_getElem?_getD, List.getElem?_eq_getElem h]
  rfl
theorem raw_255 {b : List Nat} {p : Nat} (h : p < b.length) (hc : b.getD p 0 = 255) : raw b p = some ([], b.drop (p + 1)) := by
  unfold raw
  rw [drop_getD h, hc]
  rfl
theorem raw_0 {b : List Nat} {p : Nat} (h : p < b.length) (hc : b.getD p 0 = 0) : raw b p = none := by
  unfold raw
  rw [drop_getD h, hc]
  rfl
theorem raw_last {b : List Nat} {p : Nat} (h : p + 1 = b.length) (hc : b.getD p 0 ≠ 255) : raw b p = none := by
  unfold raw
  rw [drop_getD (by omega), List.drop_of_length_le (by omega)]
  show (if b.getD p 0 = 255 then some ([], []) else if b.getD p 0 = 0 then none else none) = none
  rw [if_neg hc]
  split <;> rfl
theorem raw_step {b : List Nat} {p : Nat} (h : p + 1 < b.length) (hc : b.getD p 0 ≠ 255) (h0 : b.getD p 0 ≠ 0) : raw b p = if b.length < p + 2 + b.getD (p + 1) 0 then none else (raw b (p + 2 + b.getD (p + 1) 0)).map fun x => ({ code := b.getD p 0, value := (b.drop (p + 2)).take (b.getD (p + 1) 0) } :: x.1, x.2) := by
  unfold raw
  rw [drop_getD (show p < b.length by omega), drop_getD (show p + 1 < b.length by omega)]
  show (if b.getD p 0 = 255 then some ([], _) else if b.getD p 0 = 0 then none else if (b.drop (p + 1 + 1)).length < b.getD (p + 1) 0 then none else (rawFields b.length ((b.drop (p + 1 + 1)).drop (b.getD (p + 1) 0))).map fun x => ({ code := b.getD p 0, value := (b.drop (p + 1 + 1)).take (b.getD (p + 1) 0) } :: x.1, x.2)) = _
  rw [if_neg hc, if_neg h0, List.length_drop, List.drop_drop]
  have e2 : p + 1 + 1 = p + 2 := rfl
  rw [e2]
  by_cases hk : b.length < p + 2 + b.getD (p + 1) 0
  · rw [if_pos hk, if_pos (by omega)]
  · rw [if_neg hk, if_neg (by omega)]
    rw [raw_fuel b.length (b.length + 1) _ (by rw [List.length_drop]; omega) (by rw [List.length_drop]; omega)]
theorem raw_pad : ∀ (n : Nat) {b : List Nat} {p : Nat} {x : List Field × List Nat}, b.length - p ≤ n → raw b p = some x → x.2.length < b.length - p ∧ x.2 = b.drop (b.length - x.2.length)
  | 0, b, p, x, h, hr => by
    rw [raw_ge (by omega)] at hr
    cases hr
  | n + 1, b, p, x, h, hr => by
    by_cases hp : p < b.length
    · by_cases hc : b.getD p 0 = 255
      · rw [raw_255 hp hc] at hr
        cases hr
        simp only [List.length_drop]
        refine ⟨by omega, ?_⟩
        congr 1
        omega
      · by_cases h0 : b.getD p 0 = 0
        · rw [raw_0 hp h0] at hr
          cases hr
        · by_cases hl : p + 1 = b.length
          · rw [raw_last hl hc] at hr
            cases hr
          · rw [raw_step (by omega) hc h0] at hr
            split at hr
            · cases hr
            · cases e : raw b (p + 2 + b.getD (p + 1) 0) with
              | none =>
                rw [e] at hr
                cases hr
              | some y =>
                rw [e] at hr
                cases hr
                obtain ⟨i1, i2⟩ := raw_pad n (by omega) e
                exact ⟨by simp only []; omega, i2⟩
    · rw [raw_ge (by omega)] at hr
      cases hr
/-- where the fields end -/
def fendAt (b : List Nat) (p : Nat) : Nat := match raw b p with
  | none => b.length
  | some x => b.length - 1 - x.2.length
theorem fendAt_none {b : List Nat} {p : Nat} (h : raw b p = none) : fendAt b p = b.length := by
  unfold fendAt
  rw [h]
theorem fendAt_255 {b : List Nat} {p : Nat} (h : p < b.length) (hc : b.getD p 0 = 255) : fendAt b p = p := by
  unfold fendAt
  rw [raw_255 h hc]
  show b.length - 1 - (b.drop (p + 1)).length = p
  rw [List.length_drop]
  omega
theorem fendAt_step {b : List Nat} {p : Nat} (h : p + 1 < b.length) (hc : b.getD p 0 ≠ 255) (h0 : b.getD p 0 ≠ 0) : fendAt b (p + 2 + b.getD (p + 1) 0) = fendAt b p := by
  unfold fendAt
  rw [raw_step h hc h0]
  by_cases hk : b.length < p + 2 + b.getD (p + 1) 0
  · rw [if_pos hk, raw_ge (by omega)]
  · rw [if_neg hk]
    cases raw b (p + 2 + b.getD (p + 1) 0) <;> rfl
def rawF (b : List Nat) : List Field := match raw b 32 with
  | none => []
  | some x => x.1
def mayF (f b : Field) : Bool := if f.code ≠ b.code then decide (b.code < f.code) else decide (b.value.length = 255) && decide (0 < f.value.length)
def neiF : List Field → Bool
  | a :: b :: l => mayF b a && neiF (b :: l)
  | _ => true
/-- fields of one code joined, from the right -/
def mrg : List Field → List Field
  | [] => []
  | f :: l => match mrg l with
    | [] => [f]
    | g :: r => if f.code = g.code then { code := f.code, value := f.value ++ g.value } :: r else f :: g :: r
theorem mrg_head (f : Field) (l : List Field) : ∃ g r, mrg (f :: l) = g :: r ∧ g.code = f.code ∧ (f.value ≠ [] → g.value ≠ []) := by
  show ∃ g r, (match mrg l with | [] => [f] | g :: r => if f.code = g.code then { code := f.code, value := f.value ++ g.value } :: r else f :: g :: r) = g :: r ∧ _
  cases mrg l with
  | nil => exact ⟨f, [], rfl, rfl, fun h => h⟩
  | cons g r =>
    by_cases h : f.code = g.code
    · refine ⟨_, _, if_pos h, rfl, fun hv => ?_⟩
      intro z
      exact hv (List.append_eq_nil_iff.mp z).1
    · exact ⟨_, _, if_neg h, rfl, fun hv => hv⟩
theorem gather_eq : ∀ fs : List Field, gather fs = if neiF fs = true then some (mrg fs) else none
  | [] => rfl
  | [f] => rfl
  | f :: f' :: l => by
    have ih := gather_eq (f' :: l)
    obtain ⟨g, r, hg, hc, hv⟩ := mrg_head f' l
    show (match gather (f' :: l) with | none => none | some [] => some [f] | some (g :: r) => if f.code < g.code then some (f :: g :: r) else if f.code = g.code ∧ f.value.length = 255 ∧ g.value ≠ [] then some ({ f with value := f.value ++ g.value } :: r) else none) = if (mayF f' f && neiF (f' :: l)) = true then some (mrg (f :: f' :: l)) else none
    rw [ih]
    cases hn : neiF (f' :: l) with
    | false =>
      rw [if_neg Bool.false_ne_true, Bool.and_false, if_neg Bool.false_ne_true]
    | true =>
      rw [if_pos rfl, Bool.and_true]
      have em : mrg (f :: f' :: l) = if f.code = g.code then { code := f.code, value := f.value ++ g.value } :: r else f :: g :: r := by
        show (match mrg (f' :: l) with | [] => [f] | g :: r => if f.code = g.code then { code := f.code, value := f.value ++ g.value } :: r else f :: g :: r) = _
        rw [hg]
      rw [em, hg]
      simp only []
      unfold mayF
      by_cases h1 : f.code < g.code
      · rw [if_pos h1, if_pos (show f'.code ≠ f.code by omega), decide_eq_true (show f.code < f'.code by omega), if_pos rfl, if_neg (show ¬ f.code = g.code by omega)]
      · rw [if_neg h1]
        by_cases h2 : f.code = g.code
        · rw [if_neg (show ¬ f'.code ≠ f.code by omega), if_pos h2]
          by_cases h3 : f.value.length = 255
          · have hgv : g.value ≠ [] ↔ 0 < f'.value.length := by
              constructor
              · intro hne
                refine Classical.byContradiction fun hc0 => ?_
                have hz : f'.value = [] := List.length_eq_zero_iff.mp (by omega)
                -- then nothing was joined to it
                have : g.value = [] := by
                  have hg' : (match mrg l with | [] => [f'] | g :: r => if f'.code = g.code then { code := f'.code, value := f'.value ++ g.value } :: r else f' :: g :: r) = g :: r := hg
                  cases l with
                  | nil =>
                    have := (List.cons.inj hg').1
                    rw [← this]
                    exact hz
                  | cons f2 l2 =>
                    have hn' : (mayF f2 f' && neiF (f2 :: l2)) = true := hn
                    rw [Bool.and_eq_true] at hn'
                    obtain ⟨g2, r2, hg2, hc2, _⟩ := mrg_head f2 l2
                    rw [hg2] at hg'
                    simp only [] at hg'
                    have hm := hn'.1
                    unfold mayF at hm
                    by_cases hq : f2.code ≠ f'.code
                    · rw [if_neg (show ¬ f'.code = g2.code by omega)] at hg'
                      rw [← (List.cons.inj hg').1]
                      exact hz
                    · rw [if_neg hq, hz] at hm
                      cases hm
                exact hne this
              · intro hp
                exact hv fun z => by rw [z] at hp; exact absurd hp (Nat.lt_irrefl 0)
            by_cases h4 : 0 < f'.value.length
            · rw [if_pos ⟨h2, h3, hgv.mpr h4⟩, decide_eq_true h3, decide_eq_true h4]
              rfl
            · rw [if_neg (fun z => h4 (hgv.mp z.2.2)), decide_eq_false h4, Bool.and_false, if_neg Bool.false_ne_true]
          · rw [if_neg (fun z => h3 z.2.1), decide_eq_false h3, Bool.false_and, if_neg Bool.false_ne_true]
        · rw [if_neg (fun z => h2 z.1), if_pos (show f'.code ≠ f.code by omega), decide_eq_false (show ¬ f.code < f'.code by omega), if_neg Bool.false_ne_true]
/-- the program's way: from the left, the last one grows -/
def grow (acc : List Field) (f : Field) : List Field := match acc.getLast? with
  | none => [f]
  | some x => if x.code = f.code then acc.dropLast ++ [{ code := x.code, value := x.value ++ f.value }] else acc ++ [f]
theorem grow_snoc (acc : List Field) (x f : Field) : grow (acc ++ [x]) f = if x.code = f.code then acc ++ [{ code := x.code, value := x.value ++ f.value }] else acc ++ [x] ++ [f] := by
  unfold grow
  rw [List.getLast?_concat]
  simp only [List.dropLast_concat]
theorem grow_mrg : ∀ (l acc : List Field) (x : Field), l.foldl grow (acc ++ [x]) = acc ++ mrg (x :: l)
  | [], acc, x => rfl
  | f :: l, acc, x => by
    show l.foldl grow (grow (acc ++ [x]) f) = acc ++ mrg (x :: f :: l)
    rw [grow_snoc]
    obtain ⟨g, r, hg, hc, _⟩ := mrg_head f l
    have em : mrg (x :: f :: l) = if x.code = g.code then { code := x.code, value := x.value ++ g.value } :: r else x :: g :: r := by
      show (match mrg (f :: l) with | [] => [x] | g :: r => if x.code = g.code then { code := x.code, value := x.value ++ g.value } :: r else x :: g :: r) = _
      rw [hg]
    rw [em]
    by_cases h : x.code = f.code
    · rw [if_pos h, if_pos (show x.code = g.code by omega), grow_mrg l acc]
      congr 1
      have hg' : (match mrg l with | [] => [f] | g :: r => if f.code = g.code then { code := f.code, value := f.value ++ g.value } :: r else f :: g :: r) = g :: r := hg
      show (match mrg l with | [] => [({ code := x.code, value := x.value ++ f.value } : Field)] | g :: r => if x.code = g.code then { code := x.code, value := (x.value ++ f.value) ++ g.value } :: r else { code := x.code, value := x.value ++ f.value } :: g :: r) = _
      cases e : mrg l with
      | nil =>
        rw [e] at hg'
        cases hg'
        rfl
      | cons g2 r2 =>
        rw [e] at hg'
        simp only [] at hg' ⊢
        by_cases h2 : f.code = g2.code
        · rw [if_pos h2] at hg'
          cases hg'
          rw [if_pos (by omega), List.append_assoc]
        · rw [if_neg h2] at hg'
          cases hg'
          rw [if_neg (by omega)]
    · rw [if_neg h, if_neg (show ¬ x.code = g.code by omega), grow_mrg l (acc ++ [x]) f, hg, List.append_assoc]
      rfl
theorem grow_all (l : List Field) : l.foldl grow [] = mrg l := by
  cases l with
  | nil => rfl
  | cons f l => exact grow_mrg l [] f
end M
namespace M
open Vbcnaa
theorem getD_ints (b : List Nat) (p : Nat) : (Vbcnaa.ints b).getD p 0 = ((b.getD p 0 : Nat) : Int) := by
  rw [List.getD_eq_getElem?_getD, List.getD_eq_getElem?_getD]
  unfold Vbcnaa.ints
  rw [List.getElem?_map]
  cases b[p]? <;> rfl
theorem raw_start {b : List Nat} (h : (raw b 32).isSome = true) : ([] : List Field).length ≤ 32 ∧ 32 < b.length ∧ ∃ x, raw b 32 = some x ∧ [] ++ x.1 = rawF b := by
  refine ⟨by show 0 ≤ 32; omega, ?_, ?_⟩
  · refine Classical.byContradiction fun hc => ?_
    rw [raw_ge (by omega)] at h
    cases h
  · unfold rawF
    cases e : raw b 32 with
    | none =>
      rw [e] at h
      cases h
    | some x => exact ⟨x, rfl, rfl⟩
end M
namespace M
open Vbcnaa
def mayI (f b : List Int) : Bool := if ¬ f.headD 0 = b.headD 0 then decide (b.headD 0 < f.headD 0) else decide (((b.drop 1).length : Int) = 255) && decide ((0 : Int) < ((f.drop 1).length : Int))
def neiI : List (List Int) → Bool
  | a :: b :: l => mayI b a && neiI (b :: l)
  | _ => true
theorem may_F (f b : Field) : mayI (fI f) (fI b) = mayF f b := by
  unfold mayI mayF
  show (if ¬ (f.code : Int) = (b.code : Int) then decide ((b.code : Int) < (f.code : Int)) else decide (((Vbcnaa.ints b.value).length : Int) = 255) && decide ((0 : Int) < ((Vbcnaa.ints f.value).length : Int))) = _
  rw [ints_length, ints_length]
  by_cases h : f.code = b.code
  · rw [if_neg (by omega), if_neg (by omega)]
    congr 1
    · rw [decide_eq_decide]
      omega
    · rw [decide_eq_decide]
      omega
  · rw [if_pos (by omega), if_pos h]
    rw [decide_eq_decide]
    omega
theorem nei_F : ∀ l : List Field, neiI (l.map fI) = neiF l
  | [] => rfl
  | [_] => rfl
  | a :: b :: l => by
    show (mayI (fI b) (fI a) && neiI ((b :: l).map fI)) = (mayF b a && neiF (b :: l))
    rw [may_F, nei_F (b :: l)]
abbrev lnums (l : List Int) : List Int := [l.getD 0 0, l.getD 1 0, numI ((l.drop 2).take 2), numI ((l.drop 4).take 4), numI ((l.drop 8).take 6), numI ((l.drop 16).take 4), numI ((l.drop 20).take 4), numI ((l.drop 24).take 4), numI ((l.drop 28).take 4)]
theorem lnums_ints (b : List Nat) : lnums (Vbcnaa.ints b) = Vbcnaa.ints [field b 0 1, field b 1 1, field b 2 2, field b 4 4, field b 8 6, field b 16 4, field b 20 4, field b 24 4, field b 28 4] := by
  unfold lnums
  simp only [numI_field, getD_field]
  rfl
abbrev leaseOf (b : List Nat) : Lease := { op := field b 0 1, hops := field b 1 1, secs := field b 2 2, number := field b 4 4, host := field b 8 6, mine := field b 16 4, yours := field b 20 4, server := field b 24 4, relay := field b 28 4, fields := mrg (rawF b) }
theorem wits9 (b : List Nat) : wits (Vbcnaa.ints [field b 0 1, field b 1 1, field b 2 2, field b 4 4, field b 8 6, field b 16 4, field b 20 4, field b 24 4, field b 28 4]) [[1, 8], [0, 16], [0, 65535], [0, 4294967295], [0, 281474976710655], [0, 4294967295], [0, 4294967295], [0, 4294967295], [0, 4294967295]] = goodFixed (leaseOf b) := by
  rw [Bool.eq_iff_iff]
  unfold goodFixed ADDR HW
  rw [decide_eq_true_eq]
  simp [wits, inR, Vbcnaa.ints, and_assoc]
  omega
theorem readL1 {b : List Int} (h : ((!(decide ((36 : Int) ≤ (b.length : Int)) && decide ((b.length : Int) ≤ 1400) && b.all isB)) || !decide ((b.length : Int) % 4 = 0)) = true) : readLease (bytesOf b) = .error (-1) := by
  unfold readLease LEASE
  rw [if_pos]
  rw [areBytes_bytesOf, bytesOf_length]
  simp only [Bool.or_eq_true, Bool.not_eq_true', Bool.and_eq_false_iff, decide_eq_false_iff_not] at h
  rcases h with ((h | h) | h) | h
  · right; left; omega
  · right; right; left; omega
  · left; exact h
  · right; right; right; omega
theorem readL_in {b : List Nat} (h : ∀ x ∈ b, x < 256) (h1 : 36 ≤ b.length) (h2 : b.length ≤ 1400) (h3 : b.length % 4 = 0) : readLease b = match raw b 32 with
    | none => .error (-2)
    | some (fs, pad) => if 4 ≤ pad.length ∨ pad.any (fun x => x != 0) = true then .error (-3) else if neiF (rawF b) = false then .error (-4) else if goodFixed (leaseOf b) = false ∨ field b 14 2 ≠ 0 then .error (-5) else if (mrg (rawF b)).any (fun f => decide (VALUE < f.value.length)) = true then .error (-6) else .ok (leaseOf b) := by
  unfold readLease LEASE
  rw [if_neg (by rw [areBytes_of h]; intro z; rcases z with z | z; cases z; omega)]
  show (match raw b 32 with | none => _ | some (fs, pad) => _) = _
  cases e : raw b 32 with
  | none => rfl
  | some x =>
    obtain ⟨fs, pad⟩ := x
    have er : rawF b = fs := by
      unfold rawF
      rw [e]
    simp only []
    unfold leaseOf
    rw [er, gather_eq]
    split
    · rfl
    · cases hn : neiF fs with
      | false => rfl
      | true => rfl
theorem fend_some {b : List Nat} {x : List Field × List Nat} (h : raw b 32 = some x) : fendAt b 32 < b.length ∧ b.drop (fendAt b 32 + 1) = x.2 ∧ fendAt b 32 + 1 + x.2.length = b.length := by
  obtain ⟨h1, h2⟩ := raw_pad (b.length - 32) (Nat.le_refl _) h
  have e : fendAt b 32 = b.length - 1 - x.2.length := by
    unfold fendAt
    rw [h]
  refine ⟨by omega, ?_, by omega⟩
  rw [e, show b.length - 1 - x.2.length + 1 = b.length - x.2.length by omega]
  exact h2.symm
theorem pad_any (l : List Nat) : (((Vbcnaa.ints l).map fun y => !decide (y = 0)).any id) = l.any (fun x => x != 0) := by
  induction l with
  | nil => rfl
  | cons a l ih =>
    show ((!decide ((a : Int) = 0)) || (((Vbcnaa.ints l).map fun y => !decide (y = 0)).any id)) = ((a != 0) || l.any (fun x => x != 0))
    rw [ih]
    congr 1
    rw [Bool.eq_iff_iff]
    simp only [Bool.not_eq_true', decide_eq_false_iff_not, bne_iff_ne, ne_eq]
    omega
/-- all values are of bytes -/
theorem raw_bytes : ∀ (n : Nat) {b : List Nat} {p : Nat} {x : List Field × List Nat}, (∀ y ∈ b, y < 256) → b.length - p ≤ n → raw b p = some x → ∀ f ∈ x.1, ∀ y ∈ f.value, y < 256
  | 0, b, p, x, hb, h, hr => by
    rw [raw_ge (by omega)] at hr
    cases hr
  | n + 1, b, p, x, hb, h, hr => by
    by_cases hp : p < b.length
    · by_cases hc : b.getD p 0 = 255
      · rw [raw_255 hp hc] at hr
        cases hr
        intro f hf
        cases hf
      · by_cases h0 : b.getD p 0 = 0
        · rw [raw_0 hp h0] at hr
          cases hr
        · by_cases hl : p + 1 = b.length
          · rw [raw_last hl hc] at hr
            cases hr
          · rw [raw_step (by omega) hc h0] at hr
            split at hr
            · cases hr
            · cases e : raw b (p + 2 + b.getD (p + 1) 0) with
              | none =>
                rw [e] at hr
                cases hr
              | some y =>
                rw [e] at hr
                cases hr
                intro f hf
                rcases List.mem_cons.mp hf with hf | hf
                · subst hf
                  exact fun z hz => hb z (List.mem_of_mem_drop (List.mem_of_mem_take hz))
                · exact raw_bytes n hb (by omega) e f hf
    · rw [raw_ge (by omega)] at hr
      cases hr
theorem mrg_bytes : ∀ {l : List Field}, (∀ f ∈ l, ∀ y ∈ f.value, y < 256) → ∀ f ∈ mrg l, ∀ y ∈ f.value, y < 256
  | [], _ => fun f hf => (by cases hf)
  | a :: l, h => by
    have ih := mrg_bytes (l := l) fun f hf => h f (by simp [hf])
    have ha := h a (by simp)
    intro f hf
    have hf' : f ∈ (match mrg l with | [] => [a] | g :: r => if a.code = g.code then { code := a.code, value := a.value ++ g.value } :: r else a :: g :: r) := hf
    cases e : mrg l with
    | nil =>
      rw [e] at hf'
      rw [List.mem_singleton.mp hf']
      exact ha
    | cons g r =>
      rw [e] at hf' ih
      simp only [] at hf'
      by_cases hc : a.code = g.code
      · rw [if_pos hc] at hf'
        rcases List.mem_cons.mp hf' with z | z
        · subst z
          exact fun y hy => (List.mem_append.mp hy).elim (ha y) (ih g (by simp) y)
        · exact ih f (by simp [z])
      · rw [if_neg hc] at hf'
        rcases List.mem_cons.mp hf' with z | z
        · subst z
          exact ha
        · exact ih f z
theorem vals_F {l : List Field} (h : ∀ f ∈ l, ∀ y ∈ f.value, y < 256) : ((l.map fI).map valI).all id = !(l.any fun f => decide (VALUE < f.value.length)) := by
  induction l with
  | nil => rfl
  | cons f l ih =>
    show (valI (fI f) && ((l.map fI).map valI).all id) = !(decide (VALUE < f.value.length) || l.any fun f => decide (VALUE < f.value.length))
    rw [ih fun g hg => h g (by simp [hg]), Bool.not_or]
    congr 1
    have hall : (Vbcnaa.ints f.value).all isB = true := by
      rw [← areBytes_bytesOf, bytesOf_ints (h f (by simp))]
      exact areBytes_of (h f (by simp))
    show (decide ((0 : Int) ≤ ((Vbcnaa.ints f.value).length : Int)) && decide (((Vbcnaa.ints f.value).length : Int) ≤ 1000) && (Vbcnaa.ints f.value).all isB) = _
    rw [hall, ints_length, Bool.and_true, Bool.eq_iff_iff]
    unfold VALUE
    simp only [Bool.and_eq_true, decide_eq_true_eq, Bool.not_eq_true', decide_eq_false_iff_not]
    omega
end M
namespace M
open Vbcnaa
theorem snoc_cases {α : Type} (l : List α) : l = [] ∨ ∃ l' x, l = l' ++ [x] := by
  cases l with
  | nil => exact .inl rfl
  | cons a l => exact .inr ⟨_, _, (List.dropLast_concat_getLast (by simp)).symm⟩
theorem grow_le (acc : List Field) (f : Field) : (grow acc f).length ≤ acc.length + 1 := by
  rcases snoc_cases acc with rfl | ⟨l, x, rfl⟩
  · exact Nat.le_refl 1
  · rw [grow_snoc]
    split
    · rw [List.length_append, List.length_append]
      show l.length + 1 ≤ l.length + 1 + 1
      omega
    · rw [List.length_append]
      show _ + 1 ≤ _ + 1
      omega
theorem grow_len (l : List Field) (i : Nat) (h : l.length ≤ i) : (l.foldl grow []).length ≤ i := by
  have key : ∀ (l acc : List Field), (l.foldl grow acc).length ≤ acc.length + l.length := by
    intro l
    induction l with
    | nil => intro acc; exact Nat.le_refl _
    | cons f l ih =>
      intro acc
      have h1 := ih (grow acc f)
      have h2 := grow_le acc f
      show (l.foldl grow (grow acc f)).length ≤ acc.length + (l.length + 1)
      omega
  have := key l []
  have e : ([] : List Field).length = 0 := rfl
  omega
theorem raw_len : ∀ (n : Nat) {b : List Nat} {p : Nat} {x : List Field × List Nat}, b.length - p ≤ n → raw b p = some x → x.1.length ≤ b.length - p
  | 0, b, p, x, h, hr => by
    rw [raw_ge (by omega)] at hr
    cases hr
  | n + 1, b, p, x, h, hr => by
    by_cases hp : p < b.length
    · by_cases hc : b.getD p 0 = 255
      · rw [raw_255 hp hc] at hr
        cases hr
        exact Nat.zero_le _
      · by_cases h0 : b.getD p 0 = 0
        · rw [raw_0 hp h0] at hr
          cases hr
        · by_cases hl : p + 1 = b.length
          · rw [raw_last hl hc] at hr
            cases hr
          · rw [raw_step (by omega) hc h0] at hr
            split at hr
            · cases hr
            · cases e : raw b (p + 2 + b.getD (p + 1) 0) with
              | none =>
                rw [e] at hr
                cases hr
              | some y =>
                rw [e] at hr
                cases hr
                have ih := raw_len n (by omega) e
                show y.1.length + 1 ≤ _
                omega
    · rw [raw_ge (by omega)] at hr
      cases hr
theorem rawF_len (b : List Nat) : (rawF b).length ≤ b.length := by
  unfold rawF
  cases e : raw b 32 with
  | none => exact Nat.zero_le _
  | some x =>
    have := raw_len (b.length - 32) (Nat.le_refl _) e
    show x.1.length ≤ b.length
    omega
end M
namespace M
open Vbcnaa
def sumV : List Field → Nat
  | [] => 0
  | f :: l => f.value.length + sumV l
theorem sumV_append : ∀ a b : List Field, sumV (a ++ b) = sumV a + sumV b
  | [], b => (Nat.zero_add _).symm
  | f :: a, b => by
    show f.value.length + sumV (a ++ b) = f.value.length + sumV a + sumV b
    rw [sumV_append a b]
    omega
theorem sumV_grow (acc : List Field) (f : Field) : sumV (grow acc f) = sumV acc + f.value.length := by
  rcases snoc_cases acc with rfl | ⟨l, x, rfl⟩
  · show f.value.length + 0 = 0 + f.value.length
    omega
  · rw [grow_snoc]
    split
    · rw [sumV_append, sumV_append]
      show sumV l + ((x.value ++ f.value).length + 0) = sumV l + (x.value.length + 0) + f.value.length
      rw [List.length_append]
      omega
    · rw [sumV_append]
      rfl
theorem sumV_fold : ∀ (l acc : List Field), sumV (l.foldl grow acc) = sumV acc + sumV l
  | [], acc => rfl
  | f :: l, acc => by
    show sumV (l.foldl grow (grow acc f)) = sumV acc + (f.value.length + sumV l)
    rw [sumV_fold l, sumV_grow]
    omega
theorem sumV_raw : ∀ (n : Nat) {b : List Nat} {p : Nat} {x : List Field × List Nat}, b.length - p ≤ n → raw b p = some x → sumV x.1 ≤ b.length - p
  | 0, b, p, x, h, hr => by
    rw [raw_ge (by omega)] at hr
    cases hr
  | n + 1, b, p, x, h, hr => by
    by_cases hp : p < b.length
    · by_cases hc : b.getD p 0 = 255
      · rw [raw_255 hp hc] at hr
        cases hr
        exact Nat.zero_le _
      · by_cases h0 : b.getD p 0 = 0
        · rw [raw_0 hp h0] at hr
          cases hr
        · by_cases hl : p + 1 = b.length
          · rw [raw_last hl hc] at hr
            cases hr
          · rw [raw_step (by omega) hc h0] at hr
            split at hr
            · cases hr
            · cases e : raw b (p + 2 + b.getD (p + 1) 0) with
              | none =>
                rw [e] at hr
                cases hr
              | some y =>
                rw [e] at hr
                cases hr
                have ih := sumV_raw n (by omega) e
                show ((b.drop (p + 2)).take (b.getD (p + 1) 0)).length + sumV y.1 ≤ _
                rw [List.length_take, List.length_drop]
                omega
    · rw [raw_ge (by omega)] at hr
      cases hr
theorem grow_room {bs : List Nat} {i : Nat} {f y : Field} {acc : List Field} (h : (rawF bs)[i]? = some f) (e : ((rawF bs).take i).foldl grow [] = acc ++ [y]) : y.value.length + f.value.length ≤ bs.length := by
  have h1 := sumV_fold ((rawF bs).take i) []
  rw [e, sumV_append] at h1
  have h2 : sumV (rawF bs) ≤ bs.length := by
    unfold rawF
    cases e : raw bs 32 with
    | none => exact Nat.zero_le _
    | some x =>
      have := sumV_raw (bs.length - 32) (Nat.le_refl _) e
      show sumV x.1 ≤ bs.length
      omega
  have h3 : (rawF bs).drop i = f :: (rawF bs).drop (i + 1) := by
    obtain ⟨hi, hf⟩ := List.getElem?_eq_some_iff.mp h
    rw [List.drop_eq_getElem_cons hi, hf]
  have h4 := sumV_append ((rawF bs).take i) ((rawF bs).drop i)
  rw [List.take_append_drop, h3] at h4
  have h5 : sumV (f :: (rawF bs).drop (i + 1)) = f.value.length + sumV ((rawF bs).drop (i + 1)) := rfl
  have h6 : sumV [y] = y.value.length + 0 := rfl
  have h7 : sumV ([] : List Field) = 0 := rfl
  omega
end M
namespace M
open Vbcnaa
theorem mrg_sum (l : List Field) : sumV (mrg l) = sumV l := by
  rw [← grow_all, sumV_fold]
  exact Nat.zero_add _
theorem mrg_len (l : List Field) : (mrg l).length ≤ l.length := by
  rw [← grow_all]
  exact grow_len l _ (Nat.le_refl _)
theorem sumV_rawF (bs : List Nat) : sumV (rawF bs) ≤ bs.length := by
  unfold rawF
  cases e : raw bs 32 with
  | none => exact Nat.zero_le _
  | some x =>
    have := sumV_raw (bs.length - 32) (Nat.le_refl _) e
    show sumV x.1 ≤ bs.length
    omega
theorem sumV_get : ∀ {l : List Field} {i : Nat} {f : Field}, l[i]? = some f → f.value.length ≤ sumV l
  | [], i, f, h => by simp at h
  | a :: l, 0, f, h => by
    cases h
    exact Nat.le_add_right _ _
  | a :: l, i + 1, f, h => by
    have := sumV_get (l := l) (i := i) (by simpa using h)
    show f.value.length ≤ a.value.length + sumV l
    omega
theorem sumV_take (l : List Field) (i : Nat) : sumV (l.take i) ≤ sumV l := by
  have h := sumV_append (l.take i) (l.drop i)
  rw [List.take_append_drop] at h
  omega
def gF (f : Field) : List Int := (f.code : Int) :: row f.value
theorem flat_len : ∀ l : List Field, (l.flatMap gF).length = 2 * l.length + sumV l
  | [] => rfl
  | f :: l => by
    rw [List.flatMap_cons, List.length_append, flat_len l]
    show ((Vbcnaa.ints f.value).length + 1 + 1) + (2 * l.length + sumV l) = 2 * (l.length + 1) + (f.value.length + sumV l)
    rw [ints_length]
    omega
def ansL (b : List Nat) (i : Nat) : List Int := (0 :: Vbcnaa.ints [field b 0 1, field b 1 1, field b 2 2, field b 4 4, field b 8 6, field b 16 4, field b 20 4, field b 24 4, field b 28 4, (mrg (rawF b)).length]) ++ ((mrg (rawF b)).take i).flatMap gF
theorem ansL_len (b : List Nat) (i : Nat) : (ansL b i).length ≤ 11 + 3 * b.length := by
  unfold ansL
  rw [List.length_append, flat_len]
  have h1 := sumV_take (mrg (rawF b)) i
  have h2 := mrg_sum (rawF b)
  have h3 := mrg_len (rawF b)
  have h4 := rawF_len b
  have h5 := sumV_rawF b
  have h6 : ((mrg (rawF b)).take i).length ≤ (mrg (rawF b)).length := by
    rw [List.length_take]
    omega
  show 11 + _ ≤ _
  omega
theorem ansL_step {b : List Nat} {i : Nat} {f : Field} (h : (mrg (rawF b))[i]? = some f) : ansL b (i + 1) = ansL b i ++ [(fI f).headD 0] ++ ((((fI f).drop 1).length : Int) :: (fI f).drop 1) := by
  unfold ansL
  rw [take_snoc h, List.flatMap_append, List.append_assoc, List.append_assoc]
  congr 2
  rw [List.flatMap_cons, List.flatMap_nil, List.append_nil]
  show (f.code : Int) :: ((f.value.length : Nat) : Int) :: Vbcnaa.ints f.value = (f.code : Int) :: (((Vbcnaa.ints f.value).length : Nat) : Int) :: Vbcnaa.ints f.value
  rw [ints_length]
theorem ansL_all (b : List Nat) {n : Nat} (h : (mrg (rawF b)).length ≤ n) : ansL b n = said (.ok (leaseOf b)) leaseSaid := by
  unfold ansL
  rw [List.take_of_length_le h]
  rfl
theorem val_room {b : List Nat} {i : Nat} {f : Field} (h : (mrg (rawF b))[i]? = some f) : f.value.length ≤ b.length := by
  have h1 := sumV_get h
  have h2 := mrg_sum (rawF b)
  have h5 := sumV_rawF b
  omega
theorem readL_ok {b : List Int} (h : code (readLease (bytesOf b)) = 0) : ∃ bs : List Nat, b = Vbcnaa.ints bs ∧ (∀ x ∈ bs, x < 256) ∧ 36 ≤ bs.length ∧ bs.length ≤ 1400 ∧ (raw bs 32).isSome = true ∧ readLease bs = .ok (leaseOf bs) := by
  by_cases h1 : ((!(decide ((36 : Int) ≤ (b.length : Int)) && decide ((b.length : Int) ≤ 1400) && b.all isB)) || !decide ((b.length : Int) % 4 = 0)) = true
  · rw [readL1 h1] at h
    cases h
  · rw [Bool.not_eq_true, Bool.or_eq_false_iff, Bool.not_eq_false', Bool.not_eq_false', Bool.and_eq_true, Bool.and_eq_true, decide_eq_true_eq, decide_eq_true_eq, decide_eq_true_eq] at h1
    obtain ⟨⟨⟨h2, h3⟩, h4⟩, h5⟩ := h1
    obtain ⟨bs, rfl, hb⟩ := ints_of h4
    rw [ints_length] at h2 h3 h5
    refine ⟨bs, rfl, hb, by omega, by omega, ?_⟩
    rw [bytesOf_ints hb] at h
    rw [readL_in hb (by omega) (by omega) (by omega)] at h ⊢
    cases e : raw bs 32 with
    | none =>
      rw [e] at h
      cases h
    | some x =>
      obtain ⟨fs, pad⟩ := x
      rw [e] at h
      refine ⟨rfl, ?_⟩
      simp only [] at h ⊢
      split at h
      · cases h
      · split at h
        · cases h
        · split at h
          · cases h
          · split at h
            · cases h
            · rename_i a1 a2 a3 a4
              rw [if_neg a1, if_neg a2, if_neg a3, if_neg a4]
end M

end
section
set_option Elab.async false
set_option linter.all false
set_option maxRecDepth 100000
namespace B
open PySem PySem.Spec PyProof.Rows L2
theorem vI_get {l : List Int} {i : Nat} {x : V} (h : (l.map V.int)[i]? = some x) : ∃ n : Int, l[i]? = some n ∧ x = V.int n := by
  rw [List.getElem?_map] at h
  cases e : l[i]? with
  | none =>
    rw [e] at h
    cases h
  | some n =>
    rw [e] at h
    exact ⟨n, rfl, (Option.some.inj h).symm⟩
structure Cb (P : Program) (w : World) (K : PySem.W.Frag) (mg : Str → Option Value) (base : Heap) (k : Nat) (x : Str) (ps : List Str) (sp : Sp) : Prop where
  ex : ∃ (f : Addr) (fd : FuncData), FnOk P w K mg base CX0 k f fd ps sp ∧ mg x = some (.ref f) ∧ PySem.W.keepIn K (.ref f) = true ∧ Binds K fd ps []
structure FnI (K : PySem.W.Frag) (mg : Str → Option Value) (x : Str) (st : Stmt) (ps : List Str) (f : Addr) (fd : FuncData) : Prop where
  fn : Fun K x x st f fd
  bi : Binds K fd ps []
  mg : mg x = some (.ref f)
theorem FnI.cb {P : Program} {w : World} {K : PySem.W.Frag} {mg : Str → Option Value} {base : Heap} {k : Nat} {x : Str} {st : Stmt} {ps : List Str} {f : Addr} {fd : FuncData} {sp : Sp} (I : FnI K mg x st ps f fd) (h : FnOk P w K mg base CX0 k f fd ps sp) : Cb P w K mg base k x ps sp :=
  ⟨f, fd, h, I.mg, I.fn.kp, I.bi⟩
/-- every parameter is given, at the row's own call -/
theorem bindsTo {K : PySem.W.Frag} {x qual : Str} {st : Stmt} {f : Addr} {fd : FuncData} {ps : List Str} (F : Fun K x qual st f fd)
    (h : ∀ (kV doc pm : Value) (an : Option Addr) (cdv ct : Value) (us : List Value), us.length = ps.length → bindArgs (PySem.W.fnOf x qual (defArgs st) (defBody st) (defScope st) .none kV doc pm an cdv ct) ⟨us, []⟩ = pure (ps.zip us)) :
    ∀ (s : Shared) (us : List Value), us.length = ps.length → BindsTo s fd ⟨us, []⟩ (ps.zip us) := by
  obtain ⟨oc, od, kV, doc, pm, an, cdv, ct, osl, rfl, lk, hcd⟩ := F.ex
  exact fun s us hu => .of_eq (h kV doc pm an cdv ct us hu)
section
variable {X : Cx}
theorem pe_cb {k : Nat} {x : Str} {ps : List Str} {sp : Sp} {p pos : Pos} {e : Expr} {es : List Expr} {t : TA} (C : Cb X.prog X.w X.K X.mg X.base k x ps sp) (hr : Room k X.A) (hg : Gl X x) (ha : PA X (e :: es) t)
    (hdb : (x == ("__debug__" : Str)) = false := by decide) (he : starEach (e :: es) X.env = (false, eval e X.env) :: starEach es X.env := by rfl) (hpl : (backTo pos (starEach es X.env)).any (·.1) = false := by rfl) :
    PE X (.Call (.Name x p) (e :: es) [] pos) (tCall sp [] E0 t) := by
  obtain ⟨f, fd, F, hm, hk, hb⟩ := C.ex
  exact pe_call F hr hg hm hk hb .nil pass0 ha hdb he hpl
def rCatS (K : PySem.W.Frag) : R2 := fun x y H Q => ∃ l b xs zs, x = .ref l ∧ y = .ref b ∧ SqL K H l xs ∧ SqL K H b zs ∧ xs.length + zs.length ≤ sizeLine ∧ ∀ p, H p = none → Q (.ref p) (upd H p (.lst (xs ++ zs)))
theorem op_catS : OpR X (binaryOp .Add) (rCatS X.K) := by
  intro pins s σ H x y v u Q I rx ry h
  obtain ⟨l, b, xs, zs, rfl, rfl, hl, hb, hz, q⟩ := h
  cases rx
  cases ry
  obtain ⟨its, r, pl, hzl⟩ := I.list hl
  obtain ⟨its2, r2, pl2, hzb⟩ := I.list hb
  have h1 := r.length
  have h2 := r2.length
  obtain ⟨⟨cls, dd, data, sl⟩, n, ho, hc, hdd, hd⟩ := pl
  obtain ⟨⟨cls2, dd2, data2, sl2⟩, n2, ho2, hc2, hdd2, hd2⟩ := pl2
  simp only at hc hd hc2 hd2
  subst hc hd hc2 hd2
  have e : its.toArray ++ its2.toArray = (its ++ its2).toArray := by simp
  refine concat_meets ⟨_, ho, rfl⟩ ⟨_, ho2, rfl⟩ noFill_list_add seq_list_add PySem.F.slot_list_add PySem.F.entry_list_add (PySem.F.args_list_add_2 _ _) (list_addW l b its.toArray its2.toArray n n2 dd dd2 sl sl2 (by simp only [List.size_toArray]; omega)) ⟨ho, ho2, ?_⟩
  rw [e]
  exact ⟨.ref _, _, I.lnew (t' := s.toks) (r.append r2) (by rw [List.length_append]; omega), rfl, q _ I.fresh⟩
end
section
variable {K : PySem.W.Frag} {g : TG} {tb : TS} {D : Ends} {σ : L2.St} {H : Hp}
end
theorem same_upd {H : Hp} {p : Addr} {o : HO} (h : H p = none) : Same H (upd H p o) := fun b u e => by
  rw [upd_ne (ne_of_none e h)]
  exact e
end B

end
section
set_option Elab.async false
set_option linter.all false
set_option maxRecDepth 100000
namespace E
open PySem PySem.Spec PyProof.Rows L2 B
/-- plain data: what a slot holds -/
inductive D where
  | non
  | int (i : Int)
  | bl (b : Bool)
  | l (ns : List Int)
  | t (ns : List Int)
  | ll (nss : List (List Int))
  | tt (nss : List (List Int))
  | lb (bs : List Bool)
  | own (ns : List Int)
  | ownll (nss : List (List Int))
  | ownv (vs : List V)
abbrev En := List (Option D)
def isOwn : D → Bool
  | .own _ => true
  | .ownll _ => true
  | .ownv _ => true
  | _ => false
variable {K : PySem.W.Frag}
def IsL (K : PySem.W.Frag) (H : Hp) (v : V) (ns : List Int) : Prop := ∃ a, v = .ref a ∧ SqL K H a (ns.map V.int)
def IsT (K : PySem.W.Frag) (H : Hp) (v : V) (ns : List Int) : Prop := ∃ a, v = .ref a ∧ SqT K H a (ns.map V.int)
def Is (K : PySem.W.Frag) (H : Hp) : D → V → Prop
  | .non, v => v = .non
  | .int i, v => v = .int i
  | .bl b, v => v = .bl b
  | .l ns, v => IsL K H v ns
  | .t ns, v => IsT K H v ns
  | .ll nss, v => ∃ a vs, v = .ref a ∧ SqL K H a vs ∧ Paired (IsL K H) vs nss
  | .tt nss, v => ∃ a vs, v = .ref a ∧ SqT K H a vs ∧ Paired (IsT K H) vs nss
  | .lb bs, v => ∃ a, v = .ref a ∧ SqL K H a (bs.map V.bl)
  | .own _, _ => False
  | .ownll _, _ => False
  | .ownv _, _ => False
theorem sameT {H H' : Hp} {a : Addr} {xs : List V} (e : Same H H') (h : SqT K H a xs) : SqT K H' a xs := by
  rcases h with (h | ⟨o, h⟩) | h
  · exact .inl (.inl (e _ _ h))
  · exact .inl (.inr ⟨o, e _ _ h⟩)
  · exact .inr h
theorem IsL.up {H H' : Hp} {v : V} {ns : List Int} (e : Same H H') (h : IsL K H v ns) : IsL K H' v ns := by
  obtain ⟨a, h1, h2⟩ := h
  exact ⟨a, h1, e.seq h2⟩
theorem IsT.up {H H' : Hp} {v : V} {ns : List Int} (e : Same H H') (h : IsT K H v ns) : IsT K H' v ns := by
  obtain ⟨a, h1, h2⟩ := h
  exact ⟨a, h1, sameT e h2⟩
theorem pmap {α β : Type} {F G : α → β → Prop} (f : ∀ a b, F a b → G a b) : ∀ {xs : List α} {ys : List β}, Paired F xs ys → Paired G xs ys
  | _, _, .nil => .nil
  | _, _, .cons h t => .cons (f _ _ h) (pmap f t)
theorem Is.up {H H' : Hp} {d : D} {v : V} (e : Same H H') (h : Is K H d v) : Is K H' d v := by
  cases d with
  | non => exact h
  | int i => exact h
  | bl b => exact h
  | l ns => exact IsL.up e h
  | t ns => exact IsT.up e h
  | ll nss =>
    obtain ⟨a, vs, h1, h2, h3⟩ := h
    exact ⟨a, vs, h1, e.seq h2, pmap (fun _ _ q => IsL.up e q) h3⟩
  | tt nss =>
    obtain ⟨a, vs, h1, h2, h3⟩ := h
    exact ⟨a, vs, h1, sameT e h2, pmap (fun _ _ q => IsT.up e q) h3⟩
  | lb bs =>
    obtain ⟨a, h1, h2⟩ := h
    exact ⟨a, h1, e.seq h2⟩
  | own _ => exact h
  | ownll _ => exact h
  | ownv _ => exact h
/-- a new list: not of H, written in H' -/
def NewL (H H' : Hp) (v : V) (ns : List Int) : Prop := ∃ q, v = .ref q ∧ H q = none ∧ H' q = some (.lst (ns.map V.int))
def IsN (K : PySem.W.Frag) (H H' : Hp) : D → V → Prop
  | .l ns, v => NewL H H' v ns
  | .ll nss, v => ∃ p vs, v = .ref p ∧ H p = none ∧ H' p = some (.lst vs) ∧ Paired (NewL H H') vs nss
  | .lb bs, v => ∃ p, v = .ref p ∧ H p = none ∧ H' p = some (.lst (bs.map V.bl))
  | d, v => Is K H' d v
theorem NewL.isL {H H' : Hp} {v : V} {ns : List Int} (h : NewL H H' v ns) : IsL K H' v ns := by
  obtain ⟨q, h1, _, h2⟩ := h
  exact ⟨q, h1, SqL.of h2⟩
theorem NewL.mono {H0 H H' : Hp} {v : V} {ns : List Int} (e : Same H0 H) (h : NewL H H' v ns) : NewL H0 H' v ns := by
  obtain ⟨q, h1, h3, h2⟩ := h
  exact ⟨q, h1, e.free h3, h2⟩
theorem IsN.is {H H' : Hp} {d : D} {v : V} (h : IsN K H H' d v) : Is K H' d v := by
  cases d with
  | l ns => exact NewL.isL h
  | ll nss =>
    obtain ⟨p, vs, h1, _, h2, h3⟩ := h
    exact ⟨p, vs, h1, SqL.of h2, pmap (fun _ _ q => NewL.isL q) h3⟩
  | lb bs =>
    obtain ⟨p, h1, _, h2⟩ := h
    exact ⟨p, h1, SqL.of h2⟩
  | _ => exact h
theorem IsN.mono {H0 H H' : Hp} {d : D} {v : V} (e : Same H0 H) (h : IsN K H H' d v) : IsN K H0 H' d v := by
  cases d with
  | l ns => exact NewL.mono e h
  | ll nss =>
    obtain ⟨p, vs, h1, h0, h2, h3⟩ := h
    exact ⟨p, vs, h1, e.free h0, h2, pmap (fun _ _ q => NewL.mono e q) h3⟩
  | lb bs =>
    obtain ⟨p, h1, h0, h2⟩ := h
    exact ⟨p, h1, e.free h0, h2⟩
  | _ => exact h
/-- what a slot says: Hb the heap of the entry, Hf what no one writes any more, H the heap -/
def Slot (K : PySem.W.Frag) (Hb Hf H : Hp) : D → V → Prop
  | .own ns, v => ∃ p, v = .ref p ∧ Hf p = none ∧ H p = some (.lst (ns.map V.int))
  | .ownll nss, v => ∃ p vs, v = .ref p ∧ Hf p = none ∧ H p = some (.lst vs) ∧ Paired (NewL Hb Hf) vs nss
  | .ownv vs, v => ∃ p, v = .ref p ∧ Hf p = none ∧ H p = some (.lst vs)
  | d, v => Is K Hf d v
theorem Slot.of {Hb Hf H : Hp} {d : D} {v : V} (o : isOwn d = false) (h : Is K Hf d v) : Slot K Hb Hf H d v := by
  cases d with
  | own _ => cases o
  | ownll _ => cases o
  | ownv _ => cases o
  | _ => exact h
theorem Slot.to {Hb Hf H : Hp} {d : D} {v : V} (o : isOwn d = false) (h : Slot K Hb Hf H d v) : Is K Hf d v := by
  cases d with
  | own _ => cases o
  | ownll _ => cases o
  | ownv _ => cases o
  | _ => exact h
theorem Slot.up {Hb Hf H Hf' H' : Hp} {d : D} {v : V} (ef : Same Hf Hf') (e : Same H H') (hn : ∀ p, v = .ref p → isOwn d = true → Hf p = none → Hf' p = none) (h : Slot K Hb Hf H d v) : Slot K Hb Hf' H' d v := by
  cases d with
  | own ns =>
    obtain ⟨p, h1, h2, h3⟩ := h
    exact ⟨p, h1, hn p h1 rfl h2, e _ _ h3⟩
  | ownll nss =>
    obtain ⟨p, vs, h1, h2, h3, h4⟩ := h
    exact ⟨p, vs, h1, hn p h1 rfl h2, e _ _ h3, pmap (fun _ _ q => by
      obtain ⟨r, a, b, c⟩ := q
      exact ⟨r, a, b, ef _ _ c⟩) h4⟩
  | ownv vs =>
    obtain ⟨p, h1, h2, h3⟩ := h
    exact ⟨p, h1, hn p h1 rfl h2, e _ _ h3⟩
  | _ => exact Slot.of rfl (Is.up ef (Slot.to (Hb := Hb) (H := H) rfl h))
structure Ok (K : PySem.W.Frag) (ds : En) (σ : L2.St) (Hb H0 H : Hp) : Prop where
  len : σ.length = ds.length
  b0 : Same Hb H0
  ex : ∃ Hf, Same H0 Hf ∧ Same Hf H ∧ (∀ (i : Nat) (d : D), ds[i]? = some (some d) → ∃ v, σ[i]? = some (some v) ∧ Slot K Hb Hf H d v) ∧
    ∀ (i j : Nat) (d d' : D) (v : V), ds[i]? = some (some d) → ds[j]? = some (some d') → isOwn d = true → isOwn d' = true → σ[i]? = some (some v) → σ[j]? = some (some v) → i = j
section
variable {ds : En} {σ : L2.St} {Hb H0 H H' : Hp}
theorem Ok.up (O : Ok K ds σ Hb H0 H) (e : Same H H') : Ok K ds σ Hb H0 H' := by
  obtain ⟨Hf, a, b, c, d⟩ := O.ex
  refine ⟨O.len, O.b0, Hf, a, b.trans e, fun i x h => ?_, d⟩
  obtain ⟨v, h1, h2⟩ := c i x h
  exact ⟨v, h1, h2.up (Same.refl _) e fun _ _ _ q => q⟩
theorem Ok.same0 (O : Ok K ds σ Hb H0 H) : Same H0 H := by
  obtain ⟨Hf, a, b, _⟩ := O.ex
  exact a.trans b
theorem Ok.same (O : Ok K ds σ Hb H0 H) : Same Hb H := O.b0.trans O.same0
/-- less is known -/
def Le : En → En → Prop
  | [], [] => True
  | none :: a, _ :: b => Le a b
  | some d :: a, some d' :: b => d = d' ∧ Le a b
  | _, _ => False
theorem Le.len : ∀ {a b : En}, Le a b → a.length = b.length
  | [], [], _ => rfl
  | none :: a, _ :: b, h => congrArg (· + 1) (Le.len (a := a) (b := b) h)
  | some d :: a, some d' :: b, h => congrArg (· + 1) (Le.len (a := a) (b := b) h.2)
  | [], _ :: _, h => h.elim
  | some _ :: _, none :: _, h => h.elim
  | none :: _, [], h => h.elim
  | some _ :: _, [], h => h.elim
theorem Le.get : ∀ {a b : En}, Le a b → ∀ {i : Nat} {d : D}, a[i]? = some (some d) → b[i]? = some (some d)
  | [], [], _, i, d, e => by simp at e
  | none :: a, _ :: b, h, 0, d, e => by simp at e
  | none :: a, _ :: b, h, i + 1, d, e => by
    have := Le.get (a := a) (b := b) h (i := i) (d := d) (by simpa using e)
    simpa using this
  | some x :: a, some y :: b, h, 0, d, e => by
    have e1 : x = d := by simpa using e
    have e2 : x = y := h.1
    subst e1 e2
    rfl
  | some x :: a, some y :: b, h, i + 1, d, e => by
    have := Le.get (a := a) (b := b) h.2 (i := i) (d := d) (by simpa using e)
    simpa using this
  | [], _ :: _, h, _, _, _ => h.elim
  | some _ :: _, none :: _, h, _, _, _ => h.elim
  | none :: _, [], h, _, _, _ => h.elim
  | some _ :: _, [], h, _, _, _ => h.elim
theorem Le.refl : ∀ a : En, Le a a
  | [] => trivial
  | none :: a => Le.refl a
  | some _ :: a => ⟨rfl, Le.refl a⟩
theorem Ok.le {ds' : En} (O : Ok K ds σ Hb H0 H) (h : Le ds' ds) : Ok K ds' σ Hb H0 H := by
  obtain ⟨Hf, a, b, c, d⟩ := O.ex
  exact ⟨O.len.trans h.len.symm, O.b0, Hf, a, b, fun i x e => c i x (h.get e), fun i j x y v e1 e2 => d i j x y v (h.get e1) (h.get e2)⟩
/-- the owned addresses -/
def Owned (ds : En) (σ : L2.St) (p : Addr) : Prop := ∃ (i : Nat) (d : D), ds[i]? = some (some d) ∧ isOwn d = true ∧ σ[i]? = some (some (.ref p))
open Classical in
/-- all but what is owned -/
noncomputable def cool (ds : En) (σ : L2.St) (H : Hp) : Hp := fun b => if Owned ds σ b then none else H b
theorem cool_own {p : Addr} (h : Owned ds σ p) : cool ds σ H p = none := by
  unfold cool
  rw [if_pos h]
theorem cool_not {p : Addr} (h : ¬ Owned ds σ p) : cool ds σ H p = H p := by
  unfold cool
  rw [if_neg h]
theorem cool_same : Same (cool ds σ H) H := fun b o e => by
  unfold cool at e
  split at e
  · cases e
  · exact e
theorem Slot.own_at {Hf : Hp} {d : D} {p : Addr} (o : isOwn d = true) (h : Slot K Hb Hf H d (.ref p)) : Hf p = none ∧ ∃ xs, H p = some (.lst xs) := by
  cases d with
  | own ns =>
    obtain ⟨q, h1, h2, h3⟩ := h
    cases h1
    exact ⟨h2, _, h3⟩
  | ownll nss =>
    obtain ⟨q, vs, h1, h2, h3, _⟩ := h
    cases h1
    exact ⟨h2, _, h3⟩
  | ownv vs =>
    obtain ⟨q, h1, h2, h3⟩ := h
    cases h1
    exact ⟨h2, _, h3⟩
  | _ => cases o
/-- all that is not owned is as good as never written any more -/
theorem Ok.cooled (O : Ok K ds σ Hb H0 H) (e : Same H H') : Same H0 (cool ds σ H') ∧ Ok K ds σ Hb (cool ds σ H') H' ∧ ∀ p, H p = none → cool ds σ H' p = H' p := by
  obtain ⟨Hf, a, b, c, d⟩ := O.ex
  have no : ∀ p, Owned ds σ p → Hf p = none ∧ ∃ xs, H p = some (.lst xs) := fun p ⟨i, x, h1, h2, h3⟩ => by
    obtain ⟨v, g1, g2⟩ := c i x h1
    rw [h3] at g1
    cases g1
    exact g2.own_at h2
  have sf : Same Hf (cool ds σ H') := fun q o h => by
    rw [cool_not fun z => by rw [(no q z).1] at h; cases h]
    exact e _ _ (b _ _ h)
  refine ⟨a.trans sf, ⟨O.len, O.b0.trans (a.trans sf), _, Same.refl _, cool_same, fun i x h => ?_, d⟩, fun p hp => cool_not fun z => ?_⟩
  · obtain ⟨v, h1, h2⟩ := c i x h
    refine ⟨v, h1, h2.up sf e fun p hv ho _ => cool_own ⟨i, x, h, ho, by rw [h1, hv]⟩⟩
  · obtain ⟨_, xs, q⟩ := no p z
    rw [hp] at q
    cases q
/-- a slot gets a value that no one writes -/
theorem Ok.put {j : Nat} {d : D} {v : V} (O : Ok K ds σ Hb H0 H) (o : isOwn d = false) (h : Is K H0 d v) : Ok K (ds.set j (some d)) (σ.set j (some v)) Hb H0 H := by
  obtain ⟨Hf, a, b, c, e⟩ := O.ex
  refine ⟨by rw [List.length_set, List.length_set]; exact O.len, O.b0, Hf, a, b, fun i x q => ?_, fun i k x y u q1 q2 o1 o2 s1 s2 => ?_⟩
  · by_cases hi : j = i
    · subst hi
      rw [List.getElem?_set] at q
      by_cases hl : j < ds.length
      · rw [if_pos rfl, if_pos hl] at q
        cases q
        exact ⟨v, by rw [List.getElem?_set, if_pos rfl, if_pos (by rw [O.len]; exact hl)], Slot.of o (Is.up a h)⟩
      · rw [if_pos rfl, if_neg hl] at q
        cases q
    · rw [List.getElem?_set_ne hi] at q
      obtain ⟨u, g1, g2⟩ := c i x q
      exact ⟨u, by rw [List.getElem?_set_ne hi]; exact g1, g2⟩
  · have ni : ∀ {m : Nat} {z : D}, (ds.set j (some d))[m]? = some (some z) → isOwn z = true → j ≠ m := fun {m z} q oz hm => by
      subst hm
      rw [List.getElem?_set, if_pos rfl] at q
      by_cases hl : j < ds.length
      · rw [if_pos hl] at q
        cases q
        rw [o] at oz
        cases oz
      · rw [if_neg hl] at q
        cases q
    have n1 := ni q1 o1
    have n2 := ni q2 o2
    rw [List.getElem?_set_ne n1] at q1 s1
    rw [List.getElem?_set_ne n2] at q2 s2
    exact e i k x y u q1 q2 o1 o2 s1 s2
/-- a slot gets a list of its own: p new since H -/
theorem Ok.putOwn {j : Nat} {d : D} {p : Addr} {Hn : Hp} (O : Ok K ds σ Hb H0 H) (e : Same H Hn) (hp : H p = none) (o : isOwn d = true) (h : ∀ Hf, Same H0 Hf → Hf p = none → Slot K Hb Hf Hn d (.ref p)) : Ok K (ds.set j (some d)) (σ.set j (some (.ref p))) Hb H0 Hn := by
  obtain ⟨Hf, a, b, c, f⟩ := O.ex
  have hfp : Hf p = none := b.free hp
  have old : ∀ (i : Nat) (x : D) (u : V), ds[i]? = some (some x) → isOwn x = true → σ[i]? = some (some u) → u ≠ .ref p := fun i x u g1 g2 g3 z => by
    subst z
    obtain ⟨w, k1, k2⟩ := c i x g1
    rw [g3] at k1
    cases k1
    obtain ⟨_, xs, q⟩ := k2.own_at g2
    rw [hp] at q
    cases q
  refine ⟨by rw [List.length_set, List.length_set]; exact O.len, O.b0, Hf, a, b.trans e, fun i x q => ?_, fun i k x y u q1 q2 o1 o2 s1 s2 => ?_⟩
  · by_cases hi : j = i
    · subst hi
      rw [List.getElem?_set] at q
      by_cases hl : j < ds.length
      · rw [if_pos rfl, if_pos hl] at q
        cases q
        exact ⟨_, by rw [List.getElem?_set, if_pos rfl, if_pos (by rw [O.len]; exact hl)], h Hf a hfp⟩
      · rw [if_pos rfl, if_neg hl] at q
        cases q
    · rw [List.getElem?_set_ne hi] at q
      obtain ⟨u, g1, g2⟩ := c i x q
      exact ⟨u, by rw [List.getElem?_set_ne hi]; exact g1, g2.up (Same.refl _) e fun _ _ _ z => z⟩
  · by_cases h1 : j = i
    · by_cases h2 : j = k
      · exact h1.symm.trans h2
      · subst h1
        rw [List.getElem?_set_ne h2] at q2 s2
        rw [List.getElem?_set, if_pos rfl] at s1
        split at s1
        · cases s1
          exact absurd rfl (old k y _ q2 o2 s2)
        · cases s1
    · by_cases h2 : j = k
      · subst h2
        rw [List.getElem?_set_ne h1] at q1 s1
        rw [List.getElem?_set, if_pos rfl] at s2
        split at s2
        · cases s2
          exact absurd rfl (old i x _ q1 o1 s1)
        · cases s2
      · rw [List.getElem?_set_ne h1] at q1 s1
        rw [List.getElem?_set_ne h2] at q2 s2
        exact f i k x y u q1 q2 o1 o2 s1 s2
/-- the list of one's own in slot i is written -/
theorem Ok.write {i : Nat} {d d' : D} {p : Addr} {xs : List V} (O : Ok K ds σ Hb H0 H) (h : ds[i]? = some (some d)) (o : isOwn d = true) (o' : isOwn d' = true) (hv : σ[i]? = some (some (.ref p)))
    (hn : ∀ Hf, Same H0 Hf → Same Hf H → Hf p = none → Slot K Hb Hf H d (.ref p) → Slot K Hb Hf (upd H p (.lst xs)) d' (.ref p)) : Ok K (ds.set i (some d')) σ Hb H0 (upd H p (.lst xs)) := by
  obtain ⟨Hf, a, b, c, f⟩ := O.ex
  have hs : Slot K Hb Hf H d (.ref p) := by
    obtain ⟨v, g1, g2⟩ := c i d h
    rw [hv] at g1
    cases g1
    exact g2
  have hfp : Hf p = none := (hs.own_at o).1
  have hl : i < ds.length := (List.getElem?_eq_some_iff.mp h).1
  have owns : ∀ (m : Nat) (z : D), (ds.set i (some d'))[m]? = some (some z) → isOwn z = true → ∃ y, ds[m]? = some (some y) ∧ isOwn y = true := fun m z q oz => by
    by_cases hm : i = m
    · subst hm
      exact ⟨d, h, o⟩
    · rw [List.getElem?_set_ne hm] at q
      exact ⟨z, q, oz⟩
  refine ⟨by rw [List.length_set]; exact O.len, O.b0, Hf, a, fun q u e => by rw [upd_ne (ne_of_none e hfp)]; exact b _ _ e, fun m x q => ?_, fun m k x y u q1 q2 o1 o2 s1 s2 => ?_⟩
  · by_cases hm : i = m
    · subst hm
      rw [List.getElem?_set, if_pos rfl, if_pos hl] at q
      cases q
      exact ⟨_, hv, hn Hf a b hfp hs⟩
    · rw [List.getElem?_set_ne hm] at q
      obtain ⟨v, g1, g2⟩ := c m x q
      refine ⟨v, g1, ?_⟩
      have np : isOwn x = true → v ≠ .ref p := fun ox z => by
        subst z
        exact hm (f i m d x _ h q o ox hv g1)
      cases x with
      | own ns =>
        obtain ⟨r, k1, k2, k3⟩ := g2
        refine ⟨r, k1, k2, ?_⟩
        rw [upd_ne fun z => np rfl (by rw [k1, z])]
        exact k3
      | ownll ns =>
        obtain ⟨r, vs, k1, k2, k3, k4⟩ := g2
        refine ⟨r, vs, k1, k2, ?_, k4⟩
        rw [upd_ne fun z => np rfl (by rw [k1, z])]
        exact k3
      | ownv ns =>
        obtain ⟨r, k1, k2, k3⟩ := g2
        refine ⟨r, k1, k2, ?_⟩
        rw [upd_ne fun z => np rfl (by rw [k1, z])]
        exact k3
      | _ => exact g2
  · obtain ⟨x', g1, g2⟩ := owns m x q1 o1
    obtain ⟨y', g3, g4⟩ := owns k y q2 o2
    exact f m k x' y' u g1 g3 g2 g4 s1 s2
end
def Ev (K : PySem.W.Frag) (t : TE) (ds : En) (d : D) : Prop := ∀ (σ : L2.St) (Hb H0 H : Hp) (Q : VK), Ok K ds σ Hb H0 H → (∀ v H', Same H H' → Is K H' d v → Q v H') → t σ H Q
def EvN (K : PySem.W.Frag) (t : TE) (ds : En) (d : D) : Prop := ∀ (σ : L2.St) (Hb H0 H : Hp) (Q : VK), Ok K ds σ Hb H0 H → (∀ v H', Same H H' → IsN K H H' d v → Q v H') → t σ H Q
/-- a value that no one writes -/
def EvF (K : PySem.W.Frag) (t : TE) (ds : En) (d : D) : Prop := ∀ (σ : L2.St) (Hb H0 H : Hp) (Q : VK), Ok K ds σ Hb H0 H → (∀ v H' H0', Same H H' → Same H0 H0' → Is K H0' d v → Ok K ds σ Hb H0' H' → Q v H') → t σ H Q
def EvT (K : PySem.W.Frag) (t : TT) (ds : En) (c : Bool) : Prop := ∀ (σ : L2.St) (Hb H0 H : Hp) (Q : Bool → Hp → Prop), Ok K ds σ Hb H0 H → (∀ H', Same H H' → Q c H') → t σ H Q
def EvA (K : PySem.W.Frag) (t : TA) (ds : En) (as : List D) : Prop := ∀ (σ : L2.St) (Hb H0 H : Hp) (Q : List V → Hp → Prop), Ok K ds σ Hb H0 H → (∀ vs H', Same H H' → Paired (Is K H') as vs → Q vs H') → t σ H Q
def EvI (K : PySem.W.Frag) (t : TA) (ds : En) (ns : List Int) : Prop := ∀ (σ : L2.St) (Hb H0 H : Hp) (Q : List V → Hp → Prop), Ok K ds σ Hb H0 H → (∀ H', Same H H' → Q (ns.map V.int) H') → t σ H Q
section
variable {ds : En} {t ta tb tc : TE} {d : D} {i j k : Int} {xs ys : List Int}
theorem EvN.ev (h : EvN K t ds d) : Ev K t ds d := fun σ Hb H0 H Q O q => h σ Hb H0 H Q O fun v H' e n => q v H' e n.is
theorem Ev.to {d' : D} (h : Ev K t ds d) (e : d = d') : Ev K t ds d' := e ▸ h
theorem EvN.to {d' : D} (h : EvN K t ds d) (e : d = d') : EvN K t ds d' := e ▸ h
theorem EvT.to {t : TT} {c c' : Bool} (h : EvT K t ds c) (e : c = c') : EvT K t ds c' := e ▸ h
/-- values that are no objects -/
def scalar : D → Bool
  | .int _ => true
  | .bl _ => true
  | .non => true
  | _ => false
theorem Is.sc {H H' : Hp} {v : V} (s : scalar d = true) (h : Is K H d v) : Is K H' d v := by
  cases d with
  | int _ => exact h
  | bl _ => exact h
  | non => exact h
  | _ => cases s
theorem Ev.n (h : Ev K t ds d) (s : scalar d = true := by rfl) : EvN K t ds d := fun σ Hb H0 H Q O q => h σ Hb H0 H Q O fun v H' e n => q v H' e (by
  cases d with
  | int _ => exact n
  | bl _ => exact n
  | non => exact n
  | _ => cases s)
theorem Ev.f (h : Ev K t ds d) (s : scalar d = true := by rfl) : EvF K t ds d := fun σ Hb H0 H Q O q => h σ Hb H0 H Q O fun v H' e n => q v H' H0 e (Same.refl _) (Is.sc s n) (O.up e)
def isTup : D → Bool
  | .t _ => true
  | .tt _ => true
  | _ => false
theorem IsN.cool {σ : L2.St} {H H' : Hp} {v : V} (hd : isOwn d = false) (ht : isTup d = false) (hc : ∀ p, H p = none → cool ds σ H' p = H' p) (n : IsN K H H' d v) : Is K (E.cool ds σ H') d v := by
  have nl : ∀ v ns, NewL H H' v ns → IsL K (E.cool ds σ H') v ns := fun v ns ⟨q, a, b, c⟩ => ⟨q, a, SqL.of ((hc q b).trans c)⟩
  cases d with
  | l ns => exact nl _ _ n
  | ll nss =>
    obtain ⟨p, vs, a, b, c, e⟩ := n
    exact ⟨p, vs, a, SqL.of ((hc p b).trans c), pmap nl e⟩
  | lb bs =>
    obtain ⟨p, a, b, c⟩ := n
    exact ⟨p, a, SqL.of ((hc p b).trans c)⟩
  | int _ => exact n
  | bl _ => exact n
  | non => exact n
  | t _ => cases ht
  | tt _ => cases ht
  | own _ => cases hd
  | ownll _ => cases hd
  | ownv _ => cases hd
theorem EvN.f (h : EvN K t ds d) (hd : isOwn d = false := by rfl) (ht : isTup d = false := by rfl) : EvF K t ds d := fun σ Hb H0 H Q O q => h σ Hb H0 H Q O fun v H' e n => by
  obtain ⟨c1, c2, c3⟩ := O.cooled e
  exact q v H' _ e c1 (IsN.cool hd ht c3 n) c2
theorem EvF.ev (h : EvF K t ds d) : Ev K t ds d := fun σ Hb H0 H Q O q => h σ Hb H0 H Q O fun v H' H0' e e0 n O' => q v H' e (n.up O'.same0)
theorem evf_var {i : Nat} (h : ds[i]? = some (some d) := by rfl) (o : isOwn d = false := by rfl) : EvF K (tVar i) ds d := fun σ Hb H0 H Q O q => by
  have O' := O
  obtain ⟨Hf, a, b, c, e⟩ := O.ex
  obtain ⟨v, g1, g2⟩ := c i d h
  obtain ⟨c1, c2, c3⟩ := O'.cooled (Same.refl H)
  refine ⟨v, g1, q v H Hf (Same.refl _) a (g2.to o) ⟨O.len, O.b0.trans a, Hf, Same.refl _, b, c, e⟩⟩
theorem ev_var {i : Nat} (h : ds[i]? = some (some d) := by rfl) (o : isOwn d = false := by rfl) : Ev K (tVar i) ds d := (evf_var h o).ev
theorem ev_int : Ev K (tC (.int i)) ds (.int i) := fun σ Hb H0 H Q O q => q _ H (Same.refl _) rfl
theorem ev_bl {b : Bool} : Ev K (tC (.bl b)) ds (.bl b) := fun σ Hb H0 H Q O q => q _ H (Same.refl _) rfl
/-- a constant of the module -/
def tGlob (K : PySem.W.Frag) (d : D) : TE := fun _ H Q => ∀ v, (∀ H', Is K H' d v) → Q v H
def Glob (K : PySem.W.Frag) (mg : Str → Option Value) (x : Str) (d : D) : Prop := ∃ v u, mg x = some u ∧ RelV v u ∧ ∀ H', Is K H' d v
theorem pe_gd {X : Cx} {x : Str} {pos : Pos} (hg : Gl X x) (h : Glob X.K X.mg x d) (hd : (x == ("__debug__" : Str)) = false := by decide) : PE X (.Name x pos) (tGlob X.K d) := by
  obtain ⟨v, u, h1, h2, h3⟩ := h
  exact fun pins s σ H Q I q => pe_glob hg h1 h2 hd pins s σ H Q I (q v h3)
theorem ev_glob : Ev K (tGlob K d) ds d := fun σ Hb H0 H Q O q v h => q v H (Same.refl _) (h H)
theorem evf_glob : EvF K (tGlob K d) ds d := fun σ Hb H0 H Q O q v h => q v H H0 (Same.refl _) (Same.refl _) (h H0) O
theorem ev_i0 {g : Int → Int → Int} (ha : Ev K ta ds (.int i)) (hb : Ev K tb ds (.int j)) : Ev K (tOp (rI0 fun i j => .int (g i j)) ta tb) ds (.int (g i j)) := fun σ Hb H0 H Q O q =>
  ha σ Hb H0 H _ O fun v H1 e1 n1 => hb σ Hb H0 H1 _ (O.up e1) fun u H2 e2 n2 => ⟨i, j, n1, n2, q _ H2 (e1.trans e2) rfl⟩
theorem ev_b0 {g : Int → Int → Bool} (ha : Ev K ta ds (.int i)) (hb : Ev K tb ds (.int j)) : Ev K (tOp (rI0 fun i j => .bl (g i j)) ta tb) ds (.bl (g i j)) := fun σ Hb H0 H Q O q =>
  ha σ Hb H0 H _ O fun v H1 e1 n1 => hb σ Hb H0 H1 _ (O.up e1) fun u H2 e2 n2 => ⟨i, j, n1, n2, q _ H2 (e1.trans e2) rfl⟩
theorem ev_ic {C : Int → Int → Prop} {g : Int → Int → Int} (ha : Ev K ta ds (.int i)) (hb : Ev K tb ds (.int j)) (hc : C i j) : Ev K (tOp (rI C fun i j => .int (g i j)) ta tb) ds (.int (g i j)) := fun σ Hb H0 H Q O q =>
  ha σ Hb H0 H _ O fun v H1 e1 n1 => hb σ Hb H0 H1 _ (O.up e1) fun u H2 e2 n2 => ⟨i, j, n1, n2, hc, q _ H2 (e1.trans e2) rfl⟩
theorem ev_add (ha : Ev K ta ds (.int i)) (hb : Ev K tb ds (.int j)) : Ev K (tOp (rI0 fun i j => .int (i + j)) ta tb) ds (.int (i + j)) := ev_i0 ha hb
theorem ev_sub (ha : Ev K ta ds (.int i)) (hb : Ev K tb ds (.int j)) : Ev K (tOp (rI0 fun i j => .int (i - j)) ta tb) ds (.int (i - j)) := ev_i0 ha hb
/-- one factor is small -/
def Small (i : Int) : Prop := -(2 ^ 64) < i ∧ i < 2 ^ 64
theorem ev_mulR (ha : Ev K ta ds (.int i)) (hb : Ev K tb ds (.int j)) (h : Small j := by exact ⟨by decide, by decide⟩) : Ev K (tOp (rI CMul fun i j => .int (i * j)) ta tb) ds (.int (i * j)) := ev_ic ha hb (.inr h)
theorem ev_mod (ha : Ev K ta ds (.int i)) (hb : Ev K tb ds (.int j)) (h : 0 < j := by decide) : Ev K (tOp (rI (fun _ j => 0 < j) fun i j => .int (i % j)) ta tb) ds (.int (i % j)) := ev_ic ha hb h
theorem ev_neg (ha : Ev K ta ds (.int i)) : Ev K (tUn (rU fun i => .int (-i)) ta) ds (.int (-i)) := fun σ Hb H0 H Q O q =>
  ha σ Hb H0 H _ O fun v H1 e1 n1 => ⟨i, n1, q _ H1 e1 rfl⟩
theorem ev_lt (ha : Ev K ta ds (.int i)) (hb : Ev K tb ds (.int j)) : Ev K (tOp (rI0 fun i j => .bl (decide (i < j))) ta tb) ds (.bl (decide (i < j))) := ev_b0 (g := fun i j => decide (i < j)) ha hb
theorem ev_gt (ha : Ev K ta ds (.int i)) (hb : Ev K tb ds (.int j)) : Ev K (tOp (rI0 fun i j => .bl (decide (j < i))) ta tb) ds (.bl (decide (j < i))) := ev_b0 (g := fun i j => decide (j < i)) ha hb
theorem ev_ge (ha : Ev K ta ds (.int i)) (hb : Ev K tb ds (.int j)) : Ev K (tOp (rI0 fun i j => .bl (decide (j ≤ i))) ta tb) ds (.bl (decide (j ≤ i))) := ev_b0 (g := fun i j => decide (j ≤ i)) ha hb
theorem decV {i j : Int} : decide (V.int i = V.int j) = decide (i = j) := by
  by_cases h : i = j
  · subst h
    rw [decide_eq_true rfl, decide_eq_true rfl]
  · rw [decide_eq_false h, decide_eq_false fun z => h (V.int.inj z)]
theorem ev_eq (ha : Ev K ta ds (.int i)) (hb : Ev K tb ds (.int j)) : Ev K (tOp rEq ta tb) ds (.bl (decide (i = j))) := fun σ Hb H0 H Q O q =>
  ha σ Hb H0 H _ O fun v H1 e1 n1 => hb σ Hb H0 H1 _ (O.up e1) fun u H2 e2 n2 => by
    cases n1
    cases n2
    refine ⟨rfl, ?_⟩
    rw [decV]
    exact q _ H2 (e1.trans e2) rfl
theorem ev_ne (ha : Ev K ta ds (.int i)) (hb : Ev K tb ds (.int j)) : Ev K (tOp rNe ta tb) ds (.bl (!decide (i = j))) := fun σ Hb H0 H Q O q =>
  ha σ Hb H0 H _ O fun v H1 e1 n1 => hb σ Hb H0 H1 _ (O.up e1) fun u H2 e2 n2 => by
    cases n1
    cases n2
    refine ⟨rfl, ?_⟩
    rw [decV]
    exact q _ H2 (e1.trans e2) rfl
theorem ev_chain (ha : Ev K ta ds (.int i)) (hb : Ev K tb ds (.int j)) (hc : Ev K tc ds (.int k)) :
    Ev K (tChain (rI0 fun i j => .bl (decide (i ≤ j))) (rI0 fun i j => .bl (decide (i ≤ j))) ta tb tc) ds (.bl (decide (i ≤ j) && decide (j ≤ k))) := fun σ Hb H0 H Q O q =>
  ha σ Hb H0 H _ O fun v H1 e1 n1 => hb σ Hb H0 H1 _ (O.up e1) fun u H2 e2 n2 => by
    refine ⟨i, j, n1, n2, _, rfl, ?_⟩
    by_cases h : i ≤ j
    · rw [decide_eq_true h, if_pos rfl]
      refine hc σ Hb H0 H2 _ ((O.up e1).up e2) fun w H3 e3 n3 => ⟨j, k, n2, n3, ?_⟩
      rw [decide_eq_true h, Bool.true_and] at q
      exact q _ H3 ((e1.trans e2).trans e3) rfl
    · rw [decide_eq_false h, if_neg Bool.false_ne_true]
      rw [decide_eq_false h, Bool.false_and] at q
      exact q _ H2 (e1.trans e2) rfl
theorem ev_and {a b : Bool} (ha : Ev K ta ds (.bl a)) (hb : a = true → Ev K tb ds (.bl b)) : Ev K (tAndV ta tb) ds (.bl (a && b)) := fun σ Hb H0 H Q O q =>
  ha σ Hb H0 H _ O fun v H1 e1 n1 => by
    refine ⟨a, n1, ?_⟩
    cases a with
    | true => exact iteT (hb rfl σ Hb H0 H1 _ (O.up e1) fun u H2 e2 n2 => q u H2 (e1.trans e2) n2)
    | false => exact iteF (q _ H1 e1 rfl)
theorem evt_cmp {c : Bool} (h : Ev K t ds (.bl c)) : EvT K (tTest t) ds c := fun σ Hb H0 H Q O q =>
  h σ Hb H0 H _ O fun v H1 e1 n1 => ⟨c, n1, q H1 e1⟩
theorem evt_truth {c : Bool} (h : Ev K t ds (.bl c)) : EvT K (fun σ H Q => t σ H fun x H' => ∃ k, TruV K x H' k ∧ Q k H') ds c := fun σ Hb H0 H Q O q =>
  h σ Hb H0 H _ O fun v H1 e1 n1 => by
    cases n1
    exact ⟨c, rfl, q H1 e1⟩
theorem evt_and {t u : TT} {a b : Bool} (ha : EvT K t ds a) (hb : a = true → EvT K u ds b) : EvT K (tAnd t u) ds (a && b) := fun σ Hb H0 H Q O q =>
  ha σ Hb H0 H _ O fun H1 e1 => by
    cases a with
    | true => exact iteT (hb rfl σ Hb H0 H1 _ (O.up e1) fun H2 e2 => q H2 (e1.trans e2))
    | false => exact iteF (q H1 e1)
theorem evt_or {t u : TT} {a b : Bool} (ha : EvT K t ds a) (hb : a = false → EvT K u ds b) : EvT K (tOr t u) ds (a || b) := fun σ Hb H0 H Q O q =>
  ha σ Hb H0 H _ O fun H1 e1 => by
    cases a with
    | false => exact iteF (hb rfl σ Hb H0 H1 _ (O.up e1) fun H2 e2 => q H2 (e1.trans e2))
    | true => exact iteT (q H1 e1)
theorem evt_not {t : TT} {a : Bool} (ha : EvT K t ds a) : EvT K (tNot t) ds (!a) := fun σ Hb H0 H Q O q =>
  ha σ Hb H0 H _ O fun H1 e1 => q H1 e1
theorem ev_if {c : TT} {b : Bool} (hc : EvT K c ds b) (ha : b = true → Ev K ta ds (.int i)) (hb : b = false → Ev K tb ds (.int j)) : Ev K (tIf c ta tb) ds (.int (if b = true then i else j)) := fun σ Hb H0 H Q O q =>
  hc σ Hb H0 H _ O fun H1 e1 => by
    cases b with
    | true => exact iteT (ha rfl σ Hb H0 H1 _ (O.up e1) fun u H2 e2 n2 => q u H2 (e1.trans e2) n2)
    | false => exact iteF (hb rfl σ Hb H0 H1 _ (O.up e1) fun u H2 e2 n2 => q u H2 (e1.trans e2) n2)
theorem eva_nil : EvA K tNil ds [] := fun σ Hb H0 H Q O q => q [] H (Same.refl _) .nil
theorem eva_cons {u : TA} {as : List D} (ha : Ev K ta ds d) (hb : EvA K u ds as) : EvA K (tCons ta u) ds (d :: as) := fun σ Hb H0 H Q O q =>
  ha σ Hb H0 H _ O fun v H1 e1 n1 => hb σ Hb H0 H1 _ (O.up e1) fun vs H2 e2 n2 => q (v :: vs) H2 (e1.trans e2) (.cons (n1.up e2) n2)
theorem evi_nil : EvI K tNil ds [] := fun σ Hb H0 H Q O q => q H (Same.refl _)
theorem evi_cons {u : TA} (ha : Ev K ta ds (.int i)) (hb : EvI K u ds xs) : EvI K (tCons ta u) ds (i :: xs) := fun σ Hb H0 H Q O q =>
  ha σ Hb H0 H _ O fun v H1 e1 n1 => hb σ Hb H0 H1 _ (O.up e1) fun H2 e2 => by
    cases n1
    exact q H2 (e1.trans e2)
theorem newL {H H1 : Hp} {p : Addr} (e : Same H H1) (hp : H1 p = none) : Same H (upd H1 p (.lst (xs.map V.int))) ∧ NewL H (upd H1 p (.lst (xs.map V.int))) (.ref p) xs :=
  ⟨e.trans (same_upd hp), p, rfl, e.free hp, upd_same⟩
theorem evn_lst {u : TA} (h : EvI K u ds xs) (hl : xs.length ≤ 16777216 := by (try simp only [List.length_cons, List.length_nil]) <;> omega) : EvN K (tLst u) ds (.l xs) := fun σ Hb H0 H Q O q =>
  h σ Hb H0 H _ O fun H1 e1 => ⟨by rw [List.length_map, sizeLine_eq]; exact hl, fun p hp => q _ _ (newL e1 hp).1 (newL e1 hp).2⟩
theorem evn_cat (ha : Ev K ta ds (.l xs)) (hb : Ev K tb ds (.l ys)) (hl : xs.length + ys.length ≤ 16777216) : EvN K (tOp (rCatS K) ta tb) ds (.l (xs ++ ys)) := fun σ Hb H0 H Q O q =>
  ha σ Hb H0 H _ O fun v H1 e1 n1 => hb σ Hb H0 H1 _ (O.up e1) fun u H2 e2 n2 => by
    obtain ⟨a, rfl, s1⟩ := n1
    obtain ⟨b, rfl, s2⟩ := n2
    refine ⟨a, b, _, _, rfl, rfl, e2.seq s1, s2, by rw [List.length_map, List.length_map, sizeLine_eq]; exact hl, fun p hp => ?_⟩
    rw [← List.map_append]
    exact q _ _ (newL (e1.trans e2) hp).1 (newL (e1.trans e2) hp).2
theorem sIx_nn {n d : Nat} {i : Int} (h : 0 ≤ i) : HT.sIx n d (some i) = min i.toNat n := by
  show (if i < 0 then (i + (n : Int)).toNat else min i.toNat n) = _
  rw [if_neg (by omega)]
theorem cut_map (lo hi : Option Int) : cutV (xs.map V.int) lo hi = ((xs.drop (HT.sIx xs.length 0 lo)).take (HT.sIx xs.length xs.length hi - HT.sIx xs.length 0 lo)).map V.int := by
  unfold cutV
  rw [List.length_map, List.map_take, List.map_drop]
theorem cut_ab {a b : Int} (ha : 0 ≤ a) (hb : 0 ≤ b) : cutV (xs.map V.int) (some a) (some b) = ((xs.drop a.toNat).take (b.toNat - a.toNat)).map V.int := by
  rw [cut_map, sIx_nn ha, sIx_nn hb]
  congr 1
  by_cases h : a.toNat ≤ xs.length
  · rw [Nat.min_eq_left h]
    apply List.ext_getElem?
    intro m
    rw [List.getElem?_take, List.getElem?_take, List.getElem?_drop]
    by_cases h1 : m < min b.toNat xs.length - a.toNat
    · rw [if_pos h1, if_pos (by omega)]
    · rw [if_neg h1]
      by_cases h2 : m < b.toNat - a.toNat
      · rw [if_pos h2, List.getElem?_eq_none (by omega)]
      · rw [if_neg h2]
  · rw [List.drop_of_length_le (by omega), List.drop_of_length_le (by omega), List.take_nil, List.take_nil]
theorem cut_a {a : Int} (ha : 0 ≤ a) : cutV (xs.map V.int) (some a) none = (xs.drop a.toNat).map V.int := by
  rw [cut_map, sIx_nn ha]
  congr 1
  show (xs.drop (min a.toNat xs.length)).take (xs.length - min a.toNat xs.length) = _
  by_cases h : a.toNat ≤ xs.length
  · rw [Nat.min_eq_left h]
    exact List.take_of_length_le (by rw [List.length_drop]; exact Nat.le_refl _)
  · rw [List.drop_of_length_le (by omega), List.drop_of_length_le (by omega), List.take_nil]
theorem evn_sl {te : TE} (hx : Ev K te ds (.l xs)) (ha : Ev K ta ds (.int i)) (hb : Ev K tb ds (.int j)) (h1 : 0 ≤ i := by first | decide | omega) (h2 : 0 ≤ j := by first | decide | omega) :
    EvN K (tSl (rSlL K) te (tPart ta) (tPart tb)) ds (.l ((xs.drop i.toNat).take (j.toNat - i.toNat))) := fun σ Hb H0 H Q O q =>
  hx σ Hb H0 H _ O fun v H1 e1 n1 => ha σ Hb H0 H1 _ (O.up e1) fun u H2 e2 n2 => ⟨i, n2, hb σ Hb H0 H2 _ ((O.up e1).up e2) fun w H3 e3 n3 => ⟨j, n3, by
    obtain ⟨a, rfl, s1⟩ := n1
    refine ⟨a, _, rfl, (e2.trans e3).seq s1, fun p hp => ?_⟩
    rw [cut_ab h1 h2]
    exact q _ _ (newL ((e1.trans e2).trans e3) hp).1 (newL ((e1.trans e2).trans e3) hp).2⟩⟩
theorem evn_slA {te : TE} (hx : Ev K te ds (.l xs)) (ha : Ev K ta ds (.int i)) (h1 : 0 ≤ i := by first | decide | omega) :
    EvN K (tSl (rSlL K) te (tPart ta) tNoPart) ds (.l (xs.drop i.toNat)) := fun σ Hb H0 H Q O q =>
  hx σ Hb H0 H _ O fun v H1 e1 n1 => ha σ Hb H0 H1 _ (O.up e1) fun u H2 e2 n2 => ⟨i, n2, by
    obtain ⟨a, rfl, s1⟩ := n1
    refine ⟨a, _, rfl, e2.seq s1, fun p hp => ?_⟩
    rw [cut_a h1]
    exact q _ _ (newL (e1.trans e2) hp).1 (newL (e1.trans e2) hp).2⟩
theorem at_nn {α : Type} {l : List α} {x : α} (h0 : 0 ≤ i) (h : l[i.toNat]? = some x) : atI l i = some x := by
  have := atI_nat h
  rw [Int.toNat_of_nonneg h0] at this
  exact this
theorem at_map {x : Int} (h : xs[i.toNat]? = some x) : (xs.map V.int)[i.toNat]? = some (V.int x) := by
  rw [List.getElem?_map, h]
  rfl
theorem ev_ix {x : Int} (hx : Ev K ta ds (.l xs)) (hi : Ev K tb ds (.int i)) (h : xs[i.toNat]? = some x := by rfl) (h0 : 0 ≤ i := by first | decide | omega) : Ev K (tOp (rIxL K) ta tb) ds (.int x) := fun σ Hb H0 H Q O q =>
  hx σ Hb H0 H _ O fun v H1 e1 n1 => hi σ Hb H0 H1 _ (O.up e1) fun u H2 e2 n2 => by
    obtain ⟨a, rfl, s1⟩ := n1
    exact ⟨a, _, i, _, rfl, n2, e2.seq s1, at_nn h0 (at_map h), q _ H2 (e1.trans e2) rfl⟩
theorem ev_ixt {x : Int} (hx : Ev K ta ds (.t xs)) (hi : Ev K tb ds (.int i)) (h : xs[i.toNat]? = some x := by rfl) (h0 : 0 ≤ i := by first | decide | omega) : Ev K (tOp (rIxT K) ta tb) ds (.int x) := fun σ Hb H0 H Q O q =>
  hx σ Hb H0 H _ O fun v H1 e1 n1 => hi σ Hb H0 H1 _ (O.up e1) fun u H2 e2 n2 => by
    obtain ⟨a, rfl, s1⟩ := n1
    exact ⟨a, _, i, _, rfl, n2, sameT e2 s1, at_nn h0 (at_map h), q _ H2 (e1.trans e2) rfl⟩
theorem pget {α β : Type} {F : α → β → Prop} : ∀ {l : List α} {r : List β} {m : Nat} {y : β}, Paired F l r → r[m]? = some y → ∃ x, l[m]? = some x ∧ F x y
  | _, _, m, y, .nil, h => by simp at h
  | _, _, 0, y, .cons f _, h => by
    cases h
    exact ⟨_, rfl, f⟩
  | _, _, m + 1, y, .cons _ t, h => by
    obtain ⟨x, a, b⟩ := pget (m := m) t (by simpa using h)
    exact ⟨x, by simpa using a, b⟩
theorem plen {α β : Type} {F : α → β → Prop} : ∀ {l : List α} {r : List β}, Paired F l r → l.length = r.length
  | _, _, .nil => rfl
  | _, _, .cons _ t => congrArg (· + 1) (plen t)
theorem ev_ixll {nss : List (List Int)} (hx : Ev K ta ds (.ll nss)) (hi : Ev K tb ds (.int i)) (h : nss[i.toNat]? = some xs) (h0 : 0 ≤ i := by first | decide | omega) : Ev K (tOp (rIxL K) ta tb) ds (.l xs) := fun σ Hb H0 H Q O q =>
  hx σ Hb H0 H _ O fun v H1 e1 n1 => hi σ Hb H0 H1 _ (O.up e1) fun u H2 e2 n2 => by
    obtain ⟨a, vs, rfl, s1, pr⟩ := n1
    obtain ⟨x, g1, g2⟩ := pget pr h
    exact ⟨a, _, i, _, rfl, n2, e2.seq s1, at_nn h0 g1, q _ H2 (e1.trans e2) (IsL.up e2 g2)⟩
abbrev rLen (K : PySem.W.Frag) : List V → Hp → VK → Prop := fun xs H Q => ∃ p ys, xs = [.ref p] ∧ (SqL K H p ys ∨ SqT K H p ys) ∧ Q (.int ys.length) H
theorem ev_len (hx : Ev K ta ds (.l xs)) : Ev K (tCB (rLen K) (tCons ta tNil)) ds (.int xs.length) := fun σ Hb H0 H Q O q =>
  hx σ Hb H0 H _ O fun v H1 e1 n1 => by
    obtain ⟨a, rfl, s1⟩ := n1
    refine ⟨a, _, rfl, .inl s1, ?_⟩
    rw [List.length_map]
    exact q _ H1 e1 rfl
theorem ev_lenll {nss : List (List Int)} (hx : Ev K ta ds (.ll nss)) : Ev K (tCB (rLen K) (tCons ta tNil)) ds (.int nss.length) := fun σ Hb H0 H Q O q =>
  hx σ Hb H0 H _ O fun v H1 e1 n1 => by
    obtain ⟨a, vs, rfl, s1, pr⟩ := n1
    refine ⟨a, _, rfl, .inl s1, ?_⟩
    rw [plen pr]
    exact q _ H1 e1 rfl
theorem evn_listL (hx : Ev K ta ds (.l xs)) : EvN K (tCB (fun xs H Q => ∃ p ys, xs = [.ref p] ∧ (SqL K H p ys ∨ SqT K H p ys) ∧ ∀ l, H l = none → Q (.ref l) (upd H l (.lst ys))) (tCons ta tNil)) ds (.l xs) := fun σ Hb H0 H Q O q =>
  hx σ Hb H0 H _ O fun v H1 e1 n1 => by
    obtain ⟨a, rfl, s1⟩ := n1
    exact ⟨a, _, rfl, .inl s1, fun p hp => q _ _ (newL e1 hp).1 (newL e1 hp).2⟩
def spF (K : PySem.W.Frag) (f : List D → D → Prop) : Sp := fun vs H Q _ => ∃ as d, Paired (Is K H) as vs ∧ f as d ∧ ∀ v H', Same H H' → IsN K H H' d v → Q v H'
theorem evn_call {f : List D → D → Prop} {u : TA} {as : List D} {E' : XK} (h : EvA K u ds as) (hf : f as d) : EvN K (tCall (spF K f) [] E' u) ds d := fun σ Hb H0 H Q O q =>
  h σ Hb H0 H _ O fun vs H1 e1 n1 => ⟨as, d, by rw [List.append_nil]; exact n1, hf, fun v H' e' n' => q v H' (e1.trans e') (IsN.mono e1 n')⟩
end
def Stm (K : PySem.W.Frag) (t : TS) (ds : En) (res : D) (N : En → Prop) : Prop := ∀ (σ : L2.St) (Hb H0 H : Hp) (Dn : Ends), Ok K ds σ Hb H0 H → (∀ ds' σ' H', N ds' → Ok K ds' σ' Hb H0 H' → Dn.nx σ' H') → (∀ v H', Same Hb H' → IsN K Hb H' res v → Dn.rt v H') → t Dn σ H
section
variable {ds ds' : En} {t u : TS} {te : TE} {d res : D} {N N' : En → Prop}
theorem Ok.low {σ : L2.St} {Hb H0 H0' H : Hp} (O : Ok K ds σ Hb H0' H) (e : Same H0 H0') (eb : Same Hb H0) : Ok K ds σ Hb H0 H := by
  obtain ⟨Hf, a, b, c, d⟩ := O.ex
  exact ⟨O.len, eb, Hf, e.trans a, b, c, d⟩
theorem st_seq (h1 : Stm K t ds res N') (h2 : ∀ ds', N' ds' → Stm K u ds' res N) : Stm K (tSeq t u) ds res N := fun σ Hb H0 H Dn O nx rt =>
  h1 σ Hb H0 H { Dn with nx := u Dn } O (fun ds' σ' H' n O' => h2 ds' n σ' Hb H0 H' Dn O' nx rt) rt
theorem st_then (h1 : Stm K t ds res (· = ds')) (h2 : Stm K u ds' res N) : Stm K (tSeq t u) ds res N := st_seq h1 fun _ e => e ▸ h2
theorem st_mono (h : Stm K t ds res N') (f : ∀ ds', N' ds' → N ds') : Stm K t ds res N := fun σ Hb H0 H Dn O nx rt => h σ Hb H0 H Dn O (fun ds' σ' H' n O' => nx ds' σ' H' (f ds' n) O') rt
theorem st_next (h : N ds) : Stm K tNext ds res N := fun σ Hb H0 H Dn O nx rt => nx ds σ H h O
theorem st_le (l : Le ds' ds) (h : Stm K t ds' res N) : Stm K t ds res N := fun σ Hb H0 H Dn O nx rt => h σ Hb H0 H Dn (O.le l) nx rt
theorem st_ret (h : EvN K te ds res) : Stm K (tRet te) ds res N := fun σ Hb H0 H Dn O nx rt =>
  h σ Hb H0 H _ O fun v H' e n => rt v H' (O.same.trans e) (IsN.mono O.same n)
theorem st_retOwn {i : Nat} {xs : List Int} (h : ds[i]? = some (some (.own xs)) := by rfl) : Stm K (tRet (tVar i)) ds (.l xs) N := fun σ Hb H0 H Dn O nx rt => by
  have O' := O
  obtain ⟨Hf, a, b, c, e⟩ := O.ex
  obtain ⟨v, g1, p, g2, g3, g4⟩ := c i _ h
  exact ⟨v, g1, rt v H O'.same ⟨p, g2, (O.b0.trans a).free g3, g4⟩⟩
theorem st_retOwnll {i : Nat} {nss : List (List Int)} (h : ds[i]? = some (some (.ownll nss)) := by rfl) : Stm K (tRet (tVar i)) ds (.ll nss) N := fun σ Hb H0 H Dn O nx rt => by
  have O' := O
  obtain ⟨Hf, a, b, c, e⟩ := O.ex
  obtain ⟨v, g1, p, vs, g2, g3, g4, g5⟩ := c i _ h
  exact ⟨v, g1, rt v H O'.same ⟨p, vs, g2, (O.b0.trans a).free g3, g4, pmap (fun _ _ ⟨q, x, y, z⟩ => ⟨q, x, y, b _ _ z⟩) g5⟩⟩
theorem st_set {j : Nat} (h : EvF K te ds d) (o : isOwn d = false := by rfl) : Stm K (tAsg te (gName j)) ds res (· = ds.set j (some d)) := fun σ Hb H0 H Dn O nx rt =>
  h σ Hb H0 H _ O fun v H' H0' e e0 n O' => nx _ _ H' rfl ((O'.put o n).low e0 O.b0)
theorem st_own {j : Nat} {xs : List Int} (h : EvN K te ds (.l xs)) : Stm K (tAsg te (gName j)) ds res (· = ds.set j (some (.own xs))) := fun σ Hb H0 H Dn O nx rt =>
  h σ Hb H0 H _ O fun v H' e n => by
    obtain ⟨q, rfl, hq, hq'⟩ := n
    exact nx _ _ H' rfl (O.putOwn e hq rfl fun Hf _ hf => ⟨q, rfl, hf, hq'⟩)
theorem st_ownll {j : Nat} (h : EvN K te ds (.l [])) : Stm K (tAsg te (gName j)) ds res (· = ds.set j (some (.ownll []))) := fun σ Hb H0 H Dn O nx rt =>
  h σ Hb H0 H _ O fun v H' e n => by
    obtain ⟨q, rfl, hq, hq'⟩ := n
    exact nx _ _ H' rfl (O.putOwn e hq rfl fun Hf _ hf => ⟨q, [], rfl, hf, hq', .nil⟩)
theorem st_if {c : TT} {b : Bool} (hc : EvT K c ds b) (h1 : b = true → Stm K t ds res N) (h2 : b = false → Stm K u ds res N) : Stm K (tIfS c t u) ds res N := fun σ Hb H0 H Dn O nx rt =>
  hc σ Hb H0 H _ O fun H1 e1 => by
    cases b with
    | true => exact iteT (h1 rfl σ Hb H0 H1 Dn (O.up e1) nx rt)
    | false => exact iteF (h2 rfl σ Hb H0 H1 Dn (O.up e1) nx rt)
/-- if c: return .. -/
theorem st_guard {c : TT} {b : Bool} {r : TS} (hc : EvT K c ds b) (h1 : b = true → Stm K t ds res fun _ => False) (h2 : b = false → Stm K r ds res N) : Stm K (tSeq (tIfS c t tNext) r) ds res N :=
  st_seq (N' := fun x => b = false ∧ x = ds) (st_if hc (fun hb => st_mono (h1 hb) fun _ z => z.elim) fun hb => st_next ⟨hb, rfl⟩) fun _ ⟨hb, e⟩ => e ▸ h2 hb
theorem st_aug {j : Nat} {i k : Int} {g : Int → Int → Int} (h : ds[j]? = some (some (.int i)) := by rfl) (he : Ev K te ds (.int k)) : Stm K (tAug j te (rI0 fun i j => .int (g i j))) ds res (· = ds.set j (some (.int (g i k)))) := fun σ Hb H0 H Dn O nx rt => by
  have O' := O
  obtain ⟨Hf, a, b, c, e⟩ := O.ex
  obtain ⟨v, g1, g2⟩ := c j _ h
  refine ⟨v, g1, he σ Hb H0 H _ O' fun w H1 e1 n1 => ⟨i, k, g2, n1, nx _ _ H1 rfl ((O'.up e1).put rfl ?_)⟩⟩
  exact rfl
theorem st_append {j : Nat} {xs : List Int} {x : Int} (h : ds[j]? = some (some (.own xs))) (he : Ev K te ds (.int x)) (hl : xs.length < 16777216) :
    Stm K (tDrop (tBM K "list" rAppend (tVar j) (tCons te tNil))) ds res (· = ds.set j (some (.own (xs ++ [x])))) := fun σ Hb H0 H Dn O nx rt => by
  have O' := O
  obtain ⟨Hf, a, b, c, e⟩ := O.ex
  obtain ⟨v, g1, p, rfl, g3, g4⟩ := c j _ h
  refine ⟨_, g1, .inl ⟨rfl, _, SqL.of g4⟩, he σ Hb H0 H _ O' fun w H1 e1 n1 => ?_⟩
  cases n1
  have g5 := e1 _ _ g4
  refine ⟨p, _, _, rfl, rfl, g5, by rw [List.length_map, sizeLine_eq]; exact hl, nx _ _ _ rfl ((O'.up e1).write h rfl rfl g1 fun Hf' _ s1 s2 _ => ⟨p, rfl, s2, ?_⟩)⟩
  rw [upd_same, List.map_append]
  rfl
theorem st_extend {j : Nat} {xs ys : List Int} (h : ds[j]? = some (some (.own xs))) (he : EvN K te ds (.l ys)) (hl : xs.length + ys.length ≤ 16777216) :
    Stm K (tDrop (tBM K "list" rExtend (tVar j) (tCons te tNil))) ds res (· = ds.set j (some (.own (xs ++ ys)))) := fun σ Hb H0 H Dn O nx rt => by
  have O' := O
  obtain ⟨Hf, a, b, c, e⟩ := O.ex
  obtain ⟨v, g1, p, rfl, g3, g4⟩ := c j _ h
  refine ⟨_, g1, .inl ⟨rfl, _, SqL.of g4⟩, he σ Hb H0 H _ O' fun w H1 e1 n1 => ?_⟩
  obtain ⟨q, rfl, _, hq⟩ := n1
  have g5 := e1 _ _ g4
  refine ⟨p, q, _, _, rfl, rfl, g5, hq, by rw [List.length_map, List.length_map, sizeLine_eq]; exact hl, nx _ _ _ rfl ((O'.up e1).write h rfl rfl g1 fun Hf' _ s1 s2 _ => ⟨p, rfl, s2, ?_⟩)⟩
  rw [upd_same, List.map_append]
theorem paired_get {H : Hp} : ∀ {as : List D} {vs : List V}, Paired (Is K H) as vs → ∀ {i : Nat} {d : D}, as[i]? = some d → ∃ v, vs[i]? = some v ∧ Is K H d v
  | _, _, .nil, i, d, h => by simp at h
  | _, _, .cons f _, 0, d, h => by
    cases h
    exact ⟨_, rfl, f⟩
  | _, _, .cons _ t, i + 1, d, h => by
    obtain ⟨x, a, b⟩ := paired_get t (i := i) (by simpa using h)
    exact ⟨x, by simpa using a, b⟩
theorem Is.noown {H : Hp} {v : V} (h : Is K H d v) : isOwn d = false := by
  cases d <;> first | rfl | exact h.elim
theorem ok_start {N : List Str} {vs : List V} {as : List D} {H : Hp} (h : Paired (Is K H) as vs) : Ok K (as.map some ++ List.replicate (N.length - as.length) none) (L2.start N vs) H H H := by
  have hl := plen h
  refine ⟨?_, Same.refl _, H, Same.refl _, Same.refl _, fun i d q => ?_, fun i j x y v q1 q2 o1 o2 s1 s2 => ?_⟩
  · unfold L2.start
    rw [List.length_append, List.length_append, List.length_map, List.length_map, List.length_replicate, List.length_replicate, hl]
  · by_cases hi : i < as.length
    · rw [List.getElem?_append_left (by rw [List.length_map]; exact hi), List.getElem?_map] at q
      cases e : as[i]? with
      | none =>
        rw [e] at q
        cases q
      | some z =>
        rw [e] at q
        cases q
        obtain ⟨v, g1, g2⟩ := paired_get h e
        refine ⟨v, ?_, Slot.of g2.noown g2⟩
        unfold L2.start
        rw [List.getElem?_append_left (by rw [List.length_map]; omega), List.getElem?_map, g1]
        rfl
    · rw [List.getElem?_append_right (by rw [List.length_map]; omega), List.getElem?_replicate] at q
      split at q <;> cases q
  · exfalso
    by_cases hi : i < as.length
    · rw [List.getElem?_append_left (by rw [List.length_map]; exact hi), List.getElem?_map] at q1
      cases e : as[i]? with
      | none =>
        rw [e] at q1
        cases q1
      | some z =>
        rw [e] at q1
        cases q1
        obtain ⟨v, g1, g2⟩ := paired_get h e
        rw [g2.noown] at o1
        cases o1
    · rw [List.getElem?_append_right (by rw [List.length_map]; omega), List.getElem?_replicate] at q1
      split at q1 <;> cases q1
/-- THE RULE for a def in plain data -/
theorem fn_ok {P : Program} {w : World} {mg : Str → Option Value} {base : Heap} {x qual : Str} {st : Stmt} {a : Addr} {fd : FuncData} {N ps : List Str} {k : Nat} {f : List D → D → Prop} (F : Fun K x qual st a fd) (S : FnScope N ps (defScope st)) (len : ∀ as d, f as d → as.length = ps.length)
    (hbody : ∀ (cdv : Value) (A : Around) (outer : List Env) (s : Shared) (H : Hp) (E' : XK) (as : List D) (d : D), Room k (A.deeper (envOfC qual (defScope st) s.heap.objs.size a cdv)) → f as d →
      ∃ t, PSs (cxOf CX0 P w K mg base N qual (defScope st) a cdv A outer s H E').nox (defBody st) t ∧ Stm K t (as.map some ++ List.replicate (N.length - as.length) none) d fun _ => False) : FnOk P w K mg base CX0 (k + 1) a fd ps (spF K f) := by
  refine F.ok S (fun vs H Q E' h => ?_) (fun cdv A outer s H vs Q E' hr h => ?_)
  · obtain ⟨as, d, pr, hf, _⟩ := h
    rw [← plen pr]
    exact len as d hf
  · obtain ⟨as, d, pr, hf, q⟩ := h
    obtain ⟨t, h1, h2⟩ := hbody cdv A outer s H E' as d hr hf
    exact ⟨t, h1, h2 _ H H H _ (ok_start pr) (fun _ _ _ z => z.elim) q⟩
end
section
variable {ds : En} {tb : TS} {tl : TE} {res : D} {j : Nat}
/-- for x in a list of ints -/
theorem st_for {ns : List Int} (dsf : Nat → En) (P : Nat → Prop) (hl : EvF K tl ds (.l ns)) (h0 : P 0 ∧ Le (dsf 0) ds)
    (hs : ∀ i z, ns[i]? = some z → P i → Stm K tb ((dsf i).set j (some (.int z))) res fun x => P (i + 1) ∧ Le (dsf (i + 1)) x) :
    Stm K (tFor (iList K tl) (gName j) tb) ds res fun x => P ns.length ∧ x = dsf ns.length := fun σ Hb H0 H Dn O nx rt =>
  hl σ Hb H0 H _ O fun v H1 H01 e1 e01 n1 O1 => by
    obtain ⟨a, rfl, s1⟩ := n1
    refine ⟨a, rfl, ⟨_, O1.same0.seq s1⟩, for_list (K := K) (a := a) (xs := ns.map V.int) (fun i σ' H' => P i ∧ Ok K (dsf i) σ' Hb H01 H') ⟨h0.1, O1.le h0.2⟩ (fun i σ' H' _ p => p.2.same0.seq s1) (fun i x σ' H' hx p => ?_) fun σ' H' p => ?_⟩
    · obtain ⟨z, hz, rfl⟩ := vI_get hx
      exact hs i z hz p.1 _ Hb H01 H' _ (p.2.put (j := j) rfl rfl) (fun ds' σ2 H2 n O2 => ⟨n.1, O2.le n.2⟩) rt
    · rw [List.length_map] at p
      exact nx _ _ _ ⟨p.1, rfl⟩ (p.2.low e01 O.b0)
/-- for x in a list of lists -/
theorem st_forll {nss : List (List Int)} (dsf : Nat → En) (P : Nat → Prop) (hl : EvF K tl ds (.ll nss)) (h0 : P 0 ∧ Le (dsf 0) ds)
    (hs : ∀ i z, nss[i]? = some z → P i → Stm K tb ((dsf i).set j (some (.l z))) res fun x => P (i + 1) ∧ Le (dsf (i + 1)) x) :
    Stm K (tFor (iList K tl) (gName j) tb) ds res fun x => P nss.length ∧ x = dsf nss.length := fun σ Hb H0 H Dn O nx rt =>
  hl σ Hb H0 H _ O fun v H1 H01 e1 e01 n1 O1 => by
    obtain ⟨a, vs, rfl, s1, pr⟩ := n1
    have hlen := plen pr
    refine ⟨a, rfl, ⟨_, O1.same0.seq s1⟩, for_list (K := K) (a := a) (xs := vs) (fun i σ' H' => P i ∧ Ok K (dsf i) σ' Hb H01 H') ⟨h0.1, O1.le h0.2⟩ (fun i σ' H' _ p => p.2.same0.seq s1) (fun i x σ' H' hx p => ?_) fun σ' H' p => ?_⟩
    · have hi : i < nss.length := by rw [← hlen]; exact (List.getElem?_eq_some_iff.mp hx).1
      obtain ⟨x', g1, g2⟩ := pget pr (List.getElem?_eq_getElem hi)
      rw [hx] at g1
      cases g1
      exact hs i _ (List.getElem?_eq_getElem hi) p.1 _ Hb H01 H' _ (p.2.put (j := j) (d := .l _) rfl g2) (fun ds' σ2 H2 n O2 => ⟨n.1, O2.le n.2⟩) rt
    · rw [hlen] at p
      exact nx _ _ _ ⟨p.1, rfl⟩ (p.2.low e01 O.b0)
/-- while: by a state s and a measure -/
theorem st_while {α : Type} {c : TT} (dsf : α → En) (P : α → Prop) (μ : α → Nat) (s0 : α) (h0 : P s0 ∧ Le (dsf s0) ds) {N : En → Prop}
    (hs : ∀ s, P s → ∃ b, EvT K c (dsf s) b ∧ (b = true → Stm K tb (dsf s) res fun x => ∃ s', P s' ∧ μ s' < μ s ∧ Le (dsf s') x) ∧ (b = false → N (dsf s))) :
    Stm K (tWhile c tb) ds res N := fun σ Hb H0 H Dn O nx rt => by
  refine ⟨fun m σ' H' => ∃ s, P s ∧ μ s = m ∧ Ok K (dsf s) σ' Hb H0 H', ⟨μ s0, s0, h0.1, rfl, O.le h0.2⟩, ?_⟩
  rintro m σ' H' ⟨s, p, rfl, O1⟩
  obtain ⟨b, hc, h1, h2⟩ := hs s p
  refine hc σ' Hb H0 H' _ O1 fun H1 e1 => ?_
  cases b with
  | true =>
    refine iteT ⟨fun σ2 H2 => ∃ s', P s' ∧ μ s' < μ s ∧ Ok K (dsf s') σ2 Hb H0 H2, fun σ2 H2 ⟨s', q1, q2, q3⟩ => ⟨μ s', q2, s', q1, rfl, q3⟩, ?_⟩
    exact h1 rfl σ' Hb H0 H1 _ (O1.up e1) (fun ds' σ2 H2 ⟨s', q1, q2, q3⟩ O2 => ⟨s', q1, q2, O2.le q3⟩) rt
  | false => exact iteF (nx _ _ _ (h2 rfl) (O1.up e1))
end
end E

end
section
set_option Elab.async false
set_option linter.all false
set_option maxRecDepth 100000
namespace E
open PySem PySem.Spec PyProof.Rows L2 B
variable {K : PySem.W.Frag}
section
variable {ds : En} {t ta tb tc : TE} {d : D} {i j k : Int} {xs ys : List Int}
theorem ev_ixb (hx : Ev K ta ds (.l xs)) (hi : Ev K tb ds (.int i)) (h : i.toNat < xs.length) (h0 : 0 ≤ i := by first | decide | omega) : Ev K (tOp (rIxL K) ta tb) ds (.int (xs.getD i.toNat 0)) :=
  ev_ix hx hi (by rw [List.getD_eq_getElem?_getD, List.getElem?_eq_getElem h]; rfl) h0
end
def ld (ns : List Int) : PyData := .list (ns.map PyData.int)
section
variable {ds : En} {ta tb : TE} {xs ys : List Int}
end
section
variable {ds : En} {ta tb : TE} {xs : List Int} {i j k c : Int}
theorem ev_min (ha : Ev K ta ds (.int i)) (hb : Ev K tb ds (.int j)) : Ev K (tCB (fun xs H Q => ∃ i j, xs = [.int i, .int j] ∧ Q (.int (if j < i then j else i)) H) (tCons ta (tCons tb tNil))) ds (.int (if j < i then j else i)) := fun σ Hb H0 H Q O q =>
  ha σ Hb H0 H _ O fun v H1 e1 n1 => hb σ Hb H0 H1 _ (O.up e1) fun u H2 e2 n2 => by
    cases n1
    cases n2
    exact ⟨i, j, rfl, q _ H2 (e1.trans e2) rfl⟩
end
theorem boot_min5 : bootBuiltins "min" = some (.builtin "min") := by decide +kernel
theorem boot_all5 : bootBuiltins "all" = some (.builtin "all") := by decide +kernel
theorem boot_any5 : bootBuiltins "any" = some (.builtin "any") := by decide +kernel
theorem boot_list5 : bootBuiltins "list" = some (.type "list") := by decide +kernel
theorem bl_eq {a b : Bool} (h : a = b) : D.bl a = D.bl b := congrArg D.bl h
theorem i_eq {a b : Int} (h : a = b) : D.int a = D.int b := congrArg D.int h
theorem l_eq {a b : List Int} (h : a = b) : D.l a = D.l b := congrArg D.l h
end E

end
section
set_option Elab.async false
set_option linter.all false
set_option maxRecDepth 100000
namespace Z
open PySem
section
variable {prog : Program} {w : World} {A : Around} {E : Value → Shared → Prop} {s : Shared}
/-- one step of a tuple's iterator -/
theorem nextT_item {c t : Addr} {n : Nat} {its : Array Value} {x : Value} {Q : Value → Shared → Prop} (hc : s.heap.IsTupleIter c t n) (ht : s.heap.IsTuple t its) (hx : its[n]? = some x)
    (k : ∀ g, g.IsTupleIter c t (n + 1) → Heap.SameBut c s.heap g → Q x { s with heap := g }) : wpAny (model prog w) A (Builtin.SmallTypes.nextOf (.ref c)) Q E s := by
  obtain ⟨oc, gc, cc, dc⟩ := id hc
  obtain ⟨ot, gt, _, nt, dt⟩ := ht
  unfold Builtin.SmallTypes.nextOf
  refine wpAny_bind (wpAny_callSpecial?_slot (name := Str.ofString "__next__") hc.typeIs F.slot_tuple_iterator_next (wpAny_call_entry F.slot_tuple_iterator_next hc.typeIs F.entry_tuple_iterator_next ?_ (F.args_tuple_iterator_next_1 _)))
  show wpAny _ _ (field (.ref c) 0 >>= _) _ _ s
  refine wpAny_bind (wpAny_field gc dc (x := .ref t) rfl ?_)
  show wpAny _ _ (if (Value.ref t == Value.none) = true then _ else _) _ _ s; rw [if_neg (show ¬ ((Value.ref t == Value.none) = true) from Bool.false_ne_true)]
  show wpAny _ _ (field (.ref c) 1 >>= _) _ _ s
  refine wpAny_bind (wpAny_field gc dc (x := .int n 0) rfl ?_)
  show wpAny _ _ (seqItems? (.ref t) >>= _) _ _ s; refine wpAny_bind (wpAny_seqItems gt dt ?_)
  simp only [hx, Int.toNat_natCast]
  refine wpAny_bind (wpAny_setField gc dc (by simp) (wpAny_pure ⟨x, rfl, wpAny_pure (k _ ⟨_, Heap.get?_update_self _ gc (Obj.isFreed_of_fields (Obj.data_mapFields dc _)), (Obj.cls_mapFields ..).trans cc, ?_⟩ (Heap.SameBut.update ..))⟩))
  rw [Obj.data_mapFields dc]
  simp [rawInt]
theorem nextT_end {c t : Addr} {n : Nat} {its : Array Value} {Q : Value → Shared → Prop} (hh : A.handled = none) (hc : s.heap.IsTupleIter c t n) (ht : s.heap.IsTuple t its) (hx : its[n]? = none)
    (k : ∀ g e, Heap.ExtBut c s.heap g → (∃ o, g.get? e = some o ∧ o.cls = .type "StopIteration") → E (.ref e) { s with heap := g }) : wpAny (model prog w) A (Builtin.SmallTypes.nextOf (.ref c)) Q E s := by
  obtain ⟨oc, gc, cc, dc⟩ := id hc
  obtain ⟨ot, gt, _, nt, dt⟩ := ht
  unfold Builtin.SmallTypes.nextOf
  refine wpAny_bind (wpAny_callSpecial?_slot (name := Str.ofString "__next__") hc.typeIs F.slot_tuple_iterator_next (wpAny_call_entry F.slot_tuple_iterator_next hc.typeIs F.entry_tuple_iterator_next ?_ (F.args_tuple_iterator_next_1 _)))
  show wpAny _ _ (field (.ref c) 0 >>= _) _ _ s
  refine wpAny_bind (wpAny_field gc dc (x := .ref t) rfl ?_)
  show wpAny _ _ (if (Value.ref t == Value.none) = true then _ else _) _ _ s; rw [if_neg (show ¬ ((Value.ref t == Value.none) = true) from Bool.false_ne_true)]
  show wpAny _ _ (field (.ref c) 1 >>= _) _ _ s
  refine wpAny_bind (wpAny_field gc dc (x := .int n 0) rfl ?_)
  show wpAny _ _ (seqItems? (.ref t) >>= _) _ _ s; refine wpAny_bind (wpAny_seqItems gt dt ?_)
  simp only [hx, Int.toNat_natCast]
  refine wpAny_bind (wpAny_rule (wpAny_bind (wpAny_setField gc dc (by simp) ?_)))
  show wpAny _ _ (newExc (.type "StopIteration") [] >>= _) _ _ _; refine wpAny_bind ?_
  simp only [newTuple, newExc]
  refine wpAny_bind (wpAny_newObj_type ?_ (by size_fits)); refine wpAny_bind (m := firstArgMember _ _) (wpAny_of_eq (a := Value.none) (by first | rfl | (simp only [firstArgMember]; rfl)) ?_)
  refine wpAny_newObj_type ?_ (by size_fits); simp only [raiseNew]
  refine wpAny_bind (wpAny_handled ?_)
  first | rw [show A.in1.handled = none from hh] | rw [hh]
  exact wpAny_bind (wpAny_pure (wpAny_throw (k _ _ (((Heap.SameBut.update ..).extBut.push _).push _) ⟨_, Heap.get?_push_size _ rfl, rfl⟩)))
/-- zip's own step: the first is a list, the second a tuple -/
theorem zt_item {z P R u v a b : Addr} {m n : Nat} {xs ys : Array Value} {x y o1 o2 : Value} {Q : Value → Shared → Prop} (D : ZipApart z P R u v a b) (hz : IsZip s.heap z P R .none) (hP : IsPair s.heap P (.ref u) (.ref v)) (hR : IsPair s.heap R o1 o2)
    (hu : s.heap.IsListIter u a m) (hv : s.heap.IsTupleIter v b n) (ha : s.heap.IsList a xs) (hb : s.heap.IsTuple b ys) (hx : xs[m]? = some x) (hy : ys[n]? = some y)
    (k : ∀ g, IsZip g z P R (rawInt s.heap.objs.size) → IsPair g R x y → g.IsListIter u a (m + 1) → g.IsTupleIter v b (n + 1) → IsPair g s.heap.objs.size x y → g.objs.size = s.heap.objs.size + 1 →
      (∀ c o, c ≠ z → c ≠ R → c ≠ u → c ≠ v → s.heap.get? c = some o → g.get? c = some o) → Q (.ref s.heap.objs.size) { s with heap := g }) :
    wpAny (model prog w) A (Builtin.«zip.__next__» ⟨[.ref z], []⟩) (fun fin s' => ∃ r, fin = .done (.ret r) ∧ Q r s') E s := by
  show wpAny _ _ (field (.ref z) 2 >>= _) _ _ _
  refine wpAny_bind (wpAny_field hz rfl (x := .bool false) rfl ?_)
  show wpAny _ _ (field (.ref z) 3 >>= _) _ _ _
  refine wpAny_bind (wpAny_field hz rfl (x := .ref P) rfl ?_)
  refine wpAny_bind (wpAny_seqItems hP rfl ?_)
  show wpAny _ _ (Builtin.SmallTypes.ownedTupleIsFree (.ref z) >>= _) _ _ _; refine wpAny_bind ?_
  unfold Builtin.SmallTypes.ownedTupleIsFree
  refine wpAny_bind (wpAny_field hz rfl (x := .none) rfl (wpAny_pure ?_)); simp only [if_true]
  refine wpAny_bind (wpAny_rule ?_)
  refine wpAny_bind (wpAny_field hz rfl (x := .ref R) rfl ?_)
  refine wpAny_bind (wpAny_setField_rec hz (by simp) fun g1 hz1 s1 => ?_)
  replace hz1 : IsZip g1 z P R .ellipsis := hz1
  refine wpAny_bind ?_
  simp only [List.forIn_cons, List.forIn_nil, List.zipIdx_cons, List.zipIdx_nil]
  refine wpAny_bind (wpAny_bind (wpAny_onRaise ?_))
  show wpAny _ _ (Builtin.SmallTypes.nextOf (.ref u) >>= _) _ _ _
  refine wpAny_bind (wpAny_nextOf_list_item (hu.extBut s1.extBut D.i1z) (ha.extBut s1.extBut D.l1z) hx fun g2 hu2 s2 => wpAny_pure ?_)
  have hR2 : IsPair g2 R o1 o2 := s2.extBut _ _ D.TOi1 (s1.extBut _ _ D.TOz hR)
  refine wpAny_bind (wpAny_seqItems hR2 rfl ?_)
  refine wpAny_bind (wpAny_updateSeq_pair hR2 fun g3 hR3 s3 => ?_)
  replace hR3 : IsPair g3 R x o2 := hR3
  refine wpAny_bind (wpAny_letGo (wpAny_pure ?_)); refine wpAny_bind (wpAny_bind (wpAny_onRaise ?_))
  show wpAny _ _ (Builtin.SmallTypes.nextOf (.ref v) >>= _) _ _ _
  refine wpAny_bind (nextT_item (((hv.extBut s1.extBut D.i2z).extBut s2.extBut D.i12.symm).extBut s3.extBut D.TOi2.symm) (((hb.extBut s1.extBut D.l2z).extBut s2.extBut D.l2i1).extBut s3.extBut D.l2TO) hy fun g4 hv4 s4 => wpAny_pure ?_)
  have hR4 : IsPair g4 R x o2 := s4.extBut _ _ D.TOi2 hR3
  refine wpAny_bind (wpAny_seqItems hR4 rfl ?_)
  refine wpAny_bind (wpAny_updateSeq_pair hR4 fun g5 hR5 s5 => ?_)
  replace hR5 : IsPair g5 R x y := hR5
  refine wpAny_bind (wpAny_letGo (wpAny_pure (wpAny_pure ?_))); refine wpAny_bind (wpAny_seqItems hR5 rfl ?_); refine wpAny_bind (wpAny_newTuple ?_)
  have sz : g5.objs.size = s.heap.objs.size := by rw [s5.1, s4.1, s3.1, s2.1, s1.1]
  have hz5 : IsZip g5 z P R .ellipsis := s5.extBut _ _ D.TOz.symm (s4.extBut _ _ D.i2z.symm (s3.extBut _ _ D.TOz.symm (s2.extBut _ _ D.i1z.symm hz1)))
  have k5 : ∀ c o, c ≠ z → c ≠ R → c ≠ u → c ≠ v → s.heap.get? c = some o → g5.get? c = some o := fun c o n1 n2 n3 n4 e => s5.extBut _ _ n2 (s4.extBut _ _ n4 (s3.extBut _ _ n2 (s2.extBut _ _ n3 (s1.extBut _ _ n1 e))))
  have hu5 : g5.IsListIter u a (m + 1) := ((hu2.extBut s3.extBut D.TOi1.symm).extBut s4.extBut D.i12).extBut s5.extBut D.TOi1.symm
  have hv5 : g5.IsTupleIter v b (n + 1) := hv4.extBut s5.extBut D.TOi2.symm
  have lz : z < g5.objs.size := Heap.lt_size hz5
  show wpAny _ _ (Builtin.SmallTypes.ownedTupleHandOut (.ref z) (.ref g5.objs.size) >>= _) _ _ _; refine wpAny_bind ?_
  unfold Builtin.SmallTypes.ownedTupleHandOut
  have hz6 : IsZip (g5.push { cls := .type "tuple", data := .seq #[x, y] }) z P R .ellipsis := Heap.get?_push_of_some _ hz5
  refine wpAny_bind (wpAny_setField_rec hz6 (by simp) fun g7 hz7 s7 => ?_)
  replace hz7 : IsZip g7 z P R (rawInt g5.objs.size) := hz7
  refine wpAny_setField_rec hz7 (by simp) fun g8 hz8 s8 => ?_
  replace hz8 : IsZip g8 z P R (rawInt g5.objs.size) := hz8
  have up : ∀ c o, c ≠ z → g5.get? c = some o → g8.get? c = some o := fun c o n1 e => s8.extBut _ _ n1 (s7.extBut _ _ n1 (Heap.get?_push_of_some _ e))
  have hN : IsPair g8 g5.objs.size x y := s8.extBut _ _ (Nat.ne_of_gt lz) (s7.extBut _ _ (Nat.ne_of_gt lz) (Heap.get?_push_size _ rfl))
  have sz8 : g8.objs.size = g5.objs.size + 1 := by rw [s8.1, s7.1, Heap.size_push]
  rw [sz] at hz8 hN sz8
  refine wpAny_pure ⟨_, rfl, ?_⟩; show Q (.ref g5.objs.size) _; rw [sz]
  exact k g8 hz8 (up _ _ D.TOz hR5) (hu5.at fun o e => up _ o D.i1z e) (hv5.at fun o e => up _ o D.i2z e) hN sz8 fun c o n1 n2 n3 n4 e => up c o n1 (k5 c o n1 n2 n3 n4 e)
theorem zt_end {z P R u v a b : Addr} {m n : Nat} {xs ys : Array Value} {o1 o2 : Value} {Q : Fin → Shared → Prop} (hh : A.handled = none) (D : ZipApart z P R u v a b) (hz : IsZip s.heap z P R .none) (hP : IsPair s.heap P (.ref u) (.ref v)) (hR : IsPair s.heap R o1 o2)
    (hu : s.heap.IsListIter u a m) (hv : s.heap.IsTupleIter v b n) (ha : s.heap.IsList a xs) (hb : s.heap.IsTuple b ys) (hend : xs[m]? = none ∨ ys[n]? = none)
    (k : ∀ g e, (∀ c o, c ≠ z → c ≠ R → c ≠ u → c ≠ v → s.heap.get? c = some o → g.get? c = some o) → (∃ o, g.get? e = some o ∧ o.cls = .type "StopIteration") → E (.ref e) { s with heap := g }) :
    wpAny (model prog w) A (Builtin.«zip.__next__» ⟨[.ref z], []⟩) Q E s := by
  show wpAny _ _ (field (.ref z) 2 >>= _) _ _ _
  refine wpAny_bind (wpAny_field hz rfl (x := .bool false) rfl ?_)
  show wpAny _ _ (field (.ref z) 3 >>= _) _ _ _
  refine wpAny_bind (wpAny_field hz rfl (x := .ref P) rfl ?_)
  refine wpAny_bind (wpAny_seqItems hP rfl ?_)
  show wpAny _ _ (Builtin.SmallTypes.ownedTupleIsFree (.ref z) >>= _) _ _ _; refine wpAny_bind ?_
  unfold Builtin.SmallTypes.ownedTupleIsFree
  refine wpAny_bind (wpAny_field hz rfl (x := .none) rfl (wpAny_pure ?_)); simp only [if_true]
  refine wpAny_bind (wpAny_rule ?_)
  refine wpAny_bind (wpAny_field hz rfl (x := .ref R) rfl ?_)
  refine wpAny_bind (wpAny_setField_rec hz (by simp) fun g1 hz1 s1 => ?_)
  replace hz1 : IsZip g1 z P R .ellipsis := hz1
  refine wpAny_bind ?_
  simp only [List.forIn_cons, List.forIn_nil, List.zipIdx_cons, List.zipIdx_nil]
  refine wpAny_bind (wpAny_bind (wpAny_onRaise ?_))
  show wpAny _ _ (Builtin.SmallTypes.nextOf (.ref u) >>= _) _ _ _
  cases hx : xs[m]? with
  | none =>
    refine wpAny_bind (wpAny_nextOf_list_end hh (hu.extBut s1.extBut D.i1z) (ha.extBut s1.extBut D.l1z) hx fun g2 e s2 he => ?_)
    obtain ⟨oe, ge, ce⟩ := he
    have hz2 : IsZip g2 z P R .ellipsis := s2 _ _ D.i1z.symm hz1
    have ez : e ≠ z := fun q => by subst q; rw [hz2] at ge; cases ge; simp at ce
    exact wpAny_setField_rec hz2 (by simp) fun g3 _ s3 => k g3 e (fun c o n1 _ n3 _ q => s3.extBut _ _ n1 (s2 _ _ n3 (s1.extBut _ _ n1 q))) ⟨oe, s3.extBut _ _ ez ge, ce⟩
  | some x =>
    have hy : ys[n]? = none := by rcases hend with q | q; rw [hx] at q; cases q; exact q
    refine wpAny_bind (wpAny_nextOf_list_item (hu.extBut s1.extBut D.i1z) (ha.extBut s1.extBut D.l1z) hx fun g2 hu2 s2 => wpAny_pure ?_)
    have hR2 : IsPair g2 R o1 o2 := s2.extBut _ _ D.TOi1 (s1.extBut _ _ D.TOz hR)
    refine wpAny_bind (wpAny_seqItems hR2 rfl ?_)
    refine wpAny_bind (wpAny_updateSeq_pair hR2 fun g3 hR3 s3 => ?_)
    refine wpAny_bind (wpAny_letGo (wpAny_pure ?_)); refine wpAny_bind (wpAny_bind (wpAny_onRaise ?_))
    show wpAny _ _ (Builtin.SmallTypes.nextOf (.ref v) >>= _) _ _ _
    refine wpAny_bind (nextT_end hh (((hv.extBut s1.extBut D.i2z).extBut s2.extBut D.i12.symm).extBut s3.extBut D.TOi2.symm) (((hb.extBut s1.extBut D.l2z).extBut s2.extBut D.l2i1).extBut s3.extBut D.l2TO) hy fun g4 e s4 he => ?_)
    obtain ⟨oe, ge, ce⟩ := he
    have hz4 : IsZip g4 z P R .ellipsis := s4 _ _ D.i2z.symm (s3.extBut _ _ D.TOz.symm (s2.extBut _ _ D.i1z.symm hz1))
    have ez : e ≠ z := fun q => by subst q; rw [hz4] at ge; cases ge; simp at ce
    exact wpAny_setField_rec hz4 (by simp) fun g5 _ s5 => k g5 e (fun c o n1 n2 n3 n4 q => s5.extBut _ _ n1 (s4 _ _ n4 (s3.extBut _ _ n2 (s2.extBut _ _ n3 (s1.extBut _ _ n1 q))))) ⟨oe, s5.extBut _ _ ez ge, ce⟩
theorem ztN_item {z P R u v a b : Addr} {m n : Nat} {xs ys : Array Value} {x y o1 o2 : Value} {Q : Option Value → Shared → Prop} (D : ZipApart z P R u v a b) (hz : IsZip s.heap z P R .none) (hP : IsPair s.heap P (.ref u) (.ref v)) (hR : IsPair s.heap R o1 o2)
    (hu : s.heap.IsListIter u a m) (hv : s.heap.IsTupleIter v b n) (ha : s.heap.IsList a xs) (hb : s.heap.IsTuple b ys) (hx : xs[m]? = some x) (hy : ys[n]? = some y)
    (k : ∀ g, IsZip g z P R (rawInt s.heap.objs.size) → IsPair g R x y → g.IsListIter u a (m + 1) → g.IsTupleIter v b (n + 1) → IsPair g s.heap.objs.size x y → g.objs.size = s.heap.objs.size + 1 →
      (∀ c o, c ≠ z → c ≠ R → c ≠ u → c ≠ v → s.heap.get? c = some o → g.get? c = some o) → Q (some (.ref s.heap.objs.size)) { s with heap := g }) : wpAny (model prog w) A (pyNext (.ref z)) Q E s := by
  have ty : s.TypeIs (.ref z) "zip" := ⟨_, hz, rfl⟩
  unfold pyNext
  exact wpAny_bind (wpAny_attempt (wpAny_callSpecial?_slot (name := Str.ofString "__next__") ty F.slot_zip_next (wpAny_call_entry F.slot_zip_next ty F.entry_zip_next (zt_item D hz hP hR hu hv ha hb hx hy fun g b1 b2 b3 b4 b5 b6 b7 => wpAny_pure (k g b1 b2 b3 b4 b5 b6 b7)) (F.args_zip_next_1 _))))
theorem ztN_end {z P R u v a b : Addr} {m n : Nat} {xs ys : Array Value} {o1 o2 : Value} {Q : Option Value → Shared → Prop} (hh : A.handled = none) (D : ZipApart z P R u v a b) (hz : IsZip s.heap z P R .none) (hP : IsPair s.heap P (.ref u) (.ref v)) (hR : IsPair s.heap R o1 o2)
    (hu : s.heap.IsListIter u a m) (hv : s.heap.IsTupleIter v b n) (ha : s.heap.IsList a xs) (hb : s.heap.IsTuple b ys) (hend : xs[m]? = none ∨ ys[n]? = none)
    (k : ∀ g, (∀ c o, c ≠ z → c ≠ R → c ≠ u → c ≠ v → s.heap.get? c = some o → g.get? c = some o) → Q none { s with heap := g }) : wpAny (model prog w) A (pyNext (.ref z)) Q E s := by
  have ty : s.TypeIs (.ref z) "zip" := ⟨_, hz, rfl⟩
  unfold pyNext
  refine wpAny_bind (wpAny_attempt (wpAny_callSpecial?_slot (name := Str.ofString "__next__") ty F.slot_zip_next (wpAny_call_entry F.slot_zip_next ty F.entry_zip_next (zt_end hh D hz hP hR hu hv ha hb hend fun g e kp he => ?_) (F.args_zip_next_1 _))))
  obtain ⟨oe, ge, ce⟩ := he
  exact wpAny_bind (wpAny_isInstance (T := "StopIteration") (b := true) ⟨oe, ge, ce⟩ isSubtype_stop (wpAny_pure (k _ kp)))
end
abbrev q1 (h : Heap) (a : Addr) : Heap := h.push { cls := .type "list_iterator", data := .fields #[.ref a, .int 0 0] }
abbrev q2 (h : Heap) (a b : Addr) : Heap := (q1 h a).push { cls := .type "tuple_iterator", data := .fields #[.ref b, .int 0 0] }
abbrev q3 (h : Heap) (a b : Addr) : Heap := (q2 h a b).push { cls := .type "tuple", data := .seq #[.ref h.objs.size, .ref (q1 h a).objs.size] }
abbrev q4 (h : Heap) (a b : Addr) : Heap := (q3 h a b).push { cls := .type "tuple", data := .seq #[.none, .none] }
abbrev q5 (h : Heap) (a b : Addr) : Heap := (q4 h a b).push { cls := .type "zip", data := .fields #[.none, .bool false, .bool false, .ref (q2 h a b).objs.size, .ref (q3 h a b).objs.size] }
theorem zt_new (a b : Addr) (xs ys : Array Value) : Meets (Builtin.«zip.__new__» ⟨[.type "zip", .ref a, .ref b], []⟩) (fun _ R s => s.heap.IsList a xs ∧ s.heap.IsTuple b ys ∧ R (.ok (.ret (.ref (q4 s.heap a b).objs.size))) { s with heap := q5 s.heap a b }) :=
  .of_wp fun prog w A R s h => by
    obtain ⟨hp, g, d, tk, os⟩ := s
    obtain ⟨ha, hb, h⟩ := h
    have sb := sub_zip
    have iA : Heap.IsList (Shared.heap ⟨hp, g, d, tk, os⟩) a xs := ha
    have iB : Heap.IsTuple (Shared.heap ⟨hp.push { cls := .type "list_iterator", data := .fields #[.ref a, .int 0 0] }, g, d, tk, os⟩) b ys := Heap.IsTuple.push hb _
    wp_walk using wpAny_pyIter_list iA, wpAny_pyIter_tuple iB
    exact ⟨_, rfl, h⟩
section
variable {prog : Program} {w : World} {A : Around} {E : Value → Shared → Prop} {s : Shared}
theorem call_zt {a b : Addr} {xs ys : Array Value} {Q : Value → Shared → Prop} (ha : s.heap.IsList a xs) (hb : s.heap.IsTuple b ys)
    (k : ∀ g, IsZip g (s.heap.objs.size + 4) (s.heap.objs.size + 2) (s.heap.objs.size + 3) .none → IsPair g (s.heap.objs.size + 2) (.ref s.heap.objs.size) (.ref (s.heap.objs.size + 1)) →
      IsPair g (s.heap.objs.size + 3) .none .none → g.IsListIter s.heap.objs.size a 0 → g.IsTupleIter (s.heap.objs.size + 1) b 0 → (∀ c o, s.heap.get? c = some o → g.get? c = some o) → Q (.ref (s.heap.objs.size + 4)) { s with heap := g }) :
    wpAny (model prog w) A (call (.type "zip") [.ref a, .ref b]) Q E s := by
  refine callType_new F.called_zip (by decide) (F.typeCall_zip_2 _ _) (F.newCall_zip_2 _ _) (fun obj => F.args_object_init_3 obj _ _) F.entry_zip_new (zt_new a b xs ys) ⟨ha, hb, ?_⟩
  have e1 : (q1 s.heap a).objs.size = s.heap.objs.size + 1 := Heap.size_push ..
  have e2 : (q2 s.heap a b).objs.size = s.heap.objs.size + 2 := by rw [Heap.size_push, e1]
  have e3 : (q3 s.heap a b).objs.size = s.heap.objs.size + 3 := by rw [Heap.size_push, e2]
  have e4 : (q4 s.heap a b).objs.size = s.heap.objs.size + 4 := by rw [Heap.size_push, e3]
  have p5 : (q5 s.heap a b).get? (q4 s.heap a b).objs.size = some _ := Heap.get?_push_size _ rfl
  have p4 : (q5 s.heap a b).get? (q3 s.heap a b).objs.size = some _ := Heap.get?_push_of_some _ (Heap.get?_push_size _ rfl)
  have p3 : (q5 s.heap a b).get? (q2 s.heap a b).objs.size = some _ := Heap.get?_push_of_some _ (Heap.get?_push_of_some _ (Heap.get?_push_size _ rfl))
  have p2 : (q5 s.heap a b).get? (q1 s.heap a).objs.size = some _ := Heap.get?_push_of_some _ (Heap.get?_push_of_some _ (Heap.get?_push_of_some _ (Heap.get?_push_size _ rfl)))
  have p1 : (q5 s.heap a b).get? s.heap.objs.size = some _ := Heap.get?_push_of_some _ (Heap.get?_push_of_some _ (Heap.get?_push_of_some _ (Heap.get?_push_of_some _ (Heap.get?_push_size _ rfl))))
  show _ ∧ _
  rw [e2, e3, e4] at p5
  rw [e1, e2] at p3
  rw [e3] at p4
  rw [e1] at p2
  rw [e4]
  exact ⟨⟨_, p5, rfl⟩, k _ p5 p3 p4 ⟨_, p1, rfl, rfl⟩ ⟨_, p2, rfl, rfl⟩ fun c o x => Heap.get?_push_of_some _ (Heap.get?_push_of_some _ (Heap.get?_push_of_some _ (Heap.get?_push_of_some _ (Heap.get?_push_of_some _ x))))⟩
end
end Z
namespace L2
open PySem PySem.Spec PyProof.Rows
def Itzt (K : PySem.W.Frag) (a b : Addr) : It :=
  ⟨fun i H => ∃ (xs ys : List V) (x y : V), SqL K H a xs ∧ SqT K H b ys ∧ xs[i]? = some x ∧ ys[i]? = some y,
    fun i H v H' => ∃ T x y, v = .ref T ∧ H T = none ∧ H' = upd H T (.tup [x, y]) ∧ (∀ xs, SqL K H a xs → xs[i]? = some x) ∧ ∀ ys, SqT K H b ys → ys[i]? = some y,
    fun i H => ∃ xs ys : List V, SqL K H a xs ∧ SqT K H b ys ∧ (xs.length ≤ i ∨ ys.length ≤ i)⟩
theorem turn_zipT {P : Program} {w : World} {K : PySem.W.Frag} {elts : List Expr} {kk : Nat} {tpos : Pos} {a b z TI TO i1 i2 : Addr} (D : ZipApart z TI TO i1 i2 a b) :
    Turn P w K (.Tuple elts kk tpos) (Itzt K a b) [z, TI, TO, i1, i2] z (fun i h => IsZip h z TI TO .none ∧ IsPair h TI (.ref i1) (.ref i2) ∧ (∃ x y, IsPair h TO x y) ∧ h.IsListIter i1 a i ∧ h.IsTupleIter i2 b i) where
  mem := by simp
  obj := fun i h st c hc => by
    obtain ⟨hz, hTI, ⟨x, y, hTO⟩, ⟨o1, e1, _, d1⟩, ⟨o2, e2, _, d2⟩⟩ := st
    have e' : c = z ∨ c = TI ∨ c = TO ∨ c = i1 ∨ c = i2 := by simpa using hc
    rcases e' with q | q | q | q | q
    · rw [q]; exact ⟨_, hz, fun v q => nomatch q⟩
    · rw [q]; exact ⟨_, hTI, fun v q => nomatch q⟩
    · rw [q]; exact ⟨_, hTO, fun v q => nomatch q⟩
    · rw [q]; exact ⟨o1, e1, fun v q => by rw [d1] at q; cases q⟩
    · rw [q]; exact ⟨o2, e2, fun v q => by rw [d2] at q; cases q⟩
  keep := fun i h h' st k => by
    obtain ⟨hz, hTI, ⟨x, y, hTO⟩, h1, h2⟩ := st
    exact ⟨k z (by simp) _ hz, k TI (by simp) _ hTI, ⟨x, y, k TO (by simp) _ hTO⟩, h1.at fun o q => k i1 (by simp) o q, h2.at fun o q => k i2 (by simp) o q⟩
  item := by
    intro X hP hw hK hc i pins s σ H E I hf st hg
    subst hP hw hK
    obtain ⟨hz, hTI, ⟨x0, y0, hTO⟩, h1, h2⟩ := st
    obtain ⟨xs, ys, x, y, hqx, hqy, hx, hy⟩ := hg
    obtain ⟨its, rv, p, _⟩ := I.list hqx
    obtain ⟨its2, rv2, p2, _⟩ := I.tuple hqy
    obtain ⟨u, hu, ru⟩ := rv.get hx
    obtain ⟨u2, hu2, ru2⟩ := rv2.get hy
    have hzl : z < s.heap.objs.size := Heap.lt_size hz
    refine Z.ztN_item D hz hTI hTO h1 h2 p.isList p2 (x := u) (y := u2) (by simpa using hu) (by simpa using hu2) fun h' z' TO' h1' h2' hT hsz hk => ?_
    refine ⟨_, rfl, wpAny_letOwnedTupleGo_zip (s := { s with heap := h' }) z' fun h'' z'' sb => ?_⟩
    have hT2 : h''.get? s.heap.objs.size = some { cls := .type "tuple", data := .seq #[u, u2] } := (sb.2 _ (Nat.ne_of_gt hzl)).trans hT
    have new : ObjOk X.prog X.w (upd H s.heap.objs.size (.tup [x, y])) h'' s.heap.objs.size (.tup [x, y]) :=
      ⟨by show 2 ≤ sizeLine; decide, [u, u2], .cons ru (.cons ru2 .nil), ⟨_, hT2, rfl, _, rfl⟩⟩
    have I1 : Inv X pins σ (upd H s.heap.objs.size (.tup [x, y])) { s with heap := h'' } :=
      I.turnedNew (t' := s.toks) (ch := [z, TI, TO, i1, i2]) (fun c o hb q => (sb.2 c (fun q' => hb (by simp [q']))).trans (hk c o (fun q' => hb (by simp [q'])) (fun q' => hb (by simp [q'])) (fun q' => hb (by simp [q'])) (fun q' => hb (by simp [q'])) q)) hf (Nat.le_refl _) new
    refine ⟨.ref s.heap.objs.size, _, I1, rfl, ⟨_, x, y, rfl, I.hok.fresh (Nat.le_refl _), rfl, fun l hl => by rw [I.list_inj hl hqx]; exact hx, fun l hl => by rw [I.tuple_inj hl hqy]; exact hy⟩, ⟨z'', ?_, ⟨u, u2, ?_⟩, ?_, ?_⟩, fun c hcm => ?_⟩
    · exact (sb.2 _ D.TIz).trans (hk _ _ D.TIz D.TITO D.TIi1 D.TIi2 hTI)
    · exact (sb.2 _ D.TOz).trans TO'
    · exact h1'.at fun o q => (sb.2 _ D.i1z).trans q
    · exact h2'.at fun o q => (sb.2 _ D.i2z).trans q
    · have hlt : c < s.heap.objs.size := by
        have e' : c = z ∨ c = TI ∨ c = TO ∨ c = i1 ∨ c = i2 := by simpa using hcm
        rcases e' with q | q | q | q | q
        · rw [q]; exact hzl
        · rw [q]; exact Heap.lt_size hTI
        · rw [q]; exact Heap.lt_size hTO
        · rw [q]; obtain ⟨_, e1, _⟩ := h1; exact Heap.lt_size e1
        · rw [q]; obtain ⟨_, e2, _⟩ := h2; exact Heap.lt_size e2
      rw [upd_ne (Nat.ne_of_lt hlt)]
      exact (hf c hcm).1
  done := by
    intro X hP hw hK hc i pins s σ H E I hf st hg
    subst hP hw hK
    obtain ⟨hz, hTI, ⟨x0, y0, hTO⟩, h1, h2⟩ := st
    obtain ⟨xs, ys, hqx, hqy, hend⟩ := hg
    obtain ⟨its, rv, p, _⟩ := I.list hqx
    obtain ⟨its2, rv2, p2, _⟩ := I.tuple hqy
    have l1 := rv.length
    have l2 := rv2.length
    have he : its.toArray[i]? = none ∨ its2.toArray[i]? = none := by
      rcases hend with q | q
      · exact .inl (by simp; omega)
      · exact .inr (by simp; omega)
    exact Z.ztN_end (I.ok.hd hc) D hz hTI hTO h1 h2 p.isList p2 he fun h' hk => ⟨rfl, I.turnedL (t' := s.toks) (ch := [z, TI, TO, i1, i2]) (fun c o hb q =>
      hk c o (fun q' => hb (by simp [q'])) (fun q' => hb (by simp [q'])) (fun q' => hb (by simp [q'])) (fun q' => hb (by simp [q'])) q) hf⟩
  self := fun A i s Q E st h => wpAny_pyIter_zip st.1 h
def iZipT (K : PySem.W.Frag) (ta : TA) : TI := fun σ H R => ta σ H fun vs H1 => ∃ a b xs ys, vs = [.ref a, .ref b] ∧ SqL K H1 a xs ∧ SqT K H1 b ys ∧ R (Itzt K a b) H1
theorem pi_zipT {X : Cx} {e e2 : Expr} {ta : TA} {p pos tpos : Pos} {elts : List Expr} {kk : Nat} (hg : Gl X "zip") (hm : X.mg "zip" = none) (ha : PA X [e, e2] ta)
    (hs : starEach [e, e2] X.env = (false, eval e X.env) :: starEach [e2] X.env := by rfl) (hpl : (backTo pos (starEach [e2] X.env)).any (·.1) = false := by rfl) :
    PI X (.Tuple elts kk tpos) (.Call (.Name "zip" p) [e, e2] [] pos) (iZipT X.K ta) := by
  intro pins s σ H R I h
  refine Call_ (ld_blt I hg hm boot_zip5 (PyProof.Rows.callWith_type1 (thn (ha pos pins s σ H _ I h) fun us s1 ⟨vs, H1, I1, r1, q1⟩ => ?_) hs hpl))
  obtain ⟨a, b, xs, ys, ex, hqx, hqy, q⟩ := q1
  subst ex
  cases r1 with
  | cons r rr =>
    cases rr with
    | cons r' rr =>
      cases rr
      cases r
      cases r'
      obtain ⟨its, rv, p1, _⟩ := I1.list hqx
      obtain ⟨its2, rv2, p2, _⟩ := I1.tuple hqy
      have la : a < s1.heap.objs.size := p1.lt
      have lb : b < s1.heap.objs.size := by obtain ⟨_, q, _⟩ := p2; exact Heap.lt_size q
      refine Z.call_zt p1.isList p2 fun h' hz hTI hTO h1 h2 hk => wpAny_pyIter_zip hz ?_
      have I2 : Inv X pins σ H1 { s1 with heap := h' } := I1.kept (t' := s1.toks) hk
      refine ⟨s1.heap.objs.size + 4, [s1.heap.objs.size + 4, s1.heap.objs.size + 2, s1.heap.objs.size + 3, s1.heap.objs.size, s1.heap.objs.size + 1], _, _, H1, rfl, I2, turn_zipT (PySem.W.ktu_apart s1.heap.objs.size a b la lb), ⟨hz, hTI, ⟨_, _, hTO⟩, h1, h2⟩, fun c hcm => ?_, q⟩
      have e' : c = s1.heap.objs.size + 4 ∨ c = s1.heap.objs.size + 2 ∨ c = s1.heap.objs.size + 3 ∨ c = s1.heap.objs.size ∨ c = s1.heap.objs.size + 1 := by simpa using hcm
      have hle : s1.heap.objs.size ≤ c := by
        rcases e' with z | z | z | z | z
        · rw [z]; exact Nat.le_add_right _ _
        · rw [z]; exact Nat.le_add_right _ _
        · rw [z]; exact Nat.le_add_right _ _
        · rw [z]; exact Nat.le_refl _
        · rw [z]; exact Nat.le_add_right _ _
      exact I1.fpOk hle (I1.hok.fresh hle)
end L2
namespace E
open PySem PySem.Spec PyProof.Rows L2 B
variable {K : PySem.W.Frag}
theorem for_zipT {a b : Addr} {xs ys : List V} {g : TG} {tb : TS} {D : Ends} {σ : L2.St} {H : Hp} (Pv : Nat → L2.St → Hp → Prop) (h0 : Pv 0 σ H) (hl : ∀ i σ H, Pv i σ H → SqL K H a xs ∧ SqT K H b ys)
    (hs : ∀ i x y σ H T, xs[i]? = some x → ys[i]? = some y → Pv i σ H → H T = none → g (.ref T) σ (upd H T (.tup [x, y])) fun σ2 H2 => tb { D with nx := Pv (i + 1), ct := Pv (i + 1), bk := D.nx } σ2 H2) (hd : ∀ σ H, Pv (min xs.length ys.length) σ H → D.nx σ H) :
    ∃ W : Nat → Nat → L2.St → Hp → Prop, (∃ m, W 0 m σ H) ∧ ∀ i m σ H, W i m σ H →
      ((Itzt K a b).stop i H ∧ D.nx σ H) ∨ ((Itzt K a b).go i H ∧ ∃ N : L2.St → Hp → Prop, (∀ σ' H', N σ' H' → ∃ m', m' < m ∧ W (i + 1) m' σ' H') ∧ ∀ x H', (Itzt K a b).yld i H x H' → g x σ H' fun σ2 H2 => tb { D with nx := N, ct := N, bk := D.nx } σ2 H2) := by
  refine ⟨fun i m σ H => m = min xs.length ys.length - i ∧ i ≤ min xs.length ys.length ∧ Pv i σ H, ⟨min xs.length ys.length, by simp, Nat.zero_le _, h0⟩, ?_⟩
  rintro i m σ H ⟨rfl, hi, p⟩
  obtain ⟨q1, q2⟩ := hl i σ H p
  by_cases hlt : i < min xs.length ys.length
  · have l1 : i < xs.length := by omega
    have l2 : i < ys.length := by omega
    refine .inr ⟨⟨xs, ys, xs[i], ys[i], q1, q2, by simp [l1], by simp [l2]⟩, Pv (i + 1), fun σ' H' p' => ⟨min xs.length ys.length - (i + 1), by omega, rfl, hlt, p'⟩, fun x H' y => ?_⟩
    obtain ⟨T, x1, y1, e1, hT, e2, g1, g2⟩ := y
    subst e1
    subst e2
    exact hs i x1 y1 σ H T (g1 xs q1) (g2 ys q2) p hT
  · have e : i = min xs.length ys.length := by omega
    subst e
    exact .inl ⟨⟨xs, ys, q1, q2, by omega⟩, hd σ H p⟩
/-- for n, r in zip(a list of ints, a tuple of tuples) -/
theorem st_zip {ds : En} {tb : TS} {ta tr : TE} {res : D} {j j' : Nat} {ns : List Int} {rs : List (List Int)} (dsf : Nat → En) (P : Nat → Prop) (ha : EvF K ta ds (.l ns)) (hr : EvF K tr ds (.tt rs)) (h0 : P 0 ∧ Le (dsf 0) ds)
    (hs : ∀ (i : Nat) (z : Int) (r : List Int), ns[i]? = some z → rs[i]? = some r → P i → Stm K tb (((dsf i).set j (some (.int z))).set j' (some (.t r))) res fun x => P (i + 1) ∧ Le (dsf (i + 1)) x) :
    Stm K (tFor (iZipT K (tCons ta (tCons tr tNil))) (gTup K 2 (gCons (gName j) (gCons (gName j') gNil))) tb) ds res fun x => P (min ns.length rs.length) ∧ x = dsf (min ns.length rs.length) := fun σ Hb H0 H Dn O nx rt =>
  ha σ Hb H0 H _ O fun v H1 H01 e1 e01 n1 O1 => hr σ Hb H01 H1 _ O1 fun u H2 H02 e2 e02 n2 O2 => by
    obtain ⟨a, rfl, s1⟩ := n1
    obtain ⟨b, us, rfl, s2, pr⟩ := n2
    have hlen := plen pr
    have s1' : SqL K H02 a (ns.map V.int) := e02.seq s1
    refine ⟨a, b, _, _, rfl, O2.same0.seq s1', sameT O2.same0 s2, for_zipT (K := K) (a := a) (b := b) (xs := ns.map V.int) (ys := us) (fun i σ' H' => P i ∧ Ok K (dsf i) σ' Hb H02 H') ⟨h0.1, O2.le h0.2⟩ (fun i σ' H' p => ⟨p.2.same0.seq s1', sameT p.2.same0 s2⟩) (fun i x y σ' H' T hx hy p hT => ?_) fun σ' H' p => ?_⟩
    · obtain ⟨z, hz, rfl⟩ := vI_get hx
      have hi : i < rs.length := by rw [← hlen]; exact (List.getElem?_eq_some_iff.mp hy).1
      obtain ⟨y', g1, g2⟩ := pget pr (List.getElem?_eq_getElem hi)
      rw [hy] at g1
      cases g1
      refine ⟨T, _, rfl, SqT.of upd_same, rfl, _, _, rfl, _, _, rfl, rfl, ?_⟩
      exact hs i z _ hz (List.getElem?_eq_getElem hi) p.1 _ Hb H02 _ _ (((p.2.up (same_upd hT)).put (j := j) (d := .int z) (v := .int z) rfl rfl).put (j := j') (d := .t rs[i]) rfl g2) (fun ds' σ2 H2 n O2 => ⟨n.1, O2.le n.2⟩) rt
    · rw [List.length_map, hlen] at p
      exact nx _ _ _ ⟨p.1, rfl⟩ (p.2.low (e01.trans e02) O.b0)
end E

end
section
set_option Elab.async false
set_option linter.all false
set_option maxRecDepth 100000
namespace Z
open PySem
section
variable {prog : Program} {w : World} {A : Around} {E : Value → Shared → Prop} {s : Shared}
end
end Z
namespace E
open PySem PySem.Spec PyProof.Rows L2 B
end E

end
section
set_option Elab.async false
set_option linter.all false
set_option maxRecDepth 100000
namespace E
open PySem PySem.Spec PyProof.Rows L2 B
variable {K : PySem.W.Frag}
section
variable {ds : En} {te ti : TE} {res : D} {N : En → Prop}
/-- a new list goes to the end of a list of lists of one's own -/
theorem st_appendll {j : Nat} {nss : List (List Int)} {xs : List Int} (h : ds[j]? = some (some (.ownll nss))) (he : EvN K te ds (.l xs)) (hl : nss.length < 16777216) :
    Stm K (tDrop (tBM K "list" rAppend (tVar j) (tCons te tNil))) ds res (· = ds.set j (some (.ownll (nss ++ [xs])))) := fun σ Hb H0 H Dn O nx rt => by
  have O' := O
  obtain ⟨Hf, a, b, c, e⟩ := O.ex
  obtain ⟨v, g1, p, vs, rfl, g3, g4, g5⟩ := c j _ h
  refine ⟨_, g1, .inl ⟨rfl, _, SqL.of g4⟩, he σ Hb H0 H _ O' fun w H1 e1 n1 => ?_⟩
  obtain ⟨q, rfl, hq0, hq⟩ := n1
  have g6 := e1 _ _ g4
  have hvl : vs.length = nss.length := plen g5
  obtain ⟨c1, c2, c3⟩ := O'.cooled e1
  -- all but what is owned, the new list among it
  obtain ⟨Hf', a', b', c', d'⟩ := c2.ex
  refine ⟨p, vs, _, rfl, rfl, g6, by rw [sizeLine_eq, hvl]; exact hl, nx _ _ _ rfl ?_⟩
  have O2 := c2.write (xs := vs ++ [.ref q]) (d' := .ownll (nss ++ [xs])) h rfl rfl g1 (fun Hg s0 s1 s2 sl => by
    obtain ⟨p', vs', k1, k2, k3, k4⟩ := sl
    cases k1
    rw [g6] at k3
    cases k3
    refine ⟨p, _, rfl, s2, upd_same, ?_⟩
    exact k4.snoc ⟨q, rfl, O'.same.free hq0, s0 _ _ ((c3 q hq0).trans hq)⟩)
  exact O2.low c1 O.b0
end
section
variable {ds : En} {tb : TS} {res : D} {j : Nat}
/-- for x in range(a, b) -/
theorem st_range2 {ta tc : TE} {m n : Int} (dsf : Nat → En) (P : Nat → Prop) (ha : Ev K ta ds (.int m)) (hb : Ev K tc ds (.int n)) (hm : -(2 ^ 62) ≤ m ∧ m < 2 ^ 62 ∧ -(2 ^ 62) ≤ n ∧ n < 2 ^ 62) (h0 : P 0 ∧ Le (dsf 0) ds)
    (hs : ∀ i : Nat, i < (n - m).toNat → P i → Stm K tb ((dsf i).set j (some (.int (m + (i : Int))))) res fun x => P (i + 1) ∧ Le (dsf (i + 1)) x) :
    Stm K (tFor (iRng2 (tCons ta (tCons tc tNil))) (gName j) tb) ds res fun x => P (n - m).toNat ∧ x = dsf (n - m).toNat := fun σ Hb H0 H Dn O nx rt =>
  ha σ Hb H0 H _ O fun v H1 e1 n1 => hb σ Hb H0 H1 _ (O.up e1) fun u H2 e2 n2 => by
    cases n1
    cases n2
    have O1 := (O.up e1).up e2
    refine ⟨m, n, rfl, hm, for_range (lo := m) (n := (n - m).toNat) (fun i σ' H' => P i ∧ Ok K (dsf i) σ' Hb H0 H') ⟨h0.1, O1.le h0.2⟩ (fun i σ' H' hi p => ?_) fun σ' H' p => nx _ _ _ ⟨p.1, rfl⟩ p.2⟩
    exact hs i hi p.1 _ Hb H0 H' _ (p.2.put (j := j) rfl rfl) (fun ds' σ2 H2 n O2 => ⟨n.1, O2.le n.2⟩) rt
end
end E
namespace E
open PySem PySem.Spec PyProof.Rows L2 B
variable {K : PySem.W.Frag}
section
variable {ds : En} {σ : L2.St} {Hb H0 H : Hp}
theorem set_last {α : Type} (l : List α) (x y : α) : (l ++ [x]).set l.length y = l ++ [y] := by
  induction l with
  | nil => rfl
  | cons a l ih =>
    show a :: (l ++ [x]).set l.length y = a :: (l ++ [y])
    rw [ih]
theorem get_last {α : Type} (l : List α) (x : α) : (l ++ [x])[l.length]? = some x := by simp
theorem Ok.wipe {j : Nat} (O : Ok K ds σ Hb H0 H) : Ok K (ds.set j none) (σ.set j none) Hb H0 H := by
  obtain ⟨Hf, a, b, c, e⟩ := O.ex
  have key : ∀ {i : Nat} {d : D}, (ds.set j none)[i]? = some (some d) → j ≠ i ∧ ds[i]? = some (some d) := fun {i d} q => by
    have hj : j ≠ i := fun z => by
      subst z
      rw [List.getElem?_set, if_pos rfl] at q
      split at q <;> cases q
    rw [List.getElem?_set_ne hj] at q
    exact ⟨hj, q⟩
  refine ⟨by rw [List.length_set, List.length_set]; exact O.len, O.b0, Hf, a, b, fun i d q => ?_, fun i k d d' v q1 q2 o1 o2 s1 s2 => ?_⟩
  · obtain ⟨hj, q⟩ := key q
    obtain ⟨v, g1, g2⟩ := c i d q
    exact ⟨v, by rw [List.getElem?_set_ne hj]; exact g1, g2⟩
  · obtain ⟨h1, q1⟩ := key q1
    obtain ⟨h2, q2⟩ := key q2
    rw [List.getElem?_set_ne h1] at s1
    rw [List.getElem?_set_ne h2] at s2
    exact e i k d d' v q1 q2 o1 o2 s1 s2
theorem Ok.init {x : Option D} {y : Option V} (O : Ok K (ds ++ [x]) (σ ++ [y]) Hb H0 H) : Ok K ds σ Hb H0 H := by
  have hl : σ.length = ds.length := by
    have := O.len
    rw [List.length_append, List.length_append] at this
    exact Nat.add_right_cancel this
  obtain ⟨Hf, a, b, c, e⟩ := O.ex
  have up : ∀ {i : Nat} {d : D}, ds[i]? = some (some d) → i < ds.length := fun q => (List.getElem?_eq_some_iff.mp q).1
  have s' : ∀ {i : Nat}, i < ds.length → (σ ++ [y])[i]? = σ[i]? := fun h => List.getElem?_append_left (by omega)
  have d' : ∀ {i : Nat}, i < ds.length → (ds ++ [x])[i]? = ds[i]? := fun h => List.getElem?_append_left h
  refine ⟨hl, O.b0, Hf, a, b, fun i d q => ?_, fun i k d d2 v q1 q2 o1 o2 s1 s2 => ?_⟩
  · obtain ⟨v, g1, g2⟩ := c i d (by rw [d' (up q)]; exact q)
    exact ⟨v, by rw [← s' (up q)]; exact g1, g2⟩
  · exact e i k d d2 v (by rw [d' (up q1)]; exact q1) (by rw [d' (up q2)]; exact q2) o1 o2 (by rw [s' (up q1)]; exact s1) (by rw [s' (up q2)]; exact s2)
theorem Ok.more (O : Ok K ds σ Hb H0 H) : Ok K (ds ++ [none]) (σ ++ [none]) Hb H0 H := by
  obtain ⟨Hf, a, b, c, e⟩ := O.ex
  have hl := O.len
  have key : ∀ {i : Nat} {d : D}, (ds ++ [none])[i]? = some (some d) → i < ds.length ∧ ds[i]? = some (some d) := fun {i d} q => by
    by_cases h : i < ds.length
    · rw [List.getElem?_append_left h] at q
      exact ⟨h, q⟩
    · rw [List.getElem?_append_right (by omega)] at q
      cases hi : i - ds.length with
      | zero =>
        rw [hi] at q
        cases q
      | succ m =>
        rw [hi] at q
        cases q
  have s' : ∀ {i : Nat}, i < ds.length → (σ ++ [none])[i]? = σ[i]? := fun h => List.getElem?_append_left (by omega)
  refine ⟨by rw [List.length_append, List.length_append, hl]; rfl, O.b0, Hf, a, b, fun i d q => ?_, fun i k d d2 v q1 q2 o1 o2 s1 s2 => ?_⟩
  · obtain ⟨h, q⟩ := key q
    obtain ⟨v, g1, g2⟩ := c i d q
    exact ⟨v, by rw [s' h]; exact g1, g2⟩
  · obtain ⟨h1, q1⟩ := key q1
    obtain ⟨h2, q2⟩ := key q2
    rw [s' h1] at s1
    rw [s' h2] at s2
    exact e i k d d2 v q1 q2 o1 o2 s1 s2
/-- a list of one's own beside the slots -/
theorem Ok.beside {p : Addr} (O : Ok K ds σ Hb H0 H) (hp : H p = none) : Ok K (ds ++ [some (.ownv [])]) (σ ++ [some (.ref p)]) Hb H0 (upd H p (.lst [])) := by
  have O2 := O.more.putOwn (j := ds.length) (d := .ownv []) (Hn := upd H p (.lst [])) (same_upd hp) hp rfl (fun Hf _ hf => ⟨p, rfl, hf, upd_same⟩)
  have e : (σ ++ [none]).set ds.length (some (.ref p)) = σ ++ [some (.ref p)] := by
    rw [← O.len]
    exact set_last _ _ _
  rw [set_last, e] at O2
  exact O2
end
def vOf : D → V
  | .int i => .int i
  | .bl b => .bl b
  | _ => .non
theorem Is.vOf {H : Hp} {d : D} {v : V} (s : scalar d = true) (h : Is K H d v) : v = E.vOf d := by
  cases d with
  | int _ => exact h
  | bl _ => exact h
  | non => exact h
  | _ => cases s
section
variable {ds : En} {tl te : TE} {tt : TT} {j : Nat} {dl : D} {items : List D} {p : D → Bool} {r : D → D}
theorem lc_turn {σ : L2.St} {Hb H01 H H' : Hp} {D' : Addr} {i : Nat} {z : D} {x : V} (hz : items[i]? = some z) (iz : Is K H01 z x) (ht : EvT K tt (ds.set j (some z)) (p z)) (he : p z = true → Ev K te (ds.set j (some z)) (r z)) (hsc : scalar (r z) = true) (hlen : items.length < 16777216) (hD : H D' = none)
    (sm : Same H H') (O : Ok K ((ds.set j none) ++ [some (.ownv ((((items.take i).filter p).map r).map vOf))]) ((σ.set j none) ++ [some (.ref D')]) Hb H01 H') :
    (gName j) x (wipe σ [j]) H' fun σ2 H2 => wipe σ2 [j] = wipe σ [j] ∧ tt σ2 H2 fun b H3 =>
      if b = true then te σ2 H3 fun y H4 => ∃ acc, H4 D' = some (.lst acc) ∧ acc.length < sizeLine ∧ (Same H (upd H4 D' (.lst (acc ++ [y]))) ∧ Ok K ((ds.set j none) ++ [some (.ownv ((((items.take (i + 1)).filter p).map r).map vOf))]) ((σ.set j none) ++ [some (.ref D')]) Hb H01 (upd H4 D' (.lst (acc ++ [y]))))
      else (Same H H3 ∧ Ok K ((ds.set j none) ++ [some (.ownv ((((items.take (i + 1)).filter p).map r).map vOf))]) ((σ.set j none) ++ [some (.ref D')]) Hb H01 H3) := by
  refine ⟨?_, ?_⟩
  · show ((σ.set j none).set j (some x)).set j none = σ.set j none
    rw [List.set_set, List.set_set]
  · have O2 := O.init.put (j := j) iz.noown iz
    rw [List.set_set] at O2
    have hi : i < items.length := (List.getElem?_eq_some_iff.mp hz).1
    refine ht _ Hb H01 H' _ O2 fun H3 e3 => ?_
    have et := M.take_snoc hz
    cases hp : p z with
    | true =>
      refine iteT (he hp _ Hb H01 H3 _ (O2.up e3) fun y H4 e4 n4 => ?_)
      have ey := Is.vOf hsc n4
      have O4 := (O.up e3).up e4
      have gl : ((ds.set j none) ++ [some (D.ownv ((((items.take i).filter p).map r).map vOf))])[(ds.set j none).length]? = some (some (D.ownv ((((items.take i).filter p).map r).map vOf))) := get_last _ _
      have sl : ((σ.set j none) ++ [some (V.ref D')])[(ds.set j none).length]? = some (some (V.ref D')) := by
        have hle := O.init.len
        rw [← hle]
        exact get_last _ _
      obtain ⟨Hf, a, b, c, e⟩ := O4.ex
      obtain ⟨v, g1, q, g2, g3, g4⟩ := c _ _ gl
      rw [sl] at g1
      cases g1
      cases g2
      refine ⟨_, g4, ?_, fun b' o' hb' => ?_, ?_⟩
      · rw [List.length_map, List.length_map, sizeLine_eq]
        have := List.length_filter_le p (items.take i)
        rw [List.length_take] at this
        omega
      · rw [upd_ne (ne_of_none hb' hD)]
        exact e4 _ _ (e3 _ _ (sm _ _ hb'))
      · have O5 := O4.write (xs := (((items.take i).filter p).map r).map vOf ++ [y]) (d' := .ownv ((((items.take i).filter p).map r).map vOf ++ [y])) gl rfl rfl sl (fun Hg _ s1 s2 _ => ⟨D', rfl, s2, upd_same⟩)
        rw [set_last] at O5
        rw [et, List.filter_append, List.map_append, List.map_append]
        have ef : [z].filter p = [z] := by simp [hp]
        rw [ef, ← show [y] = ([z].map r).map vOf by rw [ey]; rfl]
        exact O5
    | false =>
      refine iteF ⟨sm.trans e3, ?_⟩
      rw [et, List.filter_append, List.map_append, List.map_append]
      have ef : [z].filter p = [] := by simp [hp]
      rw [ef, List.map_nil, List.map_nil, List.append_nil]
      exact O.up e3
/-- [elt for x in a list if test] -/
theorem lc_list_ev (hl : EvF K tl ds dl) (hdl : ∀ v H, Is K H dl v → ∃ a xs, v = .ref a ∧ SqL K H a xs ∧ Paired (Is K H) items xs) (ht : ∀ z, z ∈ items → EvT K tt (ds.set j (some z)) (p z)) (he : ∀ z, z ∈ items → p z = true → Ev K te (ds.set j (some z)) (r z)) (hsc : ∀ z, z ∈ items → scalar (r z) = true) (hlen : items.length < 16777216)
    {σ : L2.St} {Hb H0 H : Hp} {Q : VK} (O : Ok K ds σ Hb H0 H) (q : ∀ a H', Same H H' → H a = none → H' a = some (.lst (((items.filter p).map r).map vOf)) → Q (.ref a) H') : tLc (iList K tl) (gName j) tt te [j] σ H Q :=
  hl σ Hb H0 H _ O fun v H1 H01 e1 e01 n1 O1 => by
    obtain ⟨a, xs, rfl, s1, pr⟩ := hdl v H01 n1
    have hxl := plen pr
    refine ⟨a, rfl, ⟨_, O1.same0.seq s1⟩, fun D' hD => lc_list (K := K) (a := a) (xs := xs) (fun i H' => Same H H' ∧ Ok K ((ds.set j none) ++ [some (.ownv ((((items.take i).filter p).map r).map vOf))]) ((σ.set j none) ++ [some (.ref D')]) Hb H01 H') ⟨e1.trans (same_upd hD), O1.wipe.beside hD⟩ (fun i H' _ pv => pv.2.same0.seq s1) (fun i x H' hx pv => ?_) fun H' pv => ?_⟩
    · have hi : i < items.length := by rw [hxl]; exact (List.getElem?_eq_some_iff.mp hx).1
      have hz := List.getElem?_eq_getElem hi
      obtain ⟨x', g1, g2⟩ := paired_get pr hz
      rw [hx] at g1
      cases g1
      have hm := List.getElem_mem hi
      exact lc_turn hz g2 (ht _ hm) (he _ hm) (hsc _ hm) hlen (e1.free hD) pv.1 pv.2
    · rw [← hxl, List.take_length] at pv
      obtain ⟨Hf, a', b', c', _⟩ := pv.2.ex
      have gl : ((ds.set j none) ++ [some (D.ownv (((items.filter p).map r).map vOf))])[(ds.set j none).length]? = some (some (D.ownv (((items.filter p).map r).map vOf))) := get_last _ _
      have sl : ((σ.set j none) ++ [some (V.ref D')])[(ds.set j none).length]? = some (some (V.ref D')) := by
        rw [← pv.2.init.len]
        exact get_last _ _
      obtain ⟨v, g1, q', g2, g3, g4⟩ := c' _ _ gl
      rw [sl] at g1
      cases g1
      cases g2
      exact q D' H' pv.1 (e1.free hD) g4
theorem lc_tup_ev (hl : EvF K tl ds dl) (hdl : ∀ v H, Is K H dl v → ∃ a xs, v = .ref a ∧ SqT K H a xs ∧ Paired (Is K H) items xs) (ht : ∀ z, z ∈ items → EvT K tt (ds.set j (some z)) (p z)) (he : ∀ z, z ∈ items → p z = true → Ev K te (ds.set j (some z)) (r z)) (hsc : ∀ z, z ∈ items → scalar (r z) = true) (hlen : items.length < 16777216)
    {σ : L2.St} {Hb H0 H : Hp} {Q : VK} (O : Ok K ds σ Hb H0 H) (q : ∀ a H', Same H H' → H a = none → H' a = some (.lst (((items.filter p).map r).map vOf)) → Q (.ref a) H') : tLc (iTup K tl) (gName j) tt te [j] σ H Q :=
  hl σ Hb H0 H _ O fun v H1 H01 e1 e01 n1 O1 => by
    obtain ⟨a, xs, rfl, s1, pr⟩ := hdl v H01 n1
    have hxl := plen pr
    refine ⟨a, rfl, ⟨_, sameT O1.same0 s1⟩, fun D' hD => lc_tup (K := K) (a := a) (xs := xs) (fun i H' => Same H H' ∧ Ok K ((ds.set j none) ++ [some (.ownv ((((items.take i).filter p).map r).map vOf))]) ((σ.set j none) ++ [some (.ref D')]) Hb H01 H') ⟨e1.trans (same_upd hD), O1.wipe.beside hD⟩ (fun i H' _ pv => sameT pv.2.same0 s1) (fun i x H' hx pv => ?_) fun H' pv => ?_⟩
    · have hi : i < items.length := by rw [hxl]; exact (List.getElem?_eq_some_iff.mp hx).1
      have hz := List.getElem?_eq_getElem hi
      obtain ⟨x', g1, g2⟩ := paired_get pr hz
      rw [hx] at g1
      cases g1
      have hm := List.getElem_mem hi
      exact lc_turn hz g2 (ht _ hm) (he _ hm) (hsc _ hm) hlen (e1.free hD) pv.1 pv.2
    · rw [← hxl, List.take_length] at pv
      obtain ⟨Hf, a', b', c', _⟩ := pv.2.ex
      have gl : ((ds.set j none) ++ [some (D.ownv (((items.filter p).map r).map vOf))])[(ds.set j none).length]? = some (some (D.ownv (((items.filter p).map r).map vOf))) := get_last _ _
      have sl : ((σ.set j none) ++ [some (V.ref D')])[(ds.set j none).length]? = some (some (V.ref D')) := by
        rw [← pv.2.init.len]
        exact get_last _ _
      obtain ⟨v, g1, q', g2, g3, g4⟩ := c' _ _ gl
      rw [sl] at g1
      cases g1
      cases g2
      exact q D' H' pv.1 (e1.free hD) g4
end
section
variable {ds : En} {tl te : TE} {tt : TT} {j : Nat} {nss : List (List Int)} {ns : List Int}
theorem dl_ll (v : V) (H : Hp) (h : Is K H (.ll nss) v) : ∃ a xs, v = .ref a ∧ SqL K H a xs ∧ Paired (Is K H) (nss.map D.l) xs := by
  obtain ⟨a, vs, h1, h2, h3⟩ := h
  refine ⟨a, vs, h1, h2, ?_⟩
  clear h1 h2
  induction h3 with
  | nil => exact .nil
  | cons f t ih => exact .cons f ih
theorem pair_ints (H : Hp) : ∀ ns : List Int, Paired (Is K H) (ns.map D.int) (ns.map V.int)
  | [] => .nil
  | n :: ns => .cons rfl (pair_ints H ns)
theorem dl_l (v : V) (H : Hp) (h : Is K H (.l ns) v) : ∃ a xs, v = .ref a ∧ SqL K H a xs ∧ Paired (Is K H) (ns.map D.int) xs := by
  obtain ⟨a, h1, h2⟩ := h
  exact ⟨a, _, h1, h2, pair_ints H ns⟩
theorem dl_t (v : V) (H : Hp) (h : Is K H (.t ns) v) : ∃ a xs, v = .ref a ∧ SqT K H a xs ∧ Paired (Is K H) (ns.map D.int) xs := by
  obtain ⟨a, h1, h2⟩ := h
  exact ⟨a, _, h1, h2, pair_ints H ns⟩
def lOf : D → List Int
  | .l z => z
  | _ => []
def iOf : D → Int
  | .int z => z
  | _ => 0
theorem evt_yes : EvT K tYes ds true := fun σ Hb H0 H Q O q => q H (Same.refl _)
theorem memL {z : D} (h : z ∈ nss.map D.l) : ∃ x, x ∈ nss ∧ z = .l x := by
  obtain ⟨x, h1, h2⟩ := List.mem_map.mp h
  exact ⟨x, h1, h2.symm⟩
theorem memI {z : D} (h : z ∈ ns.map D.int) : ∃ x, x ∈ ns ∧ z = .int x := by
  obtain ⟨x, h1, h2⟩ := List.mem_map.mp h
  exact ⟨x, h1, h2.symm⟩
theorem filt_true {α : Type} (l : List α) : l.filter (fun _ => true) = l := by simp
/-- [bool for x in a list of lists] -/
theorem evn_lcB (f : List Int → Bool) (hl : EvF K tl ds (.ll nss)) (he : ∀ z, z ∈ nss → Ev K te (ds.set j (some (.l z))) (.bl (f z))) (hlen : nss.length < 16777216) : EvN K (tLc (iList K tl) (gName j) tYes te [j]) ds (.lb (nss.map f)) := fun σ Hb H0 H Q O q =>
  lc_list_ev (p := fun _ => true) (r := fun z => .bl (f (lOf z))) hl dl_ll (fun z hz => evt_yes) (fun z hz _ => by obtain ⟨x, hx, rfl⟩ := memL hz; exact he x hx) (fun z hz => rfl) (by rw [List.length_map]; exact hlen) O fun a H' sm hn ha => q _ H' sm ⟨a, rfl, hn, by
    rw [ha, filt_true, List.map_map, List.map_map, List.map_map]
    rfl⟩
theorem evn_lcBl (f : Int → Bool) (hl : EvF K tl ds (.l ns)) (he : ∀ z, z ∈ ns → Ev K te (ds.set j (some (.int z))) (.bl (f z))) (hlen : ns.length < 16777216) : EvN K (tLc (iList K tl) (gName j) tYes te [j]) ds (.lb (ns.map f)) := fun σ Hb H0 H Q O q =>
  lc_list_ev (p := fun _ => true) (r := fun z => .bl (f (iOf z))) hl dl_l (fun z hz => evt_yes) (fun z hz _ => by obtain ⟨x, hx, rfl⟩ := memI hz; exact he x hx) (fun z hz => rfl) (by rw [List.length_map]; exact hlen) O fun a H' sm hn ha => q _ H' sm ⟨a, rfl, hn, by
    rw [ha, filt_true, List.map_map, List.map_map, List.map_map]
    rfl⟩
theorem evn_lcT (f : Int → Int) (hl : EvF K tl ds (.t ns)) (he : ∀ z, z ∈ ns → Ev K te (ds.set j (some (.int z))) (.int (f z))) (hlen : ns.length < 16777216) : EvN K (tLc (iTup K tl) (gName j) tYes te [j]) ds (.l (ns.map f)) := fun σ Hb H0 H Q O q =>
  lc_tup_ev (p := fun _ => true) (r := fun z => .int (f (iOf z))) hl dl_t (fun z hz => evt_yes) (fun z hz _ => by obtain ⟨x, hx, rfl⟩ := memI hz; exact he x hx) (fun z hz => rfl) (by rw [List.length_map]; exact hlen) O fun a H' sm hn ha => q _ H' sm ⟨a, rfl, hn, by
    rw [ha, filt_true, List.map_map, List.map_map, List.map_map]
    rfl⟩
theorem ev_all {ta : TE} {bs : List Bool} (h : EvN K ta ds (.lb bs)) : Ev K (tCB (rAll K) (tCons ta tNil)) ds (.bl (bs.all id)) := fun σ Hb H0 H Q O q =>
  h σ Hb H0 H _ O fun v H1 e1 n1 => by
    obtain ⟨p, rfl, _, hp⟩ := n1
    exact ⟨p, bs, rfl, SqL.of hp, q _ H1 e1 rfl⟩
theorem ev_any {ta : TE} {bs : List Bool} (h : EvN K ta ds (.lb bs)) : Ev K (tCB (rAny K) (tCons ta tNil)) ds (.bl (bs.any id)) := fun σ Hb H0 H Q O q =>
  h σ Hb H0 H _ O fun v H1 e1 n1 => by
    obtain ⟨p, rfl, _, hp⟩ := n1
    exact ⟨p, bs, rfl, SqL.of hp, q _ H1 e1 rfl⟩
/-- a tuple that is written here: no one writes it -/
theorem evf_tup {u : TA} (h : EvI K u ds ns) (hl : ns.length ≤ 16777216 := by (try simp only [List.length_cons, List.length_nil]) <;> omega) : EvF K (tTup u) ds (.t ns) := fun σ Hb H0 H Q O q =>
  h σ Hb H0 H _ O fun H1 e1 => ⟨by rw [List.length_map, sizeLine_eq]; exact hl, fun p hp => by
    have e2 := e1.trans (same_upd (o := .tup (ns.map V.int)) hp)
    obtain ⟨c1, c2, c3⟩ := O.cooled e2
    exact q _ _ _ e2 c1 ⟨p, rfl, SqT.of ((c3 p (e1.free hp)).trans upd_same)⟩ c2⟩
end
end E
namespace E
open PySem PySem.Spec PyProof.Rows L2 B PySem.W
variable {K : PySem.W.Frag}
theorem EvF.to {ds : En} {t : TE} {d d' : D} (h : EvF K t ds d) (e : d = d') : EvF K t ds d' := e ▸ h
theorem pe_gdK {X : Cx} {mg : Str → Option Value} {x : Str} {pos : Pos} {d : D} (hg : Gl X x) (h : Glob K mg x d) (hK : X.K = K := by rfl) (hm : X.mg = mg := by rfl) (hd : (x == ("__debug__" : Str)) = false := by decide) : PE X (.Name x pos) (tGlob K d) := by
  subst hK
  subst hm
  exact pe_gd hg h hd
end E
namespace E
open PySem PySem.Spec PyProof.Rows L2 B
variable {K : PySem.W.Frag}
theorem ok_three {d : D} {v : V} {x0 x1 : Option V} {Hb Hf H : Hp} (h1 : Same Hb Hf) (h2 : Same Hf H) (o : isOwn d = false) (h : Is K Hf d v) : Ok K [none, none, some d] [x0, x1, some v] Hb Hf H := by
  have key : ∀ {i : Nat} {d' : D}, ([none, none, some d] : En)[i]? = some (some d') → i = 2 ∧ d' = d := fun {i d'} q => by
    match i, q with
    | 2, q => exact ⟨rfl, (Option.some.inj (Option.some.inj q)).symm⟩
    | 0, q => cases q
    | 1, q => cases q
    | _ + 3, q => cases q
  refine ⟨rfl, h1, Hf, Same.refl _, h2, fun i d' q => ?_, fun i j a b w q1 q2 _ _ _ _ => ?_⟩
  · obtain ⟨rfl, rfl⟩ := key q
    exact ⟨v, rfl, Slot.of o h⟩
  · rw [(key q1).1, (key q2).1]
/-- a list of new lists of fields, each at its own place -/
inductive Laid (Hb Hf H : Hp) : List Addr → List Vbcnaa.Field → Prop
  | nil : Laid Hb Hf H [] []
  | snoc {qs : List Addr} {gs : List Vbcnaa.Field} {q : Addr} {g : Vbcnaa.Field} : Laid Hb Hf H qs gs → q ∉ qs → Hf q = none → Hb q = none → H q = some (.lst ((M.fI g).map V.int)) → Laid Hb Hf H (qs ++ [q]) (gs ++ [g])
section
variable {Hb Hf H H' : Hp} {qs : List Addr} {gs : List Vbcnaa.Field}
theorem Laid.up (e : ∀ q ∈ qs, H' q = H q) (h : Laid Hb Hf H qs gs) : Laid Hb Hf H' qs gs := by
  induction h with
  | nil => exact .nil
  | snoc h1 h2 h3 h4 h5 ih => exact .snoc (ih fun q hq => e q (by simp [hq])) h2 h3 h4 ((e _ (by simp)).trans h5)
theorem Laid.at (h : Laid Hb Hf H qs gs) : ∀ q ∈ qs, ∃ o, H q = some o := by
  induction h with
  | nil => intro q hq; cases hq
  | snoc h1 h2 h3 h4 h5 ih =>
    intro q hq
    rcases List.mem_append.mp hq with hq | hq
    · exact ih q hq
    · rw [List.mem_singleton.mp hq]
      exact ⟨_, h5⟩
theorem Laid.len (h : Laid Hb Hf H qs gs) : qs.length = gs.length := by
  induction h with
  | nil => rfl
  | snoc h1 h2 h3 h4 h5 ih => rw [List.length_append, List.length_append, ih]; rfl
theorem paired_snoc {α β : Type} {F : α → β → Prop} {a : α} {b : β} : ∀ {xs : List α} {ys : List β}, Paired F xs ys → F a b → Paired F (xs ++ [a]) (ys ++ [b])
  | _, _, .nil, h => .cons h .nil
  | _, _, .cons f t, h => .cons f (paired_snoc t h)
theorem Laid.news (h : Laid Hb Hf H qs gs) : Paired (NewL Hb H) (qs.map V.ref) (gs.map M.fI) := by
  induction h with
  | nil => exact .nil
  | snoc h1 h2 h3 h4 h5 ih =>
    rw [List.map_append, List.map_append]
    exact paired_snoc ih ⟨_, rfl, h4, h5⟩
theorem Laid.inv {g : Vbcnaa.Field} {r : List Vbcnaa.Field} (h : Laid Hb Hf H qs r) (e : r = gs ++ [g]) : ∃ qs' q, qs = qs' ++ [q] ∧ Laid Hb Hf H qs' gs ∧ q ∉ qs' ∧ Hf q = none ∧ Hb q = none ∧ H q = some (.lst ((M.fI g).map V.int)) := by
  cases h with
  | nil =>
    have := congrArg List.length e
    simp at this
  | snoc h1 h2 h3 h4 h5 =>
    obtain ⟨e1, e2⟩ := List.append_inj' e rfl
    cases e2
    subst e1
    exact ⟨_, _, rfl, h1, h2, h3, h4, h5⟩
end
end E

end
set_option Elab.async false
set_option linter.all false
set_option maxRecDepth 100000
set_option maxHeartbeats 2000000
namespace Q
open PySem PySem.Spec PyProof.Rows L2 B E
open PySem.W (Codec)
def top (i : Nat) : Stmt := PySem.Challenge.pw_campuswires_s14_readlease.main.body.getD i (.Pass ⟨0, 0, 0, 0⟩)
abbrev s_is_row_of_bytes : Stmt := top 3
theorem sc_is_row_of_bytes : FnScope ["b", "shortest", "longest", "number"] ["b", "shortest", "longest"] (defScope s_is_row_of_bytes) := ⟨rfl, rfl, rfl, by decide +kernel, rfl, by decide +kernel, by decide +kernel⟩
abbrev s_fields_end : Stmt := top 17
theorem sc_fields_end : FnScope ["b", "place"] ["b"] (defScope s_fields_end) := ⟨rfl, rfl, rfl, by decide +kernel, rfl, by decide +kernel, by decide +kernel⟩
abbrev s_fields_as_they_stand : Stmt := top 18
theorem sc_fields_as_they_stand : FnScope ["b", "fields", "place", "value_end"] ["b"] (defScope s_fields_as_they_stand) := ⟨rfl, rfl, rfl, by decide +kernel, rfl, by decide +kernel, by decide +kernel⟩
abbrev s_field_code : Stmt := top 13
theorem sc_field_code : FnScope ["field"] ["field"] (defScope s_field_code) := ⟨rfl, rfl, rfl, by decide +kernel, rfl, by decide +kernel, by decide +kernel⟩
abbrev s_field_value : Stmt := top 14
theorem sc_field_value : FnScope ["field"] ["field"] (defScope s_field_value) := ⟨rfl, rfl, rfl, by decide +kernel, rfl, by decide +kernel, by decide +kernel⟩
abbrev s_may_follow : Stmt := top 20
theorem sc_may_follow : FnScope ["field", "before"] ["field", "before"] (defScope s_may_follow) := ⟨rfl, rfl, rfl, by decide +kernel, rfl, by decide +kernel, by decide +kernel⟩
abbrev s_are_neighbours_fitting : Stmt := top 19
theorem sc_are_neighbours_fitting : FnScope ["fields", "place"] ["fields"] (defScope s_are_neighbours_fitting) := ⟨rfl, rfl, rfl, by decide +kernel, rfl, by decide +kernel, by decide +kernel⟩
abbrev s_number_at : Stmt := top 4
theorem sc_number_at : FnScope ["b", "place", "count", "number", "byte"] ["b", "place", "count"] (defScope s_number_at) := ⟨rfl, rfl, rfl, by decide +kernel, rfl, by decide +kernel, by decide +kernel⟩
abbrev s_is_within : Stmt := top 1
theorem sc_is_within : FnScope ["number", "bounds"] ["number", "bounds"] (defScope s_is_within) := ⟨rfl, rfl, rfl, by decide +kernel, rfl, by decide +kernel, by decide +kernel⟩
abbrev s_are_within : Stmt := top 2
theorem sc_are_within : FnScope ["numbers", "ranges", "number", "bounds"] ["numbers", "ranges"] (defScope s_are_within) := ⟨rfl, rfl, rfl, by decide +kernel, rfl, by decide +kernel, by decide +kernel⟩
abbrev s_lease_numbers : Stmt := top 22
theorem sc_lease_numbers : FnScope ["b", "addresses", "place"] ["b"] (defScope s_lease_numbers) := ⟨rfl, rfl, rfl, by decide +kernel, rfl, by decide +kernel, by decide +kernel⟩
abbrev s_are_values : Stmt := top 15
theorem sc_are_values : FnScope ["fields", "field"] ["fields"] (defScope s_are_values) := ⟨rfl, rfl, rfl, by decide +kernel, rfl, by decide +kernel, by decide +kernel⟩
abbrev s_lease_fields : Stmt := top 21
theorem sc_lease_fields : FnScope ["b", "fields", "field"] ["b"] (defScope s_lease_fields) := ⟨rfl, rfl, rfl, by decide +kernel, rfl, by decide +kernel, by decide +kernel⟩
abbrev s_lease_refusal : Stmt := top 16
theorem sc_lease_refusal : FnScope ["b", "end", "behind", "fields", "byte"] ["b"] (defScope s_lease_refusal) := ⟨rfl, rfl, rfl, by decide +kernel, rfl, by decide +kernel, by decide +kernel⟩
abbrev s_behind_length : Stmt := top 25
theorem sc_behind_length : FnScope ["row"] ["row"] (defScope s_behind_length) := ⟨rfl, rfl, rfl, by decide +kernel, rfl, by decide +kernel, by decide +kernel⟩
abbrev s_readlease : Stmt := top 24
theorem sc_readlease : FnScope ["b", "refusal", "fields", "answer", "field"] ["b"] (defScope s_readlease) := ⟨rfl, rfl, rfl, by decide +kernel, rfl, by decide +kernel, by decide +kernel⟩
structure Txt (K : PySem.W.Frag) (mg : Str → Option Value) : Prop where
  tt : True
  c_FIELDS_START : Glob K mg "FIELDS_START" (.int 32)
  c_FIELDS_END : Glob K mg "FIELDS_END" (.int 255)
  c_LONGEST_WRITTEN_VALUE : Glob K mg "LONGEST_WRITTEN_VALUE" (.int 255)
  c_LONGEST_VALUE : Glob K mg "LONGEST_VALUE" (.int 1000)
  c_LONGEST_LEASE : Glob K mg "LONGEST_LEASE" (.int 1400)
  c_SHORTEST_LEASE : Glob K mg "SHORTEST_LEASE" (.int 36)
  c_LEASE_RANGES : Glob K mg "LEASE_RANGES" (.tt [[1, 8], [0, 16], [0, 65535], [0, 4294967295], [0, 281474976710655], [0, 4294967295], [0, 4294967295], [0, 4294967295], [0, 4294967295]])
  b_len : mg "len" = none
  b_min : mg "min" = none
  b_range : mg "range" = none
  b_zip : mg "zip" = none
  b_all : mg "all" = none
  b_list : mg "list" = none
  b_any : mg "any" = none
section
variable {P : Program} {w : World} {K : PySem.W.Frag} {mg : Str → Option Value} {base : Heap}
def f_is_row_of_bytes : List D → D → Prop := fun zas zd => ∃ (ns : List Int) (s m : Int), zas = [.l ns, .int s, .int m] ∧ zd = .bl (decide (s ≤ (ns.length : Int)) && decide ((ns.length : Int) ≤ m) && ns.all M.isB)
theorem cv_is_row_of_bytes {K : PySem.W.Frag} {ds : En} {t0 t1 t2 : TE} {ns : List Int} {s m : Int} (h0 : Ev K t0 ds (.l ns)) (h1 : Ev K t1 ds (.int s)) (h2 : Ev K t2 ds (.int m)) : EvN K (tCall (spF K f_is_row_of_bytes) [] E0 (tCons t0 (tCons t1 (tCons t2 tNil)))) ds (.bl (decide (s ≤ (ns.length : Int)) && decide ((ns.length : Int) ≤ m) && ns.all M.isB)) := evn_call (eva_cons h0 (eva_cons h1 (eva_cons h2 eva_nil))) ⟨_, _, _, rfl, rfl⟩
theorem ok_is_row_of_bytes {f : Addr} {fd : FuncData} (F : Fun K "is_row_of_bytes" "is_row_of_bytes" s_is_row_of_bytes f fd) (T : Txt K mg) : FnOk P w K mg base CX0 1 f fd ["b", "shortest", "longest"] (spF K f_is_row_of_bytes) := by
  refine fn_ok F sc_is_row_of_bytes (fun as d h => by obtain ⟨_, _, _, rfl, _⟩ := h; rfl) (fun cdv A outer s H E' as d hr h => ?_)
  obtain ⟨ns, s, m, rfl, rfl⟩ := h
  refine ⟨_, (pss_cons (ps_if (PW.pt (pw_or (pt_cmpR op_lt (pe_callB call_len_seq (by rfl) T.b_len PySem.boot_len (pa_cons (pv 0) pa_nil)) (pv 1) (nomark _)) (pw_or1 (pt_cmpR op_gt (pe_callB call_len_seq (by rfl) T.b_len PySem.boot_len (pa_cons (pv 0) pa_nil)) (pv 2) (nomark _))))) (pss_one (ps_ret pe_bl)) pss_nil) (pss_cons (ps_for PassesOwn.never rfl (pi_list (pv 0)) (pg_name (i := 3) sc_is_row_of_bytes.nd rfl (by first | exact Or.inl rfl | exact Or.inr rfl)) (pss_one (ps_if (PW.pt (pw_or (pt_cmpR op_lt (pv 3) pe_int (nomark _)) (pw_or1 (pt_cmpR op_gt (pv 3) pe_int (nomark _))))) (pss_one (ps_ret pe_bl)) pss_nil))) (pss_one (ps_ret pe_bl)))), ?_⟩
  show Stm K _ [some (.l ns), some (.int s), some (.int m), none] _ _
  refine st_guard (evt_or (evt_cmp (ev_lt (ev_len ev_var) ev_var)) (fun hv => (evt_cmp (ev_gt (ev_len ev_var) ev_var)))) (fun h1 => ?_) (fun h1 => ?_)
  · refine st_ret (EvN.to (Ev.n ev_bl) (bl_eq ?_))
    rw [Bool.or_eq_true, decide_eq_true_eq, decide_eq_true_eq] at h1
    rcases h1 with h1 | h1
    · rw [decide_eq_false (by omega : ¬ s ≤ (ns.length : Int)), Bool.false_and, Bool.false_and]
    · rw [decide_eq_false (by omega : ¬ (ns.length : Int) ≤ m), Bool.and_false, Bool.false_and]
  · rw [Bool.or_eq_false_iff, decide_eq_false_iff_not, decide_eq_false_iff_not] at h1
    rw [decide_eq_true (by omega : s ≤ (ns.length : Int)), decide_eq_true (by omega : (ns.length : Int) ≤ m), Bool.true_and, Bool.true_and]
    refine st_seq (st_for (fun _ => [some (.l ns), some (.int s), some (.int m), none]) (fun i => (ns.take i).all M.isB = true) evf_var ⟨rfl, rfl, rfl, rfl, trivial⟩ (fun i z hz hi => ?_)) (fun ds1 h3 => ?_)
    · refine st_if (evt_or (evt_cmp (ev_lt ev_var ev_int)) (fun hv => (evt_cmp (ev_gt ev_var ev_int)))) (fun h4 => ?_) (fun h4 => ?_)
      · refine st_ret (EvN.to (Ev.n ev_bl) (bl_eq ?_))
        rw [Bool.or_eq_true, decide_eq_true_eq, decide_eq_true_eq] at h4
        rw [M.all_take_false hz (by rw [Bool.eq_false_iff]; intro q; have := M.isB_iff.mp q; omega)]
      · rw [Bool.or_eq_false_iff, decide_eq_false_iff_not, decide_eq_false_iff_not] at h4
        refine st_next ⟨?_, rfl, rfl, rfl, trivial⟩
        rw [M.take_snoc hz, M.all_snoc, hi, M.isB_iff.mpr (by omega)]
        rfl
    · obtain ⟨h3, rfl⟩ := h3
      rw [List.take_length] at h3
      rw [h3]
      exact st_ret (Ev.n ev_bl)
def f_fields_end : List D → D → Prop := fun zas zd => ∃ (bs : List Nat), zas = [.l (Vbcnaa.ints bs)] ∧ (bs.length ≤ 10000) ∧ zd = .int ((M.fendAt bs 32 : Nat) : Int)
theorem cv_fields_end {K : PySem.W.Frag} {ds : En} {t0 : TE} {bs : List Nat} (h0 : Ev K t0 ds (.l (Vbcnaa.ints bs))) (hp : bs.length ≤ 10000 := by first | assumption | rfl | decide | omega | ((try simp only [List.length_append, List.length_cons, List.length_nil, List.length_take, List.length_drop, List.length_map, List.length_replicate, List.length_set, M.ints_length, M.be_length, M.leB_length, M.bytesOf_length, M.tagI_length, M.qhead_length, M.hd1_len, M.packet_length]) <;> omega)) : EvN K (tCall (spF K f_fields_end) [] E0 (tCons t0 tNil)) ds (.int ((M.fendAt bs 32 : Nat) : Int)) := evn_call (eva_cons h0 eva_nil) ⟨_, rfl, hp, rfl⟩
theorem ok_fields_end {f : Addr} {fd : FuncData} (F : Fun K "fields_end" "fields_end" s_fields_end f fd) (T : Txt K mg) : FnOk P w K mg base CX0 1 f fd ["b"] (spF K f_fields_end) := by
  refine fn_ok F sc_fields_end (fun as d h => by obtain ⟨_, rfl, _⟩ := h; rfl) (fun cdv A outer s H E' as d hr h => ?_)
  obtain ⟨bs, rfl, hp, rfl⟩ := h
  refine ⟨_, (pss_cons (ps_set (i := 1) sc_fields_end.nd rfl (by first | exact Or.inl rfl | exact Or.inr rfl) (pe_gd rfl T.c_FIELDS_START)) (pss_cons (ps_while PassesOwn.never (PW.pt (pw_and (pt_cmpR op_lt (pv 1) (pe_callB call_len_seq (by rfl) T.b_len PySem.boot_len (pa_cons (pv 0) pa_nil)) (nomark _)) (pw_and1 (pt_cmpR op_ne (pe_ix ix_list (pv 0) (pv 1) (fun _ _ => rfl)) (pe_gd rfl T.c_FIELDS_END) (nomark _))))) (pss_cons (ps_if (PW.pt (pw_or (pt_cmpR op_eq (pe_ix ix_list (pv 0) (pv 1) (fun _ _ => rfl)) pe_int (nomark _)) (pw_or1 (pt_cmpR op_eq (pe_op op_add (pv 1) pe_int) (pe_callB call_len_seq (by rfl) T.b_len PySem.boot_len (pa_cons (pv 0) pa_nil)) (nomark _))))) (pss_one (ps_ret (pe_callB call_len_seq (by rfl) T.b_len PySem.boot_len (pa_cons (pv 0) pa_nil)))) pss_nil) (pss_one (ps_aug (i := 1) sc_fields_end.nd rfl (by first | exact Or.inl rfl | exact Or.inr rfl) (pe_op op_add pe_int (pe_ix ix_list (pv 0) (pe_op op_add (pv 1) pe_int) (fun _ _ => rfl))) iop_add)))) (pss_one (ps_ret (pe_callB (call_min2 rfl) (by rfl) T.b_min boot_min5 (pa_cons (pv 1) (pa_cons (pe_callB call_len_seq (by rfl) T.b_len PySem.boot_len (pa_cons (pv 0) pa_nil)) pa_nil))))))), ?_⟩
  show Stm K _ [some (.l (Vbcnaa.ints bs)), none] _ _
  have hl : (Vbcnaa.ints bs).length = bs.length := M.ints_length bs
  have hgd : ∀ p, (Vbcnaa.ints bs).getD p 0 = ((bs.getD p 0 : Nat) : Int) := M.getD_ints bs
  refine st_then (st_set evf_glob) ?_
  refine st_seq (N' := fun x => ∃ p : Nat, (M.fendAt bs p = M.fendAt bs 32 ∧ (p < bs.length → bs.getD p 0 = 255)) ∧ x = [some (.l (Vbcnaa.ints bs)), some (.int (p : Int))]) (st_while (α := Nat) (fun p => [some (.l (Vbcnaa.ints bs)), some (.int (p : Int))]) (fun p => M.fendAt bs p = M.fendAt bs 32) (fun p => bs.length - p) 32 (by exact ⟨rfl, rfl, rfl, trivial⟩) (fun p hp => ⟨_, (evt_and (evt_cmp (ev_lt ev_var (ev_len ev_var))) (fun hv => (evt_cmp (ev_ne (ev_ixb ev_var ev_var (by rw [decide_eq_true_eq] at hv; omega)) ev_glob)))), fun h => ?_, fun h => ?_⟩)) (fun x hx => ?_)
  · rw [Bool.and_eq_true, Bool.not_eq_true', decide_eq_true_eq, decide_eq_false_iff_not, hl, Int.toNat_natCast, hgd] at h
    obtain ⟨h1, h2⟩ := h
    have hpl : p < bs.length := by omega
    have h3 : bs.getD p 0 ≠ 255 := by omega
    refine st_guard (evt_or (evt_cmp (ev_eq (ev_ixb ev_var ev_var (by rw [Int.toNat_natCast]; omega)) ev_int)) (fun hv => (evt_cmp (ev_eq (ev_add ev_var ev_int) (ev_len ev_var))))) (fun h4 => ?_) (fun h4 => ?_)
    · rw [Bool.or_eq_true, decide_eq_true_eq, decide_eq_true_eq, hl, Int.toNat_natCast, hgd] at h4
      refine st_ret (EvN.to (Ev.n (ev_len ev_var)) (i_eq ?_))
      rw [hl, ← hp, M.fendAt_none]
      rcases h4 with h4 | h4
      · exact M.raw_0 hpl (by omega)
      · exact M.raw_last (by omega) h3
    · rw [Bool.or_eq_false_iff, decide_eq_false_iff_not, decide_eq_false_iff_not, hl, Int.toNat_natCast, hgd] at h4
      have e1 : ((p : Int) + 1).toNat = p + 1 := by omega
      refine st_mono (st_aug (g := fun i j => i + j) rfl (ev_add ev_int (ev_ixb ev_var (ev_add ev_var ev_int) (by rw [e1]; omega)))) (fun y hy => hy ▸ ⟨p + 2 + bs.getD (p + 1) 0, ?_, by omega, rfl, congrArg D.int ?_, trivial⟩)
      · rw [M.fendAt_step (by omega) h3 (by omega)]
        exact hp
      · show _ = (p : Int) + (2 + (Vbcnaa.ints bs).getD ((p : Int) + 1).toNat 0)
        rw [e1, hgd]
        omega
  · refine ⟨p, ⟨hp, fun hpl => ?_⟩, rfl⟩
    rw [Bool.and_eq_false_iff, Bool.not_eq_false', decide_eq_true_eq, decide_eq_false_iff_not, hl, Int.toNat_natCast, hgd] at h
    omega
  · obtain ⟨p, ⟨hp, hq⟩, rfl⟩ := hx
    refine st_ret (EvN.to (Ev.n (ev_min ev_var (ev_len ev_var))) (i_eq ?_))
    rw [hl, ← hp]
    by_cases hpl : p < bs.length
    · rw [if_neg (by omega), M.fendAt_255 hpl (hq hpl)]
    · rw [M.fendAt_none (M.raw_ge (by omega))]
      split <;> omega
def f_fields_as_they_stand : List D → D → Prop := fun zas zd => ∃ (bs : List Nat), zas = [.l (Vbcnaa.ints bs)] ∧ ((M.raw bs 32).isSome = true ∧ bs.length ≤ 10000) ∧ zd = .ll ((M.rawF bs).map M.fI)
theorem cv_fields_as_they_stand {K : PySem.W.Frag} {ds : En} {t0 : TE} {bs : List Nat} (h0 : Ev K t0 ds (.l (Vbcnaa.ints bs))) (hp : (M.raw bs 32).isSome = true ∧ bs.length ≤ 10000 := by first | assumption | rfl | decide | omega | ((try simp only [List.length_append, List.length_cons, List.length_nil, List.length_take, List.length_drop, List.length_map, List.length_replicate, List.length_set, M.ints_length, M.be_length, M.leB_length, M.bytesOf_length, M.tagI_length, M.qhead_length, M.hd1_len, M.packet_length]) <;> omega)) : EvN K (tCall (spF K f_fields_as_they_stand) [] E0 (tCons t0 tNil)) ds (.ll ((M.rawF bs).map M.fI)) := evn_call (eva_cons h0 eva_nil) ⟨_, rfl, hp, rfl⟩
theorem ok_fields_as_they_stand {f : Addr} {fd : FuncData} (F : Fun K "fields_as_they_stand" "fields_as_they_stand" s_fields_as_they_stand f fd) (T : Txt K mg) : FnOk P w K mg base CX0 1 f fd ["b"] (spF K f_fields_as_they_stand) := by
  refine fn_ok F sc_fields_as_they_stand (fun as d h => by obtain ⟨_, rfl, _⟩ := h; rfl) (fun cdv A outer s H E' as d hr h => ?_)
  obtain ⟨bs, rfl, hp, rfl⟩ := h
  refine ⟨_, (pss_cons (ps_set (i := 1) sc_fields_as_they_stand.nd rfl (by first | exact Or.inl rfl | exact Or.inr rfl) (pe_lst pa_nil)) (pss_cons (ps_set (i := 2) sc_fields_as_they_stand.nd rfl (by first | exact Or.inl rfl | exact Or.inr rfl) (pe_gd rfl T.c_FIELDS_START)) (pss_cons (ps_while PassesOwn.never (pt_cmpR op_ne (pe_ix ix_list (pv 0) (pv 2) (fun _ _ => rfl)) (pe_gd rfl T.c_FIELDS_END) (nomark _)) (pss_cons (ps_set (i := 3) sc_fields_as_they_stand.nd rfl (by first | exact Or.inl rfl | exact Or.inr rfl) (pe_op op_add (pe_op op_add (pv 2) pe_int) (pe_ix ix_list (pv 0) (pe_op op_add (pv 2) pe_int) (fun _ _ => rfl)))) (pss_cons (ps_expr (pe_bm PySem.F.plainAttrs_list PySem.F.slot_list_append PySem.F.type_list_append mt_append (pv 1) (pa_cons (pe_op op_catS (pe_lst (pa_cons (pe_ix ix_list (pv 0) (pv 2) (fun _ _ => rfl)) pa_nil)) (pe_slice sl_list (pv 0) (po_some (pe_op op_add (pv 2) pe_int)) (po_some (pv 3)))) pa_nil))) (pss_one (ps_set (i := 2) sc_fields_as_they_stand.nd rfl (by first | exact Or.inl rfl | exact Or.inr rfl) (pv 3)))))) (pss_one (ps_ret (pv 1)))))), ?_⟩
  show Stm K _ [some (.l (Vbcnaa.ints bs)), none, none, none] _ _
  obtain ⟨hp1, hp2⟩ := hp
  have hl : (Vbcnaa.ints bs).length = bs.length := M.ints_length bs
  have hgd : ∀ p, (Vbcnaa.ints bs).getD p 0 = ((bs.getD p 0 : Nat) : Int) := M.getD_ints bs
  refine st_then (st_ownll (evn_lst evi_nil)) ?_
  refine st_then (st_set evf_glob) ?_
  refine st_seq (N' := fun x => Le [some (.l (Vbcnaa.ints bs)), some (.ownll ((M.rawF bs).map M.fI)), none, none] x) (st_while (α := Nat × List Vbcnaa.Field) (fun s => [some (.l (Vbcnaa.ints bs)), some (.ownll (s.2.map M.fI)), some (.int (s.1 : Int)), none]) (fun s => s.2.length ≤ s.1 ∧ s.1 < bs.length ∧ ∃ x, M.raw bs s.1 = some x ∧ s.2 ++ x.1 = M.rawF bs) (fun s => bs.length - s.1) (32, []) (by exact ⟨M.raw_start hp1, rfl, rfl, rfl, trivial⟩) (fun s hs => ?_)) (fun x hx => ?_)
  · obtain ⟨p, acc⟩ := s
    obtain ⟨ha, hpl, x, hx, hxa⟩ := hs
    simp only [] at ha hpl hx hxa ⊢
    refine ⟨_, (evt_cmp (ev_ne (ev_ixb ev_var ev_var (by rw [Int.toNat_natCast]; omega)) ev_glob)), fun h => ?_, fun h => ?_⟩
    · rw [Bool.not_eq_true', decide_eq_false_iff_not, Int.toNat_natCast, hgd] at h
      have h3 : bs.getD p 0 ≠ 255 := by omega
      have h0 : bs.getD p 0 ≠ 0 := fun z => by rw [M.raw_0 hpl z] at hx; cases hx
      have h1 : p + 1 < bs.length := by
        refine Classical.byContradiction fun hc => ?_
        rw [M.raw_last (by omega) h3] at hx
        cases hx
      rw [M.raw_step h1 h3 h0] at hx
      by_cases hk : bs.length < p + 2 + bs.getD (p + 1) 0
      · rw [if_pos hk] at hx
        cases hx
      · rw [if_neg hk] at hx
        cases ey : M.raw bs (p + 2 + bs.getD (p + 1) 0) with
        | none =>
          rw [ey] at hx
          cases hx
        | some y =>
        rw [ey] at hx
        cases hx
        have hyl : p + 2 + bs.getD (p + 1) 0 < bs.length := by
          refine Classical.byContradiction fun hc => ?_
          rw [M.raw_ge (by omega)] at ey
          cases ey
        have e1 : ((p : Int) + 1).toNat = p + 1 := by omega
        refine st_then (st_set (Ev.f (ev_add (ev_add ev_var ev_int) (ev_ixb ev_var (ev_add ev_var ev_int) (by rw [e1]; omega))))) ?_
        refine st_le (ds' := [some (.l (Vbcnaa.ints bs)), some (.ownll (acc.map M.fI)), some (.int (p : Int)), some (.int ((p + 2 + bs.getD (p + 1) 0 : Nat) : Int))]) ⟨rfl, rfl, rfl, congrArg D.int (by rw [e1, hgd]; omega), trivial⟩ ?_
        have ef : [(Vbcnaa.ints bs).getD (p : Int).toNat 0] ++ ((Vbcnaa.ints bs).drop ((p : Int) + 2).toNat).take (((p + 2 + bs.getD (p + 1) 0 : Nat) : Int).toNat - ((p : Int) + 2).toNat) = M.fI { code := bs.getD p 0, value := (bs.drop (p + 2)).take (bs.getD (p + 1) 0) } := by
          rw [Int.toNat_natCast, Int.toNat_natCast, hgd, show ((p : Int) + 2).toNat = p + 2 by omega, show p + 2 + bs.getD (p + 1) 0 - (p + 2) = bs.getD (p + 1) 0 by omega, ← M.ints_drop, ← M.ints_take]
          rfl
        refine st_then (st_appendll rfl (EvN.to (evn_cat (EvN.ev (evn_lst (evi_cons (ev_ixb ev_var ev_var (by rw [Int.toNat_natCast]; omega)) evi_nil))) (EvN.ev (evn_sl ev_var (ev_add ev_var ev_int) ev_var)) (by simp only [List.length_cons, List.length_nil, List.length_take, List.length_drop]; omega)) (l_eq ef)) (by rw [List.length_map]; omega)) ?_
        refine st_mono (st_set evf_var) (fun z hz => hz ▸ ⟨(p + 2 + bs.getD (p + 1) 0, acc ++ [{ code := bs.getD p 0, value := (bs.drop (p + 2)).take (bs.getD (p + 1) 0) }]), ⟨by rw [List.length_append]; show acc.length + 1 ≤ _; omega, hyl, y, ey, ?_⟩, by show bs.length - (p + 2 + bs.getD (p + 1) 0) < bs.length - p; omega, rfl, congrArg D.ownll ?_, rfl, trivial⟩)
        · rw [List.append_assoc]
          exact hxa
        · rw [List.map_append]
          rfl
    · rw [Bool.not_eq_false', decide_eq_true_eq, Int.toNat_natCast, hgd] at h
      have h255 : bs.getD p 0 = 255 := by omega
      rw [M.raw_255 hpl h255] at hx
      cases hx
      have e : acc = M.rawF bs := by rw [← hxa, List.append_nil]
      rw [e]
      exact ⟨rfl, rfl, trivial⟩
  · exact st_le hx st_retOwnll
def f_field_code : List D → D → Prop := fun zas zd => ∃ (ns : List Int), zas = [.l ns] ∧ zd = .int (ns.headD 0)
theorem cv_field_code {K : PySem.W.Frag} {ds : En} {t0 : TE} {ns : List Int} (h0 : Ev K t0 ds (.l ns)) : EvN K (tCall (spF K f_field_code) [] E0 (tCons t0 tNil)) ds (.int (ns.headD 0)) := evn_call (eva_cons h0 eva_nil) ⟨_, rfl, rfl⟩
theorem ok_field_code {f : Addr} {fd : FuncData} (F : Fun K "field_code" "field_code" s_field_code f fd) (T : Txt K mg) : FnOk P w K mg base CX0 1 f fd ["field"] (spF K f_field_code) := by
  refine fn_ok F sc_field_code (fun as d h => by obtain ⟨_, rfl, _⟩ := h; rfl) (fun cdv A outer s H E' as d hr h => ?_)
  obtain ⟨ns, rfl, rfl⟩ := h
  refine ⟨_, (pss_one (ps_ret (pe_ifExp (pt_cmpR op_gt (pe_callB call_len_seq (by rfl) T.b_len PySem.boot_len (pa_cons (pv 0) pa_nil)) pe_int (nomark _)) (pe_ix ix_list (pv 0) pe_int (fun _ _ => rfl)) pe_int))), ?_⟩
  show Stm K _ [some (.l ns)] _ _
  refine st_ret (EvN.to (Ev.n (ev_if (i := ns.headD 0) (evt_cmp (ev_gt (ev_len ev_var) ev_int)) (fun hv => (ev_ix ev_var ev_int (by cases ns with | nil => cases hv | cons a l => rfl))) (fun hv => ev_int))) (i_eq ?_))
  cases ns with
  | nil => rfl
  | cons a l =>
    rw [if_pos]
    rw [decide_eq_true_eq]
    show (0 : Int) < ((l.length + 1 : Nat) : Int)
    omega
def f_field_value : List D → D → Prop := fun zas zd => ∃ (ns : List Int), zas = [.l ns] ∧ zd = .l (ns.drop 1)
theorem cv_field_value {K : PySem.W.Frag} {ds : En} {t0 : TE} {ns : List Int} (h0 : Ev K t0 ds (.l ns)) : EvN K (tCall (spF K f_field_value) [] E0 (tCons t0 tNil)) ds (.l (ns.drop 1)) := evn_call (eva_cons h0 eva_nil) ⟨_, rfl, rfl⟩
theorem ok_field_value {f : Addr} {fd : FuncData} (F : Fun K "field_value" "field_value" s_field_value f fd) (T : Txt K mg) : FnOk P w K mg base CX0 1 f fd ["field"] (spF K f_field_value) := by
  refine fn_ok F sc_field_value (fun as d h => by obtain ⟨_, rfl, _⟩ := h; rfl) (fun cdv A outer s H E' as d hr h => ?_)
  obtain ⟨ns, rfl, rfl⟩ := h
  refine ⟨_, (pss_one (ps_ret (pe_slice sl_list (pv 0) (po_some pe_int) po_none))), ?_⟩
  show Stm K _ [some (.l ns)] _ _
  exact st_ret (evn_slA ev_var ev_int)
def f_may_follow : List D → D → Prop := fun zas zd => ∃ (f b : List Int), zas = [.l f, .l b] ∧ zd = .bl (M.mayI f b)
theorem cv_may_follow {K : PySem.W.Frag} {ds : En} {t0 t1 : TE} {f b : List Int} (h0 : Ev K t0 ds (.l f)) (h1 : Ev K t1 ds (.l b)) : EvN K (tCall (spF K f_may_follow) [] E0 (tCons t0 (tCons t1 tNil))) ds (.bl (M.mayI f b)) := evn_call (eva_cons h0 (eva_cons h1 eva_nil)) ⟨_, _, rfl, rfl⟩
theorem ok_may_follow {f : Addr} {fd : FuncData} (F : Fun K "may_follow" "may_follow" s_may_follow f fd) (T : Txt K mg) (C_field_code : Cb P w K mg base 1 "field_code" ["field"] (spF K f_field_code)) (C_field_value : Cb P w K mg base 1 "field_value" ["field"] (spF K f_field_value)) : FnOk P w K mg base CX0 2 f fd ["field", "before"] (spF K f_may_follow) := by
  refine fn_ok F sc_may_follow (fun as d h => by obtain ⟨_, _, rfl, _⟩ := h; rfl) (fun cdv A outer s H E' as d hr h => ?_)
  obtain ⟨f, b, rfl, rfl⟩ := h
  refine ⟨_, (pss_cons (ps_if (pt_cmpR op_ne (pe_cb C_field_code (hr.mono (by decide)) rfl (pa_cons (pv 0) pa_nil)) (pe_cb C_field_code (hr.mono (by decide)) rfl (pa_cons (pv 1) pa_nil)) (nomark _)) (pss_one (ps_ret (pe_cmpR op_gt (pe_cb C_field_code (hr.mono (by decide)) rfl (pa_cons (pv 0) pa_nil)) (pe_cb C_field_code (hr.mono (by decide)) rfl (pa_cons (pv 1) pa_nil)) (nomark _)))) pss_nil) (pss_one (ps_ret (pe_and (pe_cmpR op_eq (pe_callB call_len_seq (by rfl) T.b_len PySem.boot_len (pa_cons (pe_cb C_field_value (hr.mono (by decide)) rfl (pa_cons (pv 1) pa_nil)) pa_nil)) (pe_gd rfl T.c_LONGEST_WRITTEN_VALUE) (nomark _)) (pe_one (pe_cmpR op_gt (pe_callB call_len_seq (by rfl) T.b_len PySem.boot_len (pa_cons (pe_cb C_field_value (hr.mono (by decide)) rfl (pa_cons (pv 0) pa_nil)) pa_nil)) pe_int (nomark _))))))), ?_⟩
  show Stm K _ [some (.l f), some (.l b)] _ _
  unfold M.mayI
  refine st_guard (evt_cmp (ev_ne (EvN.ev (cv_field_code ev_var)) (EvN.ev (cv_field_code ev_var)))) (fun h1 => ?_) (fun h1 => ?_)
  · rw [Bool.not_eq_true', decide_eq_false_iff_not] at h1
    rw [if_pos h1]
    exact st_ret (Ev.n (ev_gt (EvN.ev (cv_field_code ev_var)) (EvN.ev (cv_field_code ev_var))))
  · rw [Bool.not_eq_false', decide_eq_true_eq] at h1
    rw [if_neg (fun z => z h1)]
    exact st_ret (Ev.n (ev_and (ev_eq (ev_len (EvN.ev (cv_field_value ev_var))) ev_glob) (fun hv => (ev_gt (ev_len (EvN.ev (cv_field_value ev_var))) ev_int))))
def f_are_neighbours_fitting : List D → D → Prop := fun zas zd => ∃ (nss : List (List Int)), zas = [.ll nss] ∧ (nss.length ≤ 1000000) ∧ zd = .bl (M.neiI nss)
theorem cv_are_neighbours_fitting {K : PySem.W.Frag} {ds : En} {t0 : TE} {nss : List (List Int)} (h0 : Ev K t0 ds (.ll nss)) (hp : nss.length ≤ 1000000 := by first | assumption | rfl | decide | omega | ((try simp only [List.length_append, List.length_cons, List.length_nil, List.length_take, List.length_drop, List.length_map, List.length_replicate, List.length_set, M.ints_length, M.be_length, M.leB_length, M.bytesOf_length, M.tagI_length, M.qhead_length, M.hd1_len, M.packet_length]) <;> omega)) : EvN K (tCall (spF K f_are_neighbours_fitting) [] E0 (tCons t0 tNil)) ds (.bl (M.neiI nss)) := evn_call (eva_cons h0 eva_nil) ⟨_, rfl, hp, rfl⟩
theorem ok_are_neighbours_fitting {f : Addr} {fd : FuncData} (F : Fun K "are_neighbours_fitting" "are_neighbours_fitting" s_are_neighbours_fitting f fd) (T : Txt K mg) (C_may_follow : Cb P w K mg base 2 "may_follow" ["field", "before"] (spF K f_may_follow)) : FnOk P w K mg base CX0 3 f fd ["fields"] (spF K f_are_neighbours_fitting) := by
  refine fn_ok F sc_are_neighbours_fitting (fun as d h => by obtain ⟨_, rfl, _⟩ := h; rfl) (fun cdv A outer s H E' as d hr h => ?_)
  obtain ⟨nss, rfl, hp, rfl⟩ := h
  refine ⟨_, (pss_cons (ps_for PassesOwn.never rfl (pi_range2 rfl T.b_range (pa_cons pe_int (pa_cons (pe_callB call_len_seq (by rfl) T.b_len PySem.boot_len (pa_cons (pv 0) pa_nil)) pa_nil))) (pg_name (i := 1) sc_are_neighbours_fitting.nd rfl (by first | exact Or.inl rfl | exact Or.inr rfl)) (pss_one (ps_if (pt_not (pt_truth (pe_cb C_may_follow (hr.mono (by decide)) rfl (pa_cons (pe_ix ix_list (pv 0) (pv 1) (fun _ _ => rfl)) (pa_cons (pe_ix ix_list (pv 0) (pe_op op_sub (pv 1) pe_int) (fun _ _ => rfl)) pa_nil))) (fun _ => rfl))) (pss_one (ps_ret pe_bl)) pss_nil))) (pss_one (ps_ret pe_bl))), ?_⟩
  show Stm K _ [some (.ll nss), none] _ _
  refine st_seq (st_range2 (fun _ => [some (.ll nss), none]) (fun i => M.neiI nss = M.neiI (nss.drop i)) ev_int (ev_lenll ev_var) (by omega) ⟨rfl, rfl, trivial⟩ (fun i hi hn => ?_)) (fun ds1 h3 => ?_)
  · have hi2 : i + 1 < nss.length := by omega
    have g1 := List.getElem?_eq_getElem hi2
    have g0 := List.getElem?_eq_getElem (show i < nss.length by omega)
    have e0 := M.drop_cons g0
    have e1 := M.drop_cons g1
    have ei1 : ((1 : Int) + (i : Int)).toNat = i + 1 := by omega
    have ei0 : ((1 : Int) + (i : Int) - 1).toNat = i := by omega
    rw [e0, e1] at hn
    refine st_if (evt_not (evt_truth (EvN.ev (cv_may_follow (ev_ixll ev_var ev_var (by rw [ei1]; exact g1)) (ev_ixll ev_var (ev_sub ev_var ev_int) (by rw [ei0]; exact g0)))))) (fun h4 => ?_) (fun h4 => ?_)
    · rw [Bool.not_eq_true'] at h4
      refine st_ret (EvN.to (Ev.n ev_bl) (bl_eq ?_))
      rw [hn]
      show false = (M.mayI nss[i + 1] nss[i] && _)
      rw [h4]
      rfl
    · rw [Bool.not_eq_false'] at h4
      refine st_next ⟨?_, rfl, trivial⟩
      rw [hn, e1]
      show (M.mayI nss[i + 1] nss[i] && _) = _
      rw [h4, Bool.true_and]
  · obtain ⟨h3, rfl⟩ := h3
    refine st_ret (EvN.to (Ev.n ev_bl) (bl_eq ?_))
    rw [h3]
    cases hd : nss.drop ((nss.length : Int) - 1).toNat with
    | nil => rfl
    | cons x l =>
      cases l with
      | nil => rfl
      | cons y l =>
        have := congrArg List.length hd
        rw [List.length_drop] at this
        have e2 : (x :: y :: l).length = l.length + 2 := rfl
        omega
def f_number_at : List D → D → Prop := fun zas zd => ∃ (ns : List Int) (p c : Int), zas = [.l ns, .int p, .int c] ∧ (0 ≤ p ∧ 0 ≤ c) ∧ zd = .int (M.numI ((ns.drop p.toNat).take c.toNat))
theorem cv_number_at {K : PySem.W.Frag} {ds : En} {t0 t1 t2 : TE} {ns : List Int} {p c : Int} (h0 : Ev K t0 ds (.l ns)) (h1 : Ev K t1 ds (.int p)) (h2 : Ev K t2 ds (.int c)) (hp : 0 ≤ p ∧ 0 ≤ c := by first | assumption | rfl | decide | omega | ((try simp only [List.length_append, List.length_cons, List.length_nil, List.length_take, List.length_drop, List.length_map, List.length_replicate, List.length_set, M.ints_length, M.be_length, M.leB_length, M.bytesOf_length, M.tagI_length, M.qhead_length, M.hd1_len, M.packet_length]) <;> omega)) : EvN K (tCall (spF K f_number_at) [] E0 (tCons t0 (tCons t1 (tCons t2 tNil)))) ds (.int (M.numI ((ns.drop p.toNat).take c.toNat))) := evn_call (eva_cons h0 (eva_cons h1 (eva_cons h2 eva_nil))) ⟨_, _, _, rfl, hp, rfl⟩
theorem ok_number_at {f : Addr} {fd : FuncData} (F : Fun K "number_at" "number_at" s_number_at f fd) (T : Txt K mg) : FnOk P w K mg base CX0 1 f fd ["b", "place", "count"] (spF K f_number_at) := by
  refine fn_ok F sc_number_at (fun as d h => by obtain ⟨_, _, _, rfl, _⟩ := h; rfl) (fun cdv A outer s H E' as d hr h => ?_)
  obtain ⟨ns, p, c, rfl, hp, rfl⟩ := h
  refine ⟨_, (pss_cons (ps_set (i := 3) sc_number_at.nd rfl (by first | exact Or.inl rfl | exact Or.inr rfl) pe_int) (pss_cons (ps_for PassesOwn.never rfl (pi_list (pe_slice sl_list (pv 0) (po_some (pv 1)) (po_some (pe_op op_add (pv 1) (pv 2))))) (pg_name (i := 4) sc_number_at.nd rfl (by first | exact Or.inl rfl | exact Or.inr rfl)) (pss_one (ps_set (i := 3) sc_number_at.nd rfl (by first | exact Or.inl rfl | exact Or.inr rfl) (pe_op op_add (pe_op op_mul (pv 3) pe_int) (pv 4))))) (pss_one (ps_ret (pv 3))))), ?_⟩
  show Stm K _ [some (.l ns), some (.int p), some (.int c), none, none] _ _
  obtain ⟨hp1, hp2⟩ := hp
  refine st_then (st_set (Ev.f ev_int)) ?_
  refine st_seq (st_for (fun i => [some (.l ns), some (.int p), some (.int c), some (.int (M.numI (((ns.drop p.toNat).take ((p + c).toNat - p.toNat)).take i))), none]) (fun _ => True) (EvN.f (evn_sl ev_var ev_var (ev_add ev_var ev_var))) ⟨trivial, rfl, rfl, rfl, rfl, trivial⟩ (fun i z hz hi => ?_)) (fun ds1 h3 => ?_)
  · refine st_mono (st_set (Ev.f (ev_add (ev_mulR ev_var ev_int) ev_var))) (fun _ e => e ▸ ⟨trivial, rfl, rfl, rfl, ?_, trivial⟩)
    rw [M.take_snoc hz, M.numI_snoc]
  · obtain ⟨h3, rfl⟩ := h3
    refine st_ret (EvN.to (Ev.n ev_var) (i_eq ?_))
    rw [List.take_length, show (p + c).toNat - p.toNat = c.toNat by omega]
def f_is_within : List D → D → Prop := fun zas zd => ∃ (n lo hi : Int), zas = [.int n, .t [lo, hi]] ∧ zd = .bl (decide (lo ≤ n) && decide (n ≤ hi))
theorem cv_is_within {K : PySem.W.Frag} {ds : En} {t0 t1 : TE} {n lo hi : Int} (h0 : Ev K t0 ds (.int n)) (h1 : Ev K t1 ds (.t [lo, hi])) : EvN K (tCall (spF K f_is_within) [] E0 (tCons t0 (tCons t1 tNil))) ds (.bl (decide (lo ≤ n) && decide (n ≤ hi))) := evn_call (eva_cons h0 (eva_cons h1 eva_nil)) ⟨_, _, _, rfl, rfl⟩
theorem ok_is_within {f : Addr} {fd : FuncData} (F : Fun K "is_within" "is_within" s_is_within f fd) (T : Txt K mg) : FnOk P w K mg base CX0 1 f fd ["number", "bounds"] (spF K f_is_within) := by
  refine fn_ok F sc_is_within (fun as d h => by obtain ⟨_, _, _, rfl, _⟩ := h; rfl) (fun cdv A outer s H E' as d hr h => ?_)
  obtain ⟨n, lo, hi, rfl, rfl⟩ := h
  refine ⟨_, (pss_one (ps_ret (pe_chain op_le op_le (pe_ix ix_tup (pv 1) pe_int (fun _ _ => rfl)) (pv 0) (pe_ix ix_tup (pv 1) pe_int (fun _ _ => rfl))))), ?_⟩
  show Stm K _ [some (.int n), some (.t [lo, hi])] _ _
  exact st_ret (Ev.n (ev_chain (ev_ixt ev_var ev_int) ev_var (ev_ixt ev_var ev_int)))
def f_are_within : List D → D → Prop := fun zas zd => ∃ (ns : List Int) (rs : List (List Int)), zas = [.l ns, .tt rs] ∧ (rs.all (fun r => r.length == 2) = true) ∧ zd = .bl (M.wits ns rs)
theorem cv_are_within {K : PySem.W.Frag} {ds : En} {t0 t1 : TE} {ns : List Int} {rs : List (List Int)} (h0 : Ev K t0 ds (.l ns)) (h1 : Ev K t1 ds (.tt rs)) (hp : rs.all (fun r => r.length == 2) = true := by first | assumption | rfl | decide | omega | ((try simp only [List.length_append, List.length_cons, List.length_nil, List.length_take, List.length_drop, List.length_map, List.length_replicate, List.length_set, M.ints_length, M.be_length, M.leB_length, M.bytesOf_length, M.tagI_length, M.qhead_length, M.hd1_len, M.packet_length]) <;> omega)) : EvN K (tCall (spF K f_are_within) [] E0 (tCons t0 (tCons t1 tNil))) ds (.bl (M.wits ns rs)) := evn_call (eva_cons h0 (eva_cons h1 eva_nil)) ⟨_, _, rfl, hp, rfl⟩
theorem ok_are_within {f : Addr} {fd : FuncData} (F : Fun K "are_within" "are_within" s_are_within f fd) (T : Txt K mg) (C_is_within : Cb P w K mg base 1 "is_within" ["number", "bounds"] (spF K f_is_within)) : FnOk P w K mg base CX0 2 f fd ["numbers", "ranges"] (spF K f_are_within) := by
  refine fn_ok F sc_are_within (fun as d h => by obtain ⟨_, _, rfl, _⟩ := h; rfl) (fun cdv A outer s H E' as d hr h => ?_)
  obtain ⟨ns, rs, rfl, hp, rfl⟩ := h
  refine ⟨_, (pss_cons (ps_for PassesOwn.never rfl (pi_zipT rfl T.b_zip (pa_cons (pv 0) (pa_cons (pv 1) pa_nil))) (pg_tup rfl (pgs_cons (pg_name (i := 2) sc_are_within.nd rfl (by first | exact Or.inl rfl | exact Or.inr rfl)) (pgs_cons (pg_name (i := 3) sc_are_within.nd rfl (by first | exact Or.inl rfl | exact Or.inr rfl)) pgs_nil))) (pss_one (ps_if (pt_not (pt_truth (pe_cb C_is_within (hr.mono (by decide)) rfl (pa_cons (pv 2) (pa_cons (pv 3) pa_nil))) (fun _ => rfl))) (pss_one (ps_ret pe_bl)) pss_nil))) (pss_one (ps_ret pe_bl))), ?_⟩
  show Stm K _ [some (.l ns), some (.tt rs), none, none] _ _
  refine st_seq (st_zip (fun _ => [some (.l ns), some (.tt rs), none, none]) (fun i => ((ns.zip rs).take i).all (fun p => M.inR p.1 p.2) = true) evf_var evf_var ⟨rfl, rfl, rfl, trivial⟩ (fun i z r hz hr hi => ?_)) (fun ds1 h3 => ?_)
  · obtain ⟨lo, hi', rfl⟩ := M.two_of (List.all_eq_true.mp hp r (List.mem_of_getElem? hr))
    have hzr := M.wits_take hz hr
    refine st_if (evt_not (evt_truth (EvN.ev (cv_is_within ev_var ev_var)))) (fun h4 => ?_) (fun h4 => ?_)
    · rw [Bool.not_eq_true'] at h4
      refine st_ret (EvN.to (Ev.n ev_bl) (bl_eq ?_))
      exact (M.all_at_false (p := fun p => M.inR p.1 p.2) hzr (show M.inR z [lo, hi'] = false from h4)).symm
    · rw [Bool.not_eq_false'] at h4
      refine st_next ⟨?_, rfl, rfl, trivial⟩
      rw [M.take_snoc hzr, List.all_append, hi, Bool.true_and]
      show (M.inR z [lo, hi'] && true) = true
      rw [Bool.and_true]
      exact h4
  · obtain ⟨h3, rfl⟩ := h3
    refine st_ret (EvN.to (Ev.n ev_bl) (bl_eq ?_))
    rw [← List.length_zip, List.take_length] at h3
    exact h3.symm
def f_lease_numbers : List D → D → Prop := fun zas zd => ∃ (ns : List Int), zas = [.l ns] ∧ (36 ≤ ns.length) ∧ zd = .l (M.lnums ns)
theorem cv_lease_numbers {K : PySem.W.Frag} {ds : En} {t0 : TE} {ns : List Int} (h0 : Ev K t0 ds (.l ns)) (hp : 36 ≤ ns.length := by first | assumption | rfl | decide | omega | ((try simp only [List.length_append, List.length_cons, List.length_nil, List.length_take, List.length_drop, List.length_map, List.length_replicate, List.length_set, M.ints_length, M.be_length, M.leB_length, M.bytesOf_length, M.tagI_length, M.qhead_length, M.hd1_len, M.packet_length]) <;> omega)) : EvN K (tCall (spF K f_lease_numbers) [] E0 (tCons t0 tNil)) ds (.l (M.lnums ns)) := evn_call (eva_cons h0 eva_nil) ⟨_, rfl, hp, rfl⟩
theorem ok_lease_numbers {f : Addr} {fd : FuncData} (F : Fun K "lease_numbers" "lease_numbers" s_lease_numbers f fd) (T : Txt K mg) (C_number_at : Cb P w K mg base 1 "number_at" ["b", "place", "count"] (spF K f_number_at)) : FnOk P w K mg base CX0 2 f fd ["b"] (spF K f_lease_numbers) := by
  refine fn_ok F sc_lease_numbers (fun as d h => by obtain ⟨_, rfl, _⟩ := h; rfl) (fun cdv A outer s H E' as d hr h => ?_)
  obtain ⟨ns, rfl, hp, rfl⟩ := h
  refine ⟨_, (pss_cons (ps_setLc (i := 1) (own := [("place", 2)]) rfl sc_lease_numbers.nd rfl rfl (sw_true rfl rfl rfl (by decide +kernel)) (pi_tup (pe_tup (pa_cons pe_int (pa_cons pe_int (pa_cons pe_int (pa_cons pe_int pa_nil)))))) (blkOk_by (by show blkC ["b", "addresses", "place"] (defScope s_lease_numbers) _ [("place", 2)] = true; decide +kernel)) (fun _ _ _ _ _ => (pg_name (i := 2) sc_lease_numbers.nd rfl (Or.inl rfl))) (fun _ _ _ _ _ => by exact pts_nil) (fun _ _ _ _ _ => by exact (pe_cb C_number_at (hr.mono (by decide)) (by rfl) (pa_cons (pv 0) (pa_cons (pv 2) (pa_cons pe_int pa_nil)))))) (pss_one (ps_ret (pe_op op_catS (pe_lst (pa_cons (pe_ix ix_list (pv 0) pe_int (fun _ _ => rfl)) (pa_cons (pe_ix ix_list (pv 0) pe_int (fun _ _ => rfl)) (pa_cons (pe_cb C_number_at (hr.mono (by decide)) rfl (pa_cons (pv 0) (pa_cons pe_int (pa_cons pe_int pa_nil)))) (pa_cons (pe_cb C_number_at (hr.mono (by decide)) rfl (pa_cons (pv 0) (pa_cons pe_int (pa_cons pe_int pa_nil)))) (pa_cons (pe_cb C_number_at (hr.mono (by decide)) rfl (pa_cons (pv 0) (pa_cons pe_int (pa_cons pe_int pa_nil)))) pa_nil)))))) (pv 1))))), ?_⟩
  show Stm K _ [some (.l ns), none, none] _ _
  refine st_then (st_set (EvN.f (evn_lcT (j := 2) (ns := [16, 20, 24, 28]) (fun z => M.numI ((ns.drop z.toNat).take 4)) (evf_tup (evi_cons ev_int (evi_cons ev_int (evi_cons ev_int (evi_cons ev_int evi_nil))))) (fun z hz => EvN.ev (cv_number_at ev_var ev_var ev_int (by simp only [List.mem_cons, List.not_mem_nil, or_false] at hz; omega))) (by decide)))) ?_
  exact st_ret (EvN.to (evn_cat (EvN.ev (evn_lst (evi_cons (ev_ixb ev_var ev_int (by first | assumption | rfl | decide | omega | ((try simp only [List.length_append, List.length_cons, List.length_nil, List.length_take, List.length_drop, List.length_map, List.length_replicate, List.length_set, M.ints_length, M.be_length, M.leB_length, M.bytesOf_length, M.tagI_length, M.qhead_length, M.hd1_len, M.packet_length]) <;> omega))) (evi_cons (ev_ixb ev_var ev_int (by first | assumption | rfl | decide | omega | ((try simp only [List.length_append, List.length_cons, List.length_nil, List.length_take, List.length_drop, List.length_map, List.length_replicate, List.length_set, M.ints_length, M.be_length, M.leB_length, M.bytesOf_length, M.tagI_length, M.qhead_length, M.hd1_len, M.packet_length]) <;> omega))) (evi_cons (EvN.ev (cv_number_at ev_var ev_int ev_int)) (evi_cons (EvN.ev (cv_number_at ev_var ev_int ev_int)) (evi_cons (EvN.ev (cv_number_at ev_var ev_int ev_int)) evi_nil))))))) ev_var (by (try simp only [List.length_append, List.length_cons, List.length_nil, List.length_take, List.length_drop, List.length_map, List.length_replicate, List.length_set, M.ints_length, M.be_length, M.leB_length, M.bytesOf_length, M.tagI_length, M.qhead_length, M.hd1_len, M.packet_length]) <;> omega)) rfl)
def f_are_values : List D → D → Prop := fun zas zd => ∃ (nss : List (List Int)), zas = [.ll nss] ∧ (nss.length ≤ 1000000) ∧ zd = .bl ((nss.map M.valI).all id)
theorem cv_are_values {K : PySem.W.Frag} {ds : En} {t0 : TE} {nss : List (List Int)} (h0 : Ev K t0 ds (.ll nss)) (hp : nss.length ≤ 1000000 := by first | assumption | rfl | decide | omega | ((try simp only [List.length_append, List.length_cons, List.length_nil, List.length_take, List.length_drop, List.length_map, List.length_replicate, List.length_set, M.ints_length, M.be_length, M.leB_length, M.bytesOf_length, M.tagI_length, M.qhead_length, M.hd1_len, M.packet_length]) <;> omega)) : EvN K (tCall (spF K f_are_values) [] E0 (tCons t0 tNil)) ds (.bl ((nss.map M.valI).all id)) := evn_call (eva_cons h0 eva_nil) ⟨_, rfl, hp, rfl⟩
theorem ok_are_values {f : Addr} {fd : FuncData} (F : Fun K "are_values" "are_values" s_are_values f fd) (T : Txt K mg) (C_is_row_of_bytes : Cb P w K mg base 1 "is_row_of_bytes" ["b", "shortest", "longest"] (spF K f_is_row_of_bytes)) (C_field_value : Cb P w K mg base 1 "field_value" ["field"] (spF K f_field_value)) : FnOk P w K mg base CX0 2 f fd ["fields"] (spF K f_are_values) := by
  refine fn_ok F sc_are_values (fun as d h => by obtain ⟨_, rfl, _⟩ := h; rfl) (fun cdv A outer s H E' as d hr h => ?_)
  obtain ⟨nss, rfl, hp, rfl⟩ := h
  refine ⟨_, (pss_one (ps_ret (pe_callB (cr_all rfl) (by rfl) T.b_all boot_all5 (pa_cons (pe_lc (own := [("field", 1)]) rfl sc_are_values.nd (pi_list (pv 0)) (blkOk_by (by show blkC ["fields", "field"] (defScope s_are_values) _ [("field", 1)] = true; decide +kernel)) (fun _ _ _ _ _ => (pg_name (i := 1) sc_are_values.nd rfl (Or.inl rfl))) (fun _ _ _ _ _ => by exact pts_nil) (fun _ _ _ _ _ => by exact (pe_cb C_is_row_of_bytes (hr.mono (by decide)) (by rfl) (pa_cons (pe_cb C_field_value (hr.mono (by decide)) (by rfl) (pa_cons (pv 1) pa_nil)) (pa_cons pe_int (pa_cons (pe_gdK (by rfl) T.c_LONGEST_VALUE) pa_nil)))))) pa_nil)))), ?_⟩
  show Stm K _ [some (.ll nss), none] _ _
  exact st_ret (Ev.n (ev_all (evn_lcB (j := 1) M.valI evf_var (fun z hz => EvN.ev (cv_is_row_of_bytes (EvN.ev (cv_field_value ev_var)) ev_int ev_glob)) (by omega))))
def f_lease_fields : List D → D → Prop := fun zas zd => ∃ (bs : List Nat), zas = [.l (Vbcnaa.ints bs)] ∧ ((M.raw bs 32).isSome = true ∧ bs.length ≤ 10000) ∧ zd = .ll ((M.mrg (M.rawF bs)).map M.fI)
theorem cv_lease_fields {K : PySem.W.Frag} {ds : En} {t0 : TE} {bs : List Nat} (h0 : Ev K t0 ds (.l (Vbcnaa.ints bs))) (hp : (M.raw bs 32).isSome = true ∧ bs.length ≤ 10000 := by first | assumption | rfl | decide | omega | ((try simp only [List.length_append, List.length_cons, List.length_nil, List.length_take, List.length_drop, List.length_map, List.length_replicate, List.length_set, M.ints_length, M.be_length, M.leB_length, M.bytesOf_length, M.tagI_length, M.qhead_length, M.hd1_len, M.packet_length]) <;> omega)) : EvN K (tCall (spF K f_lease_fields) [] E0 (tCons t0 tNil)) ds (.ll ((M.mrg (M.rawF bs)).map M.fI)) := evn_call (eva_cons h0 eva_nil) ⟨_, rfl, hp, rfl⟩
theorem ok_lease_fields {f : Addr} {fd : FuncData} (F : Fun K "lease_fields" "lease_fields" s_lease_fields f fd) (T : Txt K mg) (C_fields_as_they_stand : Cb P w K mg base 1 "fields_as_they_stand" ["b"] (spF K f_fields_as_they_stand)) (C_field_code : Cb P w K mg base 1 "field_code" ["field"] (spF K f_field_code)) (C_field_value : Cb P w K mg base 1 "field_value" ["field"] (spF K f_field_value)) : FnOk P w K mg base CX0 2 f fd ["b"] (spF K f_lease_fields) := by
  refine fn_ok F sc_lease_fields (fun as d h => by obtain ⟨_, rfl, _⟩ := h; rfl) (fun cdv A outer s H E' as d hr h => ?_)
  obtain ⟨bs, rfl, hp, rfl⟩ := h
  refine ⟨_, (pss_cons (ps_set (i := 1) sc_lease_fields.nd rfl (by first | exact Or.inl rfl | exact Or.inr rfl) (pe_lst pa_nil)) (pss_cons (ps_for PassesOwn.never rfl (pi_list (pe_cb C_fields_as_they_stand (hr.mono (by decide)) rfl (pa_cons (pv 0) pa_nil))) (pg_name (i := 2) sc_lease_fields.nd rfl (by first | exact Or.inl rfl | exact Or.inr rfl)) (pss_one (ps_if (PW.pt (pw_and (pt_cmpR op_gt (pe_callB call_len_seq (by rfl) T.b_len PySem.boot_len (pa_cons (pv 1) pa_nil)) pe_int (nomark _)) (pw_and1 (pt_cmpR op_eq (pe_cb C_field_code (hr.mono (by decide)) rfl (pa_cons (pe_ix ix_list (pv 1) (pe_un un_neg pe_int) (fun _ _ => rfl)) pa_nil)) (pe_cb C_field_code (hr.mono (by decide)) rfl (pa_cons (pv 2) pa_nil)) (nomark _))))) (pss_one (ps_expr (pe_bm PySem.F.plainAttrs_list PySem.F.slot_list_extend PySem.F.type_list_extend mt_extend (pe_ix ix_list (pv 1) (pe_un un_neg pe_int) (fun _ _ => rfl)) (pa_cons (pe_cb C_field_value (hr.mono (by decide)) rfl (pa_cons (pv 2) pa_nil)) pa_nil)))) (pss_one (ps_expr (pe_bm PySem.F.plainAttrs_list PySem.F.slot_list_append PySem.F.type_list_append mt_append (pv 1) (pa_cons (pe_callTy call_list_of (by rfl) T.b_list boot_list5 (pa_cons (pv 2) pa_nil)) pa_nil))))))) (pss_one (ps_ret (pv 1))))), ?_⟩
  show Stm K _ [some (.l (Vbcnaa.ints bs)), none, none] _ _
  refine st_then (st_ownll (evn_lst evi_nil)) ?_
  intro σ Hb H0 H Dn O nx rt
  refine (EvN.f (cv_fields_as_they_stand ev_var hp)) σ Hb H0 H _ O fun v H1 H01 e1 e01 n1 O1 => ?_
  obtain ⟨a, us, rfl, s1, pr⟩ := n1
  have O1' := O1
  obtain ⟨Hf, a1, b1, c1, d1⟩ := O1.ex
  obtain ⟨vb, g0, _⟩ := c1 0 _ rfl
  obtain ⟨vp, g1, p, vs0, rfl, hfp, hp1, pr0⟩ := c1 1 _ rfl
  cases pr0
  have hlen := O1.len
  match σ, g0, g1, hlen with
  | [x0, x1, x2], g0, g1, _ =>
  cases g0
  cases g1
  have hbf : Same Hb Hf := O1.b0.trans a1
  have hul := plen pr
  rw [List.length_map] at hul
  have hbl := M.rawF_len bs
  refine ⟨a, rfl, ⟨_, (a1.trans b1).seq s1⟩, for_list (K := K) (a := a) (xs := us) (fun i σ' H' => (∃ w, σ' = [some vb, some (.ref p), w]) ∧ Same Hf H' ∧ ∃ qs, H' p = some (.lst (qs.map V.ref)) ∧ p ∉ qs ∧ Laid Hb Hf H' qs (((M.rawF bs).take i).foldl M.grow [])) ⟨⟨_, rfl⟩, b1, [], hp1, by simp, .nil⟩ (fun i σ' H' _ pv => (a1.trans pv.2.1).seq s1) (fun i x σ' H' hx pv => ?_) fun σ' H' pv => ?_⟩
  · obtain ⟨⟨w, rfl⟩, hs, qs, hq, hpq, ld⟩ := pv
    have hi : i < (M.rawF bs).length := by rw [← hul]; exact (List.getElem?_eq_some_iff.mp hx).1
    have hf := List.getElem?_eq_getElem hi
    generalize (M.rawF bs)[i] = f at hf
    have hfI : ((M.rawF bs).map M.fI)[i]? = some (M.fI f) := by rw [List.getElem?_map, hf]; rfl
    obtain ⟨x', k1, k2⟩ := pget pr hfI
    rw [hx] at k1
    cases k1
    have hI : Is K Hf (.l (M.fI f)) x := IsL.up a1 k2
    have et : ((M.rawF bs).take (i + 1)).foldl M.grow [] = M.grow (((M.rawF bs).take i).foldl M.grow []) f := by
      rw [M.take_snoc hf, List.foldl_append]
      rfl
    have hacc : (((M.rawF bs).take i).foldl M.grow []).length ≤ i := M.grow_len _ i (by rw [List.length_take]; omega)
    have hroom : ∀ a' y, ((M.rawF bs).take i).foldl M.grow [] = a' ++ [y] → y.value.length + f.value.length ≤ bs.length := fun a' y e => M.grow_room hf e
    rw [et]
    generalize ((M.rawF bs).take i).foldl M.grow [] = acc at ld hacc hroom ⊢
    show (tIfS _ _ _) _ [some vb, some (.ref p), some x] H'
    -- a new list at the end
    have app : ∀ H2, Same H' H2 → M.grow acc f = acc ++ [f] → ∀ Dn2 : Ends, (∀ σ3 H3, ((∃ w, σ3 = [some vb, some (.ref p), w]) ∧ Same Hf H3 ∧ ∃ qs, H3 p = some (.lst (qs.map V.ref)) ∧ p ∉ qs ∧ Laid Hb Hf H3 qs (M.grow acc f)) → Dn2.nx σ3 H3) → (tDrop (tBM K "list" rAppend (tVar 1) (tCons (tCB (fun xs H Q => ∃ p ys, xs = [.ref p] ∧ (SqL K H p ys ∨ SqT K H p ys) ∧ ∀ l, H l = none → Q (.ref l) (upd H l (.lst ys))) (tCons (tVar 2) tNil)) tNil))) Dn2 [some vb, some (.ref p), some x] H2 := by
      intro H2 e2 eg Dn2 hn
      have hq2 := e2 _ _ hq
      refine ⟨.ref p, rfl, .inl ⟨rfl, _, SqL.of hq2⟩, ?_⟩
      refine (evn_listL (ds := [none, none, some (.l (M.fI f))]) ev_var) [some vb, some (.ref p), some x] Hb Hf H2 _ (ok_three hbf (hs.trans e2) rfl hI) fun v3 H3 e3 n3 => ?_
      obtain ⟨q, rfl, hq0, hqs⟩ := n3
      have hq3 := e3 _ _ hq2
      have hqn : q ∉ qs := fun z => by
        obtain ⟨o, ho⟩ := ld.at q z
        rw [e2 _ _ ho] at hq0
        cases hq0
      have hqp : q ≠ p := fun z => by rw [z, hq2] at hq0; cases hq0
      have hfq : Hf q = none := (hs.trans e2).free hq0
      refine ⟨p, _, .ref q, rfl, rfl, hq3, ?_, hn _ _ ⟨⟨_, rfl⟩, fun b o hb => ?_, qs ++ [q], ?_, ?_, ?_⟩⟩
      · rw [List.length_map, ld.len, sizeLine_eq]
        omega
      · rw [upd_ne (ne_of_none hb hfp)]
        exact e3 _ _ (e2 _ _ (hs _ _ hb))
      · rw [upd_same, List.map_append]
        rfl
      · intro z
        rcases List.mem_append.mp z with z | z
        · exact hpq z
        · exact hqp (List.mem_singleton.mp z).symm
      · rw [eg]
        refine .snoc (ld.up fun b hb => ?_) hqn hfq (hbf.free hfq) ?_
        · rw [upd_ne (show b ≠ p from fun z => hpq (z ▸ hb))]
          obtain ⟨o, ho⟩ := ld.at b hb
          rw [ho]
          exact e3 _ _ (e2 _ _ ho)
        · rw [upd_ne hqp]
          exact hqs
    refine ⟨.ref p, rfl, p, _, rfl, .inl (SqL.of hq), _, _, rfl, rfl, _, rfl, ?_⟩
    rcases M.snoc_cases acc with rfl | ⟨acc', y, rfl⟩
    · have hq0 : qs = [] := List.length_eq_zero_iff.mp (ld.len.trans rfl)
      subst hq0
      refine iteF (iteF ?_)
      exact app H' (Same.refl _) rfl _ fun σ3 H3 h3 => h3
    · obtain ⟨qs', q, rfl, ld', hqn, hfq, hbq, hqy⟩ := ld.inv rfl
      rw [M.grow_snoc] at *
      rw [decide_eq_true (by rw [List.length_map, List.length_append]; show (0 : Int) < ((qs'.length + 1 : Nat) : Int); omega)]
      refine iteT ?_
      refine ⟨.ref p, rfl, 1, rfl, p, _, -1, .ref q, rfl, rfl, SqL.of hq, by rw [List.map_append]; exact atI_last _ _, [.l (M.fI y)], _, .cons ⟨q, rfl, SqL.of hqy⟩ .nil, ⟨_, rfl, rfl⟩, fun v2 H2 e2 n2 => ?_⟩
      refine (EvN.ev (cv_field_code (ds := [none, none, some (.l (M.fI f))]) ev_var)) [some vb, some (.ref p), some x] Hb Hf H2 _ (ok_three hbf (hs.trans e2) rfl hI) fun v3 H3 e3 n3 => ?_
      cases n2
      cases n3
      refine ⟨rfl, _, rfl, ?_⟩
      have e23 := e2.trans e3
      by_cases hc : y.code = f.code
      · rw [decV, decide_eq_true (show (M.fI y).headD 0 = (M.fI f).headD 0 by show (y.code : Int) = (f.code : Int); rw [hc])]
        refine iteT ?_
        have hq3 := e23 _ _ hq
        have hqy3 := e23 _ _ hqy
        refine ⟨.ref p, rfl, 1, rfl, p, _, -1, .ref q, rfl, rfl, SqL.of hq3, by rw [List.map_append]; exact atI_last _ _, .inl ⟨rfl, _, SqL.of hqy3⟩, ?_⟩
        refine (cv_field_value (ds := [none, none, some (.l (M.fI f))]) ev_var) [some vb, some (.ref p), some x] Hb Hf H3 _ (ok_three hbf (hs.trans e23) rfl hI) fun v4 H4 e4 n4 => ?_
        obtain ⟨q2, rfl, hq20, hq2s⟩ := n4
        have hpq2 : p ≠ q := fun z => hpq (z ▸ by simp)
        refine ⟨q, q2, _, _, rfl, rfl, e4 _ _ hqy3, hq2s, ?_, ⟨⟨_, rfl⟩, fun b o hb => ?_, qs' ++ [q], ?_, hpq, ?_⟩⟩
        · have hr := hroom _ _ rfl
          have h10 := hp.2
          have e1 : (M.fI y).length = y.value.length + 1 := congrArg (· + 1) (M.ints_length y.value)
          have e2 : ((M.fI f).drop 1).length = f.value.length := M.ints_length f.value
          rw [sizeLine_eq]
          simp only [List.length_map, e1, e2]
          omega
        · rw [upd_ne (ne_of_none hb hfq)]
          exact e4 _ _ (e23 _ _ (hs _ _ hb))
        · rw [upd_ne hpq2]
          exact e4 _ _ hq3
        · rw [if_pos hc]
          refine .snoc (ld'.up fun b hb => ?_) hqn hfq hbq ?_
          · rw [upd_ne (show b ≠ q from fun z => hqn (z ▸ hb))]
            obtain ⟨o, ho⟩ := ld'.at b hb
            rw [ho]
            exact e4 _ _ (e23 _ _ ho)
          · rw [upd_same, ← List.map_append]
            have ef : M.fI y ++ (M.fI f).drop 1 = M.fI { code := y.code, value := y.value ++ f.value } := congrArg (List.cons (y.code : Int)) (List.map_append (f := fun n : Nat => (n : Int)) (l₁ := y.value) (l₂ := f.value)).symm
            rw [ef]
      · rw [decV, decide_eq_false (show ¬ (M.fI y).headD 0 = (M.fI f).headD 0 from fun z => hc (Int.ofNat_inj.mp z))]
        refine iteF ?_
        exact app H3 e23 (by rw [if_neg hc]) _ fun σ3 H3 h3 => h3
  · obtain ⟨⟨w, rfl⟩, hs, qs, hq, hpq, ld⟩ := pv
    rw [hul, List.take_length, M.grow_all] at ld
    exact ⟨.ref p, rfl, rt _ H' (hbf.trans hs) ⟨p, _, rfl, hbf.free hfp, hq, ld.news⟩⟩
def f_lease_refusal : List D → D → Prop := fun zas zd => ∃ (ns : List Int), zas = [.l ns] ∧ zd = .int (M.code (Vbcnaa.readLease (Vbcnaa.bytesOf ns)))
theorem cv_lease_refusal {K : PySem.W.Frag} {ds : En} {t0 : TE} {ns : List Int} (h0 : Ev K t0 ds (.l ns)) : EvN K (tCall (spF K f_lease_refusal) [] E0 (tCons t0 tNil)) ds (.int (M.code (Vbcnaa.readLease (Vbcnaa.bytesOf ns)))) := evn_call (eva_cons h0 eva_nil) ⟨_, rfl, rfl⟩
theorem ok_lease_refusal {f : Addr} {fd : FuncData} (F : Fun K "lease_refusal" "lease_refusal" s_lease_refusal f fd) (T : Txt K mg) (C_is_row_of_bytes : Cb P w K mg base 1 "is_row_of_bytes" ["b", "shortest", "longest"] (spF K f_is_row_of_bytes)) (C_fields_end : Cb P w K mg base 1 "fields_end" ["b"] (spF K f_fields_end)) (C_fields_as_they_stand : Cb P w K mg base 1 "fields_as_they_stand" ["b"] (spF K f_fields_as_they_stand)) (C_are_neighbours_fitting : Cb P w K mg base 3 "are_neighbours_fitting" ["fields"] (spF K f_are_neighbours_fitting)) (C_number_at : Cb P w K mg base 1 "number_at" ["b", "place", "count"] (spF K f_number_at)) (C_are_within : Cb P w K mg base 2 "are_within" ["numbers", "ranges"] (spF K f_are_within)) (C_lease_numbers : Cb P w K mg base 2 "lease_numbers" ["b"] (spF K f_lease_numbers)) (C_are_values : Cb P w K mg base 2 "are_values" ["fields"] (spF K f_are_values)) (C_lease_fields : Cb P w K mg base 2 "lease_fields" ["b"] (spF K f_lease_fields)) : FnOk P w K mg base CX0 4 f fd ["b"] (spF K f_lease_refusal) := by
  refine fn_ok F sc_lease_refusal (fun as d h => by obtain ⟨_, rfl, _⟩ := h; rfl) (fun cdv A outer s H E' as d hr h => ?_)
  obtain ⟨ns, rfl, rfl⟩ := h
  refine ⟨_, (pss_cons (ps_if (PW.pt (pw_or (pt_not (pt_truth (pe_cb C_is_row_of_bytes (hr.mono (by decide)) rfl (pa_cons (pv 0) (pa_cons (pe_gd rfl T.c_SHORTEST_LEASE) (pa_cons (pe_gd rfl T.c_LONGEST_LEASE) pa_nil)))) (fun _ => rfl))) (pw_or1 (pt_cmpR op_ne (pe_op op_mod (pe_callB call_len_seq (by rfl) T.b_len PySem.boot_len (pa_cons (pv 0) pa_nil)) pe_int) pe_int (nomark _))))) (pss_one (ps_ret (pe_un un_neg pe_int))) pss_nil) (pss_cons (ps_set (i := 1) sc_lease_refusal.nd rfl (by first | exact Or.inl rfl | exact Or.inr rfl) (pe_cb C_fields_end (hr.mono (by decide)) rfl (pa_cons (pv 0) pa_nil))) (pss_cons (ps_if (pt_cmpR op_eq (pv 1) (pe_callB call_len_seq (by rfl) T.b_len PySem.boot_len (pa_cons (pv 0) pa_nil)) (nomark _)) (pss_one (ps_ret (pe_un un_neg pe_int))) pss_nil) (pss_cons (ps_set (i := 2) sc_lease_refusal.nd rfl (by first | exact Or.inl rfl | exact Or.inr rfl) (pe_slice sl_list (pv 0) (po_some (pe_op op_add (pv 1) pe_int)) po_none)) (pss_cons (ps_if (PW.pt (pw_or (pt_cmpR op_ge (pe_callB call_len_seq (by rfl) T.b_len PySem.boot_len (pa_cons (pv 2) pa_nil)) pe_int (nomark _)) (pw_or1 (pt_truth (pe_callB (cr_any rfl) (by rfl) T.b_any boot_any5 (pa_cons (pe_lc (own := [("byte", 4)]) rfl sc_lease_refusal.nd (pi_list (pv 2)) (blkOk_by (by show blkC ["b", "end", "behind", "fields", "byte"] (defScope s_lease_refusal) _ [("byte", 4)] = true; decide +kernel)) (fun _ _ _ _ _ => (pg_name (i := 4) sc_lease_refusal.nd rfl (Or.inl rfl))) (fun _ _ _ _ _ => by exact pts_nil) (fun _ _ _ _ _ => by exact (pe_cmpR op_ne (pv 4) pe_int (nomark _)))) pa_nil)) (fun _ => rfl))))) (pss_one (ps_ret (pe_un un_neg pe_int))) pss_nil) (pss_cons (ps_set (i := 3) sc_lease_refusal.nd rfl (by first | exact Or.inl rfl | exact Or.inr rfl) (pe_cb C_fields_as_they_stand (hr.mono (by decide)) rfl (pa_cons (pv 0) pa_nil))) (pss_cons (ps_if (pt_not (pt_truth (pe_cb C_are_neighbours_fitting (hr.mono (by decide)) rfl (pa_cons (pv 3) pa_nil)) (fun _ => rfl))) (pss_one (ps_ret (pe_un un_neg pe_int))) pss_nil) (pss_cons (ps_if (PW.pt (pw_or (pt_not (pt_truth (pe_cb C_are_within (hr.mono (by decide)) rfl (pa_cons (pe_cb C_lease_numbers (hr.mono (by decide)) rfl (pa_cons (pv 0) pa_nil)) (pa_cons (pe_gd rfl T.c_LEASE_RANGES) pa_nil))) (fun _ => rfl))) (pw_or1 (pt_cmpR op_ne (pe_cb C_number_at (hr.mono (by decide)) rfl (pa_cons (pv 0) (pa_cons pe_int (pa_cons pe_int pa_nil)))) pe_int (nomark _))))) (pss_one (ps_ret (pe_un un_neg pe_int))) pss_nil) (pss_cons (ps_if (pt_not (pt_truth (pe_cb C_are_values (hr.mono (by decide)) rfl (pa_cons (pe_cb C_lease_fields (hr.mono (by decide)) rfl (pa_cons (pv 0) pa_nil)) pa_nil)) (fun _ => rfl))) (pss_one (ps_ret (pe_un un_neg pe_int))) pss_nil) (pss_one (ps_ret pe_int))))))))))), ?_⟩
  show Stm K _ [some (.l ns), none, none, none, none] _ _
  refine st_guard (evt_or (evt_not (evt_truth (EvN.ev (cv_is_row_of_bytes ev_var ev_glob ev_glob)))) (fun hv => (evt_cmp (ev_ne (ev_mod (ev_len ev_var) ev_int) ev_int)))) (fun h1 => ?_) (fun h1 => ?_)
  · refine st_ret (EvN.to (Ev.n (ev_neg ev_int)) (i_eq ?_))
    rw [M.readL1 h1]
    rfl
  · rw [Bool.or_eq_false_iff, Bool.not_eq_false', Bool.not_eq_false', Bool.and_eq_true, Bool.and_eq_true, decide_eq_true_eq, decide_eq_true_eq, decide_eq_true_eq] at h1
    obtain ⟨⟨⟨h2, h3⟩, h4⟩, h5⟩ := h1
    obtain ⟨bs, rfl, hb⟩ := M.ints_of h4
    have hl : (Vbcnaa.ints bs).length = bs.length := M.ints_length bs
    rw [hl] at h2 h3 h5
    have h10 : bs.length ≤ 10000 := by omega
    have hrd := M.readL_in hb (by omega) (by omega) (by omega)
    rw [M.bytesOf_ints hb]
    refine st_then (st_set (Ev.f (EvN.ev (cv_fields_end ev_var h10)))) ?_
    cases hr : M.raw bs 32 with
    | none =>
      have e0 := M.fendAt_none hr
      rw [hr] at hrd
      rw [hrd]
      refine st_guard (evt_cmp (ev_eq ev_var (ev_len ev_var))) (fun h6 => ?_) (fun h6 => ?_)
      · exact st_ret (Ev.n (ev_neg ev_int))
      · rw [decide_eq_false_iff_not, hl, e0] at h6
        exact absurd rfl h6
    | some x =>
      obtain ⟨fs, pad⟩ := x
      obtain ⟨p1, p2, p3⟩ := M.fend_some hr
      simp only [] at p2 p3
      have hsome : (M.raw bs 32).isSome = true := by rw [hr]; rfl
      have efs : M.rawF bs = fs := by unfold M.rawF; rw [hr]
      have hmb : ∀ f ∈ M.mrg (M.rawF bs), ∀ y ∈ f.value, y < 256 := M.mrg_bytes (by rw [efs]; exact M.raw_bytes bs.length hb (by omega) hr)
      rw [hr] at hrd
      simp only [] at hrd
      rw [hrd]
      refine st_guard (evt_cmp (ev_eq ev_var (ev_len ev_var))) (fun h6 => ?_) (fun h6 => ?_)
      · rw [decide_eq_true_eq, hl] at h6
        omega
      · have eb : (Vbcnaa.ints bs).drop (((M.fendAt bs 32 : Nat) : Int) + 1).toNat = Vbcnaa.ints pad := by
          rw [show (((M.fendAt bs 32 : Nat) : Int) + 1).toNat = M.fendAt bs 32 + 1 by omega, ← M.ints_drop, p2]
        have hpl : (Vbcnaa.ints pad).length = pad.length := M.ints_length pad
        refine st_then (st_set (EvN.f (EvN.to (evn_slA ev_var (ev_add ev_var ev_int)) (l_eq eb)))) ?_
        refine st_guard (evt_or (evt_cmp (ev_ge (ev_len ev_var) ev_int)) (fun hv => (evt_truth (ev_any (evn_lcBl (j := 4) (fun y => !decide (y = 0)) evf_var (fun z hz => ev_ne ev_var ev_int) (by omega)))))) (fun h7 => ?_) (fun h7 => ?_)
        · rw [M.pad_any, Bool.or_eq_true, decide_eq_true_eq, hpl] at h7
          rw [if_pos (h7.imp (fun z => by omega) id)]
          exact st_ret (Ev.n (ev_neg ev_int))
        · rw [M.pad_any, Bool.or_eq_false_iff, decide_eq_false_iff_not, hpl] at h7
          rw [if_neg (show ¬ (4 ≤ pad.length ∨ pad.any (fun x => x != 0) = true) by rw [h7.2]; intro z; rcases z with z | z; (· exact h7.1 (by omega)); (· cases z))]
          refine st_then (st_set (EvN.f (cv_fields_as_they_stand ev_var ⟨hsome, h10⟩))) ?_
          have hfl : ((M.rawF bs).map M.fI).length ≤ 1000000 := by
            rw [List.length_map]
            have := M.rawF_len bs
            omega
          have hml : ((M.mrg (M.rawF bs)).map M.fI).length ≤ 1000000 := by
            rw [List.length_map]
            have := M.rawF_len bs
            have := M.mrg_len (M.rawF bs)
            omega
          refine st_guard (evt_not (evt_truth (EvN.ev (cv_are_neighbours_fitting ev_var hfl)))) (fun h8 => ?_) (fun h8 => ?_)
          · rw [Bool.not_eq_true', M.nei_F] at h8
            rw [if_pos h8]
            exact st_ret (Ev.n (ev_neg ev_int))
          · rw [Bool.not_eq_false', M.nei_F] at h8
            rw [if_neg (show ¬ M.neiF (M.rawF bs) = false by rw [h8]; decide)]
            have e14 : M.numI (((Vbcnaa.ints bs).drop (14 : Int).toNat).take (2 : Int).toNat) = ((Vbcnaa.field bs 14 2 : Nat) : Int) := M.numI_field bs 14 2
            refine st_guard (evt_or (evt_not (evt_truth (EvN.ev (cv_are_within (EvN.ev (cv_lease_numbers ev_var)) ev_glob)))) (fun hv => (evt_cmp (ev_ne (EvN.ev (cv_number_at ev_var ev_int ev_int)) ev_int)))) (fun h9 => ?_) (fun h9 => ?_)
            · rw [M.lnums_ints, M.wits9, e14, Bool.or_eq_true, Bool.not_eq_true', Bool.not_eq_true', decide_eq_false_iff_not] at h9
              rw [if_pos (h9.imp id fun z => by omega)]
              exact st_ret (Ev.n (ev_neg ev_int))
            · rw [M.lnums_ints, M.wits9, e14, Bool.or_eq_false_iff, Bool.not_eq_false', Bool.not_eq_false', decide_eq_true_eq] at h9
              rw [if_neg (show ¬ (Vbcnaa.goodFixed (M.leaseOf bs) = false ∨ Vbcnaa.field bs 14 2 ≠ 0) by rw [h9.1]; intro z; rcases z with z | z; (· cases z); (· exact z (by omega)))]
              refine st_guard (evt_not (evt_truth (EvN.ev (cv_are_values (EvN.ev (cv_lease_fields ev_var ⟨hsome, h10⟩)) hml)))) (fun h11 => ?_) (fun h11 => ?_)
              · rw [Bool.not_eq_true', M.vals_F hmb, Bool.not_eq_false'] at h11
                rw [if_pos h11]
                exact st_ret (Ev.n (ev_neg ev_int))
              · rw [Bool.not_eq_false', M.vals_F hmb, Bool.not_eq_true'] at h11
                rw [if_neg (by rw [h11]; exact Bool.false_ne_true)]
                exact st_ret (Ev.n ev_int)
def f_behind_length : List D → D → Prop := fun zas zd => ∃ (ns : List Int), zas = [.l ns] ∧ (ns.length ≤ 1000000) ∧ zd = .l ((ns.length : Int) :: ns)
theorem cv_behind_length {K : PySem.W.Frag} {ds : En} {t0 : TE} {ns : List Int} (h0 : Ev K t0 ds (.l ns)) (hp : ns.length ≤ 1000000 := by first | assumption | rfl | decide | omega | ((try simp only [List.length_append, List.length_cons, List.length_nil, List.length_take, List.length_drop, List.length_map, List.length_replicate, List.length_set, M.ints_length, M.be_length, M.leB_length, M.bytesOf_length, M.tagI_length, M.qhead_length, M.hd1_len, M.packet_length]) <;> omega)) : EvN K (tCall (spF K f_behind_length) [] E0 (tCons t0 tNil)) ds (.l ((ns.length : Int) :: ns)) := evn_call (eva_cons h0 eva_nil) ⟨_, rfl, hp, rfl⟩
theorem ok_behind_length {f : Addr} {fd : FuncData} (F : Fun K "behind_length" "behind_length" s_behind_length f fd) (T : Txt K mg) : FnOk P w K mg base CX0 1 f fd ["row"] (spF K f_behind_length) := by
  refine fn_ok F sc_behind_length (fun as d h => by obtain ⟨_, rfl, _⟩ := h; rfl) (fun cdv A outer s H E' as d hr h => ?_)
  obtain ⟨ns, rfl, hp, rfl⟩ := h
  refine ⟨_, (pss_one (ps_ret (pe_op op_catS (pe_lst (pa_cons (pe_callB call_len_seq (by rfl) T.b_len PySem.boot_len (pa_cons (pv 0) pa_nil)) pa_nil)) (pv 0)))), ?_⟩
  show Stm K _ [some (.l ns)] _ _
  exact st_ret (evn_cat (EvN.ev (evn_lst (evi_cons (ev_len ev_var) evi_nil))) ev_var (by (try simp only [List.length_append, List.length_cons, List.length_nil, List.length_take, List.length_drop, List.length_map, List.length_replicate, List.length_set, M.ints_length, M.be_length, M.leB_length, M.bytesOf_length, M.tagI_length, M.qhead_length, M.hd1_len, M.packet_length]) <;> omega))
def f_readlease : List D → D → Prop := fun zas zd => ∃ (ns : List Int), zas = [.l ns] ∧ zd = .l (PyVbcnaa.readlease ns)
theorem cv_readlease {K : PySem.W.Frag} {ds : En} {t0 : TE} {ns : List Int} (h0 : Ev K t0 ds (.l ns)) : EvN K (tCall (spF K f_readlease) [] E0 (tCons t0 tNil)) ds (.l (PyVbcnaa.readlease ns)) := evn_call (eva_cons h0 eva_nil) ⟨_, rfl, rfl⟩
theorem ok_readlease {f : Addr} {fd : FuncData} (F : Fun K "readlease" "readlease" s_readlease f fd) (T : Txt K mg) (C_lease_refusal : Cb P w K mg base 4 "lease_refusal" ["b"] (spF K f_lease_refusal)) (C_lease_fields : Cb P w K mg base 2 "lease_fields" ["b"] (spF K f_lease_fields)) (C_lease_numbers : Cb P w K mg base 2 "lease_numbers" ["b"] (spF K f_lease_numbers)) (C_field_code : Cb P w K mg base 1 "field_code" ["field"] (spF K f_field_code)) (C_behind_length : Cb P w K mg base 1 "behind_length" ["row"] (spF K f_behind_length)) (C_field_value : Cb P w K mg base 1 "field_value" ["field"] (spF K f_field_value)) : FnOk P w K mg base CX0 5 f fd ["b"] (spF K f_readlease) := by
  refine fn_ok F sc_readlease (fun as d h => by obtain ⟨_, rfl, _⟩ := h; rfl) (fun cdv A outer s H E' as d hr h => ?_)
  obtain ⟨ns, rfl, rfl⟩ := h
  refine ⟨_, (pss_cons (ps_set (i := 1) sc_readlease.nd rfl (by first | exact Or.inl rfl | exact Or.inr rfl) (pe_cb C_lease_refusal (hr.mono (by decide)) rfl (pa_cons (pv 0) pa_nil))) (pss_cons (ps_if (pt_cmpR op_ne (pv 1) pe_int (nomark _)) (pss_one (ps_ret (pe_lst (pa_cons (pv 1) pa_nil)))) pss_nil) (pss_cons (ps_set (i := 2) sc_readlease.nd rfl (by first | exact Or.inl rfl | exact Or.inr rfl) (pe_cb C_lease_fields (hr.mono (by decide)) rfl (pa_cons (pv 0) pa_nil))) (pss_cons (ps_set (i := 3) sc_readlease.nd rfl (by first | exact Or.inl rfl | exact Or.inr rfl) (pe_op op_catS (pe_op op_catS (pe_lst (pa_cons pe_int pa_nil)) (pe_cb C_lease_numbers (hr.mono (by decide)) rfl (pa_cons (pv 0) pa_nil))) (pe_lst (pa_cons (pe_callB call_len_seq (by rfl) T.b_len PySem.boot_len (pa_cons (pv 2) pa_nil)) pa_nil)))) (pss_cons (ps_for PassesOwn.never rfl (pi_list (pv 2)) (pg_name (i := 4) sc_readlease.nd rfl (by first | exact Or.inl rfl | exact Or.inr rfl)) (pss_cons (ps_expr (pe_bm PySem.F.plainAttrs_list PySem.F.slot_list_append PySem.F.type_list_append mt_append (pv 3) (pa_cons (pe_cb C_field_code (hr.mono (by decide)) rfl (pa_cons (pv 4) pa_nil)) pa_nil))) (pss_one (ps_expr (pe_bm PySem.F.plainAttrs_list PySem.F.slot_list_extend PySem.F.type_list_extend mt_extend (pv 3) (pa_cons (pe_cb C_behind_length (hr.mono (by decide)) rfl (pa_cons (pe_cb C_field_value (hr.mono (by decide)) rfl (pa_cons (pv 4) pa_nil)) pa_nil)) pa_nil)))))) (pss_one (ps_ret (pv 3)))))))), ?_⟩
  show Stm K _ [some (.l ns), none, none, none, none] _ _
  refine st_then (st_set (Ev.f (EvN.ev (cv_lease_refusal ev_var)))) ?_
  have due : PyVbcnaa.readlease ns = Vbcnaa.said (Vbcnaa.readLease (Vbcnaa.bytesOf ns)) Vbcnaa.leaseSaid := rfl
  rw [due]
  refine st_guard (evt_cmp (ev_ne ev_var ev_int)) (fun h1 => ?_) (fun h1 => ?_)
  · rw [Bool.not_eq_true', decide_eq_false_iff_not] at h1
    refine st_ret (EvN.to (evn_lst (evi_cons ev_var evi_nil)) (l_eq ?_))
    cases e : Vbcnaa.readLease (Vbcnaa.bytesOf ns) with
    | error z => rfl
    | ok p =>
      rw [e] at h1
      exact absurd rfl h1
  · rw [Bool.not_eq_false', decide_eq_true_eq] at h1
    obtain ⟨bs, rfl, hb, hl1, hl2, hs, hr⟩ := M.readL_ok h1
    have hl : (Vbcnaa.ints bs).length = bs.length := M.ints_length bs
    have h10 : bs.length ≤ 10000 := by omega
    rw [M.bytesOf_ints hb, hr]
    have hml := M.mrg_len (M.rawF bs)
    have hrl := M.rawF_len bs
    have hal := M.ansL_len bs
    refine st_then (st_set (EvN.f (cv_lease_fields ev_var ⟨hs, h10⟩))) ?_
    have ea : [0] ++ M.lnums (Vbcnaa.ints bs) ++ [((((M.mrg (M.rawF bs)).map M.fI).length : Nat) : Int)] = M.ansL bs 0 := by
      rw [M.lnums_ints, List.length_map]
      rfl
    refine st_then (st_own (EvN.to (evn_cat (EvN.ev (evn_cat (EvN.ev (evn_lst (evi_cons ev_int evi_nil))) (EvN.ev (cv_lease_numbers ev_var)) (by show 1 + 9 ≤ 16777216; omega))) (EvN.ev (evn_lst (evi_cons (ev_lenll ev_var) evi_nil))) (by show 10 + 1 ≤ 16777216; omega)) (l_eq ea))) ?_
    refine st_seq (st_forll (j := 4) (fun i => [some (.l (Vbcnaa.ints bs)), none, some (.ll ((M.mrg (M.rawF bs)).map M.fI)), some (.own (M.ansL bs i)), none]) (fun _ => True) evf_var ⟨trivial, rfl, rfl, rfl, trivial⟩ (fun i z hz _ => ?_)) (fun ds1 h3 => ?_)
    · rw [List.getElem?_map] at hz
      cases hf : (M.mrg (M.rawF bs))[i]? with
      | none =>
        rw [hf] at hz
        cases hz
      | some f =>
        rw [hf] at hz
        cases hz
        have hv := M.val_room hf
        have hvl : ((M.fI f).drop 1).length = f.value.length := M.ints_length f.value
        have hi := hal i
        refine st_then (st_append (xs := M.ansL bs i) rfl (EvN.ev (cv_field_code ev_var)) (by omega)) ?_
        refine st_mono (st_extend (xs := M.ansL bs i ++ [(M.fI f).headD 0]) rfl (cv_behind_length (EvN.ev (cv_field_value ev_var)) (by omega)) (by rw [List.length_append, List.length_cons, List.length_cons, List.length_nil]; omega)) (fun y hy => hy ▸ ⟨trivial, rfl, rfl, congrArg D.own ?_, trivial⟩)
        exact M.ansL_step hf
    · obtain ⟨_, rfl⟩ := h3
      rw [← M.ansL_all bs (n := ((M.mrg (M.rawF bs)).map M.fI).length) (by rw [List.length_map]; omega)]
      exact st_retOwn
end
theorem all_mk {P : Program} {w : World} {K : PySem.W.Frag} {h : Heap} {mg : Str → Option Value} {fa : Addr} (X : K.In h) (G : h.Ns mainGlobals mg) (hfa : mg "readlease" = some (.ref fa)) {tk0 : Tok} (g0 : PySem.W.nsIn K mainGlobals "FIELDS_START" = some (some (.int (32) tk0))) {tk1 : Tok} (g1 : PySem.W.nsIn K mainGlobals "FIELDS_END" = some (some (.int (255) tk1))) {tk2 : Tok} (g2 : PySem.W.nsIn K mainGlobals "LONGEST_WRITTEN_VALUE" = some (some (.int (255) tk2))) {tk3 : Tok} (g3 : PySem.W.nsIn K mainGlobals "LONGEST_VALUE" = some (some (.int (1000) tk3))) {tk4 : Tok} (g4 : PySem.W.nsIn K mainGlobals "LONGEST_LEASE" = some (some (.int (1400) tk4))) {tk5 : Tok} (g5 : PySem.W.nsIn K mainGlobals "SHORTEST_LEASE" = some (some (.int (36) tk5)))
    {ta6 : Addr} (g6 : PySem.W.nsIn K mainGlobals "LEASE_RANGES" = some (some (.ref ta6))) {ta6_0 : Addr} {ta6_1 : Addr} {ta6_2 : Addr} {ta6_3 : Addr} {ta6_4 : Addr} {ta6_5 : Addr} {ta6_6 : Addr} {ta6_7 : Addr} {ta6_8 : Addr} {odx6 : Option Addr} {nnx6 : Nat} {slx6 : Array (Option Value)} (lx6 : K.lookup ta6 = some ⟨.type "tuple", odx6, .seq #[.ref ta6_0, .ref ta6_1, .ref ta6_2, .ref ta6_3, .ref ta6_4, .ref ta6_5, .ref ta6_6, .ref ta6_7, .ref ta6_8] nnx6, slx6⟩) {tk6_0_0 : Tok} {tk6_0_1 : Tok} {odx6_0 : Option Addr} {nnx6_0 : Nat} {slx6_0 : Array (Option Value)} (lx6_0 : K.lookup ta6_0 = some ⟨.type "tuple", odx6_0, .seq #[.int (1) tk6_0_0, .int (8) tk6_0_1] nnx6_0, slx6_0⟩) {tk6_1_0 : Tok} {tk6_1_1 : Tok} {odx6_1 : Option Addr} {nnx6_1 : Nat} {slx6_1 : Array (Option Value)} (lx6_1 : K.lookup ta6_1 = some ⟨.type "tuple", odx6_1, .seq #[.int (0) tk6_1_0, .int (16) tk6_1_1] nnx6_1, slx6_1⟩) {tk6_2_0 : Tok} {tk6_2_1 : Tok} {odx6_2 : Option Addr} {nnx6_2 : Nat} {slx6_2 : Array (Option Value)} (lx6_2 : K.lookup ta6_2 = some ⟨.type "tuple", odx6_2, .seq #[.int (0) tk6_2_0, .int (65535) tk6_2_1] nnx6_2, slx6_2⟩) {tk6_3_0 : Tok} {tk6_3_1 : Tok} {odx6_3 : Option Addr} {nnx6_3 : Nat} {slx6_3 : Array (Option Value)} (lx6_3 : K.lookup ta6_3 = some ⟨.type "tuple", odx6_3, .seq #[.int (0) tk6_3_0, .int (4294967295) tk6_3_1] nnx6_3, slx6_3⟩) {tk6_4_0 : Tok} {tk6_4_1 : Tok} {odx6_4 : Option Addr} {nnx6_4 : Nat} {slx6_4 : Array (Option Value)} (lx6_4 : K.lookup ta6_4 = some ⟨.type "tuple", odx6_4, .seq #[.int (0) tk6_4_0, .int (281474976710655) tk6_4_1] nnx6_4, slx6_4⟩) {tk6_5_0 : Tok} {tk6_5_1 : Tok} {odx6_5 : Option Addr} {nnx6_5 : Nat} {slx6_5 : Array (Option Value)} (lx6_5 : K.lookup ta6_5 = some ⟨.type "tuple", odx6_5, .seq #[.int (0) tk6_5_0, .int (4294967295) tk6_5_1] nnx6_5, slx6_5⟩) {tk6_6_0 : Tok} {tk6_6_1 : Tok} {odx6_6 : Option Addr} {nnx6_6 : Nat} {slx6_6 : Array (Option Value)} (lx6_6 : K.lookup ta6_6 = some ⟨.type "tuple", odx6_6, .seq #[.int (0) tk6_6_0, .int (4294967295) tk6_6_1] nnx6_6, slx6_6⟩) {tk6_7_0 : Tok} {tk6_7_1 : Tok} {odx6_7 : Option Addr} {nnx6_7 : Nat} {slx6_7 : Array (Option Value)} (lx6_7 : K.lookup ta6_7 = some ⟨.type "tuple", odx6_7, .seq #[.int (0) tk6_7_0, .int (4294967295) tk6_7_1] nnx6_7, slx6_7⟩) {tk6_8_0 : Tok} {tk6_8_1 : Tok} {odx6_8 : Option Addr} {nnx6_8 : Nat} {slx6_8 : Array (Option Value)} (lx6_8 : K.lookup ta6_8 = some ⟨.type "tuple", odx6_8, .seq #[.int (0) tk6_8_0, .int (4294967295) tk6_8_1] nnx6_8, slx6_8⟩) (b0 : PySem.W.nsIn K mainGlobals "len" = some none) (b1 : PySem.W.nsIn K mainGlobals "min" = some none) (b2 : PySem.W.nsIn K mainGlobals "range" = some none) (b3 : PySem.W.nsIn K mainGlobals "zip" = some none) (b4 : PySem.W.nsIn K mainGlobals "all" = some none) (b5 : PySem.W.nsIn K mainGlobals "list" = some none) (b6 : PySem.W.nsIn K mainGlobals "any" = some none)
    {f0 : Addr} {od0 an0 : Option Addr} {sl0 : Array (Option Value)} {oc0 kV0 dc0 pm0 cd0 ct0 : Value} (a0 : PySem.W.nsIn K mainGlobals "is_row_of_bytes" = some (some (.ref f0))) (l0 : K.lookup f0 = some ⟨oc0, od0, .func (PySem.W.fnOf "is_row_of_bytes" "is_row_of_bytes" (defArgs s_is_row_of_bytes) (defBody s_is_row_of_bytes) (defScope s_is_row_of_bytes) .none kV0 dc0 pm0 an0 cd0 ct0), sl0⟩) (c0 : PySem.W.codeIn K cd0 "is_row_of_bytes" = true) (k0 : PySem.W.keepIn K (.ref f0) = true)
    {f1 : Addr} {od1 an1 : Option Addr} {sl1 : Array (Option Value)} {oc1 kV1 dc1 pm1 cd1 ct1 : Value} (a1 : PySem.W.nsIn K mainGlobals "fields_end" = some (some (.ref f1))) (l1 : K.lookup f1 = some ⟨oc1, od1, .func (PySem.W.fnOf "fields_end" "fields_end" (defArgs s_fields_end) (defBody s_fields_end) (defScope s_fields_end) .none kV1 dc1 pm1 an1 cd1 ct1), sl1⟩) (c1 : PySem.W.codeIn K cd1 "fields_end" = true) (k1 : PySem.W.keepIn K (.ref f1) = true)
    {f2 : Addr} {od2 an2 : Option Addr} {sl2 : Array (Option Value)} {oc2 kV2 dc2 pm2 cd2 ct2 : Value} (a2 : PySem.W.nsIn K mainGlobals "fields_as_they_stand" = some (some (.ref f2))) (l2 : K.lookup f2 = some ⟨oc2, od2, .func (PySem.W.fnOf "fields_as_they_stand" "fields_as_they_stand" (defArgs s_fields_as_they_stand) (defBody s_fields_as_they_stand) (defScope s_fields_as_they_stand) .none kV2 dc2 pm2 an2 cd2 ct2), sl2⟩) (c2 : PySem.W.codeIn K cd2 "fields_as_they_stand" = true) (k2 : PySem.W.keepIn K (.ref f2) = true)
    {f3 : Addr} {od3 an3 : Option Addr} {sl3 : Array (Option Value)} {oc3 kV3 dc3 pm3 cd3 ct3 : Value} (a3 : PySem.W.nsIn K mainGlobals "field_code" = some (some (.ref f3))) (l3 : K.lookup f3 = some ⟨oc3, od3, .func (PySem.W.fnOf "field_code" "field_code" (defArgs s_field_code) (defBody s_field_code) (defScope s_field_code) .none kV3 dc3 pm3 an3 cd3 ct3), sl3⟩) (c3 : PySem.W.codeIn K cd3 "field_code" = true) (k3 : PySem.W.keepIn K (.ref f3) = true)
    {f4 : Addr} {od4 an4 : Option Addr} {sl4 : Array (Option Value)} {oc4 kV4 dc4 pm4 cd4 ct4 : Value} (a4 : PySem.W.nsIn K mainGlobals "field_value" = some (some (.ref f4))) (l4 : K.lookup f4 = some ⟨oc4, od4, .func (PySem.W.fnOf "field_value" "field_value" (defArgs s_field_value) (defBody s_field_value) (defScope s_field_value) .none kV4 dc4 pm4 an4 cd4 ct4), sl4⟩) (c4 : PySem.W.codeIn K cd4 "field_value" = true) (k4 : PySem.W.keepIn K (.ref f4) = true)
    {f5 : Addr} {od5 an5 : Option Addr} {sl5 : Array (Option Value)} {oc5 kV5 dc5 pm5 cd5 ct5 : Value} (a5 : PySem.W.nsIn K mainGlobals "may_follow" = some (some (.ref f5))) (l5 : K.lookup f5 = some ⟨oc5, od5, .func (PySem.W.fnOf "may_follow" "may_follow" (defArgs s_may_follow) (defBody s_may_follow) (defScope s_may_follow) .none kV5 dc5 pm5 an5 cd5 ct5), sl5⟩) (c5 : PySem.W.codeIn K cd5 "may_follow" = true) (k5 : PySem.W.keepIn K (.ref f5) = true)
    {f6 : Addr} {od6 an6 : Option Addr} {sl6 : Array (Option Value)} {oc6 kV6 dc6 pm6 cd6 ct6 : Value} (a6 : PySem.W.nsIn K mainGlobals "are_neighbours_fitting" = some (some (.ref f6))) (l6 : K.lookup f6 = some ⟨oc6, od6, .func (PySem.W.fnOf "are_neighbours_fitting" "are_neighbours_fitting" (defArgs s_are_neighbours_fitting) (defBody s_are_neighbours_fitting) (defScope s_are_neighbours_fitting) .none kV6 dc6 pm6 an6 cd6 ct6), sl6⟩) (c6 : PySem.W.codeIn K cd6 "are_neighbours_fitting" = true) (k6 : PySem.W.keepIn K (.ref f6) = true)
    {f7 : Addr} {od7 an7 : Option Addr} {sl7 : Array (Option Value)} {oc7 kV7 dc7 pm7 cd7 ct7 : Value} (a7 : PySem.W.nsIn K mainGlobals "number_at" = some (some (.ref f7))) (l7 : K.lookup f7 = some ⟨oc7, od7, .func (PySem.W.fnOf "number_at" "number_at" (defArgs s_number_at) (defBody s_number_at) (defScope s_number_at) .none kV7 dc7 pm7 an7 cd7 ct7), sl7⟩) (c7 : PySem.W.codeIn K cd7 "number_at" = true) (k7 : PySem.W.keepIn K (.ref f7) = true)
    {f8 : Addr} {od8 an8 : Option Addr} {sl8 : Array (Option Value)} {oc8 kV8 dc8 pm8 cd8 ct8 : Value} (a8 : PySem.W.nsIn K mainGlobals "is_within" = some (some (.ref f8))) (l8 : K.lookup f8 = some ⟨oc8, od8, .func (PySem.W.fnOf "is_within" "is_within" (defArgs s_is_within) (defBody s_is_within) (defScope s_is_within) .none kV8 dc8 pm8 an8 cd8 ct8), sl8⟩) (c8 : PySem.W.codeIn K cd8 "is_within" = true) (k8 : PySem.W.keepIn K (.ref f8) = true)
    {f9 : Addr} {od9 an9 : Option Addr} {sl9 : Array (Option Value)} {oc9 kV9 dc9 pm9 cd9 ct9 : Value} (a9 : PySem.W.nsIn K mainGlobals "are_within" = some (some (.ref f9))) (l9 : K.lookup f9 = some ⟨oc9, od9, .func (PySem.W.fnOf "are_within" "are_within" (defArgs s_are_within) (defBody s_are_within) (defScope s_are_within) .none kV9 dc9 pm9 an9 cd9 ct9), sl9⟩) (c9 : PySem.W.codeIn K cd9 "are_within" = true) (k9 : PySem.W.keepIn K (.ref f9) = true)
    {f10 : Addr} {od10 an10 : Option Addr} {sl10 : Array (Option Value)} {oc10 kV10 dc10 pm10 cd10 ct10 : Value} (a10 : PySem.W.nsIn K mainGlobals "lease_numbers" = some (some (.ref f10))) (l10 : K.lookup f10 = some ⟨oc10, od10, .func (PySem.W.fnOf "lease_numbers" "lease_numbers" (defArgs s_lease_numbers) (defBody s_lease_numbers) (defScope s_lease_numbers) .none kV10 dc10 pm10 an10 cd10 ct10), sl10⟩) (c10 : PySem.W.codeIn K cd10 "lease_numbers" = true) (k10 : PySem.W.keepIn K (.ref f10) = true)
    {f11 : Addr} {od11 an11 : Option Addr} {sl11 : Array (Option Value)} {oc11 kV11 dc11 pm11 cd11 ct11 : Value} (a11 : PySem.W.nsIn K mainGlobals "are_values" = some (some (.ref f11))) (l11 : K.lookup f11 = some ⟨oc11, od11, .func (PySem.W.fnOf "are_values" "are_values" (defArgs s_are_values) (defBody s_are_values) (defScope s_are_values) .none kV11 dc11 pm11 an11 cd11 ct11), sl11⟩) (c11 : PySem.W.codeIn K cd11 "are_values" = true) (k11 : PySem.W.keepIn K (.ref f11) = true)
    {f12 : Addr} {od12 an12 : Option Addr} {sl12 : Array (Option Value)} {oc12 kV12 dc12 pm12 cd12 ct12 : Value} (a12 : PySem.W.nsIn K mainGlobals "lease_fields" = some (some (.ref f12))) (l12 : K.lookup f12 = some ⟨oc12, od12, .func (PySem.W.fnOf "lease_fields" "lease_fields" (defArgs s_lease_fields) (defBody s_lease_fields) (defScope s_lease_fields) .none kV12 dc12 pm12 an12 cd12 ct12), sl12⟩) (c12 : PySem.W.codeIn K cd12 "lease_fields" = true) (k12 : PySem.W.keepIn K (.ref f12) = true)
    {f13 : Addr} {od13 an13 : Option Addr} {sl13 : Array (Option Value)} {oc13 kV13 dc13 pm13 cd13 ct13 : Value} (a13 : PySem.W.nsIn K mainGlobals "lease_refusal" = some (some (.ref f13))) (l13 : K.lookup f13 = some ⟨oc13, od13, .func (PySem.W.fnOf "lease_refusal" "lease_refusal" (defArgs s_lease_refusal) (defBody s_lease_refusal) (defScope s_lease_refusal) .none kV13 dc13 pm13 an13 cd13 ct13), sl13⟩) (c13 : PySem.W.codeIn K cd13 "lease_refusal" = true) (k13 : PySem.W.keepIn K (.ref f13) = true)
    {f14 : Addr} {od14 an14 : Option Addr} {sl14 : Array (Option Value)} {oc14 kV14 dc14 pm14 cd14 ct14 : Value} (a14 : PySem.W.nsIn K mainGlobals "behind_length" = some (some (.ref f14))) (l14 : K.lookup f14 = some ⟨oc14, od14, .func (PySem.W.fnOf "behind_length" "behind_length" (defArgs s_behind_length) (defBody s_behind_length) (defScope s_behind_length) .none kV14 dc14 pm14 an14 cd14 ct14), sl14⟩) (c14 : PySem.W.codeIn K cd14 "behind_length" = true) (k14 : PySem.W.keepIn K (.ref f14) = true)
    {f15 : Addr} {od15 an15 : Option Addr} {sl15 : Array (Option Value)} {oc15 kV15 dc15 pm15 cd15 ct15 : Value} (a15 : PySem.W.nsIn K mainGlobals "readlease" = some (some (.ref f15))) (l15 : K.lookup f15 = some ⟨oc15, od15, .func (PySem.W.fnOf "readlease" "readlease" (defArgs s_readlease) (defBody s_readlease) (defScope s_readlease) .none kV15 dc15 pm15 an15 cd15 ct15), sl15⟩) (c15 : PySem.W.codeIn K cd15 "readlease" = true) (k15 : PySem.W.keepIn K (.ref f15) = true) :
    ∃ fd : FuncData, (∀ (s : Shared) (us : List Value), us.length = (["b"] : List Str).length → BindsTo s fd ⟨us, []⟩ ((["b"] : List Str).zip us)) ∧ ∀ base : Heap, K.In base → base.Ns mainGlobals mg → FnOk P w K mg base CX0 5 fa fd ["b"] (spF K f_readlease) := by
  have e : f15 = fa := Value.ref.inj (Option.some.inj ((PySem.W.mg_of X G a15).symm.trans hfa))
  subst e
  have T : Txt K mg := ⟨trivial, ⟨.int (32), _, PySem.W.mg_of X G g0, ⟨_, rfl⟩, fun _ => rfl⟩, ⟨.int (255), _, PySem.W.mg_of X G g1, ⟨_, rfl⟩, fun _ => rfl⟩, ⟨.int (255), _, PySem.W.mg_of X G g2, ⟨_, rfl⟩, fun _ => rfl⟩, ⟨.int (1000), _, PySem.W.mg_of X G g3, ⟨_, rfl⟩, fun _ => rfl⟩, ⟨.int (1400), _, PySem.W.mg_of X G g4, ⟨_, rfl⟩, fun _ => rfl⟩, ⟨.int (36), _, PySem.W.mg_of X G g5, ⟨_, rfl⟩, fun _ => rfl⟩, ⟨.ref ta6, _, PySem.W.mg_of X G g6, rfl, fun _ => ⟨ta6, [.ref ta6_0, .ref ta6_1, .ref ta6_2, .ref ta6_3, .ref ta6_4, .ref ta6_5, .ref ta6_6, .ref ta6_7, .ref ta6_8], rfl, .inr ⟨_, _, _, lx6, rfl, rfl, by show 9 ≤ sizeLine; decide, (.cons rfl (.cons rfl (.cons rfl (.cons rfl (.cons rfl (.cons rfl (.cons rfl (.cons rfl (.cons rfl .nil)))))))))⟩, (.cons ⟨ta6_0, rfl, .inr ⟨_, _, _, lx6_0, rfl, rfl, by show 2 ≤ sizeLine; decide, (.cons ⟨_, rfl⟩ (.cons ⟨_, rfl⟩ .nil))⟩⟩ (.cons ⟨ta6_1, rfl, .inr ⟨_, _, _, lx6_1, rfl, rfl, by show 2 ≤ sizeLine; decide, (.cons ⟨_, rfl⟩ (.cons ⟨_, rfl⟩ .nil))⟩⟩ (.cons ⟨ta6_2, rfl, .inr ⟨_, _, _, lx6_2, rfl, rfl, by show 2 ≤ sizeLine; decide, (.cons ⟨_, rfl⟩ (.cons ⟨_, rfl⟩ .nil))⟩⟩ (.cons ⟨ta6_3, rfl, .inr ⟨_, _, _, lx6_3, rfl, rfl, by show 2 ≤ sizeLine; decide, (.cons ⟨_, rfl⟩ (.cons ⟨_, rfl⟩ .nil))⟩⟩ (.cons ⟨ta6_4, rfl, .inr ⟨_, _, _, lx6_4, rfl, rfl, by show 2 ≤ sizeLine; decide, (.cons ⟨_, rfl⟩ (.cons ⟨_, rfl⟩ .nil))⟩⟩ (.cons ⟨ta6_5, rfl, .inr ⟨_, _, _, lx6_5, rfl, rfl, by show 2 ≤ sizeLine; decide, (.cons ⟨_, rfl⟩ (.cons ⟨_, rfl⟩ .nil))⟩⟩ (.cons ⟨ta6_6, rfl, .inr ⟨_, _, _, lx6_6, rfl, rfl, by show 2 ≤ sizeLine; decide, (.cons ⟨_, rfl⟩ (.cons ⟨_, rfl⟩ .nil))⟩⟩ (.cons ⟨ta6_7, rfl, .inr ⟨_, _, _, lx6_7, rfl, rfl, by show 2 ≤ sizeLine; decide, (.cons ⟨_, rfl⟩ (.cons ⟨_, rfl⟩ .nil))⟩⟩ (.cons ⟨ta6_8, rfl, .inr ⟨_, _, _, lx6_8, rfl, rfl, by show 2 ≤ sizeLine; decide, (.cons ⟨_, rfl⟩ (.cons ⟨_, rfl⟩ .nil))⟩⟩ .nil)))))))))⟩⟩, PySem.W.mg_none_of X G b0, PySem.W.mg_none_of X G b1, PySem.W.mg_none_of X G b2, PySem.W.mg_none_of X G b3, PySem.W.mg_none_of X G b4, PySem.W.mg_none_of X G b5, PySem.W.mg_none_of X G b6⟩
  have F0 := fun_mk (st := s_is_row_of_bytes) l0 c0 k0
  have bb0 := F0.binds (ps := ["b", "shortest", "longest"]) fun _ _ _ _ _ _ us hl => match us, hl with | [_, _, _], _ => rfl
  have I0 : FnI K mg "is_row_of_bytes" s_is_row_of_bytes ["b", "shortest", "longest"] f0 _ := ⟨F0, bb0, PySem.W.mg_of X G a0⟩
  have F1 := fun_mk (st := s_fields_end) l1 c1 k1
  have bb1 := F1.binds (ps := ["b"]) fun _ _ _ _ _ _ us hl => match us, hl with | [_], _ => rfl
  have I1 : FnI K mg "fields_end" s_fields_end ["b"] f1 _ := ⟨F1, bb1, PySem.W.mg_of X G a1⟩
  have F2 := fun_mk (st := s_fields_as_they_stand) l2 c2 k2
  have bb2 := F2.binds (ps := ["b"]) fun _ _ _ _ _ _ us hl => match us, hl with | [_], _ => rfl
  have I2 : FnI K mg "fields_as_they_stand" s_fields_as_they_stand ["b"] f2 _ := ⟨F2, bb2, PySem.W.mg_of X G a2⟩
  have F3 := fun_mk (st := s_field_code) l3 c3 k3
  have bb3 := F3.binds (ps := ["field"]) fun _ _ _ _ _ _ us hl => match us, hl with | [_], _ => rfl
  have I3 : FnI K mg "field_code" s_field_code ["field"] f3 _ := ⟨F3, bb3, PySem.W.mg_of X G a3⟩
  have F4 := fun_mk (st := s_field_value) l4 c4 k4
  have bb4 := F4.binds (ps := ["field"]) fun _ _ _ _ _ _ us hl => match us, hl with | [_], _ => rfl
  have I4 : FnI K mg "field_value" s_field_value ["field"] f4 _ := ⟨F4, bb4, PySem.W.mg_of X G a4⟩
  have F5 := fun_mk (st := s_may_follow) l5 c5 k5
  have bb5 := F5.binds (ps := ["field", "before"]) fun _ _ _ _ _ _ us hl => match us, hl with | [_, _], _ => rfl
  have I5 : FnI K mg "may_follow" s_may_follow ["field", "before"] f5 _ := ⟨F5, bb5, PySem.W.mg_of X G a5⟩
  have F6 := fun_mk (st := s_are_neighbours_fitting) l6 c6 k6
  have bb6 := F6.binds (ps := ["fields"]) fun _ _ _ _ _ _ us hl => match us, hl with | [_], _ => rfl
  have I6 : FnI K mg "are_neighbours_fitting" s_are_neighbours_fitting ["fields"] f6 _ := ⟨F6, bb6, PySem.W.mg_of X G a6⟩
  have F7 := fun_mk (st := s_number_at) l7 c7 k7
  have bb7 := F7.binds (ps := ["b", "place", "count"]) fun _ _ _ _ _ _ us hl => match us, hl with | [_, _, _], _ => rfl
  have I7 : FnI K mg "number_at" s_number_at ["b", "place", "count"] f7 _ := ⟨F7, bb7, PySem.W.mg_of X G a7⟩
  have F8 := fun_mk (st := s_is_within) l8 c8 k8
  have bb8 := F8.binds (ps := ["number", "bounds"]) fun _ _ _ _ _ _ us hl => match us, hl with | [_, _], _ => rfl
  have I8 : FnI K mg "is_within" s_is_within ["number", "bounds"] f8 _ := ⟨F8, bb8, PySem.W.mg_of X G a8⟩
  have F9 := fun_mk (st := s_are_within) l9 c9 k9
  have bb9 := F9.binds (ps := ["numbers", "ranges"]) fun _ _ _ _ _ _ us hl => match us, hl with | [_, _], _ => rfl
  have I9 : FnI K mg "are_within" s_are_within ["numbers", "ranges"] f9 _ := ⟨F9, bb9, PySem.W.mg_of X G a9⟩
  have F10 := fun_mk (st := s_lease_numbers) l10 c10 k10
  have bb10 := F10.binds (ps := ["b"]) fun _ _ _ _ _ _ us hl => match us, hl with | [_], _ => rfl
  have I10 : FnI K mg "lease_numbers" s_lease_numbers ["b"] f10 _ := ⟨F10, bb10, PySem.W.mg_of X G a10⟩
  have F11 := fun_mk (st := s_are_values) l11 c11 k11
  have bb11 := F11.binds (ps := ["fields"]) fun _ _ _ _ _ _ us hl => match us, hl with | [_], _ => rfl
  have I11 : FnI K mg "are_values" s_are_values ["fields"] f11 _ := ⟨F11, bb11, PySem.W.mg_of X G a11⟩
  have F12 := fun_mk (st := s_lease_fields) l12 c12 k12
  have bb12 := F12.binds (ps := ["b"]) fun _ _ _ _ _ _ us hl => match us, hl with | [_], _ => rfl
  have I12 : FnI K mg "lease_fields" s_lease_fields ["b"] f12 _ := ⟨F12, bb12, PySem.W.mg_of X G a12⟩
  have F13 := fun_mk (st := s_lease_refusal) l13 c13 k13
  have bb13 := F13.binds (ps := ["b"]) fun _ _ _ _ _ _ us hl => match us, hl with | [_], _ => rfl
  have I13 : FnI K mg "lease_refusal" s_lease_refusal ["b"] f13 _ := ⟨F13, bb13, PySem.W.mg_of X G a13⟩
  have F14 := fun_mk (st := s_behind_length) l14 c14 k14
  have bb14 := F14.binds (ps := ["row"]) fun _ _ _ _ _ _ us hl => match us, hl with | [_], _ => rfl
  have I14 : FnI K mg "behind_length" s_behind_length ["row"] f14 _ := ⟨F14, bb14, PySem.W.mg_of X G a14⟩
  have F15 := fun_mk (st := s_readlease) l15 c15 k15
  have bb15 := F15.binds (ps := ["b"]) fun _ _ _ _ _ _ us hl => match us, hl with | [_], _ => rfl
  have I15 : FnI K mg "readlease" s_readlease ["b"] f15 _ := ⟨F15, bb15, PySem.W.mg_of X G a15⟩
  refine ⟨_, bindsTo F15 fun _ _ _ _ _ _ us hl => match us, hl with | [_], _ => rfl, fun base kb nb => ?_⟩
  have C0 : Cb P w K mg base 1 "is_row_of_bytes" ["b", "shortest", "longest"] (spF K f_is_row_of_bytes) := I0.cb (ok_is_row_of_bytes F0 T )
  have C1 : Cb P w K mg base 1 "fields_end" ["b"] (spF K f_fields_end) := I1.cb (ok_fields_end F1 T )
  have C2 : Cb P w K mg base 1 "fields_as_they_stand" ["b"] (spF K f_fields_as_they_stand) := I2.cb (ok_fields_as_they_stand F2 T )
  have C3 : Cb P w K mg base 1 "field_code" ["field"] (spF K f_field_code) := I3.cb (ok_field_code F3 T )
  have C4 : Cb P w K mg base 1 "field_value" ["field"] (spF K f_field_value) := I4.cb (ok_field_value F4 T )
  have C5 : Cb P w K mg base 2 "may_follow" ["field", "before"] (spF K f_may_follow) := I5.cb (ok_may_follow F5 T C3 C4)
  have C6 : Cb P w K mg base 3 "are_neighbours_fitting" ["fields"] (spF K f_are_neighbours_fitting) := I6.cb (ok_are_neighbours_fitting F6 T C5)
  have C7 : Cb P w K mg base 1 "number_at" ["b", "place", "count"] (spF K f_number_at) := I7.cb (ok_number_at F7 T )
  have C8 : Cb P w K mg base 1 "is_within" ["number", "bounds"] (spF K f_is_within) := I8.cb (ok_is_within F8 T )
  have C9 : Cb P w K mg base 2 "are_within" ["numbers", "ranges"] (spF K f_are_within) := I9.cb (ok_are_within F9 T C8)
  have C10 : Cb P w K mg base 2 "lease_numbers" ["b"] (spF K f_lease_numbers) := I10.cb (ok_lease_numbers F10 T C7)
  have C11 : Cb P w K mg base 2 "are_values" ["fields"] (spF K f_are_values) := I11.cb (ok_are_values F11 T C0 C4)
  have C12 : Cb P w K mg base 2 "lease_fields" ["b"] (spF K f_lease_fields) := I12.cb (ok_lease_fields F12 T C2 C3 C4)
  have C13 : Cb P w K mg base 4 "lease_refusal" ["b"] (spF K f_lease_refusal) := I13.cb (ok_lease_refusal F13 T C0 C1 C2 C6 C7 C9 C10 C11 C12)
  have C14 : Cb P w K mg base 1 "behind_length" ["row"] (spF K f_behind_length) := I14.cb (ok_behind_length F14 T )
  exact ok_readlease F15 T C13 C12 C10 C3 C14 C4
end Q
open PySem PySem.W PyProof.Rows
set_option maxRecDepth 100000 in
set_option maxHeartbeats 0 in
theorem PySem.Challenge.cw_campuswires_s14_readlease_holds : PySem.Challenge.rw_campuswires_s14_readlease.Holds := by
  w_on; k_headS; (case hw => exact ⟨[.list []], by decide +kernel, by decide +kernel⟩)
  k_fillS
  refine L2.walk_specK (r := PySem.Challenge.rw_campuswires_s14_readlease) (k := 5) (CX := L2.CX0) (ps := ["b"]) (sp := fun K => E.spF K Q.f_readlease) (by decide +kernel) rfl rfl ⟨rfl, by decide, by decide⟩ (fun w h Y => PySem.W.kIn_of Y) ?F ?S (fun _ _ _ _ z => z)
  case F =>
    intro w mg fa h Y KX G hmg
    refine' Q.all_mk KX G hmg ?zzg0 ?zzg1 ?zzg2 ?zzg3 ?zzg4 ?zzg5 ?zzg6 ?zzlx6 ?zzlx6_0 ?zzlx6_1 ?zzlx6_2 ?zzlx6_3 ?zzlx6_4 ?zzlx6_5 ?zzlx6_6 ?zzlx6_7 ?zzlx6_8 ?zzb0 ?zzb1 ?zzb2 ?zzb3 ?zzb4 ?zzb5 ?zzb6 ?zza0 ?zzl0 ?zzc0 ?zzk0 ?zza1 ?zzl1 ?zzc1 ?zzk1 ?zza2 ?zzl2 ?zzc2 ?zzk2 ?zza3 ?zzl3 ?zzc3 ?zzk3 ?zza4 ?zzl4 ?zzc4 ?zzk4 ?zza5 ?zzl5 ?zzc5 ?zzk5 ?zza6 ?zzl6 ?zzc6 ?zzk6 ?zza7 ?zzl7 ?zzc7 ?zzk7 ?zza8 ?zzl8 ?zzc8 ?zzk8 ?zza9 ?zzl9 ?zzc9 ?zzk9 ?zza10 ?zzl10 ?zzc10 ?zzk10 ?zza11 ?zzl11 ?zzc11 ?zzk11 ?zza12 ?zzl12 ?zzc12 ?zzk12 ?zza13 ?zzl13 ?zzc13 ?zzk13 ?zza14 ?zzl14 ?zzc14 ?zzk14 ?zza15 ?zzl15 ?zzc15 ?zzk15
    (case zzg0 => k_is)
    (case zzg1 => k_is)
    (case zzg2 => k_is)
    (case zzg3 => k_is)
    (case zzg4 => k_is)
    (case zzg5 => k_is)
    (case zzg6 => k_is)
    (case zzlx6 => k_is)
    (case zzlx6_0 => k_is)
    (case zzlx6_1 => k_is)
    (case zzlx6_2 => k_is)
    (case zzlx6_3 => k_is)
    (case zzlx6_4 => k_is)
    (case zzlx6_5 => k_is)
    (case zzlx6_6 => k_is)
    (case zzlx6_7 => k_is)
    (case zzlx6_8 => k_is)
    (case zzb0 => k_is)
    (case zzb1 => k_is)
    (case zzb2 => k_is)
    (case zzb3 => k_is)
    (case zzb4 => k_is)
    (case zzb5 => k_is)
    (case zzb6 => k_is)
    (case zza0 => k_is)
    (case zzl0 => k_is)
    (case zzc0 => k_is)
    (case zzk0 => k_is)
    (case zza1 => k_is)
    (case zzl1 => k_is)
    (case zzc1 => k_is)
    (case zzk1 => k_is)
    (case zza2 => k_is)
    (case zzl2 => k_is)
    (case zzc2 => k_is)
    (case zzk2 => k_is)
    (case zza3 => k_is)
    (case zzl3 => k_is)
    (case zzc3 => k_is)
    (case zzk3 => k_is)
    (case zza4 => k_is)
    (case zzl4 => k_is)
    (case zzc4 => k_is)
    (case zzk4 => k_is)
    (case zza5 => k_is)
    (case zzl5 => k_is)
    (case zzc5 => k_is)
    (case zzk5 => k_is)
    (case zza6 => k_is)
    (case zzl6 => k_is)
    (case zzc6 => k_is)
    (case zzk6 => k_is)
    (case zza7 => k_is)
    (case zzl7 => k_is)
    (case zzc7 => k_is)
    (case zzk7 => k_is)
    (case zza8 => k_is)
    (case zzl8 => k_is)
    (case zzc8 => k_is)
    (case zzk8 => k_is)
    (case zza9 => k_is)
    (case zzl9 => k_is)
    (case zzc9 => k_is)
    (case zzk9 => k_is)
    (case zza10 => k_is)
    (case zzl10 => k_is)
    (case zzc10 => k_is)
    (case zzk10 => k_is)
    (case zza11 => k_is)
    (case zzl11 => k_is)
    (case zzc11 => k_is)
    (case zzk11 => k_is)
    (case zza12 => k_is)
    (case zzl12 => k_is)
    (case zzc12 => k_is)
    (case zzk12 => k_is)
    (case zza13 => k_is)
    (case zzl13 => k_is)
    (case zzc13 => k_is)
    (case zzk13 => k_is)
    (case zza14 => k_is)
    (case zzl14 => k_is)
    (case zzc14 => k_is)
    (case zzk14 => k_is)
    (case zza15 => k_is)
    (case zzl15 => k_is)
    (case zzc15 => k_is)
    (case zzk15 => k_is)
  case S =>
    intro K H xs a hO hwi hask hx
    cases hx with | cons h0 hx =>
    cases h0 with | lst hs0 ha0 =>
    have e0 := L2.ints_dw a.1 _ ha0
    subst e0
    cases hx
    refine ⟨[E.D.l a.1], _, (.cons ⟨_, rfl, hs0⟩ .nil), ⟨a.1, rfl, rfl⟩, fun v H' _ n => ?_⟩
    obtain ⟨p, rfl, _, hp⟩ := n
    exact .lst (L2.SqL.of hp) (L2.dw_ints _)
#print axioms PySem.Challenge.cw_campuswires_s14_readlease_holds

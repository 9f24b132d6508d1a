import PyProof.Rows.All
import Wide.All
import OpenK.AllK
import Wide.FinOn
import PyProof.EqAt
import PyProof.EqKinds
import PyProof.TupleCall
import KE.BitLaws
import Open.SpecLaws
import KE.OsHead
import KE.OsGo
import PySem.Challenge.RW_drivesfair_s01_answers
set_option Elab.async false
set_option linter.all false
set_option maxRecDepth 100000
namespace L2
open PySem PySem.Spec PyProof.Rows
abbrev Key := Sum Int Str
def keyIs : Key → Value → Bool
  | .inl k, v => Value.isInt k v
  | .inr x, v => Value.isStrOf x v
def keyH (w : World) : Key → Int
  | .inl k => hashInt k
  | .inr x => hashStr w x
theorem keyIs_shape : ∀ {k : Key} {v : Value}, keyIs k v = true → (∃ i t, k = Sum.inl i ∧ v = Value.int i t) ∨ (∃ x t, k = Sum.inr x ∧ v = Value.str x t)
  | .inl i, v, h => by
    obtain ⟨t, e⟩ := Value.isInt_shape (k := i) (v := v) h
    exact .inl ⟨i, t, rfl, e⟩
  | .inr x, v, h => by
    obtain ⟨t, e⟩ := Value.isStrOf_shape (x := x) (v := v) h
    exact .inr ⟨x, t, rfl, e⟩
theorem key_ll (a b : Int) : decide ((Sum.inl a : Key) = Sum.inl b) = (a == b) := by
  by_cases e : a = b
  · subst e; simp
  · have h : ¬ (Sum.inl a : Key) = Sum.inl b := fun q => e (Sum.inl.inj q)
    rw [decide_eq_false h]
    exact (beq_eq_false_iff_ne.mpr e).symm
theorem key_rr (a b : Str) : decide ((Sum.inr a : Key) = Sum.inr b) = decide (a = b) := by
  by_cases e : a = b
  · subst e; simp
  · have h : ¬ (Sum.inr a : Key) = Sum.inr b := fun q => e (Sum.inr.inj q)
    rw [decide_eq_false h, decide_eq_false e]
theorem key_lr (a : Int) (b : Str) : decide ((Sum.inl a : Key) = Sum.inr b) = false := decide_eq_false (fun q => nomatch q)
theorem key_rl (a : Str) (b : Int) : decide ((Sum.inr a : Key) = Sum.inl b) = false := decide_eq_false (fun q => nomatch q)
def mixKind (prog : Program) (w : World) : PySem.KeyKind prog w Key where
  is := keyIs
  hash := keyH w
  inj := fun v a b ha hb => by
    rcases keyIs_shape ha with ⟨i, t, rfl, rfl⟩ | ⟨x, t, rfl, rfl⟩
    · rcases keyIs_shape hb with ⟨j, u, rfl, e⟩ | ⟨y, u, rfl, e⟩
      · injection e with e1 _; rw [e1]
      · exact nomatch e
    · rcases keyIs_shape hb with ⟨j, u, rfl, e⟩ | ⟨y, u, rfl, e⟩
      · exact nomatch e
      · injection e with e1 _; rw [e1]
  byValue := fun k v h => by
    rcases keyIs_shape h with ⟨i, t, rfl, rfl⟩ | ⟨x, t, rfl, rfl⟩ <;> rfl
  pyHash := fun hv h => by
    rcases keyIs_shape hv with ⟨i, t, rfl, rfl⟩ | ⟨x, t, rfl, rfl⟩
    · exact wpAny_pyHash_int h
    · exact wpAny_pyHash_str h
  eqBool := fun hu hv h => by
    rcases keyIs_shape hu with ⟨i, t, rfl, rfl⟩ | ⟨x, t, rfl, rfl⟩
    · rcases keyIs_shape hv with ⟨j, u, rfl, rfl⟩ | ⟨y, u, rfl, rfl⟩
      · rw [key_ll] at h; exact wpAny_eqBool_int h
      · rw [key_lr] at h; exact SeqAt.EqAt.int_str i t y u _ _ _ _ h
    · rcases keyIs_shape hv with ⟨j, u, rfl, rfl⟩ | ⟨y, u, rfl, rfl⟩
      · rw [key_rl] at h; exact SeqAt.EqAt.str_int x t j u _ _ _ _ h
      · rw [key_rr] at h; exact wpAny_eqBool_str h
  «strs» := fun k x t v h => by
    rcases keyIs_shape h with ⟨i, u, rfl, e⟩ | ⟨y, u, rfl, e⟩
    · exact nomatch e
    · injection e with e1 _
      subst e1
      cases v <;> rfl
end L2
namespace L2
open PySem PySem.Spec PyProof.Rows
inductive V where
  | non | bl (b : Bool) | int (i : Int) | str (x : Str) | byt (b : Array UInt8) | flt (b : UInt64) | ref (a : Addr) | ty (n : String)
  deriving DecidableEq
def RelV : V → Value → Prop
  | .non, u => u = Value.none
  | .bl b, u => u = Value.bool b
  | .int i, u => ∃ t, u = Value.int i t
  | .str x, u => ∃ t, u = Value.str x t
  | .byt b, u => ∃ t, u = Value.bytes b t
  | .flt b, u => ∃ t, u = Value.float b t
  | .ref a, u => u = Value.ref a
  | .ty n, u => u = Value.type n
abbrev Vals : List V → List Value → Prop := Paired RelV
theorem Vals.length {xs : List V} {us : List Value} (r : Vals xs us) : xs.length = us.length := Paired.length r
theorem Vals.get : ∀ {xs : List V} {us : List Value} {i : Nat} {x : V}, Vals xs us → xs[i]? = some x → ∃ u, us[i]? = some u ∧ RelV x u
  | _, _, _, _, .nil, e => by simp at e
  | _, _, 0, _, .cons r _, e => by simp at e; subst e; exact ⟨_, rfl, r⟩
  | _, _, i + 1, x, .cons _ t, e => by
    obtain ⟨u, h1, h2⟩ := Vals.get (i := i) (x := x) t (by simpa using e)
    exact ⟨u, by simpa using h1, h2⟩
theorem Vals.set {x : V} {u : Value} (r : RelV x u) : ∀ {xs : List V} {us : List Value} (i : Nat), Vals xs us → Vals (xs.set i x) (us.set i u)
  | _, _, _, .nil => .nil
  | _, _, 0, .cons _ t => .cons r t
  | _, _, i + 1, .cons q t => .cons q (Vals.set r i t)
theorem Vals.append : ∀ {xs ys : List V} {us ws : List Value}, Vals xs us → Vals ys ws → Vals (xs ++ ys) (us ++ ws)
  | _, _, _, _, .nil, s => s
  | _, _, _, _, .cons r t, s => .cons r (Vals.append t s)
theorem Vals.take : ∀ {xs : List V} {us : List Value} (n : Nat), Vals xs us → Vals (xs.take n) (us.take n)
  | _, _, 0, _ => .nil
  | _, _, _ + 1, .nil => .nil
  | _, _, n + 1, .cons r t => .cons r (Vals.take n t)
theorem Vals.drop : ∀ {xs : List V} {us : List Value} (n : Nat), Vals xs us → Vals (xs.drop n) (us.drop n)
  | _, _, 0, r => r
  | _, _, _ + 1, .nil => .nil
  | _, _, n + 1, .cons _ t => Vals.drop n t
def RelO : Option V → Option Value → Prop
  | some v, some u => RelV v u
  | none, none => True
  | _, _ => False
def KV {κ : Type} : List (κ × V) → List (κ × Value) → Prop := Paired fun (p : κ × V) (q : κ × Value) => p.1 = q.1 ∧ RelV p.2 q.2
def kV : Key → V
  | .inl i => .int i
  | .inr x => .str x
inductive HO where
  /-- a list -/
  | lst (xs : List V)
  /-- a tuple (never changes) -/
  | tup (xs : List V)
  /-- a dict whose keys are ints and texts; one whose keys are tuples of ints and texts (the empty one is both) -/
  | dK (kvs : List (Key × V)) | dT (kvs : List (List Key × V))
  /-- a set of ints: its members, its size -/
  | set (S : Int → Bool) (n : Nat)
  /-- an instance of the class at C, its dict at dx, its attributes -/
  | ins (C dx : Addr) (fs : List (Str × V))
  /-- the dict of the instance at x -/
  | own (x : Addr)
  /-- the dict of an exception -/
  | xd (fs : List (Str × V))
  /-- a bound method, f of x -/
  | met (f x : Addr)
  /-- a range object lo, lo + 1, .. below hi -/
  | rng (lo hi : Int)
  /-- a thing that is known to the object (the script; a dict while a loop walks it): read, never written while it is so -/
  | frz (o : Obj) (u : HO)
  /-- a code object's table -/
  | tbl (ps : Array Value)
  /-- any other thing, by what is true of its one object (a def of one's own: SetO a S n := HO.ext fun h => ..) -/
  | ext (φ : Heap → Prop)
abbrev Hp := Addr → Option HO
def upd (H : Hp) (a : Addr) (o : HO) : Hp := fun b => if b = a then some o else H b
theorem upd_same {H : Hp} {a : Addr} {o : HO} : upd H a o a = some o := by unfold upd; rw [if_pos rfl]
theorem upd_ne {H : Hp} {a b : Addr} {o : HO} (h : b ≠ a) : upd H a o b = H b := by unfold upd; rw [if_neg h]
theorem upd_upd {H : Hp} {a : Addr} {o u : HO} : upd (upd H a o) a u = upd H a u := by
  funext b; unfold upd; split <;> rfl
theorem ne_of {H : Hp} {a b : Addr} {o u : HO} (h : H a = some o) (h' : H b = some u) (d : o ≠ u) : a ≠ b := by
  intro e; subst e; rw [h] at h'; exact d (Option.some.inj h')
theorem ne_of_none {H : Hp} {a b : Addr} {o : HO} (h : H a = some o) (h' : H b = none) : a ≠ b := by
  intro e; subst e; rw [h] at h'; cases h'
section
variable (P : Program) (w : World)
def ObjOk (H : Hp) (h : Heap) (a : Addr) : HO → Prop
  | .lst xs => xs.length ≤ sizeLine ∧ ∃ (its : List Value) (n : Nat), Vals xs its ∧ h.get? a = some { cls := .type "list", data := .seq its.toArray n }
  | .tup xs => xs.length ≤ sizeLine ∧ ∃ its : List Value, Vals xs its ∧ IsTup h a its.toArray
  | .dK kvs => kvs.length ≤ sizeLine ∧ (a == sysModules) = false ∧ ∃ vs, KV kvs vs ∧ h.DictOf (mixKind P w) a vs
  | .dT kvs => kvs.length ≤ sizeLine ∧ (a == sysModules) = false ∧ ∃ xs : List (List Key × Addr × Value),
      Paired (fun (p : List Key × V) (q : List Key × Addr × Value) => p.1 = q.1 ∧ H q.2.1 = some (.tup (p.1.map kV)) ∧ RelV p.2 q.2.2) kvs xs ∧
      ∃ o es ep, h.get? a = some o ∧ o.ExactDict ∧ o.data = .dict es ep ∧ es.toList = xs.map (entryOfKey (tupleKind (mixKind P w))) ∧ (xs.map (·.1)).Nodup
  | .set S n => h.SetOf (intKind P w) a S n
  | .ins C dx fs => H dx = some (.own a) ∧ fs.length ≤ 1000 ∧ dx ≠ a ∧ h.get? a = some (PySem.W.instObj C dx) ∧
      ∃ mA, h.Ns1 dx mA ∧ (∀ f, RelO (fs.lookup f) (mA f)) ∧ PySem.Within mA (fs.map (·.1))
  | .own _ => ∃ o, h.get? a = some o
  | .xd fs => ∃ mA, h.Ns1 a mA ∧ ∀ f, RelO (fs.lookup f) (mA f)
  | .rng lo hi => ∃ t u v, h.get? a = some { cls := .type "range", data := .fields #[.int lo t, .int hi u, .int 1 v] }
  | .frz o u => h.get? a = some o ∧ ObjOk H h a u
  | .tbl ps => h.get? a = some { cls := .none, data := .fields ps }
  | .met f x => h.get? a = some (PySem.W.methodObj (.ref f) (.ref x))
  | .ext φ => φ h ∧ (∃ o, h.get? a = some o) ∧ ∀ h1 h2 : Heap, φ h1 → (∀ o, h1.get? a = some o → h2.get? a = some o) → φ h2
def HOk (H : Hp) (h : Heap) : Prop := ∀ a o, H a = some o → ObjOk P w H h a o
end
section
variable {P : Program} {w : World} {H H' : Hp} {h h' : Heap} {a : Addr} {o : HO}
theorem ObjOk.lt (x : ObjOk P w H h a o) : a < h.objs.size := by
  cases o with
  | lst xs => obtain ⟨_, _, _, _, e⟩ := x; exact Heap.lt_size e
  | tup xs => obtain ⟨_, _, _, p⟩ := x; exact p.lt
  | dK kvs => obtain ⟨_, _, _, _, o, _, _, e, _⟩ := x; exact Heap.lt_size e
  | dT kvs => obtain ⟨_, _, _, _, o, _, _, e, _⟩ := x; exact Heap.lt_size e
  | set S n => obtain ⟨o, _, _, _, e, _⟩ := x; exact Heap.lt_size e
  | ins C dx fs => obtain ⟨_, _, _, e, _⟩ := x; exact Heap.lt_size e
  | own y => obtain ⟨_, e⟩ := x; exact Heap.lt_size e
  | xd fs => obtain ⟨_, ⟨_, _, _, e, _⟩, _⟩ := x; exact Heap.lt_size e
  | rng lo hi => obtain ⟨_, _, _, e⟩ := x; exact Heap.lt_size e
  | frz ob u => obtain ⟨e, _⟩ := x; exact Heap.lt_size e
  | tbl ps => exact Heap.lt_size (show h.get? a = some _ from x)
  | met f y => exact Heap.lt_size (show h.get? a = some _ from x)
  | ext φ => obtain ⟨_, ⟨_, e⟩, _⟩ := x; exact Heap.lt_size e
theorem Paired.mapP {α β : Type} {F G : α → β → Prop} : ∀ {l₁ : List α} {l₂ : List β}, Paired F l₁ l₂ → (∀ a b, F a b → G a b) → Paired G l₁ l₂
  | _, _, .nil, _ => .nil
  | _, _, .cons r t, f => .cons (f _ _ r) (Paired.mapP t f)
theorem ObjOk.stay (x : ObjOk P w H h a o) (k : ∀ b u, (b = a ∨ H b = some (.own a)) → h.get? b = some u → h'.get? b = some u)
    (ho : ∀ b, H b = some (.own a) → H' b = some (.own a)) (ht : ∀ b xs, H b = some (.tup xs) → H' b = some (.tup xs)) : ObjOk P w H' h' a o := by
  induction o with
  | lst xs => obtain ⟨z, its, n, r, e⟩ := x; exact ⟨z, its, n, r, k _ _ (.inl rfl) e⟩
  | tup xs => obtain ⟨z, its, r, ob, e, c⟩ := x; exact ⟨z, its, r, ob, k _ _ (.inl rfl) e, c⟩
  | dK kvs => obtain ⟨z, y, vs, r, ob, es, ep, e, c⟩ := x; exact ⟨z, y, vs, r, ob, es, ep, k _ _ (.inl rfl) e, c⟩
  | dT kvs =>
    obtain ⟨z, y, xs, r, ob, es, ep, e, c⟩ := x
    exact ⟨z, y, xs, Paired.mapP r fun p q z => ⟨z.1, ht _ _ z.2.1, z.2.2⟩, ob, es, ep, k _ _ (.inl rfl) e, c⟩
  | set S n => obtain ⟨ob, es, ep, t, e, c⟩ := x; exact ⟨ob, es, ep, t, k _ _ (.inl rfl) e, c⟩
  | ins C dx fs =>
    obtain ⟨d, z, ne, e, mA, ⟨od, es, ep, e2, c⟩, r⟩ := x
    exact ⟨ho _ d, z, ne, k _ _ (.inl rfl) e, mA, ⟨od, es, ep, k _ _ (.inr d) e2, c⟩, r⟩
  | own y => obtain ⟨ob, e⟩ := x; exact ⟨ob, k _ _ (.inl rfl) e⟩
  | xd fs => obtain ⟨mA, ⟨od, es, ep, e, c⟩, r⟩ := x; exact ⟨mA, ⟨od, es, ep, k _ _ (.inl rfl) e, c⟩, r⟩
  | rng lo hi => obtain ⟨t, u, v, e⟩ := x; exact ⟨t, u, v, k _ _ (.inl rfl) e⟩
  | frz ob u ih => obtain ⟨e, q⟩ := x; exact ⟨k _ _ (.inl rfl) e, ih q⟩
  | tbl ps =>
    have e : h.get? a = some { cls := .none, data := .fields ps } := x
    show h'.get? a = some { cls := .none, data := .fields ps }
    exact k a _ (.inl rfl) e
  | met f y =>
    have e : h.get? a = some (PySem.W.methodObj (.ref f) (.ref y)) := x
    show h'.get? a = some (PySem.W.methodObj (.ref f) (.ref y))
    exact k a _ (.inl rfl) e
  | ext φ => obtain ⟨p, ⟨o, e⟩, st⟩ := x; exact ⟨st _ _ p fun o q => k _ _ (.inl rfl) q, ⟨o, k _ _ (.inl rfl) e⟩, st⟩
theorem HOk.lt (x : HOk P w H h) (e : H a = some o) : a < h.objs.size := (x a o e).lt
theorem HOk.fresh (x : HOk P w H h) (e : h.objs.size ≤ a) : H a = none := by
  cases q : H a with
  | none => rfl
  | some u => exact absurd (Nat.lt_of_lt_of_le (x.lt q) e) (Nat.lt_irrefl _)
theorem HOk.kept (x : HOk P w H h) (k : ∀ b u, h.get? b = some u → h'.get? b = some u) : HOk P w H h' := fun a o e =>
  (x a o e).stay (fun b u _ q => k b u q) (fun _ q => q) fun _ _ q => q
theorem HOk.laid (x : HOk P w H h) (k : ∀ b u, h.get? b = some u → h'.get? b = some u) (hp : h.objs.size ≤ a) (new : ObjOk P w (upd H a o) h' a o) : HOk P w (upd H a o) h' := fun b u e => by
  have hn := x.fresh hp
  by_cases hb : b = a
  · subst hb; rw [upd_same] at e; cases e; exact new
  · rw [upd_ne hb] at e
    exact (x b u e).stay (fun c v _ q => k c v q) (fun c q => by rw [upd_ne (ne_of_none q hn)]; exact q) fun c xs q => by rw [upd_ne (ne_of_none q hn)]; exact q
end
def Rd (H : Hp) (a : Addr) (u : HO) : Prop := H a = some u ∨ ∃ o, H a = some (.frz o u)
theorem Rd.ok {P : Program} {w : World} {H : Hp} {h : Heap} {a : Addr} {u : HO} (r : Rd H a u) (x : HOk P w H h) : ObjOk P w H h a u := by
  rcases r with r | ⟨o, r⟩
  · exact x a u r
  · obtain ⟨_, q⟩ := x a _ r
    exact q
def Mut : Option HO → Prop
  | some (.lst _) => True
  | some (.dK _) => True
  | some (.dT _) => True
  | some (.set _ _) => True
  | some (.ins _ _ _) => True
  | some (.ext _) => True
  | _ => False
section
variable {P : Program} {w : World} {H : Hp} {h h' : Heap} {x e : Addr} {o' : HO}
theorem HOk.write (ok : HOk P w H h) (mu : Mut (H x)) (he : e = x ∨ H e = some (.own x)) (k : ∀ b u, b ≠ e → h.get? b = some u → h'.get? b = some u) (heo : ∃ u, h'.get? e = some u)
    (new : ObjOk P w (upd H x o') h' x o') : HOk P w (upd H x o') h' := fun b u q => by
  have nown : ∀ c y, H c = some (.own y) → c ≠ x := fun c y r z => by subst z; rw [r] at mu; exact mu
  have ntup : ∀ c xs, H c = some (.tup xs) → c ≠ x := fun c xs r z => by subst z; rw [r] at mu; exact mu
  by_cases hb : b = x
  · subst hb; rw [upd_same] at q; cases q; exact new
  · rw [upd_ne hb] at q
    by_cases hbe : b = e
    · have q' : H b = some (.own x) := by
        rcases he with z | z
        · exact absurd (hbe.trans z) hb
        · rw [hbe]; exact z
      rw [q] at q'; cases q'
      obtain ⟨v, hv⟩ := heo
      exact ⟨v, by rw [hbe]; exact hv⟩
    · refine (ok b u q).stay (fun c v hc r => k c v ?_ r) (fun c r => by rw [upd_ne (nown c b r)]; exact r) fun c xs r => by rw [upd_ne (ntup c xs r)]; exact r
      rcases hc with rfl | hc
      · exact hbe
      · rintro rfl
        rcases he with z | z
        · exact nown c b hc z
        · rw [hc] at z; cases z; exact hb rfl
end
structure Un (fs ex : List Addr) (H H' : Hp) (h h' : Heap) : Prop where
  keep : ∀ b o, h.get? b = some o → H b = none → b ∉ fs → b ∉ ex → h'.get? b = some o
  slot : ∀ b o, h.get? b = some o → H b = none → b ∈ fs → b ∉ ex → ∃ sl, h'.get? b = some { o with slots := sl }
  free : ∀ b o, h.get? b = some o → H b = none → b ∉ ex → H' b = none
  there : ∀ b o, h.get? b = some o → b ∉ ex → ∃ o', h'.get? b = some o'
  tups : ∀ b xs, H b = some (.tup xs) → H' b = some (.tup xs)
  frzs : ∀ b o u, H b = some (.frz o u) → H' b = some (.frz o u)
  tbls : ∀ b ps, H b = some (.tbl ps) → ∃ more, H' b = some (.tbl (ps ++ more))
section
variable {fs fs' ex ex' : List Addr} {H H1 H2 : Hp} {h h1 h2 h' : Heap} {a x e : Addr} {o : HO}
theorem Un.any (u : Un fs ex H H1 h h1) {b : Addr} {ob : Obj} (q : h.get? b = some ob) (n : H b = none) (hx : b ∉ ex) : ∃ sl, h1.get? b = some { ob with slots := sl } := by
  by_cases hb : b ∈ fs
  · exact u.slot b ob q n hb hx
  · exact ⟨ob.slots, u.keep b ob q n hb hx⟩
theorem Un.kept (k : ∀ b u, h.get? b = some u → h'.get? b = some u) : Un fs ex H H h h' :=
  ⟨fun b ob q _ _ _ => k b ob q, fun b ob q _ _ _ => ⟨ob.slots, k b ob q⟩, fun _ _ _ n _ => n, fun b ob q _ => ⟨ob, k b ob q⟩, fun _ _ q => q, fun _ _ _ q => q, fun _ ps q => ⟨#[], by rw [q]; simp⟩⟩
theorem Un.refl : Un fs ex H H h h := Un.kept fun _ _ q => q
theorem Un.laid (k : ∀ b u, h.get? b = some u → h'.get? b = some u) (hp : h.objs.size ≤ a) (hn : H a = none) : Un fs ex H (upd H a o) h h' where
  keep := fun b u q _ _ _ => k b u q
  slot := fun b u q _ _ _ => ⟨u.slots, k b u q⟩
  free := fun b u q n _ => by rw [upd_ne (Nat.ne_of_lt (Nat.lt_of_lt_of_le (Heap.lt_size q) hp))]; exact n
  there := fun b u q _ => ⟨u, k b u q⟩
  tups := fun b xs q => by rw [upd_ne (ne_of_none q hn)]; exact q
  frzs := fun b u xs q => by rw [upd_ne (ne_of_none q hn)]; exact q
  tbls := fun b ps q => ⟨#[], by rw [upd_ne (ne_of_none q hn), q]; simp⟩
theorem Un.write (mu : Mut (H x)) (he : e = x ∨ H e = some (.own x)) (k : ∀ b u, b ≠ e → h.get? b = some u → h'.get? b = some u) (heo : ∃ u, h'.get? e = some u) : Un fs ex H (upd H x o) h h' := by
  have hx : ∀ b, H b = none → b ≠ x := fun b n z => by subst z; rw [n] at mu; exact mu
  have hb : ∀ b, H b = none → b ≠ e := fun b n z => by
    subst z
    rcases he with r | r
    · exact hx b n r
    · rw [n] at r; cases r
  have hm : ∀ b u, H b = some u → ¬ Mut (some u) → b ≠ x := fun b u q nm z => by subst z; rw [q] at mu; exact nm mu
  refine ⟨fun b u q n _ _ => k b u (hb b n) q, fun b u q n _ _ => ⟨u.slots, k b u (hb b n) q⟩, fun b u q n _ => by rw [upd_ne (hx b n)]; exact n, fun b u q _ => ?_,
    fun b xs q => by rw [upd_ne (hm b _ q fun z => z)]; exact q, fun b u xs q => by rw [upd_ne (hm b _ q fun z => z)]; exact q, fun b ps q => ⟨#[], by rw [upd_ne (hm b _ q fun z => z), q]; simp⟩⟩
  by_cases hbe : b = e
  · subst hbe; exact heo
  · exact ⟨u, k b u hbe q⟩
end
def trk (h : Heap) (H : Hp) : List Addr := (List.range h.objs.size).filter fun a => (H a).isSome
def hidT (h : Heap) (H : Hp) : Heap := PySem.W.hideAll h (trk h H)
theorem hidT_size (h : Heap) (H : Hp) : (hidT h H).objs.size = h.objs.size := PySem.W.hideAll_size _ _
theorem hidT_get {h : Heap} {H : Hp} {b : Addr} {o : Obj} (e : h.get? b = some o) (n : H b = none) : (hidT h H).get? b = some o :=
  PySem.W.hideAll_get _ e fun hm => by
    have q : (H b).isSome = true := (List.mem_filter.mp hm).2
    rw [n] at q; simp at q
theorem of_hidT {h : Heap} {H : Hp} {b : Addr} {o : Obj} (e : (hidT h H).get? b = some o) : h.get? b = some o ∧ H b = none := by
  have e' : h.get? b = some o := PySem.W.of_hideAll (trk h H) e
  refine ⟨e', ?_⟩
  cases q : H b with
  | none => rfl
  | some x =>
    have hm : b ∈ trk h H := List.mem_filter.mpr ⟨List.mem_range.mpr (Heap.lt_size e'), by simp [q]⟩
    have z : (hidT h H).get? b = none := PySem.W.hideAll_none (trk h H) hm
    rw [z] at e; cases e
end L2
namespace L2
open PySem PySem.Spec PyProof.Rows
structure Mod (K : PySem.W.Frag) (mg : Str → Option Value) (base : Heap) : Prop where
  kin : K.In base
  glob : base.Ns mainGlobals mg
  blt : ∃ mb, base.Ns builtinsNs mb ∧ ∀ x : Str, x ≠ "__name__" → mb x = bootBuiltins x
  nolimit : base.NoLimit
structure Cx where
  prog : Program
  w : World
  K : PySem.W.Frag
  mg : Str → Option Value
  base : Heap
  A : Around
  N : List Str
  s_0 : Shared
  H_0 : Hp
  env : Env
  outer : List Env
  stack : List Env
  ex : List Addr
  fn : Str → Bool
  calm : Bool
  pn : List (Addr × Obj)
  xe : Value → Shared → Prop
def frs (l : List Env) : List Addr := l.filterMap (·.frame)
abbrev Cx.fs (X : Cx) : List Addr := frs X.outer
def Vis (sc : Scope) (x : Str) : Prop := sc.names.lookup x = some .local ∨ sc.names.lookup x = some .cell ∨ sc.names.lookup x = some .free
def Loc (sc : Scope) (x : Str) : Prop := sc.names.lookup x = some .local ∨ sc.names.lookup x = some .cell
def Look (env : Env) (h : Heap) (m : Str → Option Value) (x : Str) (u : Value) : Prop :=
  (env.kindOf x = some .local ∧ m x = some u) ∨ ((env.kindOf x = some .cell ∨ env.kindOf x = some .free) ∧ ∃ c, env.cells.lookup x = some c ∧ h.IsCell c (some u))
structure Cx.Ok (X : Cx) : Prop where
  mod : Mod X.K X.mg X.base
  kind : X.env.scope.kind = .function
  glob : X.env.globals = mainGlobals
  blt : X.env.builtins = builtinsNs
  above : X.s_0.heap.objs.size ≤ X.env.locals
  inj : ∀ x y c, X.env.cells.lookup x = some c → X.env.cells.lookup y = some c → x = y
  has : ∀ x, (X.env.kindOf x = some .cell ∨ X.env.kindOf x = some .free) → ∃ c, X.env.cells.lookup x = some c
  cab : ∀ x c, X.fn x = true → X.env.cells.lookup x = some c → X.s_0.heap.objs.size ≤ c
  hd : X.calm = true → X.A.handled = none
  frames : X.A.frames = some X.stack
  stk : X.stack = X.outer ∨ (X.stack = X.env :: X.outer ∧ X.env.frame = some X.env.locals)
  exf : ∀ b ∈ X.ex, b ≠ X.env.locals ∧ ∀ x c, X.env.cells.lookup x = some c → c ≠ b
  bs : ∀ b o, X.base.get? b = some o → X.s_0.heap.get? b = some o ∧ X.H_0 b = none
  bsz : X.base.objs.size ≤ X.s_0.heap.objs.size
  noex : ∀ b o, X.base.get? b = some o → b ∉ X.ex
  exfs : ∀ b ∈ X.ex, b ∉ X.fs
  funs : X.s_0.heap.FunFrames X.base X.outer
  frf : ∀ b ∈ X.fs, X.H_0 b = none
structure Inv (X : Cx) (pins : List (Addr × Obj)) (σ : List (Option V)) (H : Hp) (s : Shared) : Prop where
  ok : X.Ok
  os : s.os = X.s_0.os
  bare : AllBare s.gens
  base : Un X.fs X.ex X.H_0 H X.s_0.heap s.heap
  loc : ∃ m, s.heap.Ns X.env.locals m ∧ ∀ (i : Nat) (x : Str) (v : V), X.N[i]? = some x → σ[i]? = some (some v) → Vis X.env.scope x → ∃ u, RelV v u ∧ Look X.env s.heap m x u
  cell : ∀ x c, X.env.cells.lookup x = some c → ∃ v, s.heap.IsCell c v
  free : H X.env.locals = none
  freeC : ∀ x c, X.env.cells.lookup x = some c → H c = none
  pin : ∀ p ∈ X.pn ++ pins, s.heap.get? p.1 = some p.2 ∧ H p.1 = none ∧ p.1 ≠ X.env.locals ∧ p.1 ∉ X.fs ∧ ∀ v, p.2.data ≠ .cell v
  hok : HOk X.prog X.w H s.heap
  len : σ.length = X.N.length
section
variable {X : Cx} {pins : List (Addr × Obj)} {σ : List (Option V)} {H H' : Hp} {s : Shared} {h' : Heap}
theorem Cx.Ok.nofr (ok : X.Ok) {b : Addr} {o : Obj} (e : X.base.get? b = some o) : b ∉ X.fs := fun hb => by
  have := (ok.funs.mem hb).1
  rw [e] at this; cases this
theorem Inv.bs (I : Inv X pins σ H s) : ∀ b o, X.base.get? b = some o → s.heap.get? b = some o ∧ H b = none := fun b o e =>
  ⟨I.base.keep b o (I.ok.bs b o e).1 (I.ok.bs b o e).2 (I.ok.nofr e) (I.ok.noex b o e), I.base.free b o (I.ok.bs b o e).1 (I.ok.bs b o e).2 (I.ok.noex b o e)⟩
theorem Inv.bk (I : Inv X pins σ H s) : ∀ b o, X.base.get? b = some o → s.heap.get? b = some o := fun b o e => (I.bs b o e).1
theorem Inv.mod (I : Inv X pins σ H s) : Mod X.K X.mg X.base := I.ok.mod
theorem Inv.kIn (I : Inv X pins σ H s) : X.K.In s.heap := I.ok.mod.kin.keeps I.bk
theorem Inv.lt (I : Inv X pins σ H s) : X.env.locals < s.heap.objs.size := let ⟨_, hn, _⟩ := I.loc; hn.lt
theorem Inv.sz (I : Inv X pins σ H s) : X.s_0.heap.objs.size ≤ s.heap.objs.size := Nat.le_trans I.ok.above (Nat.le_of_lt I.lt)
theorem Inv.nofs (I : Inv X pins σ H s) {a : Addr} (h : s.heap.objs.size ≤ a) : a ∉ X.fs := fun hb => by
  obtain ⟨_, o, ho, _⟩ := I.ok.funs.mem hb
  exact absurd (Nat.lt_of_lt_of_le (Heap.lt_size ho) (Nat.le_trans I.sz h)) (Nat.lt_irrefl _)
theorem Inv.cne (I : Inv X pins σ H s) : ∀ x c, X.env.cells.lookup x = some c → c ≠ X.env.locals := fun x c e z => by
  obtain ⟨v, o, ho, hd⟩ := I.cell x c e
  obtain ⟨m, ⟨o', es, ep, ho', hd', _⟩, _⟩ := I.loc
  rw [z, ho'] at ho; cases ho; rw [hd'] at hd; cases hd
theorem Inv.funs (I : Inv X pins σ H s) : s.heap.FunFrames X.base X.outer := by
  have all : ∀ (l : List Env), (∀ b ∈ frs l, b ∈ X.fs) → X.s_0.heap.FunFrames X.base l → s.heap.FunFrames X.base l := by
    intro l
    induction l with
    | nil => intro _ _; trivial
    | cons env r ih =>
      intro hs hl
      obtain ⟨hk, ⟨L, o, hf, hn, ho, hd⟩, hr⟩ := hl
      have hL : L ∈ X.fs := hs L (by unfold frs; rw [List.filterMap_cons, hf]; exact List.mem_cons_self)
      obtain ⟨sl, e⟩ := I.base.slot L o ho (I.ok.frf L hL) hL fun z => I.ok.exfs L z hL
      exact ⟨hk, ⟨L, _, hf, hn, e, hd⟩, ih (fun b hb => hs b (by unfold frs; rw [List.filterMap_cons, hf]; exact List.mem_cons_of_mem _ hb)) hr⟩
  exact all X.outer (fun _ hb => hb) I.ok.funs
theorem Inv.stack (I : Inv X pins σ H s) : s.heap.FunFrames X.base X.stack := by
  rcases I.ok.stk with e | ⟨e, hf⟩
  · rw [e]; exact I.funs
  · rw [e]
    obtain ⟨m, hn, _⟩ := I.loc
    refine .cons (by rw [I.ok.kind]; decide) hf hn ?_ I.funs
    exact Heap.get?_none_of_le (Nat.le_trans I.ok.bsz I.ok.above)
theorem Inv.stkSub (I : Inv X pins σ H s) : ∀ b ∈ frs X.stack, b ∈ X.env.locals :: X.fs := fun b hb => by
  rcases I.ok.stk with e | ⟨e, hf⟩
  · rw [e] at hb; exact List.mem_cons_of_mem _ hb
  · rw [e] at hb
    unfold frs at hb
    rw [List.filterMap_cons, hf] at hb
    exact hb
theorem Inv.stkFree (I : Inv X pins σ H s) : ∀ b ∈ frs X.stack, H b = none := fun b hb => by
  rcases List.mem_cons.mp (I.stkSub b hb) with e | hb
  · rw [e]; exact I.free
  · obtain ⟨_, o, ho, _⟩ := I.ok.funs.mem hb
    exact I.base.free b o ho (I.ok.frf b hb) fun z => I.ok.exfs b z hb
theorem Inv.step {g' : Array GenState} {t' : Nat} {d' : Drawn} {ch : List Addr} (I : Inv X pins σ H s)
    (hch : ∀ b ∈ ch, (b ∈ X.ex ∨ X.s_0.heap.objs.size ≤ b) ∧ b ≠ X.env.locals ∧ (∀ x c, X.env.cells.lookup x = some c → c ≠ b) ∧ ∀ p ∈ X.pn ++ pins, p.1 ≠ b)
    (keep : ∀ b o, b ≠ X.env.locals → b ∉ X.fs → b ∉ ch → s.heap.get? b = some o → H b = none → h'.get? b = some o)
    (slot : ∀ b o, b ≠ X.env.locals → b ∈ X.fs → b ∉ ch → s.heap.get? b = some o → H b = none → ∃ sl, h'.get? b = some { o with slots := sl }) (free : ∀ b o, b ∉ ch → s.heap.get? b = some o → H b = none → H' b = none)
    (there : ∀ b o, b ∉ ch → s.heap.get? b = some o → ∃ o', h'.get? b = some o')
    (tups : ∀ b xs, H b = some (.tup xs) → H' b = some (.tup xs)) (frzs : ∀ b o u, H b = some (.frz o u) → H' b = some (.frz o u)) (tbls : ∀ b ps, H b = some (.tbl ps) → ∃ more, H' b = some (.tbl (ps ++ more)))
    (ns : ∀ m, s.heap.Ns X.env.locals m → h'.Ns X.env.locals m) (hok : HOk X.prog X.w H' h') (hg : AllBare g') :
    Inv X pins σ H' { s with heap := h', gens := g', drawn := d', toks := t' } := by
  have neL : ∀ b o, X.s_0.heap.get? b = some o → b ≠ X.env.locals := fun b o e => Nat.ne_of_lt (Nat.lt_of_lt_of_le (Heap.lt_size e) I.ok.above)
  have neC : ∀ b o, X.s_0.heap.get? b = some o → b ∉ X.ex → b ∉ ch := fun b o e hx hb => by
    rcases (hch b hb).1 with z | z
    · exact hx z
    · exact absurd (Nat.lt_of_lt_of_le (Heap.lt_size e) z) (Nat.lt_irrefl _)
  have cellK : ∀ x c, X.env.cells.lookup x = some c → ∀ v, s.heap.IsCell c v → h'.IsCell c v := fun x c e v ⟨o, ho, hd⟩ => by
    have nch : c ∉ ch := fun z => (hch c z).2.2.1 x c e rfl
    by_cases hc : c ∈ X.fs
    · obtain ⟨sl, q⟩ := slot c o (I.cne x c e) hc nch ho (I.freeC x c e)
      exact ⟨_, q, hd⟩
    · exact ⟨o, keep c o (I.cne x c e) hc nch ho (I.freeC x c e), hd⟩
  refine ⟨I.ok, I.os, hg, ⟨fun b o e n hb hx => ?_, fun b o e n hb hx => ?_, fun b o e n hx => ?_, fun b o e hx => ?_, fun b xs e => tups b xs (I.base.tups b xs e), fun b o xs e => frzs b o xs (I.base.frzs b o xs e), fun b ps e => ?_⟩, ?_, fun x c e => ?_, ?_, fun x c e => ?_, fun p hp => ?_, hok, I.len⟩
  · exact keep b o (neL b o e) hb (neC b o e hx) (I.base.keep b o e n hb hx) (I.base.free b o e n hx)
  · obtain ⟨sl, e1⟩ := I.base.slot b o e n hb hx
    obtain ⟨sl', e2⟩ := slot b _ (neL b o e) hb (neC b o e hx) e1 (I.base.free b o e n hx)
    exact ⟨sl', e2⟩
  · obtain ⟨o', e1⟩ := I.base.there b o e hx
    exact free b o' (neC b o e hx) e1 (I.base.free b o e n hx)
  · obtain ⟨o', e1⟩ := I.base.there b o e hx
    exact there b o' (neC b o e hx) e1
  · obtain ⟨m1, e1⟩ := I.base.tbls b ps e
    obtain ⟨m2, e2⟩ := tbls b _ e1
    exact ⟨m1 ++ m2, by rw [e2, Array.append_assoc]⟩
  · obtain ⟨m, hn, hl⟩ := I.loc
    refine ⟨m, ns m hn, fun i x v e1 e2 e3 => ?_⟩
    obtain ⟨u, r, l⟩ := hl i x v e1 e2 e3
    refine ⟨u, r, ?_⟩
    rcases l with l | ⟨k, c, e, z⟩
    · exact .inl l
    · exact .inr ⟨k, c, e, cellK x c e _ z⟩
  · obtain ⟨v, z⟩ := I.cell x c e
    exact ⟨v, cellK x c e v z⟩
  · obtain ⟨m, ⟨o, _, _, ho, _⟩, _⟩ := I.loc
    exact free _ o (fun z => (hch _ z).2.1 rfl) ho I.free
  · obtain ⟨v, o, ho, hd⟩ := I.cell x c e
    exact free c o (fun z => (hch c z).2.2.1 x c e rfl) ho (I.freeC x c e)
  · obtain ⟨e, n, ne, nf, d⟩ := I.pin p hp
    have nch : p.1 ∉ ch := fun z => (hch p.1 z).2.2.2 p hp rfl
    exact ⟨keep p.1 p.2 ne nf nch e n, free p.1 p.2 nch e n, ne, nf, d⟩
theorem Inv.un {t' : Nat} (I : Inv X pins σ H s) (u : Un X.fs [] H H' s.heap h') (hok : HOk X.prog X.w H' h') : Inv X pins σ H' { s with heap := h', toks := t' } := by
  obtain ⟨m, ⟨o, es, ep, ho, r⟩, _⟩ := id I.loc
  obtain ⟨sl, hL⟩ := u.any ho I.free (by simp)
  exact I.step (g' := s.gens) (d' := s.drawn) (ch := []) (fun _ z => nomatch z) (fun b o _ hb _ e n => u.keep b o e n hb (by simp)) (fun b o _ hb _ e n => u.slot b o e n hb (by simp)) (fun b o _ e n => u.free b o e n (by simp)) (fun b o _ e => u.there b o e (by simp)) u.tups u.frzs u.tbls (fun m' hm => by
    obtain ⟨o', es', ep', ho', r'⟩ := hm
    rw [ho] at ho'; cases ho'
    exact ⟨_, es', ep', hL, r'⟩) hok I.bare
theorem Inv.call {g' : Array GenState} {t' : Nat} {d' : Drawn} {ch : List Addr} (I : Inv X pins σ H s) (u : Un (frs X.stack) ch H H' s.heap h') (hok : HOk X.prog X.w H' h') (hg : AllBare g')
    (hch : ∀ b ∈ ch, (b ∈ X.ex ∨ X.s_0.heap.objs.size ≤ b) ∧ b ≠ X.env.locals ∧ (∀ x c, X.env.cells.lookup x = some c → c ≠ b) ∧ ∀ p ∈ X.pn ++ pins, p.1 ≠ b) :
    Inv X pins σ H' { s with heap := h', gens := g', drawn := d', toks := t' } := by
  obtain ⟨m, ⟨o, es, ep, ho, r⟩, _⟩ := id I.loc
  obtain ⟨sl, hL⟩ := u.any ho I.free fun z => (hch _ z).2.1 rfl
  exact I.step (ch := ch) hch (fun b o hL hb hc e n => u.keep b o e n (fun z => (List.mem_cons.mp (I.stkSub b z)).elim hL hb) hc) (fun b o _ _ hc e n => u.any e n hc) (fun b o hc e n => u.free b o e n hc) (fun b o hc e => u.there b o e hc) u.tups u.frzs u.tbls (fun m' hm => by
    obtain ⟨o', es', ep', ho', r'⟩ := hm
    rw [ho] at ho'; cases ho'
    exact ⟨_, es', ep', hL, r'⟩) hok hg
theorem Inv.turned {t' : Nat} {it : Addr} (I : Inv X pins σ H s) (k : ∀ b o, b ≠ it → s.heap.get? b = some o → h'.get? b = some o) (hn : H it = none) (hL : it ≠ X.env.locals)
    (h1 : it ∈ X.ex ∨ X.s_0.heap.objs.size ≤ it) (h2 : ∀ x c, X.env.cells.lookup x = some c → c ≠ it) (h3 : ∀ p ∈ X.pn ++ pins, p.1 ≠ it) : Inv X pins σ H { s with heap := h', toks := t' } := by
  have nit : ∀ b u, H b = some u → b ≠ it := fun b u e z => by rw [z, hn] at e; cases e
  refine I.step (g' := s.gens) (d' := s.drawn) (ch := [it]) (fun b hb => ?_) (fun b o _ _ hc e _ => k b o (fun z => hc (by simp [z])) e) (fun b o _ _ hc e _ => ⟨o.slots, k b o (fun z => hc (by simp [z])) e⟩) (fun _ _ _ _ n => n)
    (fun b o hc e => ⟨o, k b o (fun z => hc (by simp [z])) e⟩) (fun _ _ e => e) (fun _ _ _ e => e) (fun b ps e => ⟨#[], by rw [e]; simp⟩) (fun m hm => ?_) (fun b u e => ?_) I.bare
  · have e : b = it := by simpa using hb
    subst e
    exact ⟨h1, hL, h2, h3⟩
  · obtain ⟨o, es, ep, ho, r⟩ := hm
    exact ⟨o, es, ep, k _ o (Ne.symm hL) ho, r⟩
  · refine (I.hok b u e).stay (fun c v hc q => k c v ?_ q) (fun _ q => q) fun _ _ q => q
    rcases hc with z | z
    · rw [z]; exact nit b u e
    · exact nit c _ z
theorem Inv.tok (I : Inv X pins σ H s) (t : Nat) : Inv X pins σ H { s with toks := t } := I.un (h' := s.heap) (t' := t) Un.refl I.hok
theorem Inv.kept {t' : Nat} (I : Inv X pins σ H s) (k : ∀ b u, s.heap.get? b = some u → h'.get? b = some u) : Inv X pins σ H { s with heap := h', toks := t' } := I.un (Un.kept k) (I.hok.kept k)
theorem Inv.laid {a : Addr} {o : HO} {t' : Nat} (I : Inv X pins σ H s) (k : ∀ b u, s.heap.get? b = some u → h'.get? b = some u) (hp : s.heap.objs.size ≤ a) (new : ObjOk X.prog X.w (upd H a o) h' a o) :
    Inv X pins σ (upd H a o) { s with heap := h', toks := t' } := I.un (Un.laid k hp (I.hok.fresh hp)) (I.hok.laid k hp new)
theorem Inv.write {x e : Addr} {o : HO} {t' : Nat} (I : Inv X pins σ H s) (mu : Mut (H x)) (he : e = x ∨ H e = some (.own x)) (k : ∀ b u, b ≠ e → s.heap.get? b = some u → h'.get? b = some u) (heo : ∃ u, h'.get? e = some u)
    (new : ObjOk X.prog X.w (upd H x o) h' x o) : Inv X pins σ (upd H x o) { s with heap := h', toks := t' } := I.un (Un.write mu he k heo) (I.hok.write mu he k heo new)
theorem Inv.weak {σ' : List (Option V)} (I : Inv X pins σ H s) (hl : σ'.length = σ.length) (w : ∀ (i : Nat) v, σ'[i]? = some (some v) → σ[i]? = some (some v)) : Inv X pins σ' H s :=
  ⟨I.ok, I.os, I.bare, I.base, let ⟨m, hn, hl'⟩ := I.loc; ⟨m, hn, fun i x v e1 e2 e3 => hl' i x v e1 (w i v e2) e3⟩, I.cell, I.free, I.freeC, I.pin, I.hok, hl.trans I.len⟩
theorem Inv.pins_of {pins' : List (Addr × Obj)} (I : Inv X pins σ H s) (h : ∀ p ∈ pins', s.heap.get? p.1 = some p.2 ∧ H p.1 = none ∧ p.1 ≠ X.env.locals ∧ p.1 ∉ X.fs ∧ ∀ v, p.2.data ≠ .cell v) : Inv X pins' σ H s :=
  ⟨I.ok, I.os, I.bare, I.base, I.loc, I.cell, I.free, I.freeC, fun p hp => (List.mem_append.mp hp).elim (fun z => I.pin p (List.mem_append_left _ z)) (h p), I.hok, I.len⟩
theorem nodup_ix {N : List Str} (hN : N.Nodup) {i j : Nat} {x : Str} (a : N[i]? = some x) (b : N[j]? = some x) : i = j := by
  obtain ⟨h1, e1⟩ := List.getElem?_eq_some_iff.mp a
  obtain ⟨h2, e2⟩ := List.getElem?_eq_some_iff.mp b
  exact (List.getElem_inj hN).mp (e1.trans e2.symm)
theorem store_ok2 {M : Model} {A : Around} {E : Value → Shared → Prop} {i : Nat} {x : Str} {v : V} {u : Value} {Q : Unit → Shared → Prop} (I : Inv X pins σ H s) (hN : X.N.Nodup) (hi : X.N[i]? = some x) (hx : Loc X.env.scope x) (r : RelV v u)
    (h : ∀ s', Inv X pins (σ.set i (some v)) H s' → (∃ a, Heap.SameBut a s.heap s'.heap ∧ (a = X.env.locals ∨ X.env.cells.lookup x = some a)) → Q () s') (hf : X.fn x = true ∨ X.env.scope.names.lookup x = some .local := by first | exact .inl rfl | exact .inr rfl | assumption) : wpAny M A (storeName X.env x u) Q E s := by
  obtain ⟨m, hn, hl⟩ := id I.loc
  have hcls : (X.env.scope.kind == .class || (X.env.scope.kind == .module && X.env.locals != X.env.globals)) = false := by rw [I.ok.kind]; rfl
  have hiσ : i < σ.length := by rw [I.len]; exact (List.getElem?_eq_some_iff.mp hi).1
  have cne := I.cne
  have tracked : ∀ {a : Addr} {h' : Heap}, (∃ o, s.heap.get? a = some o ∧ H a = none) → Heap.SameBut a s.heap h' → HOk X.prog X.w H h' := fun {a h'} ha hs b ob e => by
    obtain ⟨_, _, hfree⟩ := ha
    refine (I.hok b ob e).stay (fun c w' hc q => (hs.2 c ?_).trans q) (fun _ q => q) fun _ _ q => q
    rintro rfl
    rcases hc with rfl | hc
    · rw [hfree] at e; cases e
    · rw [hfree] at hc; cases hc
  rcases hx with hk | hk
  · refine wpAny_storeName_local hk hn (fun h' hn' hs => ?_) hcls
    obtain ⟨oL, _, _, hoL, _⟩ := id hn
    refine h _ ⟨I.ok, I.os, I.bare, ⟨fun b o e n hb hx => ?_, fun b o e n hb hx => ?_, I.base.free, fun b o e hx => ?_, I.base.tups, I.base.frzs, I.base.tbls⟩, ⟨_, hn', fun j y v' e1 e2 e3 => ?_⟩, fun y c e => ?_, I.free, I.freeC, fun p hp => ?_, tracked ⟨oL, hoL, I.free⟩ hs, by simpa using I.len⟩ ⟨_, hs, .inl rfl⟩
    · exact (hs.2 b (Nat.ne_of_lt (Nat.lt_of_lt_of_le (Heap.lt_size e) I.ok.above))).trans (I.base.keep b o e n hb hx)
    · obtain ⟨sl, e1⟩ := I.base.slot b o e n hb hx
      exact ⟨sl, (hs.2 b (Nat.ne_of_lt (Nat.lt_of_lt_of_le (Heap.lt_size e) I.ok.above))).trans e1⟩
    · obtain ⟨o', e1⟩ := I.base.there b o e hx
      exact ⟨o', (hs.2 b (Nat.ne_of_lt (Nat.lt_of_lt_of_le (Heap.lt_size e) I.ok.above))).trans e1⟩
    · by_cases hj : j = i
      · subst hj
        rw [hi] at e1; cases e1
        rw [List.getElem?_set_self hiσ] at e2
        cases e2
        exact ⟨u, r, .inl ⟨hk, by simp⟩⟩
      · rw [List.getElem?_set_ne (Ne.symm hj)] at e2
        obtain ⟨u', r', q⟩ := hl j y v' e1 e2 e3
        refine ⟨u', r', ?_⟩
        rcases q with ⟨k, e⟩ | ⟨k, c, e, z⟩
        · refine .inl ⟨k, ?_⟩
          have : y ≠ x := fun e => hj (nodup_ix hN e1 (e ▸ hi))
          simp [this, e]
        · exact .inr ⟨k, c, e, z.sameBut hs (cne y c e)⟩
    · obtain ⟨w', z⟩ := I.cell y c e
      exact ⟨w', z.sameBut hs (cne y c e)⟩
    · obtain ⟨e, n, ne, nf, d⟩ := I.pin p hp
      exact ⟨(hs.2 p.1 ne).trans e, n, ne, nf, d⟩
  · have hfn : X.fn x = true := by
      rcases hf with z | z
      · exact z
      · rw [z] at hk; cases hk
    obtain ⟨c, hc⟩ := I.ok.has x (.inl hk)
    obtain ⟨w', z⟩ := I.cell x c hc
    refine wpAny_storeName_cell I.ok.kind hk hc z (fun h' hc' hs => ?_)
    obtain ⟨oc, hoc, hocd⟩ := id z
    refine h { s with heap := h' } ⟨I.ok, I.os, I.bare, ⟨fun b o e n hb hx => ?_, fun b o e n hb hx => ?_, I.base.free, fun b o e hx => ?_, I.base.tups, I.base.frzs, I.base.tbls⟩, ⟨m, hn.sameBut hs (Ne.symm (cne x c hc)), fun j y v' e1 e2 e3 => ?_⟩, fun y c' e => ?_, I.free, I.freeC, fun p hp => ?_, tracked ⟨oc, hoc, I.freeC x c hc⟩ hs, by simpa using I.len⟩ ⟨c, hs, .inr hc⟩
    · exact (hs.2 b (Nat.ne_of_lt (Nat.lt_of_lt_of_le (Heap.lt_size e) (I.ok.cab x c hfn hc)))).trans (I.base.keep b o e n hb hx)
    · obtain ⟨sl, e1⟩ := I.base.slot b o e n hb hx
      exact ⟨sl, (hs.2 b (Nat.ne_of_lt (Nat.lt_of_lt_of_le (Heap.lt_size e) (I.ok.cab x c hfn hc)))).trans e1⟩
    · obtain ⟨o', e1⟩ := I.base.there b o e hx
      exact ⟨o', (hs.2 b (Nat.ne_of_lt (Nat.lt_of_lt_of_le (Heap.lt_size e) (I.ok.cab x c hfn hc)))).trans e1⟩
    · by_cases hj : j = i
      · subst hj
        rw [hi] at e1; cases e1
        rw [List.getElem?_set_self hiσ] at e2
        cases e2
        exact ⟨u, r, .inr ⟨.inl hk, c, hc, hc'⟩⟩
      · rw [List.getElem?_set_ne (Ne.symm hj)] at e2
        obtain ⟨u', r', q⟩ := hl j y v' e1 e2 e3
        refine ⟨u', r', ?_⟩
        rcases q with q | ⟨k, c', e, z'⟩
        · exact .inl q
        · refine .inr ⟨k, c', e, z'.sameBut hs ?_⟩
          rintro rfl
          exact hj (nodup_ix hN e1 (I.ok.inj _ _ _ e hc ▸ hi))
    · by_cases hcc : c' = c
      · subst hcc; exact ⟨_, hc'⟩
      · obtain ⟨w2, z2⟩ := I.cell y c' e
        exact ⟨w2, z2.sameBut hs hcc⟩
    · obtain ⟨e, n, ne, nf, d⟩ := I.pin p hp
      refine ⟨(hs.2 p.1 ?_).trans e, n, ne, nf, d⟩
      intro q
      rw [q, hoc] at e
      have q' : oc = p.2 := Option.some.inj e
      exact d w' (by rw [← q']; exact hocd)
theorem store_ok {M : Model} {A : Around} {E : Value → Shared → Prop} {i : Nat} {x : Str} {v : V} {u : Value} {Q : Unit → Shared → Prop} (I : Inv X pins σ H s) (hN : X.N.Nodup) (hi : X.N[i]? = some x) (hx : Loc X.env.scope x) (r : RelV v u)
    (h : ∀ s', Inv X pins (σ.set i (some v)) H s' → Q () s') (hf : X.fn x = true ∨ X.env.scope.names.lookup x = some .local := by first | exact .inl rfl | exact .inr rfl | assumption) : wpAny M A (storeName X.env x u) Q E s :=
  store_ok2 I hN hi hx r (fun s' I' _ => h s' I') hf
theorem Inv.call' {s' : Shared} {ch : List Addr} (I : Inv X pins σ H s) (ho : s'.os = s.os) (u : Un (frs X.stack) ch H H' s.heap s'.heap) (hok : HOk X.prog X.w H' s'.heap) (hg : AllBare s'.gens)
    (hch : ∀ b ∈ ch, (b ∈ X.ex ∨ X.s_0.heap.objs.size ≤ b) ∧ b ≠ X.env.locals ∧ (∀ x c, X.env.cells.lookup x = some c → c ≠ b) ∧ ∀ p ∈ X.pn ++ pins, p.1 ≠ b) : Inv X pins σ H' s' := by
  obtain ⟨h', g', d', t', o'⟩ := s'
  have e : o' = s.os := ho
  subst e
  exact I.call (g' := g') (t' := t') (d' := d') u hok hg hch
end
abbrev XK := Value → Option Addr → Hp → Prop
abbrev St := List (Option V)
abbrev VK := V → Hp → Prop
abbrev TE := St → Hp → VK → Prop
abbrev TT := St → Hp → (Bool → Hp → Prop) → Prop
abbrev TA := St → Hp → (List V → Hp → Prop) → Prop
structure Ends where
  nx : St → Hp → Prop
  rt : VK
  bk : St → Hp → Prop := fun _ _ => False
  ct : St → Hp → Prop := fun _ _ => False
abbrev TS := Ends → St → Hp → Prop
def EP (X : Cx) (pins : List (Addr × Obj)) (σ : St) (Q : VK) (u : Value) (s' : Shared) : Prop := ∃ v H', Inv X pins σ H' s' ∧ RelV v u ∧ Q v H'
def TP (X : Cx) (pins : List (Addr × Obj)) (σ : St) (Q : Bool → Hp → Prop) (b : Bool) (s' : Shared) : Prop := ∃ H', Inv X pins σ H' s' ∧ Q b H'
def AP (X : Cx) (pins : List (Addr × Obj)) (σ : St) (Q : List V → Hp → Prop) (us : List Value) (s' : Shared) : Prop := ∃ vs H', Inv X pins σ H' s' ∧ Vals vs us ∧ Q vs H'
def SP (X : Cx) (pins : List (Addr × Obj)) (D : Ends) (f : Flow) (s' : Shared) : Prop :=
  match f with
  | .next => ∃ σ' H', Inv X pins σ' H' s' ∧ D.nx σ' H'
  | .brk => ∃ σ' H', Inv X pins σ' H' s' ∧ D.bk σ' H'
  | .cont => ∃ σ' H', Inv X pins σ' H' s' ∧ D.ct σ' H'
  | .ret u => ∃ v σ' H', Inv X pins σ' H' s' ∧ RelV v u ∧ D.rt v H'
def PE (X : Cx) (e : Expr) (t : TE) : Prop :=
  ∀ (pins : List (Addr × Obj)) (s : Shared) (σ : St) (H : Hp) (Q : VK), Inv X pins σ H s → t σ H Q → wpAny (model X.prog X.w) X.A (eval e X.env) (EP X pins σ Q) X.xe s
def PT (X : Cx) (e : Expr) (t : TT) : Prop :=
  ∀ (pins : List (Addr × Obj)) (s : Shared) (σ : St) (H : Hp) (Q : Bool → Hp → Prop), Inv X pins σ H s → t σ H Q → wpAny (model X.prog X.w) X.A (isTrue e X.env (eval e X.env)) (TP X pins σ Q) X.xe s
def PW (X : Cx) (e : Expr) (t : TT) : Prop :=
  ∀ (whole : Sem Value) (pins : List (Addr × Obj)) (s : Shared) (σ : St) (H : Hp) (Q : Bool → Hp → Prop), Inv X pins σ H s → t σ H Q → wpAny (model X.prog X.w) X.A (isTrue e X.env whole) (TP X pins σ Q) X.xe s
theorem PW.pt {X : Cx} {e : Expr} {t : TT} (h : PW X e t) : PT X e t := h _
def PA (X : Cx) (es : List Expr) (t : TA) : Prop :=
  ∀ (pos : Pos) (pins : List (Addr × Obj)) (s : Shared) (σ : St) (H : Hp) (Q : List V → Hp → Prop), Inv X pins σ H s → t σ H Q → wpAny (model X.prog X.w) X.A (spliced (backTo pos (starEach es X.env))) (AP X pins σ Q) X.xe s
def PS (X : Cx) (st : Stmt) (t : TS) : Prop :=
  ∀ (pins : List (Addr × Obj)) (s : Shared) (σ : St) (H : Hp) (D : Ends), Inv X pins σ H s → t D σ H → wpAny (model X.prog X.w) X.A (exec st X.env) (SP X pins D) X.xe s
def PSs (X : Cx) (st : List Stmt) (t : TS) : Prop :=
  ∀ (pins : List (Addr × Obj)) (s : Shared) (σ : St) (H : Hp) (D : Ends), Inv X pins σ H s → t D σ H → wpAny (model X.prog X.w) X.A (execs st X.env) (SP X pins D) X.xe s
theorem thn {α : Type} {t : Sem α} {Q Q' : α → Shared → Prop} {M : Model} {A : Around} {E : Value → Shared → Prop} {s : Shared} (h : wpAny M A t Q E s) (hQ : ∀ a s, Q a s → Q' a s) : wpAny M A t Q' E s := wpAny_mono h hQ fun _ _ x => x
end L2
namespace L2
open PySem PySem.Spec PyProof.Rows
section
variable {X : Cx}
def tVar (i : Nat) : TE := fun σ H Q => ∃ v, σ[i]? = some (some v) ∧ Q v H
def tC (v : V) : TE := fun _ H Q => Q v H
theorem pe_var {i : Nat} {x : Str} {pos : Pos} (hN : X.N[i]? = some x) (hv : Vis X.env.scope x) (hd : (x == ("__debug__" : Str)) = false := by decide) (hcd : (x == ("__classdict__" : Str)) = false := by decide) : PE X (.Name x pos) (tVar i) := by
  intro pins s σ H Q I h
  obtain ⟨v, e, h⟩ := h
  obtain ⟨m, hn, hl⟩ := I.loc
  obtain ⟨u, r, l⟩ := hl i x v hN e hv
  have fin : EP X pins σ Q u s := ⟨v, H, I, r, h⟩
  rcases l with ⟨hk, hm⟩ | ⟨hk, c, hc, hcell⟩
  · exact wpAny_Name (wpAny_loadName_local I.ok.kind hk hn hm fin) hd
  · rcases hk with hk | hk
    · exact wpAny_Name (wpAny_loadName_cell I.ok.kind hk hc hcell fin) hd
    · exact wpAny_Name (wpAny_loadName_free I.ok.kind hk hc hcell fin hcd) hd
theorem pe_int {i j pos} : PE X (.Constant (.int i) j pos) (tC (.int i)) := fun _ _ _ H _ I h => wpAny_Constant_int ⟨.int i, H, I.tok _, ⟨_, rfl⟩, h⟩
theorem pe_bl {b j pos} : PE X (.Constant (.bool b) j pos) (tC (.bl b)) := fun _ _ _ H _ I h => Constant_bool ⟨.bl b, H, I, rfl, h⟩
def Gl (X : Cx) (x : Str) : Prop := X.env.kindOf x = some .globalImplicit
theorem ld_glob {E : Value → Shared → Prop} {pins : List (Addr × Obj)} {s : Shared} {σ : St} {H : Hp} {x : Str} {u : Value} {pos : Pos} {Q : Value → Shared → Prop} (I : Inv X pins σ H s) (hg : Gl X x) (hm : X.mg x = some u) (h : Q u s)
    (hd : (x == ("__debug__" : Str)) = false := by decide) : wpAny (model X.prog X.w) X.A (eval (.Name x pos) X.env) Q E s :=
  Calls.Name_function_global I.ok.kind hg (Calls.loadGlobal_global (by rw [I.ok.glob]; exact I.mod.glob.keeps I.bk) hm h) hd
theorem ld_blt {E : Value → Shared → Prop} {pins : List (Addr × Obj)} {s : Shared} {σ : St} {H : Hp} {x : Str} {u : Value} {pos : Pos} {Q : Value → Shared → Prop} (I : Inv X pins σ H s) (hg : Gl X x) (hm : X.mg x = none) (hv : bootBuiltins x = some u) (h : Q u s)
    (hn : x ≠ "__name__" := by decide) (hd : (x == ("__debug__" : Str)) = false := by decide) : wpAny (model X.prog X.w) X.A (eval (.Name x pos) X.env) Q E s := by
  obtain ⟨mb, h1, h2⟩ := I.mod.blt
  exact Calls.Name_function_global I.ok.kind hg (Calls.loadGlobal_builtin (by rw [I.ok.glob]; exact I.mod.glob.keeps I.bk) hm (by rw [I.ok.blt]; exact h1.keeps I.bk) ((h2 x hn).trans hv) h) hd
theorem pe_glob {x : Str} {v : V} {u : Value} {pos : Pos} (hg : Gl X x) (hm : X.mg x = some u) (r : RelV v u) (hd : (x == ("__debug__" : Str)) = false := by decide) : PE X (.Name x pos) (tC v) :=
  fun _ _ _ H _ I h => ld_glob I hg hm ⟨v, H, I, r, h⟩ hd
variable {a b : Expr} {ta tb : TE} {pos : Pos}
def tB (t : TE) : TT := fun σ H Q => t σ H fun x H1 => ∃ c, x = .bl c ∧ Q c H1
theorem pt_val {e : Expr} {t : TE} (h : PE X e t) (he : ∀ whole, isTrue e X.env whole = (do let v ← whole; standAt e.pos; holding [v] (truthy v)) := by intro _; rfl) : PT X e (tB t) := by
  intro pins s σ H Q I hw
  refine isTrue_plain (thn (h pins s σ H _ I hw) fun v s1 ⟨x, H1, I1, r1, q1⟩ => ?_) (he _)
  obtain ⟨d, rfl, q⟩ := q1
  cases r1
  exact wpAny_truthy_bool ⟨H1, I1, q⟩
variable {tA tB' : TT} {rest : List Expr}
def tAnd (t u : TT) : TT := fun σ H Q => t σ H fun c H1 => if c = true then u σ H1 Q else Q false H1
def tOr (t u : TT) : TT := fun σ H Q => t σ H fun c H1 => if c = true then Q true H1 else u σ H1 Q
def tNot (t : TT) : TT := fun σ H Q => t σ H fun c H1 => Q (!c) H1
theorem pw_and1 (ha : PT X a tA) : PW X (.BoolOp .And [a] pos) tA := by
  intro wh pins s σ H Q I h
  refine isTrue_and (thn (ha pins s σ H Q I h) fun c s1 e => ?_)
  cases c with
  | true => exact isTrue_and_nil e
  | false => exact e
theorem pw_or1 (ha : PT X a tA) : PW X (.BoolOp .Or [a] pos) tA := by
  intro wh pins s σ H Q I h
  refine isTrue_or (thn (ha pins s σ H Q I h) fun c s1 e => ?_)
  cases c with
  | false => exact isTrue_or_nil e
  | true => exact e
theorem pw_and (ha : PT X a tA) (hb : PW X (.BoolOp .And (b :: rest) pos) tB') : PW X (.BoolOp .And (a :: b :: rest) pos) (tAnd tA tB') := by
  intro wh pins s σ H Q I h
  refine isTrue_and (thn (ha pins s σ H _ I h) fun c s1 ⟨H1, I1, q1⟩ => ?_)
  cases c with
  | true => exact hb wh pins s1 σ H1 Q I1 q1
  | false => exact ⟨H1, I1, q1⟩
theorem pw_or (ha : PT X a tA) (hb : PW X (.BoolOp .Or (b :: rest) pos) tB') : PW X (.BoolOp .Or (a :: b :: rest) pos) (tOr tA tB') := by
  intro wh pins s σ H Q I h
  refine isTrue_or (thn (ha pins s σ H _ I h) fun c s1 ⟨H1, I1, q1⟩ => ?_)
  cases c with
  | true => exact ⟨H1, I1, q1⟩
  | false => exact hb wh pins s1 σ H1 Q I1 q1
theorem pt_not (ha : PT X a tA) : PT X (.UnaryOp .Not a pos) (tNot tA) := by
  intro pins s σ H Q I h
  exact isTrue_not (ha pins s σ H (fun c H1 => Q (!c) H1) I h)
def tAndV (ta tb : TE) : TE := fun σ H Q => ta σ H fun x H1 => ∃ c, x = .bl c ∧ if c = true then tb σ H1 Q else Q (.bl false) H1
theorem pe_one {op} {t : TE} (h : PE X a t) : PE X (.BoolOp op [a] pos) t := fun pins s σ H Q I hw => BoolOp_one (h pins s σ H Q I hw)
theorem pe_and (ha : PE X a ta) (hb : PE X (.BoolOp .And (b :: rest) pos) tb) : PE X (.BoolOp .And (a :: b :: rest) pos) (tAndV ta tb) := by
  intro pins s σ H Q I h
  refine BoolOp_and (thn (ha pins s σ H _ I h) fun v s1 ⟨x, H1, I1, r1, q1⟩ => ?_)
  obtain ⟨c, rfl, q1⟩ := q1
  cases r1
  refine wpAny_truthy_bool ?_
  cases c with
  | true => exact hb pins s1 σ H1 Q I1 q1
  | false => exact ⟨.bl false, H1, I1, rfl, q1⟩
def tIf (t : TT) (ta tb : TE) : TE := fun σ H Q => t σ H fun c H1 => if c = true then ta σ H1 Q else tb σ H1 Q
theorem pe_ifExp {c : Expr} (hc : PT X c tA) (ha : PE X a ta) (hb : PE X b tb) : PE X (.IfExp c a b pos) (tIf tA ta tb) := by
  intro pins s σ H Q I h
  refine wpAny_IfExp (thn (hc pins s σ H _ I h) fun d s1 ⟨H1, I1, q1⟩ => ?_)
  cases d with
  | true => exact ha pins s1 σ H1 Q I1 q1
  | false => exact hb pins s1 σ H1 Q I1 q1
end
end L2
namespace L2
open PySem PySem.Spec PyProof.Rows
def SqL (K : PySem.W.Frag) (H : Hp) (a : Addr) (xs : List V) : Prop :=
  Rd H a (.lst xs) ∨
    ∃ (o : Obj) (its : Array Value) (n : Nat), K.lookup a = some o ∧ o.cls = .type "list" ∧ o.dict = none ∧ o.data = .seq its n ∧ its.size ≤ sizeLine ∧ Vals xs its.toList
def SqT (K : PySem.W.Frag) (H : Hp) (a : Addr) (xs : List V) : Prop :=
  Rd H a (.tup xs) ∨
    ∃ (o : Obj) (its : Array Value) (n : Nat), K.lookup a = some o ∧ o.cls = .type "tuple" ∧ o.data = .seq its n ∧ its.size ≤ sizeLine ∧ Vals xs its.toList
def absV : Value → Option V
  | .none => some .non
  | .bool b => some (.bl b)
  | .int i _ => some (.int i)
  | .str x _ => some (.str x)
  | .bytes b _ => some (.byt b)
  | .float b _ => some (.flt b)
  | .ref a => some (.ref a)
  | .type n => some (.ty n)
  | _ => none
theorem RelV.abs {x : V} {u : Value} (r : RelV x u) : absV u = some x := by
  cases x with
  | non => cases r; rfl
  | bl _ => cases r; rfl
  | int _ => obtain ⟨t, rfl⟩ := r; rfl
  | str _ => obtain ⟨t, rfl⟩ := r; rfl
  | byt _ => obtain ⟨t, rfl⟩ := r; rfl
  | flt _ => obtain ⟨t, rfl⟩ := r; rfl
  | ref _ => cases r; rfl
  | ty _ => cases r; rfl
theorem RelV.inj {x y : V} {u : Value} (r : RelV x u) (q : RelV y u) : x = y := Option.some.inj (r.abs.symm.trans q.abs)
theorem Vals.inj : ∀ {xs ys : List V} {us : List Value}, Vals xs us → Vals ys us → xs = ys
  | _, _, _, .nil, .nil => rfl
  | _, _, _, .cons r t, .cons r' t' => by rw [r.inj r', Vals.inj t t']
section
variable {X : Cx} {pins : List (Addr × Obj)} {σ : St} {H : Hp} {s : Shared} {a : Addr} {xs ys : List V}
theorem SqL.of {K : PySem.W.Frag} (h : H a = some (.lst xs)) : SqL K H a xs := .inl (.inl h)
theorem SqT.of {K : PySem.W.Frag} (h : H a = some (.tup xs)) : SqT K H a xs := .inl (.inl h)
theorem Inv.list (I : Inv X pins σ H s) (h : SqL X.K H a xs) : ∃ its : List Value, Vals xs its ∧ PlainL s.heap a its.toArray ∧ xs.length ≤ sizeLine := by
  rcases h with h | ⟨o, its, n, hk, hc, hd, hs, hz, r⟩
  · obtain ⟨z, its, n, r, e⟩ := h.ok I.hok
    exact ⟨its, r, ⟨_, n, e, rfl, rfl, rfl⟩, z⟩
  · refine ⟨its.toList, r, ⟨o, n, I.kIn a o hk, hc, hd, by simpa using hs⟩, ?_⟩
    have e := r.length
    simp only [Array.length_toList] at e
    omega
theorem Inv.tuple (I : Inv X pins σ H s) (h : SqT X.K H a xs) : ∃ its : List Value, Vals xs its ∧ IsTup s.heap a its.toArray ∧ xs.length ≤ sizeLine := by
  rcases h with h | ⟨o, its, n, hk, hc, hs, hz, r⟩
  · obtain ⟨z, its, r, p⟩ := h.ok I.hok
    exact ⟨its, r, p, z⟩
  · refine ⟨its.toList, r, ⟨o, I.kIn a o hk, hc, n, by simpa using hs⟩, ?_⟩
    have e := r.length
    simp only [Array.length_toList] at e
    omega
theorem Inv.list_inj (I : Inv X pins σ H s) (h : SqL X.K H a xs) (h' : SqL X.K H a ys) : xs = ys := by
  obtain ⟨its, r, ⟨o, n, e, _, _, d⟩, _⟩ := I.list h
  obtain ⟨its', r', ⟨o', n', e', _, _, d'⟩, _⟩ := I.list h'
  rw [e] at e'; cases e'
  rw [d] at d'
  injection d' with d1 _
  have : its = its' := by simpa using congrArg Array.toList d1
  subst this
  exact r.inj r'
theorem Inv.tuple_inj (I : Inv X pins σ H s) (h : SqT X.K H a xs) (h' : SqT X.K H a ys) : xs = ys := by
  obtain ⟨its, r, ⟨o, e, _, n, d⟩, _⟩ := I.tuple h
  obtain ⟨its', r', ⟨o', e', _, n', d'⟩, _⟩ := I.tuple h'
  rw [e] at e'; cases e'
  rw [d] at d'
  injection d' with d1 _
  have : its = its' := by simpa using congrArg Array.toList d1
  subst this
  exact r.inj r'
end
abbrev Cx.wish (X : Cx) (E : Value → Shared → Prop) : Cx := { X with xe := E }
abbrev Cx.nox (X : Cx) : Cx := X.wish fun _ _ => False
theorem Cx.Ok.wish {X : Cx} (ok : X.Ok) (E : Value → Shared → Prop) : (X.wish E).Ok :=
  ⟨ok.mod, ok.kind, ok.glob, ok.blt, ok.above, ok.inj, ok.has, ok.cab, ok.hd, ok.frames, ok.stk, ok.exf, ok.bs, ok.bsz, ok.noex, ok.exfs, ok.funs, ok.frf⟩
theorem Cx.Ok.unwish {X : Cx} {E : Value → Shared → Prop} (ok : (X.wish E).Ok) : X.Ok :=
  ⟨ok.mod, ok.kind, ok.glob, ok.blt, ok.above, ok.inj, ok.has, ok.cab, ok.hd, ok.frames, ok.stk, ok.exf, ok.bs, ok.bsz, ok.noex, ok.exfs, ok.funs, ok.frf⟩
section
variable {X : Cx} {pins : List (Addr × Obj)} {σ : St} {H : Hp} {s : Shared} {E : Value → Shared → Prop}
theorem Inv.wish (I : Inv X pins σ H s) (E : Value → Shared → Prop) : Inv (X.wish E) pins σ H s := ⟨I.ok.wish E, I.os, I.bare, I.base, I.loc, I.cell, I.free, I.freeC, I.pin, I.hok, I.len⟩
theorem Inv.unwish (I : Inv (X.wish E) pins σ H s) : Inv X pins σ H s := ⟨I.ok.unwish, I.os, I.bare, I.base, I.loc, I.cell, I.free, I.freeC, I.pin, I.hok, I.len⟩
theorem SP.unwish {D : Ends} {f : Flow} {s' : Shared} (h : SP (X.wish E) pins D f s') : SP X pins D f s' := by
  cases f with
  | next => obtain ⟨σ', H', I, q⟩ := h; exact ⟨σ', H', I.unwish, q⟩
  | brk => obtain ⟨σ', H', I, q⟩ := h; exact ⟨σ', H', I.unwish, q⟩
  | cont => obtain ⟨σ', H', I, q⟩ := h; exact ⟨σ', H', I.unwish, q⟩
  | ret u => obtain ⟨v, σ', H', I, r, q⟩ := h; exact ⟨v, σ', H', I.unwish, r, q⟩
theorem PSs.nox {st : List Stmt} {t : TS} (h : PSs X.nox st t) : PSs X st t := fun pins s σ H D I hw =>
  wpAny_mono (h pins s σ H D (I.wish _) hw) (fun _ _ q => q.unwish) fun _ _ z => False.elim z
end
section
variable {X : Cx} {st : Stmt} {rest : List Stmt} {t u : TS} {e : Expr} {te : TE} {pos : Pos}
def tNext : TS := fun D σ H => D.nx σ H
def tSeq (t u : TS) : TS := fun D σ H => t { D with nx := u D } σ H
theorem pss_nil : PSs X [] tNext := fun _ _ σ H _ I h => wpAny_execs_nil ⟨σ, H, I, h⟩
theorem pss_cons (h1 : PS X st t) (h2 : PSs X rest u) : PSs X (st :: rest) (tSeq t u) := by
  intro pins s σ H D I h
  refine wpAny_execs_cons (thn (h1 pins s σ H { D with nx := u D } I h) fun f s1 q => ?_)
  cases f with
  | next =>
    obtain ⟨σ', H', I', q⟩ := q
    exact h2 pins s1 σ' H' D I' q
  | ret v => exact q
  | brk => exact q
  | cont => exact q
theorem pss_one (h1 : PS X st t) : PSs X [st] t := by
  intro pins s σ H D I h
  refine wpAny_execs_cons (thn (h1 pins s σ H D I h) fun f s1 q => ?_)
  cases f with
  | next => exact wpAny_execs_nil q
  | ret v => exact q
  | brk => exact q
  | cont => exact q
theorem Inv.quiet {pins : List (Addr × Obj)} {σ : St} {H : Hp} {s : Shared} (I : Inv X pins σ H s) : interactive X.env = false := by simp [interactive, I.ok.kind]
def tDrop (te : TE) : TS := fun D σ H => te σ H fun _ H1 => D.nx σ H1
theorem ps_expr (he : PE X e te) (hs : swapsWith e none pos.line X.env = pure false := by rfl) : PS X (.Expr e pos) (tDrop te) := by
  intro pins s σ H D I h
  exact wpAny_Expr_any (thn (he pins s σ H _ I h) fun v s1 ⟨x, H1, I1, r1, q1⟩ => ⟨σ, H1, I1, q1⟩) I.quiet hs
def tRet (te : TE) : TS := fun D σ H => te σ H D.rt
theorem ps_ret (he : PE X e te) : PS X (.Return (some e) pos) (tRet te) := by
  intro pins s σ H D I h
  exact wpAny_Return_some (thn (he pins s σ H _ I h) fun v s1 ⟨x, H1, I1, r1, q1⟩ => ⟨x, σ, H1, I1, r1, q1⟩)
def tIfS (c : TT) (t u : TS) : TS := fun D σ H => c σ H fun b H1 => if b = true then t D σ H1 else u D σ H1
theorem ps_if {c : Expr} {a b : List Stmt} {tc : TT} (hc : PT X c tc) (ha : PSs X a t) (hb : PSs X b u) : PS X (.If c a b pos) (tIfS tc t u) := by
  intro pins s σ H D I h
  refine wpAny_If (thn (hc pins s σ H _ I h) fun d s1 ⟨H1, I1, q1⟩ => ?_)
  cases d with
  | true => exact ha pins s1 σ H1 D I1 q1
  | false => exact hb pins s1 σ H1 D I1 q1
end
abbrev TG := V → St → Hp → (St → Hp → Prop) → Prop
def PG (X : Cx) (target : Expr) (t : TG) : Prop :=
  ∀ (pins : List (Addr × Obj)) (s : Shared) (σ : St) (H : Hp) (v : V) (u : Value) (Q : St → Hp → Prop), Inv X pins σ H s → RelV v u → t v σ H Q →
    wpAny (model X.prog X.w) X.A (assign target X.env u) (fun _ s' => ∃ σ' H', Inv X pins σ' H' s' ∧ Q σ' H') X.xe s
abbrev TSet := V → V → V → Hp → (Hp → Prop) → Prop
def PSet (X : Cx) (t : TSet) : Prop :=
  ∀ (pins : List (Addr × Obj)) (s : Shared) (σ : St) (H : Hp) (o i v : V) (ov iv u : Value) (Q : Hp → Prop), Inv X pins σ H s → RelV o ov → RelV i iv → RelV v u → t o i v H Q →
    wpAny (model X.prog X.w) X.A (setItem ov iv u) (fun _ s' => ∃ H', Inv X pins σ H' s' ∧ Q H') X.xe s
abbrev TIp := V → V → Hp → VK → Prop
def PIp (X : Cx) (op : Operator) (t : TIp) : Prop :=
  ∀ (pins : List (Addr × Obj)) (s : Shared) (σ : St) (H : Hp) (x y : V) (v u : Value) (Q : VK), Inv X pins σ H s → RelV x v → RelV y u → t x y H Q →
    wpAny (model X.prog X.w) X.A (inplaceOp op v u) (EP X pins σ Q) X.xe s
section
variable {X : Cx} {pos : Pos}
def gName (i : Nat) : TG := fun v σ H Q => Q (σ.set i (some v)) H
theorem pg_name {i : Nat} {x : Str} (hN : X.N.Nodup) (hi : X.N[i]? = some x) (hx : Loc X.env.scope x) (hf : X.fn x = true ∨ X.env.scope.names.lookup x = some .local := by first | exact .inl rfl | exact .inr rfl | assumption) : PG X (.Name x pos) (gName i) := by
  intro pins s σ H v u Q I r h
  exact wpAny_assign_Name (store_ok I hN hi hx r (fun s' I' => ⟨_, H, I', h⟩) hf)
def gSub (to ti : TE) (t : TSet) : TG := fun v σ H Q => to σ H fun o H1 => ti σ H1 fun i H2 => t o i v H2 fun H3 => Q σ H3
theorem pg_sub {o i : Expr} {to ti : TE} {t : TSet} (ho : PE X o to) (hi : PE X i ti) (hs : PSet X t)
    (ha : ∀ v, assign (.Subscript o i pos) X.env v = (do
      let ov ← holding [v] (eval o X.env)
      let iv ← holding [v, ov] (eval i X.env)
      standAt pos
      holding [v, ov, iv] (setItem ov iv v)
      release [v, ov, iv] []) := by intro _; rfl) : PG X (.Subscript o i pos) (gSub to ti t) := by
  intro pins s σ H v u Q I r h
  rw [ha]
  refine wpAny_bind (wpAny_holding (thn (ho pins s σ H _ I h) fun ov s1 ⟨x, H1, I1, r1, q1⟩ => ?_))
  refine wpAny_bind (wpAny_holding (thn (hi pins s1 σ H1 _ I1 q1) fun iv s2 ⟨y, H2, I2, r2, q2⟩ => ?_))
  refine wpAny_bind (wpAny_standAt (wpAny_bind (wpAny_holding (thn (hs pins s2 σ H2 x y v ov iv u _ I2 r1 r2 r q2) fun _ s3 ⟨H3, I3, q3⟩ => ?_))))
  exact wpAny_release ⟨σ, H3, I3, q3⟩
def tAsg (te : TE) (g : TG) : TS := fun D σ H => te σ H fun x H1 => g x σ H1 D.nx
theorem ps_asg {tg e : Expr} {te : TE} {g : TG} (he : PE X e te) (hg : PG X tg g) (hs : swapsWithSole [tg] e pos.line X.env = pure false := by rfl) (hw : swappedStores [tg] e X.env = pure none := by rfl)
    (h1 : (assignEach [tg] X.env).map (·.2) = [assign tg X.env] := by rfl) : PS X (.Assign [tg] e pos) (tAsg te g) := by
  intro pins s σ H D I h
  refine wpAny_Assign_stores (thn (he pins s σ H _ I h) fun v s1 ⟨x, H1, I1, r1, q1⟩ => ?_) hs hw
  rw [h1]
  exact thn (hg pins s1 σ H1 x v _ I1 r1 q1) fun _ s2 q => q
theorem ps_set {i : Nat} {x : Str} {e : Expr} {te : TE} {pos' : Pos} (hN : X.N.Nodup) (hi : X.N[i]? = some x) (hx : Loc X.env.scope x) (he : PE X e te) (hs : swapsWith e (some (.Name x pos')) pos.line X.env = pure false := by rfl) (hf : X.fn x = true ∨ X.env.scope.names.lookup x = some .local := by first | exact .inl rfl | exact .inr rfl | assumption) :
    PS X (.Assign [.Name x pos'] e pos) (tAsg te (gName i)) := by
  intro pins s σ H D I h
  refine wpAny_Assign_Name (thn (he pins s σ H _ I h) fun v s1 ⟨y, H1, I1, r1, q1⟩ => ?_) hs
  exact store_ok I1 hN hi hx r1 (fun s2 I2 => ⟨_, H1, I2, q1⟩) hf
def tAug (i : Nat) (te : TE) (ti : TIp) : TS := fun D σ H => ∃ x, σ[i]? = some (some x) ∧ te σ H fun y H1 => ti x y H1 fun z H2 => D.nx (σ.set i (some z)) H2
theorem ps_aug {i : Nat} {x : Str} {e : Expr} {te : TE} {op : Operator} {ti : TIp} {pos' : Pos} (hN : X.N.Nodup) (hi : X.N[i]? = some x) (hx : Loc X.env.scope x) (he : PE X e te) (ho : PIp X op ti) (hf : X.fn x = true ∨ X.env.scope.names.lookup x = some .local := by first | exact .inl rfl | exact .inr rfl | assumption) :
    PS X (.AugAssign (.Name x pos') op e pos) (tAug i te ti) := by
  intro pins s σ H D I h
  obtain ⟨v, e1, h⟩ := h
  obtain ⟨m, hn, hl⟩ := I.loc
  have vis : Vis X.env.scope x := by rcases hx with k | k; exact .inl k; exact .inr (.inl k)
  obtain ⟨u, r, l⟩ := hl i x v hi e1 vis
  refine wpAny_AugAssign_Name ?_
  have go : wpAny (model X.prog X.w) X.A (eval e X.env) (fun w s₂ => wpAny (model X.prog X.w) X.A (inplaceOp op u w) (fun r s₃ => wpAny (model X.prog X.w) X.A (storeName X.env x r) (fun _ => SP X pins D .next) X.xe s₃) X.xe s₂) X.xe s := by
    refine thn (he pins s σ H _ I h) fun w s1 ⟨y, H1, I1, r1, q1⟩ => ?_
    refine thn (ho pins s1 σ H1 v y u w _ I1 r r1 q1) fun z s2 ⟨zv, H2, I2, r2, q2⟩ => ?_
    exact store_ok I2 hN hi hx r2 (fun s3 I3 => ⟨_, H2, I3, q2⟩) hf
  rcases l with ⟨hk, hm⟩ | ⟨hk, c, hc, hcell⟩
  · exact wpAny_loadName_local I.ok.kind hk hn hm go
  · rcases hk with hk | hk
    · exact wpAny_loadName_cell I.ok.kind hk hc hcell go
    · rcases hx with k | k
      · have : X.env.scope.names.lookup x = some .free := hk
        rw [k] at this; cases this
      · have : X.env.scope.names.lookup x = some .free := hk
        rw [k] at this; cases this
def tAugS (to ti te : TE) (tget : V → V → Hp → VK → Prop) (tip : TIp) (tset : TSet) : TS := fun D σ H => to σ H fun o H1 => ti σ H1 fun i H2 => tget o i H2 fun x H3 => te σ H3 fun y H4 => tip x y H4 fun z H5 => tset o i z H5 fun H6 => D.nx σ H6
def PGet (X : Cx) (t : V → V → Hp → VK → Prop) : Prop :=
  ∀ (pins : List (Addr × Obj)) (s : Shared) (σ : St) (H : Hp) (o i : V) (ov iv : Value) (Q : VK), Inv X pins σ H s → RelV o ov → RelV i iv → t o i H Q →
    wpAny (model X.prog X.w) X.A (getItem ov iv) (EP X pins σ Q) X.xe s
theorem ps_augS {o i e : Expr} {to ti te : TE} {tget : V → V → Hp → VK → Prop} {tip : TIp} {tset : TSet} {op : Operator} {tpos : Pos} (ho : PE X o to) (hi : PE X i ti) (hg : PGet X tget) (he : PE X e te) (hp : PIp X op tip) (hs : PSet X tset)
    (ha : ∀ ov iv new, augStore i ov iv new = (do holding [new, ov, iv] (setItem ov iv new); release [new, ov, iv] []; pure .next) := by intros; rfl) : PS X (.AugAssign (.Subscript o i tpos) op e pos) (tAugS to ti te tget tip tset) := by
  intro pins s σ H D I h
  refine wpAny_AugAssign_SubscriptAny (thn (ho pins s σ H _ I h) fun ov s1 ⟨x1, H1, I1, r1, q1⟩ => ?_) ha
  refine thn (hi pins s1 σ H1 _ I1 q1) fun iv s2 ⟨x2, H2, I2, r2, q2⟩ => ?_
  refine thn (hg pins s2 σ H2 x1 x2 ov iv _ I2 r1 r2 q2) fun old s3 ⟨x3, H3, I3, r3, q3⟩ => ?_
  refine thn (he pins s3 σ H3 _ I3 q3) fun v s4 ⟨x4, H4, I4, r4, q4⟩ => ?_
  refine thn (hp pins s4 σ H4 x3 x4 old v _ I4 r3 r4 q4) fun new s5 ⟨x5, H5, I5, r5, q5⟩ => ?_
  exact thn (hs pins s5 σ H5 x1 x2 x5 ov iv new _ I5 r1 r2 r5 q5) fun _ s6 ⟨H6, I6, q6⟩ => ⟨σ, H6, I6, q6⟩
def ipI (f : Int → Int → Int) : TIp := fun x y H Q => ∃ i j, x = .int i ∧ y = .int j ∧ Q (.int (f i j)) H
theorem ip_add : PIp X .Add (ipI fun i j => i + j) := by
  intro pins s σ H x y v u Q I r1 r2 h
  obtain ⟨i, j, e1, e2, q⟩ := h
  subst e1; subst e2
  obtain ⟨t, rfl⟩ := r1
  obtain ⟨t', rfl⟩ := r2
  exact iadd_int ⟨.int _, H, I.tok _, ⟨_, rfl⟩, q⟩
theorem ip_sub : PIp X .Sub (ipI fun i j => i - j) := by
  intro pins s σ H x y v u Q I r1 r2 h
  obtain ⟨i, j, e1, e2, q⟩ := h
  subst e1; subst e2
  obtain ⟨t, rfl⟩ := r1
  obtain ⟨t', rfl⟩ := r2
  exact isub_int ⟨.int _, H, I.tok _, ⟨_, rfl⟩, q⟩
end
section
variable {X : Cx} {pos : Pos}
def tWhile (c : TT) (tb : TS) : TS := fun D σ H => ∃ W : Nat → St → Hp → Prop, (∃ m, W m σ H) ∧ ∀ m σ H, W m σ H →
  c σ H fun b H1 => if b = true then ∃ N : St → Hp → Prop, (∀ σ' H', N σ' H' → ∃ m', m' < m ∧ W m' σ' H') ∧ tb { D with nx := N, ct := N, bk := D.nx } σ H1 else D.nx σ H1
theorem ps_while {c : Expr} {body : List Stmt} {tc : TT} {tb : TS} (hp : PassesOwn (model X.prog X.w) X.A X.env X.xe) (hc : PT X c tc) (hb : PSs X body tb) : PS X (.While c body [] pos) (tWhile tc tb) := by
  intro pins s σ H D I h
  obtain ⟨W, ⟨m0, w0⟩, turn⟩ := h
  refine wpAny_While (codeAny_whileLoop (fun n s' => ∃ σ' H', Inv X pins σ' H' s' ∧ W n σ' H') ?_ m0 ⟨σ, H, I, w0⟩)
  rintro n s1 ⟨σ1, H1, I1, w1⟩
  refine wpAny_passesOwn hp (thn (hc pins s1 σ1 H1 _ I1 (turn n σ1 H1 w1)) fun b s2 ⟨H2, I2, q2⟩ => ?_)
  cases b with
  | true =>
    obtain ⟨N, hN, q2⟩ := q2
    rw [if_pos rfl]
    refine wpAny_passesOwn hp (thn (hb pins s2 σ1 H2 _ I2 q2) fun f s3 q3 => ?_)
    cases f with
    | next =>
      obtain ⟨σ3, H3, I3, n3⟩ := q3
      obtain ⟨m', hm, w3⟩ := hN σ3 H3 n3
      exact ⟨m', hm, σ3, H3, I3, w3⟩
    | cont =>
      obtain ⟨σ3, H3, I3, n3⟩ := q3
      obtain ⟨m', hm, w3⟩ := hN σ3 H3 n3
      exact ⟨m', hm, σ3, H3, I3, w3⟩
    | brk => exact q3
    | ret v => exact q3
  | false =>
    rw [if_neg Bool.false_ne_true]
    exact wpAny_execs_nil ⟨σ1, H2, I2, q2⟩
end
structure It where
  go : Nat → Hp → Prop
  yld : Nat → Hp → V → Hp → Prop
  stop : Nat → Hp → Prop
def FpOk (X : Cx) (pins : List (Addr × Obj)) (H : Hp) (b : Addr) : Prop :=
  H b = none ∧ b ≠ X.env.locals ∧ b ∉ X.fs ∧ (b ∈ X.ex ∨ X.s_0.heap.objs.size ≤ b) ∧ (∀ x c, X.env.cells.lookup x = some c → c ≠ b) ∧ ∀ p ∈ X.pn ++ pins, p.1 ≠ b
theorem Inv.fpOk {X : Cx} {pins : List (Addr × Obj)} {σ : St} {H H' : Hp} {s : Shared} {b : Addr} (I : Inv X pins σ H s) (hb : s.heap.objs.size ≤ b) (hn : H' b = none) : FpOk X pins H' b := by
  refine ⟨hn, Nat.ne_of_gt (Nat.lt_of_lt_of_le I.lt hb), I.nofs hb, .inr (Nat.le_trans I.sz hb), fun x c e z => ?_, fun p hp z => ?_⟩
  · obtain ⟨v, q⟩ := I.cell x c e
    exact absurd (Nat.lt_of_lt_of_le q.lt (by rw [z]; exact hb)) (Nat.lt_irrefl _)
  · exact absurd (Nat.lt_of_lt_of_le (Heap.lt_size (I.pin p hp).1) (by rw [z]; exact hb)) (Nat.lt_irrefl _)
structure Turn (P : Program) (w : World) (K : PySem.W.Frag) (tg : Expr) (J : It) (fp : List Addr) (it : Addr) (tn : Nat → Heap → Prop) : Prop where
  mem : it ∈ fp
  obj : ∀ i h, tn i h → ∀ b ∈ fp, ∃ o, h.get? b = some o ∧ ∀ v, o.data ≠ .cell v
  keep : ∀ i h h', tn i h → (∀ b ∈ fp, ∀ o, h.get? b = some o → h'.get? b = some o) → tn i h'
  item : ∀ (X : Cx), X.prog = P → X.w = w → X.K = K → X.calm = true → ∀ (i : Nat) (pins : List (Addr × Obj)) (s : Shared) (σ : St) (H : Hp) (E : Value → Shared → Prop), Inv X pins σ H s → (∀ b ∈ fp, FpOk X pins H b) → tn i s.heap → J.go i H →
    wpAny (model P w) X.A (pyNext (.ref it)) (fun r s1 => ∃ u, r = some u ∧
      wpAny (model P w) X.A (letOwnedTupleGo tg (.ref it) u) (fun _ s2 => ∃ x H', Inv X pins σ H' s2 ∧ RelV x u ∧ J.yld i H x H' ∧ tn (i + 1) s2.heap ∧ ∀ b ∈ fp, H' b = none) E s1) E s
  done : ∀ (X : Cx), X.prog = P → X.w = w → X.K = K → X.calm = true → ∀ (i : Nat) (pins : List (Addr × Obj)) (s : Shared) (σ : St) (H : Hp) (E : Value → Shared → Prop), Inv X pins σ H s → (∀ b ∈ fp, FpOk X pins H b) → tn i s.heap → J.stop i H →
    wpAny (model P w) X.A (pyNext (.ref it)) (fun r s1 => r = none ∧ Inv X pins σ H s1) E s
  self : ∀ (A : Around) (i : Nat) (s : Shared) (Q : Value → Shared → Prop) (E : Value → Shared → Prop), tn i s.heap → Q (.ref it) s → wpAny (model P w) A (pyIter (.ref it)) Q E s
abbrev TI := St → Hp → (It → Hp → Prop) → Prop
def PIE (X : Cx) (pins : List (Addr × Obj)) (σ : St) (tg : Expr) (R : It → Hp → Prop) (itv : Value) (s2 : Shared) : Prop :=
  ∃ (it : Addr) (fp : List Addr) (tn : Nat → Heap → Prop) (J : It) (H' : Hp), itv = .ref it ∧ Inv X pins σ H' s2 ∧ Turn X.prog X.w X.K tg J fp it tn ∧ tn 0 s2.heap ∧ (∀ b ∈ fp, FpOk X pins H' b) ∧ R J H'
def PI (X : Cx) (tg iter : Expr) (wi : TI) : Prop :=
  ∀ (pins : List (Addr × Obj)) (s : Shared) (σ : St) (H : Hp) (R : It → Hp → Prop), Inv X pins σ H s → wi σ H R →
    wpAny (model X.prog X.w) X.A (eval iter X.env) (fun v s1 => wpAny (model X.prog X.w) X.A (pyIter v) (PIE X pins σ tg R) X.xe s1) X.xe s
theorem go_of {M : Model} {A : Around} {E : Value → Shared → Prop} {s : Shared} {tg : Expr} {it : Addr} {u : Value} {o : Obj} {n : String} {vs : Array Value} {Q : Unit → Shared → Prop} (ho : s.heap.get? it = some o) (hc : o.cls = .type n) (hd : o.data = .fields vs)
    (hn : ["enumerate", "zip", "dict_itemiterator", "dict_reverseitemiterator", "odict_iterator", "itertools.zip_longest", "itertools.pairwise"].contains n = false) (hQ : Q () s) : wpAny M A (letOwnedTupleGo tg (.ref it) u) Q E s := by
  unfold letOwnedTupleGo
  cases tg <;> first
    | exact wpAny_pure hQ
    | (cases u <;> first
        | exact wpAny_pure hQ
        | (refine wpAny_bind (wpAny_load ho ?_)
           rw [hc, hd]
           show wpAny M A (if (["enumerate", "zip", "dict_itemiterator", "dict_reverseitemiterator", "odict_iterator", "itertools.zip_longest", "itertools.pairwise"].contains n && vs[0]? == some (rawInt _)) = true then _ else _) Q E s
           rw [if_neg (by intro h; rw [hn, Bool.false_and] at h; cases h)]
           exact wpAny_pure hQ))
def Itl (K : PySem.W.Frag) (a : Addr) : It :=
  ⟨fun i H => ∃ xs x, SqL K H a xs ∧ xs[i]? = some x, fun i H x H' => H' = H ∧ ∀ xs, SqL K H a xs → xs[i]? = some x, fun i H => ∃ xs, SqL K H a xs ∧ xs.length ≤ i⟩
def Itt (K : PySem.W.Frag) (a : Addr) : It :=
  ⟨fun i H => ∃ xs x, SqT K H a xs ∧ xs[i]? = some x, fun i H x H' => H' = H ∧ ∀ xs, SqT K H a xs → xs[i]? = some x, fun i H => ∃ xs, SqT K H a xs ∧ xs.length ≤ i⟩
def Itr (lo : Int) (n : Nat) : It := ⟨fun i _ => i < n, fun i H x H' => H' = H ∧ x = .int (lo + i), fun i _ => n ≤ i⟩
theorem turn_list {P : Program} {w : World} {K : PySem.W.Frag} {tg : Expr} (a it : Addr) : Turn P w K tg (Itl K a) [it] it (fun i h => h.IsListIter it a i) where
  mem := by simp
  obj := fun i h st b hb => by
    have e : b = it := by simpa using hb
    subst e
    obtain ⟨o, e, c, d⟩ := st
    exact ⟨o, e, fun v z => by rw [d] at z; cases z⟩
  keep := fun i h h' st k => st.at fun o e => k it (by simp) o e
  item := by
    intro X hP hw hK hc i pins s σ H E I hf st hg
    subst hP hw hK
    obtain ⟨xs, x, hq, hx⟩ := hg
    obtain ⟨its, rv, p, hz⟩ := I.list hq
    obtain ⟨u, hu, ru⟩ := rv.get hx
    obtain ⟨f0, f1, f2, f3, f4, f5⟩ := hf it (by simp)
    refine wpAny_pyNext_list_item st p.isList (x := u) (by simpa using hu) fun h' st' sb => ?_
    have I1 : Inv X pins σ H { s with heap := h' } := I.turned (t' := s.toks) (fun b o hb e => (sb.2 b hb).trans e) f0 f1 f3 f4 f5
    obtain ⟨o, e, c, d⟩ := id st'
    exact ⟨u, rfl, go_of (s := { s with heap := h' }) e c d (by decide) ⟨x, H, I1, ru, ⟨rfl, fun ys hy => by rw [I.list_inj hy hq]; exact hx⟩, st', fun b hb => (hf b hb).1⟩⟩
  done := by
    intro X hP hw hK hc i pins s σ H E I hf st hg
    subst hP hw hK
    obtain ⟨xs, hq, hx⟩ := hg
    obtain ⟨its, rv, p, hz⟩ := I.list hq
    obtain ⟨f0, f1, f2, f3, f4, f5⟩ := hf it (by simp)
    have hl := rv.length
    exact wpAny_pyNext_list_end (I.ok.hd hc) st p.isList (by simp; omega) fun h' eb => ⟨rfl, I.turned (t' := s.toks) (fun b o hb e => eb b o hb e) f0 f1 f3 f4 f5⟩
  self := fun _ _ _ _ _ st h => wpAny_pyIter_listiter st h
theorem turn_tuple {P : Program} {w : World} {K : PySem.W.Frag} {tg : Expr} (a it : Addr) : Turn P w K tg (Itt K a) [it] it (fun i h => h.IsTupleIter it a i) where
  mem := by simp
  obj := fun i h st b hb => by
    have e : b = it := by simpa using hb
    subst e
    obtain ⟨o, e, c, d⟩ := st
    exact ⟨o, e, fun v z => by rw [d] at z; cases z⟩
  keep := fun i h h' st k => st.at fun o e => k it (by simp) o e
  item := by
    intro X hP hw hK hc i pins s σ H E I hf st hg
    subst hP hw hK
    obtain ⟨xs, x, hq, hx⟩ := hg
    obtain ⟨its, rv, p, hz⟩ := I.tuple hq
    obtain ⟨u, hu, ru⟩ := rv.get hx
    obtain ⟨f0, f1, f2, f3, f4, f5⟩ := hf it (by simp)
    refine wpAny_pyNext_tuple_item st (show s.heap.IsTuple a its.toArray from p) (x := u) (by simpa using hu) fun h' st' sb => ?_
    have I1 : Inv X pins σ H { s with heap := h' } := I.turned (t' := s.toks) (fun b o hb e => (sb.2 b hb).trans e) f0 f1 f3 f4 f5
    obtain ⟨o, e, c, d⟩ := id st'
    exact ⟨u, rfl, go_of (s := { s with heap := h' }) e c d (by decide) ⟨x, H, I1, ru, ⟨rfl, fun ys hy => by rw [I.tuple_inj hy hq]; exact hx⟩, st', fun b hb => (hf b hb).1⟩⟩
  done := by
    intro X hP hw hK hc i pins s σ H E I hf st hg
    subst hP hw hK
    obtain ⟨xs, hq, hx⟩ := hg
    obtain ⟨its, rv, p, hz⟩ := I.tuple hq
    obtain ⟨f0, f1, f2, f3, f4, f5⟩ := hf it (by simp)
    have hl := rv.length
    exact wpAny_pyNext_tuple_end (I.ok.hd hc) st (show s.heap.IsTuple a its.toArray from p) (by simp; omega) fun h' eb => ⟨rfl, I.turned (t' := s.toks) (fun b o hb e => eb b o hb e) f0 f1 f3 f4 f5⟩
  self := fun _ _ _ _ _ st h => wpAny_pyIter_tupleiter st h
theorem turn_range {P : Program} {w : World} {K : PySem.W.Frag} {tg : Expr} (it : Addr) (lo : Int) (n : Nat) : Turn P w K tg (Itr lo n) [it] it (fun i h => IsRangeIter h it (lo + (i : Nat) * 1) ((n : Int) - (i : Nat)) 1) where
  mem := by simp
  obj := fun i h st b hb => by
    have e : b = it := by simpa using hb
    subst e
    exact ⟨_, st, fun v z => by
      have z' : Data.fields _ = Data.cell v := z
      cases z'⟩
  keep := fun i h h' st k => k it (by simp) _ st
  item := by
    intro X hP hw hK hc i pins s σ H E I hf st hg
    subst hP hw hK
    obtain ⟨f0, f1, f2, f3, f4, f5⟩ := hf it (by simp)
    have W := Walks.range (prog := X.prog) (w := X.w) (I.ok.hd hc) it lo 1 n
    refine W.item i s _ _ hg st fun v h' tk hv st' kk => ?_
    obtain ⟨t, rfl⟩ := hv
    have I1 : Inv X pins σ H { s with heap := h', toks := tk } := I.turned (fun b o hb e => kk b o (by simpa using hb) e) f0 f1 f3 f4 f5
    refine ⟨_, rfl, go_of (s := { s with heap := h', toks := tk }) (n := "range_iterator") st' rfl rfl (by decide) ⟨.int (lo + i), H, I1, ⟨t, ?_⟩, ⟨rfl, rfl⟩, st', fun b hb => (hf b hb).1⟩⟩
    rw [Int.mul_one]
  done := by
    intro X hP hw hK hc i pins s σ H E I hf st hg
    subst hP hw hK
    obtain ⟨f0, f1, f2, f3, f4, f5⟩ := hf it (by simp)
    exact wpAny_pyNext_range_end (I.ok.hd hc) st (by have : n ≤ i := hg; omega) fun h' eb => ⟨rfl, I.turned (t' := s.toks) (fun b o hb e => eb b o hb e) f0 f1 f3 f4 f5⟩
  self := fun _ _ _ _ _ st h => wpAny_pyIter_rangeiter st h
end L2
namespace L2
open PySem PySem.Spec PyProof.Rows
section
variable {X : Cx} {tg : Expr}
def iList (K : PySem.W.Frag) (tl : TE) : TI := fun σ H R => tl σ H fun x H1 => ∃ a, x = .ref a ∧ (∃ xs, SqL K H1 a xs) ∧ R (Itl K a) H1
def iTup (K : PySem.W.Frag) (tl : TE) : TI := fun σ H R => tl σ H fun x H1 => ∃ a, x = .ref a ∧ (∃ xs, SqT K H1 a xs) ∧ R (Itt K a) H1
theorem pi_list {l : Expr} {tl : TE} (hl : PE X l tl) : PI X tg l (iList X.K tl) := by
  intro pins s σ H R I h
  refine thn (hl pins s σ H _ I h) fun v s1 ⟨x, H1, I1, r1, q1⟩ => ?_
  obtain ⟨a, e, ⟨xs, hq⟩, q⟩ := q1
  subst e
  cases r1
  obtain ⟨its, rv, p, hz⟩ := I1.list hq
  refine wpAny_pyIter_list p.isList ?_
  refine ⟨s1.heap.objs.size, [s1.heap.objs.size], _, _, H1, rfl, I1.kept (t' := s1.toks) fun b o e => Heap.get?_push_of_some _ e, turn_list a _, ⟨_, Heap.get?_push_size _ rfl, rfl, rfl⟩, fun b hb => ?_, q⟩
  have e : b = s1.heap.objs.size := by simpa using hb
  subst e
  exact I1.fpOk (Nat.le_refl _) (I1.hok.fresh (Nat.le_refl _))
theorem pi_tup {l : Expr} {tl : TE} (hl : PE X l tl) : PI X tg l (iTup X.K tl) := by
  intro pins s σ H R I h
  refine thn (hl pins s σ H _ I h) fun v s1 ⟨x, H1, I1, r1, q1⟩ => ?_
  obtain ⟨a, e, ⟨xs, hq⟩, q⟩ := q1
  subst e
  cases r1
  obtain ⟨its, rv, p, hz⟩ := I1.tuple hq
  refine wpAny_pyIter_tuple (show s1.heap.IsTuple a its.toArray from p) ?_
  refine ⟨s1.heap.objs.size, [s1.heap.objs.size], _, _, H1, rfl, I1.kept (t' := s1.toks) fun b o e => Heap.get?_push_of_some _ e, turn_tuple a _, ⟨_, Heap.get?_push_size _ rfl, rfl, rfl⟩, fun b hb => ?_, q⟩
  have e : b = s1.heap.objs.size := by simpa using hb
  subst e
  exact I1.fpOk (Nat.le_refl _) (I1.hok.fresh (Nat.le_refl _))
theorem range_it {pins : List (Addr × Obj)} {σ : St} {H : Hp} {s : Shared} {R : It → Hp → Prop} {E : Value → Shared → Prop} {lo hi : Int} {t u v : Tok} {tk : Nat} (I : Inv X pins σ H s) (h1 : -(2 ^ 62) ≤ lo) (h2 : lo < 2 ^ 62) (h3 : -(2 ^ 62) ≤ hi) (h4 : hi < 2 ^ 62)
    (q : R (Itr lo (hi - lo).toNat) H) : wpAny (model X.prog X.w) X.A (pyIter (.ref s.heap.objs.size)) (PIE X pins σ tg R) E { s with heap := s.heap.push { cls := .type "range", data := .fields #[.int lo t, .int hi u, .int 1 v] }, toks := tk } := by
  refine wpAny_pyIter_range (IsRange.new ..) (small_one h1 h2 h3 h4) ?_
  have I1 : Inv X pins σ H { s with heap := s.heap.push { cls := .type "range", data := .fields #[.int lo t, .int hi u, .int 1 v] }, toks := tk } := I.kept fun b o e => Heap.get?_push_of_some _ e
  refine ⟨(s.heap.push { cls := .type "range", data := .fields #[.int lo t, .int hi u, .int 1 v] }).objs.size, [(s.heap.push { cls := .type "range", data := .fields #[.int lo t, .int hi u, .int 1 v] }).objs.size], _, _, H, rfl,
    I1.kept (t' := tk) fun b o e => Heap.get?_push_of_some _ e, turn_range _ lo (hi - lo).toNat, ?_, fun b hb => ?_, q⟩
  · have e1 : lo + ((0 : Nat) : Int) * 1 = lo := by simp
    have e2 : (((hi - lo).toNat : Nat) : Int) - ((0 : Nat) : Int) = Builtin.Range.rangeSize lo hi 1 := by rw [rangeSize_one]; split <;> omega
    show IsRangeIter _ _ (lo + ((0 : Nat) : Int) * 1) ((((hi - lo).toNat : Nat) : Int) - ((0 : Nat) : Int)) 1
    rw [e1, e2]
    exact Heap.get?_push_size _ rfl
  · have e : b = (s.heap.push { cls := .type "range", data := .fields #[.int lo t, .int hi u, .int 1 v] }).objs.size := by simpa using hb
    subst e
    exact I1.fpOk (Nat.le_refl _) (I1.hok.fresh (Nat.le_refl _))
def iRng1 (ta : TA) : TI := fun σ H R => ta σ H fun vs H1 => ∃ j : Int, vs = [.int j] ∧ -(2 ^ 62) ≤ j ∧ j < 2 ^ 62 ∧ R (Itr 0 j.toNat) H1
theorem pi_range1 {a : Expr} {ta : TA} {p pos : Pos} (hg : Gl X "range") (hm : X.mg "range" = none) (ha : PA X [a] ta) (hs : starEach [a] X.env = [(false, eval a X.env)] := by rfl) : PI X tg (.Call (.Name "range" p) [a] [] pos) (iRng1 ta) := by
  intro pins s σ H R I h
  refine Call_ (ld_blt I hg hm boot_range (PyProof.Rows.callWith_type1 (thn (ha pos pins s σ H _ I h) fun us s1 ⟨vs, H1, I1, r1, q1⟩ => ?_) hs rfl))
  obtain ⟨j, e, q1, q2, q⟩ := q1
  subst e
  cases r1 with
  | cons r rr =>
    cases rr
    obtain ⟨t, rfl⟩ := r
    exact call_range_1 (range_it I1 (by omega) (by omega) q1 q2 (by simpa using q))
def tFor (wi : TI) (g : TG) (tb : TS) : TS := fun D σ H => wi σ H fun J H1 => ∃ W : Nat → Nat → St → Hp → Prop, (∃ m, W 0 m σ H1) ∧ ∀ i m σ H, W i m σ H →
  (J.stop i H ∧ D.nx σ H) ∨ (J.go i H ∧ ∃ N : St → Hp → Prop, (∀ σ' H', N σ' H' → ∃ m', m' < m ∧ W (i + 1) m' σ' H') ∧ ∀ x H', J.yld i H x H' → g x σ H' fun σ2 H2 => tb { D with nx := N, ct := N, bk := D.nx } σ2 H2)
def pinsAt (fp : List Addr) (h : Heap) : List (Addr × Obj) := fp.filterMap fun b => (h.get? b).map fun o => (b, o)
theorem mem_pinsAt {fp : List Addr} {h : Heap} {b : Addr} {o : Obj} (hb : b ∈ fp) (e : h.get? b = some o) : (b, o) ∈ pinsAt fp h := List.mem_filterMap.mpr ⟨b, hb, by rw [e]; rfl⟩
theorem of_pinsAt {fp : List Addr} {h : Heap} {p : Addr × Obj} (hp : p ∈ pinsAt fp h) : p.1 ∈ fp ∧ h.get? p.1 = some p.2 := by
  obtain ⟨b, hb, e⟩ := List.mem_filterMap.mp hp
  cases q : h.get? b with
  | none => rw [q] at e; cases e
  | some o =>
    rw [q] at e
    have e' : (b, o) = p := Option.some.inj e
    subst e'
    exact ⟨hb, q⟩
theorem Inv.pinned {pins : List (Addr × Obj)} {σ : St} {H : Hp} {s : Shared} {fp : List Addr} (I : Inv X pins σ H s) (hf : ∀ b ∈ fp, FpOk X pins H b) (ho : ∀ b ∈ fp, ∃ o, s.heap.get? b = some o ∧ ∀ v, o.data ≠ .cell v) : Inv X (pins ++ pinsAt fp s.heap) σ H s :=
  I.pins_of fun p hp => (List.mem_append.mp hp).elim (fun z => I.pin p (List.mem_append_right _ z)) fun z => by
    obtain ⟨hb, e⟩ := of_pinsAt z
    obtain ⟨f0, f1, f2, _⟩ := hf p.1 hb
    obtain ⟨o, e', d⟩ := ho p.1 hb
    rw [e] at e'; cases e'
    exact ⟨e, f0, f1, f2, d⟩
theorem Inv.unpinned {pins pl : List (Addr × Obj)} {σ : St} {H : Hp} {s : Shared} (I : Inv X (pins ++ pl) σ H s) : Inv X pins σ H s := I.pins_of fun p hp => I.pin p (List.mem_append_right _ (List.mem_append_left _ hp))
theorem ps_for {iter : Expr} {body : List Stmt} {wi : TI} {g : TG} {tb : TS} {pos : Pos} (hp : PassesOwn (model X.prog X.w) X.A X.env X.xe) (hc : X.calm = true) (hi : PI X tg iter wi) (hg : PG X tg g) (hb : PSs X body tb)
    (hs : ∀ x, foldedSetIterable iter X.env x = pure x := by intro _; rfl) : PS X (.For tg iter body [] pos) (tFor wi g tb) := by
  intro pins s σ H D I h
  refine wpAny_For (thn (hi pins s σ H _ I h) fun v s1 h1 => thn h1 fun itv s2 h2 => ?_) hs
  obtain ⟨it, fp, tn, J, H2, e, I2, T, st2, f2, W, ⟨m0, w0⟩, turn⟩ := h2
  subst e
  -- what stays true of the iterator's objects through the loop
  have stat : ∀ {H' : Hp}, (∀ b ∈ fp, H' b = none) → ∀ b ∈ fp, FpOk X pins H' b := fun hn b hb => ⟨hn b hb, (f2 b hb).2⟩
  refine codeAny_forLoop_any (fun n s' => ∃ i σ' H', Inv X pins σ' H' s' ∧ tn i s'.heap ∧ (∀ b ∈ fp, H' b = none) ∧ W i n σ' H') ?_ m0 ⟨0, σ, H2, I2, st2, fun b hb => (f2 b hb).1, w0⟩
  rintro n s3 ⟨i, σ3, H3, I3, st3, fr3, w3⟩
  rcases turn i n σ3 H3 w3 with ⟨stop, qn⟩ | ⟨go, N, hN, step⟩
  · refine wpAny_passesOwn hp (thn (T.done X rfl rfl rfl hc i pins s3 σ3 H3 X.xe I3 (stat fr3) st3 stop) fun r s4 ⟨hr, I4⟩ => ?_)
    subst hr
    exact wpAny_execs_nil ⟨σ3, H3, I4, qn⟩
  · refine wpAny_passesOwn hp (thn (T.item X rfl rfl rfl hc i pins s3 σ3 H3 X.xe I3 (stat fr3) st3 go) fun r s4 ⟨u, hr, h4⟩ => ?_)
    subst hr
    refine wpAny_passesOwn hp (thn h4 fun _ s5 ⟨x, H5, I5, r5, y5, st5, fr5⟩ => ?_)
    have I5' := I5.pinned (stat fr5) (T.obj _ _ st5)
    refine wpAny_passesOwn hp (thn (hg _ s5 σ3 H5 x u _ I5' r5 (step x H5 y5)) fun _ s6 ⟨σ6, H6, I6, q6⟩ => ?_)
    refine wpAny_passesOwn hp (thn (hb _ s6 σ6 H6 _ I6 q6) fun f s7 q7 => ?_)
    have again : ∀ {σ7 : St} {H7 : Hp}, Inv X (pins ++ pinsAt fp s5.heap) σ7 H7 s7 → N σ7 H7 → ∃ m, m < n ∧ ∃ i σ' H', Inv X pins σ' H' s7 ∧ tn i s7.heap ∧ (∀ b ∈ fp, H' b = none) ∧ W i m σ' H' := fun {σ7 H7} I7 n7 => by
      obtain ⟨m', hm, w7⟩ := hN σ7 H7 n7
      refine ⟨m', hm, i + 1, σ7, H7, I7.unpinned, T.keep _ _ _ st5 fun b hb o e => (I7.pin (b, o) (List.mem_append_right _ (List.mem_append_right _ (mem_pinsAt hb e)))).1, fun b hb => ?_, w7⟩
      obtain ⟨o, e, d⟩ := T.obj _ _ st5 b hb
      exact (I7.pin (b, o) (List.mem_append_right _ (List.mem_append_right _ (mem_pinsAt hb e)))).2.1
    cases f with
    | next => obtain ⟨σ7, H7, I7, n7⟩ := q7; exact again I7 n7
    | cont => obtain ⟨σ7, H7, I7, n7⟩ := q7; exact again I7 n7
    | brk => obtain ⟨σ7, H7, I7, q7⟩ := q7; exact ⟨σ7, H7, I7.unpinned, q7⟩
    | ret v => obtain ⟨x7, σ7, H7, I7, r7, q7⟩ := q7; exact ⟨x7, σ7, H7, I7.unpinned, r7, q7⟩
end
theorem for_list {K : PySem.W.Frag} {a : Addr} {xs : List V} {g : TG} {tb : TS} {D : Ends} {σ : St} {H : Hp} (Pv : Nat → St → Hp → Prop) (h0 : Pv 0 σ H) (hl : ∀ i σ H, i ≤ xs.length → Pv i σ H → SqL K H a xs)
    (hs : ∀ i x σ H, xs[i]? = some x → Pv i σ H → g x σ H fun σ2 H2 => tb { D with nx := Pv (i + 1), ct := Pv (i + 1), bk := D.nx } σ2 H2) (hd : ∀ σ H, Pv xs.length σ H → D.nx σ H) :
    ∃ W : Nat → Nat → St → Hp → Prop, (∃ m, W 0 m σ H) ∧ ∀ i m σ H, W i m σ H →
      ((Itl K a).stop i H ∧ D.nx σ H) ∨ ((Itl K a).go i H ∧ ∃ N : St → Hp → Prop, (∀ σ' H', N σ' H' → ∃ m', m' < m ∧ W (i + 1) m' σ' H') ∧ ∀ x H', (Itl K a).yld i H x H' → g x σ H' fun σ2 H2 => tb { D with nx := N, ct := N, bk := D.nx } σ2 H2) := by
  refine ⟨fun i m σ H => m = xs.length - i ∧ i ≤ xs.length ∧ Pv i σ H, ⟨xs.length, by simp, Nat.zero_le _, h0⟩, ?_⟩
  rintro i m σ H ⟨rfl, hi, p⟩
  have q := hl i σ H hi p
  by_cases hlt : i < xs.length
  · refine .inr ⟨⟨xs, xs[i], q, by simp [hlt]⟩, Pv (i + 1), fun σ' H' p' => ⟨xs.length - (i + 1), by omega, rfl, hlt, p'⟩, fun x H' y => ?_⟩
    obtain ⟨e, y⟩ := y
    subst e
    exact hs i x σ _ (y xs q) p
  · have e : i = xs.length := by omega
    subst e
    exact .inl ⟨⟨xs, q, Nat.le_refl _⟩, hd σ H p⟩
theorem for_tup {K : PySem.W.Frag} {a : Addr} {xs : List V} {g : TG} {tb : TS} {D : Ends} {σ : St} {H : Hp} (Pv : Nat → St → Hp → Prop) (h0 : Pv 0 σ H) (hl : ∀ i σ H, i ≤ xs.length → Pv i σ H → SqT K H a xs)
    (hs : ∀ i x σ H, xs[i]? = some x → Pv i σ H → g x σ H fun σ2 H2 => tb { D with nx := Pv (i + 1), ct := Pv (i + 1), bk := D.nx } σ2 H2) (hd : ∀ σ H, Pv xs.length σ H → D.nx σ H) :
    ∃ W : Nat → Nat → St → Hp → Prop, (∃ m, W 0 m σ H) ∧ ∀ i m σ H, W i m σ H →
      ((Itt K a).stop i H ∧ D.nx σ H) ∨ ((Itt K a).go i H ∧ ∃ N : St → Hp → Prop, (∀ σ' H', N σ' H' → ∃ m', m' < m ∧ W (i + 1) m' σ' H') ∧ ∀ x H', (Itt K a).yld i H x H' → g x σ H' fun σ2 H2 => tb { D with nx := N, ct := N, bk := D.nx } σ2 H2) := by
  refine ⟨fun i m σ H => m = xs.length - i ∧ i ≤ xs.length ∧ Pv i σ H, ⟨xs.length, by simp, Nat.zero_le _, h0⟩, ?_⟩
  rintro i m σ H ⟨rfl, hi, p⟩
  have q := hl i σ H hi p
  by_cases hlt : i < xs.length
  · refine .inr ⟨⟨xs, xs[i], q, by simp [hlt]⟩, Pv (i + 1), fun σ' H' p' => ⟨xs.length - (i + 1), by omega, rfl, hlt, p'⟩, fun x H' y => ?_⟩
    obtain ⟨e, y⟩ := y
    subst e
    exact hs i x σ _ (y xs q) p
  · have e : i = xs.length := by omega
    subst e
    exact .inl ⟨⟨xs, q, Nat.le_refl _⟩, hd σ H p⟩
theorem for_range {lo : Int} {n : Nat} {g : TG} {tb : TS} {D : Ends} {σ : St} {H : Hp} (Pv : Nat → St → Hp → Prop) (h0 : Pv 0 σ H)
    (hs : ∀ i σ H, i < n → Pv i σ H → g (.int (lo + i)) σ H fun σ2 H2 => tb { D with nx := Pv (i + 1), ct := Pv (i + 1), bk := D.nx } σ2 H2) (hd : ∀ σ H, Pv n σ H → D.nx σ H) :
    ∃ W : Nat → Nat → St → Hp → Prop, (∃ m, W 0 m σ H) ∧ ∀ i m σ H, W i m σ H →
      ((Itr lo n).stop i H ∧ D.nx σ H) ∨ ((Itr lo n).go i H ∧ ∃ N : St → Hp → Prop, (∀ σ' H', N σ' H' → ∃ m', m' < m ∧ W (i + 1) m' σ' H') ∧ ∀ x H', (Itr lo n).yld i H x H' → g x σ H' fun σ2 H2 => tb { D with nx := N, ct := N, bk := D.nx } σ2 H2) := by
  refine ⟨fun i m σ H => m = n - i ∧ i ≤ n ∧ Pv i σ H, ⟨n, by simp, Nat.zero_le _, h0⟩, ?_⟩
  rintro i m σ H ⟨rfl, hi, p⟩
  by_cases hlt : i < n
  · refine .inr ⟨hlt, Pv (i + 1), fun σ' H' p' => ⟨n - (i + 1), by omega, rfl, hlt, p'⟩, fun x H' y => ?_⟩
    obtain ⟨e, y⟩ := y
    subst e y
    exact hs i σ _ hlt p
  · have e : i = n := by omega
    subst e
    exact .inl ⟨Nat.le_refl _, hd σ H p⟩
end L2
namespace L2
open PySem PySem.Spec PyProof.Rows
abbrev R2 := V → V → Hp → VK → Prop
def OpR (X : Cx) (f : Value → Value → Sem Value) (r : R2) : Prop :=
  ∀ (pins : List (Addr × Obj)) (s : Shared) (σ : St) (H : Hp) (x y : V) (v u : Value) (Q : VK), Inv X pins σ H s → RelV x v → RelV y u → r x y H Q →
    wpAny (model X.prog X.w) X.A (f v u) (EP X pins σ Q) X.xe s
def UnR (X : Cx) (f : Value → Sem Value) (r : V → Hp → VK → Prop) : Prop :=
  ∀ (pins : List (Addr × Obj)) (s : Shared) (σ : St) (H : Hp) (x : V) (v : Value) (Q : VK), Inv X pins σ H s → RelV x v → r x H Q →
    wpAny (model X.prog X.w) X.A (f v) (EP X pins σ Q) X.xe s
def CallR (X : Cx) (f : Value) (r : List V → Hp → VK → Prop) : Prop :=
  ∀ (pins : List (Addr × Obj)) (s : Shared) (σ : St) (H : Hp) (xs : List V) (us : List Value) (Q : VK), Inv X pins σ H s → Vals xs us → r xs H Q →
    wpAny (model X.prog X.w) X.A (call f us) (EP X pins σ Q) X.xe s
def tOp (r : R2) (ta tb : TE) : TE := fun σ H Q => ta σ H fun x H1 => tb σ H1 fun y H2 => r x y H2 Q
def tUn (r : V → Hp → VK → Prop) (ta : TE) : TE := fun σ H Q => ta σ H fun x H1 => r x H1 Q
def rI (C : Int → Int → Prop) (g : Int → Int → V) : R2 := fun x y H Q => ∃ i j, x = .int i ∧ y = .int j ∧ C i j ∧ Q (g i j) H
def rI0 (g : Int → Int → V) : R2 := fun x y H Q => ∃ i j, x = .int i ∧ y = .int j ∧ Q (g i j) H
def rU (g : Int → V) : V → Hp → VK → Prop := fun x H Q => ∃ i, x = .int i ∧ Q (g i) H
section
variable {X : Cx} {a b c : Expr} {ta tb tc : TE} {pos : Pos}
theorem binT (ha : PE X a ta) (hb : PE X b tb) {pins : List (Addr × Obj)} {s : Shared} {σ : St} {H : Hp} {R : V → V → Hp → Prop} (I : Inv X pins σ H s)
    (h : ta σ H fun x H1 => tb σ H1 fun y H2 => R x y H2) {Q : Value → Shared → Prop} {f : Value → Value → Sem Value}
    (hf : ∀ v u s2 x y H2, Inv X pins σ H2 s2 → RelV x v → RelV y u → R x y H2 → wpAny (model X.prog X.w) X.A (f v u) Q X.xe s2) :
    wpAny (model X.prog X.w) X.A (eval a X.env) (fun v s₁ => wpAny (model X.prog X.w) X.A (eval b X.env) (fun u s₂ => wpAny (model X.prog X.w) X.A (f v u) Q X.xe s₂) X.xe s₁) X.xe s := by
  refine thn (ha pins s σ H _ I h) fun v s1 ⟨x, H1, I1, r1, q1⟩ => ?_
  refine thn (hb pins s1 σ H1 _ I1 q1) fun u s2 ⟨y, H2, I2, r2, q2⟩ => ?_
  exact hf v u s2 x y H2 I2 r1 r2 q2
theorem pe_op {op : Operator} {r : R2} (ho : OpR X (binaryOp op) r) (ha : PE X a ta) (hb : PE X b tb) : PE X (.BinOp a op b pos) (tOp r ta tb) := by
  intro pins s σ H Q I h
  exact wpAny_BinOp (binT ha hb I h fun v u s2 x y H2 I2 rx ry q => ho pins s2 σ H2 x y v u Q I2 rx ry q)
theorem pe_un {op : UnaryOp} {r : V → Hp → VK → Prop} (ho : UnR X (unaryOp op) r) (ha : PE X a ta) : PE X (.UnaryOp op a pos) (tUn r ta) := by
  intro pins s σ H Q I h
  exact UnaryOp_ (thn (ha pins s σ H _ I h) fun v s1 ⟨x, H1, I1, r1, q1⟩ => ho pins s1 σ H1 x v Q I1 r1 q1)
theorem opI {f : Value → Value → Sem Value} {C : Int → Int → Prop} {g : Int → Int → Int}
    (rule : ∀ (i j : Int) (t u : Tok) (s : Shared) (Q : Value → Shared → Prop) (E : Value → Shared → Prop), C i j → Q (.int (g i j) s.toks) { s with toks := s.toks + 1 } → wpAny (model X.prog X.w) X.A (f (.int i t) (.int j u)) Q E s) :
    OpR X f (rI C fun i j => .int (g i j)) := by
  intro pins s σ H x y v u Q I rx ry h
  obtain ⟨i, j, rfl, rfl, hc, q⟩ := h
  obtain ⟨t, rfl⟩ := rx
  obtain ⟨t', rfl⟩ := ry
  exact rule i j t t' s _ _ hc ⟨.int (g i j), H, I.tok _, ⟨_, rfl⟩, q⟩
theorem opI0 {f : Value → Value → Sem Value} {g : Int → Int → Int}
    (rule : ∀ (i j : Int) (t u : Tok) (s : Shared) (Q : Value → Shared → Prop) (E : Value → Shared → Prop), Q (.int (g i j) s.toks) { s with toks := s.toks + 1 } → wpAny (model X.prog X.w) X.A (f (.int i t) (.int j u)) Q E s) :
    OpR X f (rI0 fun i j => .int (g i j)) := by
  intro pins s σ H x y v u Q I rx ry h
  obtain ⟨i, j, rfl, rfl, q⟩ := h
  obtain ⟨t, rfl⟩ := rx
  obtain ⟨t', rfl⟩ := ry
  exact rule i j t t' s _ _ ⟨.int (g i j), H, I.tok _, ⟨_, rfl⟩, q⟩
theorem opB0 {f : Value → Value → Sem Value} {g : Int → Int → Bool}
    (rule : ∀ (i j : Int) (t u : Tok) (s : Shared) (Q : Value → Shared → Prop) (E : Value → Shared → Prop), Q (.bool (g i j)) s → wpAny (model X.prog X.w) X.A (f (.int i t) (.int j u)) Q E s) :
    OpR X f (rI0 fun i j => .bl (g i j)) := by
  intro pins s σ H x y v u Q I rx ry h
  obtain ⟨i, j, rfl, rfl, q⟩ := h
  obtain ⟨t, rfl⟩ := rx
  obtain ⟨t', rfl⟩ := ry
  exact rule i j t t' s _ _ ⟨.bl (g i j), H, I, rfl, q⟩
def CDiv (i j : Int) : Prop := 0 < j ∧ j < 1073741824
def CPow (i j : Int) : Prop := 0 ≤ j ∧ j ≤ 1000000 ∧ i.natAbs < 2 ^ 64
def CMul (i j : Int) : Prop := (-(2 ^ 64) < i ∧ i < 2 ^ 64) ∨ (-(2 ^ 64) < j ∧ j < 2 ^ 64)
theorem CMul.ok {i j : Int} (h : CMul i j) : IntMulOk i j := by
  rcases h with ⟨h1, h2⟩ | ⟨h1, h2⟩
  · exact .of_left (intBits_le_64 h1 h2)
  · exact .of_right (intBits_le_64 h1 h2)
theorem two_pow_nn (k : Nat) : (0 : Int) ≤ 2 ^ k := by
  rw [two_pow_cast]
  exact Int.natCast_nonneg _
theorem op_add : OpR X (binaryOp .Add) (rI0 fun i j => .int (i + j)) := opI0 fun _ _ _ _ _ _ _ q => add_int q
theorem op_sub : OpR X (binaryOp .Sub) (rI0 fun i j => .int (i - j)) := opI0 fun _ _ _ _ _ _ _ q => sub_int q
theorem op_mul : OpR X (binaryOp .Mult) (rI CMul fun i j => .int (i * j)) := opI fun _ _ _ _ _ _ _ hc q => mul_int q hc.ok
theorem op_fdiv : OpR X (binaryOp .FloorDiv) (rI CDiv fun i j => .int (i / j)) := opI fun i j _ _ _ _ _ hc q => by
  have h1 : (0 : Int) < j := hc.1
  have h2 : j < 1073741824 := hc.2
  exact floordiv_int (by omega) (by rw [Int.fdiv_eq_ediv_of_nonneg i (by omega)]; exact q) (.inl (PyProof.noPylong_small (by omega)))
theorem op_mod : OpR X (binaryOp .Mod) (rI (fun _ j => 0 < j) fun i j => .int (i % j)) := opI fun i j _ _ _ _ _ hc q => by
  have h1 : (0 : Int) < j := hc
  exact mod_int' (by omega) (by rw [Int.fmod_eq_emod_of_nonneg i (by omega)]; exact q)
theorem op_shl : OpR X (binaryOp .LShift) (rI CPow fun i j => .int (i * 2 ^ j.toNat)) := opI fun _ _ _ _ _ _ _ hc q => lshift_int_small hc.1 hc.2.1 hc.2.2 q
theorem op_shr : OpR X (binaryOp .RShift) (rI (fun _ j => 0 ≤ j) fun i j => .int (i / 2 ^ j.toNat)) := opI fun i j _ _ _ _ _ hc q =>
  rshift_int hc (by rw [Int.fdiv_eq_ediv_of_nonneg i (two_pow_nn _)]; exact q)
theorem unI {f : Value → Sem Value} {g : Int → Int}
    (rule : ∀ (i : Int) (t : Tok) (s : Shared) (Q : Value → Shared → Prop) (E : Value → Shared → Prop), Q (.int (g i) s.toks) { s with toks := s.toks + 1 } → wpAny (model X.prog X.w) X.A (f (.int i t)) Q E s) :
    UnR X f (rU fun i => .int (g i)) := by
  intro pins s σ H x v Q I rx h
  obtain ⟨i, rfl, q⟩ := h
  obtain ⟨t, rfl⟩ := rx
  exact rule i t s _ _ ⟨.int (g i), H, I.tok _, ⟨_, rfl⟩, q⟩
theorem un_neg : UnR X (unaryOp .USub) (rU fun i => .int (-i)) := unI fun _ _ _ _ _ q => neg_int q
end
def scal : V → V → Bool
  | .non, .non => true | .non, .int _ => true | .int _, .non => true | .non, .bl _ => true | .bl _, .non => true | .non, .str _ => true | .str _, .non => true
  | .int _, .int _ => true | .bl _, .bl _ => true | .str _, .str _ => true | .byt _, .byt _ => true
  | .int _, .str _ => true | .str _, .int _ => true | .bl _, .str _ => true | .str _, .bl _ => true
  | _, _ => false
def rEq : R2 := fun x y H Q => scal x y = true ∧ Q (.bl (decide (x = y))) H
def rNe : R2 := fun x y H Q => scal x y = true ∧ Q (.bl (!decide (x = y))) H
theorem dec_int {i j : Int} : decide (V.int i = V.int j) = (i == j) := by
  rw [Bool.eq_iff_iff]
  simp
theorem dec_bl {i j : Bool} : decide (V.bl i = V.bl j) = (i == j) := by
  rw [Bool.eq_iff_iff]
  simp
theorem dec_str {i j : Str} : decide (V.str i = V.str j) = (i == j) := by
  rw [Bool.eq_iff_iff]
  simp
theorem dec_byt {i j : Array UInt8} : decide (V.byt i = V.byt j) = (i.toList == j.toList) := by
  rw [Bool.eq_iff_iff]
  cases i
  cases j
  simp
section
variable {X : Cx} {a b c : Expr} {ta tb tc : TE} {pos : Pos}
theorem fin_bl {pins : List (Addr × Obj)} {σ : St} {H : Hp} {s : Shared} {Q : VK} {k k' : Bool} (I : Inv X pins σ H s) (q : Q (.bl k) H) (e : k = k') : EP X pins σ Q (.bool k') s := by
  subst e
  exact ⟨.bl k, H, I, rfl, q⟩
theorem op_eq : OpR X (compareOp .Eq) rEq := by
  intro pins s σ H x y v u Q I rx ry h
  obtain ⟨hs, q⟩ := h
  cases x with
  | non =>
    cases rx
    cases y with
    | non => cases ry; exact PySem.EqNone.eq_none_none (fin_bl I q (by simp))
    | bl j => cases ry; exact PySem.EqNone.eq_none_bool (fin_bl I q (by simp))
    | int j => obtain ⟨t', rfl⟩ := ry; exact PySem.EqNone.eq_none_int (fin_bl I q (by simp))
    | str j => obtain ⟨t', rfl⟩ := ry; exact PySem.EqNone.eq_none_str (fin_bl I q (by simp))
    | _ => exact absurd (show false = true from hs) Bool.false_ne_true
  | bl i =>
    cases rx
    cases y with
    | non => cases ry; exact PySem.EqNone.eq_bool_none (fin_bl I q (by simp))
    | bl j => cases ry; exact eq_bool (fin_bl I q dec_bl)
    | str j => obtain ⟨t', rfl⟩ := ry; exact PySem.EqMixed.eq_bool_str (fin_bl I q (by simp))
    | _ => exact absurd (show false = true from hs) Bool.false_ne_true
  | int i =>
    obtain ⟨t, rfl⟩ := rx
    cases y with
    | non => cases ry; exact PySem.EqNone.eq_int_none (fin_bl I q (by simp))
    | int j => obtain ⟨t', rfl⟩ := ry; exact eq_int (fin_bl I q dec_int)
    | str j => obtain ⟨t', rfl⟩ := ry; exact PySem.EqMixed.eq_int_str (fin_bl I q (by simp))
    | _ => exact absurd (show false = true from hs) Bool.false_ne_true
  | str i =>
    obtain ⟨t, rfl⟩ := rx
    cases y with
    | non => cases ry; exact PySem.EqNone.eq_str_none (fin_bl I q (by simp))
    | bl j => cases ry; exact PySem.EqMixed.eq_str_bool (fin_bl I q (by simp))
    | int j => obtain ⟨t', rfl⟩ := ry; exact PySem.EqMixed.eq_str_int (fin_bl I q (by simp))
    | str j => obtain ⟨t', rfl⟩ := ry; exact eq_str (fin_bl I q dec_str)
    | _ => exact absurd (show false = true from hs) Bool.false_ne_true
  | byt i =>
    obtain ⟨t, rfl⟩ := rx
    cases y with
    | byt j => obtain ⟨t', rfl⟩ := ry; exact PySem.W.eq_bytes (fin_bl I q dec_byt)
    | _ => exact absurd (show false = true from hs) Bool.false_ne_true
  | _ => cases y <;> exact absurd (show false = true from hs) Bool.false_ne_true
theorem op_ne : OpR X (compareOp .NotEq) rNe := by
  intro pins s σ H x y v u Q I rx ry h
  obtain ⟨hs, q⟩ := h
  cases x with
  | non =>
    cases rx
    cases y with
    | non => cases ry; exact PySem.EqNone.ne_none_none (fin_bl I q (by simp))
    | bl j => cases ry; exact PySem.EqNone.ne_none_bool (fin_bl I q (by simp))
    | int j => obtain ⟨t', rfl⟩ := ry; exact PySem.EqNone.ne_none_int (fin_bl I q (by simp))
    | str j => obtain ⟨t', rfl⟩ := ry; exact PySem.EqNone.ne_none_str (fin_bl I q (by simp))
    | _ => exact absurd (show false = true from hs) Bool.false_ne_true
  | bl i =>
    cases rx
    cases y with
    | non => cases ry; exact PySem.EqNone.ne_bool_none (fin_bl I q (by simp))
    | bl j => cases ry; exact ne_bool (fin_bl I q (congrArg not dec_bl))
    | str j => obtain ⟨t', rfl⟩ := ry; exact PySem.EqMixed.ne_bool_str (fin_bl I q (by simp))
    | _ => exact absurd (show false = true from hs) Bool.false_ne_true
  | int i =>
    obtain ⟨t, rfl⟩ := rx
    cases y with
    | non => cases ry; exact PySem.EqNone.ne_int_none (fin_bl I q (by simp))
    | int j => obtain ⟨t', rfl⟩ := ry; exact ne_int (fin_bl I q (congrArg not dec_int))
    | str j => obtain ⟨t', rfl⟩ := ry; exact PySem.EqMixed.ne_int_str (fin_bl I q (by simp))
    | _ => exact absurd (show false = true from hs) Bool.false_ne_true
  | str i =>
    obtain ⟨t, rfl⟩ := rx
    cases y with
    | non => cases ry; exact PySem.EqNone.ne_str_none (fin_bl I q (by simp))
    | bl j => cases ry; exact PySem.EqMixed.ne_str_bool (fin_bl I q (by simp))
    | int j => obtain ⟨t', rfl⟩ := ry; exact PySem.EqMixed.ne_str_int (fin_bl I q (by simp))
    | str j => obtain ⟨t', rfl⟩ := ry; exact ne_str (fin_bl I q (congrArg not dec_str))
    | _ => exact absurd (show false = true from hs) Bool.false_ne_true
  | byt i =>
    obtain ⟨t, rfl⟩ := rx
    cases y with
    | byt j => obtain ⟨t', rfl⟩ := ry; exact PySem.W.ne_bytes (fin_bl I q (congrArg not dec_byt))
    | _ => exact absurd (show false = true from hs) Bool.false_ne_true
  | _ => cases y <;> exact absurd (show false = true from hs) Bool.false_ne_true
theorem op_lt : OpR X (compareOp .Lt) (rI0 fun i j => .bl (decide (i < j))) := opB0 fun _ _ _ _ _ _ _ q => lt_int q
theorem op_gt : OpR X (compareOp .Gt) (rI0 fun i j => .bl (decide (j < i))) := opB0 fun _ _ _ _ _ _ _ q => gt_int q
theorem op_ge : OpR X (compareOp .GtE) (rI0 fun i j => .bl (decide (j ≤ i))) := opB0 fun _ _ _ _ _ _ _ q => ge_int q
theorem nomark (b : Expr) {op : CmpOp} (h : op ≠ .In := by decide) (h2 : op ≠ .NotIn := by decide) : behindInMarks op b = false := by
  have e1 : (op == CmpOp.In) = false := by cases op <;> first | rfl | exact absurd rfl h
  have e2 : (op == CmpOp.NotIn) = false := by cases op <;> first | rfl | exact absurd rfl h2
  cases b <;> simp [behindInMarks, e1, e2]
theorem pe_cmpR {op : CmpOp} {r : R2} (ho : OpR X (compareOp op) r) (ha : PE X a ta) (hb : PE X b tb) (hm : behindInMarks op b = false) : PE X (.Compare a [op] [b] pos) (tOp r ta tb) := by
  intro pins s σ H Q I h
  exact wpAny_Compare1 (binT ha hb I h fun v u s2 x y H2 I2 rx ry q => ho pins s2 σ H2 x y v u Q I2 rx ry q) hm
def tTest (t : TE) : TT := fun σ H Q => t σ H fun x H' => ∃ k, x = .bl k ∧ Q k H'
theorem pt_cmpR {op : CmpOp} {r : R2} (ho : OpR X (compareOp op) r) (ha : PE X a ta) (hb : PE X b tb) (hm : behindInMarks op b = false) : PT X (.Compare a [op] [b] pos) (tTest (tOp r ta tb)) := by
  intro pins s σ H Q I h
  refine wpAny_isTrue_Compare1 (thn (ha pins s σ H _ I h) fun v s1 ⟨x, H1, I1, r1, q1⟩ => thn (hb pins s1 σ H1 _ I1 q1) fun u s2 ⟨y, H2, I2, r2, q2⟩ =>
    thn (ho pins s2 σ H2 x y v u _ I2 r1 r2 q2) fun c s3 ⟨z, H3, I3, r3, k, e, q3⟩ => ?_) hm
  subst e
  cases r3
  exact wpAny_truthy_bool ⟨H3, I3, q3⟩
theorem line63 : (sizeLine : Nat) < 2 ^ 63 := by rw [sizeLine_eq]; decide
theorem vals1 {x : V} {us : List Value} (r : Vals [x] us) : ∃ u, us = [u] ∧ RelV x u := by
  cases r with
  | cons r1 r2 => cases r2; exact ⟨_, rfl, r1⟩
theorem vals2 {x y : V} {us : List Value} (r : Vals [x, y] us) : ∃ u w', us = [u, w'] ∧ RelV x u ∧ RelV y w' := by
  cases r with
  | cons r1 r2 =>
    cases r2 with
    | cons r3 r4 => cases r4; exact ⟨_, _, rfl, r1, r3⟩
theorem call_abs : CallR X (.builtin "abs") (fun xs H Q => ∃ i, xs = [.int i] ∧ Q (.int (if i < 0 then -i else i)) H) := by
  intro pins s σ H xs us Q I r h
  obtain ⟨i, rfl, q⟩ := h
  obtain ⟨u, rfl, t, rfl⟩ := vals1 r
  exact call_abs_int fun u tk => ⟨.int (if i < 0 then -i else i), H, I.tok _, ⟨_, rfl⟩, q⟩
theorem call_max2 (hc : X.calm = true) : CallR X (.builtin "max") (fun xs H Q => ∃ i j, xs = [.int i, .int j] ∧ Q (.int (if j > i then j else i)) H) := by
  intro pins s σ H xs us Q I r h
  obtain ⟨i, j, rfl, q⟩ := h
  obtain ⟨u, w', rfl, ⟨t, rfl⟩, ⟨t', rfl⟩⟩ := vals2 r
  refine max_two_ints (I.ok.hd hc) fun h' tk k => ⟨_, H, I.kept k, ?_, q⟩
  by_cases hj : j > i
  · rw [if_pos hj, if_pos hj]; exact ⟨_, rfl⟩
  · rw [if_neg hj, if_neg hj]; exact ⟨_, rfl⟩
end
end L2
namespace L2
open PySem PySem.Spec PyProof.Rows
structure ObjM (h : Heap) (x dx C : Addr) (mA : Str → Option Value) : Prop where
  obj : h.get? x = some (PySem.W.instObj C dx)
  ns : h.Ns1 dx mA
  ne : dx ≠ x
theorem lookIn_ns {h : Heap} {dx : Addr} {mA : Str → Option Value} (n : h.Ns1 dx mA) : ∃ od, h.get? dx = some od ∧ ∀ name, PySem.W.lookIn name od = some (mA name) := by
  obtain ⟨o, es, ep, ho, hd, hk, _, hm⟩ := n
  refine ⟨o, ho, fun name => ?_⟩
  have e := hm name
  unfold nsFind findBy at e
  rw [← Array.find?_toList] at e
  unfold PySem.W.lookIn
  rw [hd]
  dsimp only
  split
  · rename_i y q
    rw [q] at e
    exact congrArg some e
  · rename_i q
    rw [q] at e
    have a : es.toList.any (·.refKey) = false := by
      rw [List.any_eq_false]
      intro y hy
      obtain ⟨z, t, hkey⟩ := hk y (Array.mem_toList_iff.mp hy)
      simp [DictEntry.refKey, hkey]
    have a' : ¬ es.toList.any (·.refKey) = true := by rw [a]; exact Bool.false_ne_true
    rw [if_neg a']
    exact congrArg some e
theorem ObjM.look {h : Heap} {x dx C : Addr} {mA : Str → Option Value} (I : ObjM h x dx C mA) : ∃ od, PySem.W.InstAt h x (PySem.W.instObj C dx) C (some od) ∧ ∀ name, PySem.W.lookIn name od = some (mA name) :=
  let ⟨od, ho, hl⟩ := lookIn_ns I.ns
  ⟨od, ⟨I.obj, rfl, rfl, ho⟩, hl⟩
section
variable {prog : Program} {w : World} {A : Around} {E : Value → Shared → Prop} {s : Shared} {K : PySem.W.Frag} {x dx C f : Addr} {mA : Str → Option Value} {name : Str} {v : Value}
theorem get_map {expr : Bool} {Q : Value → Shared → Prop} (X : K.In s.heap) (I : ObjM s.heap x dx C mA) (hg : PySem.W.plainGet K C name = true) (hh : PySem.W.hasDictIn K C = true)
    (ha : PySem.W.findIn K (.ref C) name = some none) (hv : mA name = some v) (hv' : PySem.W.handedIn v = true) (h : Q v { s with toks := s.toks + 1 }) :
    wpAny (model prog w) A (getAttr (.ref x) name expr) Q E s := by
  obtain ⟨od, J, hl⟩ := I.look
  exact PySem.W.get_value X J (PySem.W.plainGet_of hg).1 (PySem.W.findObj_own hh ha rfl (by rw [hl, hv])) hv' h
theorem get_meth {pl : Sem Bool} {Q : Value × List Value → Shared → Prop} (X : K.In s.heap) (I : ObjM s.heap x dx C mA) (hg : PySem.W.plainGet K C name = true)
    (hf : PySem.W.findIn K (.ref C) name = some (some (.ref f))) (ht : PySem.W.isFn K (.ref f) = true) (hv : mA name = none) (h : Q (.ref f, [.ref x]) s) :
    wpAny (model prog w) A (getMethod (.ref x) name pl) Q E s := by
  obtain ⟨od, J, hl⟩ := I.look
  exact PySem.W.method_fn X J (PySem.W.plainGet_of hg).1 (PySem.W.plainGet_of hg).2 hf (beq_iff_eq.mp ht) (by show (PySem.W.lookIn name od).map (·.isSome) = some false; rw [hl, hv]; rfl) h
theorem set_map {ns : List Str} {Q : Unit → Shared → Prop} (X : K.In s.heap) (I : ObjM s.heap x dx C mA)
    (hs : PySem.W.findIn K (.ref C) "__setattr__" = some (some (.builtin "object.__setattr__"))) (hp : PySem.W.plainOver K C = true) (ht : PySem.W.takerIn K C name = some none) (hh : PySem.W.hasDictIn K C = true)
    (hw : PySem.Within mA ns) (hsz : ns.length ≤ sizeLine)
    (h : ∀ h', ObjM h' x dx C (fun y => if y = name then some v else mA y) → Heap.SameBut dx s.heap h' → Q () { s with heap := h', toks := s.toks + 2 }) :
    wpAny (model prog w) A (setAttr (.ref x) name v) Q E s := by
  obtain ⟨od, J, hl⟩ := I.look
  refine PySem.W.set_plain X J hs (PySem.W.osa_open (s := { s with toks := s.toks + 1 }) (r := none) X J hp ht fun b => ?_)
  obtain ⟨cd, hc, hd'⟩ := PySem.W.any_some hh
  have hx : s.heap.get? x = some ⟨.ref C, some dx, .plain, #[]⟩ := I.obj
  refine wpAny_bind (wpAny_pure (wpAny_bind (wpAny_bind (wpAny_loadPart hx (wpAny_bind (PySem.W.Looks.here (s := { s with toks := s.toks + 1 }) (PySem.W.looks_clsIn X hc) ?_))))))
  rw [hd']
  refine wpAny_pure (a := some dx) (wpAny_bind (wpAny_pure (wpAny_bind ?_)))
  refine wpAny_nsSet1 (s := { s with toks := s.toks + 1 }) I.ns fun h' hn2 hs2 => ?_
  obtain ⟨oD, esD, epD, hoD, hdD, hcD⟩ := hn2.count (PySem.Within.cons name v hw)
  refine wpAny_bind (wpAny_lookBehind hoD (by rw [hdD]; exact pastItsLine_dict (Nat.le_trans hcD (by rw [List.length_cons]; omega))) ?_)
  exact wpAny_pure (h _ ⟨(hs2.2 _ (Ne.symm I.ne)).trans I.obj, hn2, I.ne⟩ hs2)
theorem make_map {R : Result → Shared → Prop} {vs : List Value} {kw : List (Str × Value)} (X : K.In s.heap) (hm : PySem.W.makesIn K C = true)
    (hi : PySem.W.findIn K (.ref C) "__init__" = some (some (.ref f))) (hf : PySem.W.typeIn K (.ref f) = some (.type "function"))
    (h : codeAny (model prog w) (A.under (.builtin "type.__call__" ⟨.ref C :: vs, kw⟩)) (.call (.ref f) ⟨.ref (s.heap.objs.size + 1) :: vs, kw⟩) (PySem.W.InitBack (s.heap.objs.size + 1) R)
      { s with heap := (s.heap.push PySem.W.emptyDict).push (PySem.W.instObj C s.heap.objs.size) }) :
    codeAny (model prog w) A (.call (.ref C) ⟨vs, kw⟩) R s := by
  obtain ⟨hh, g, d, t, os⟩ := s
  exact PySem.W.make_core (PySem.W.makes_of X hm) (PySem.W.looks_findIn X hi) (fun self => PySem.W.bind_fn X self hf) (.inl rfl) h
end
def putF (f : Str) (v : V) : List (Str × V) → List (Str × V)
  | [] => [(f, v)]
  | (g, x) :: r => if g = f then (g, v) :: r else (g, x) :: putF f v r
theorem lookup_putF (f g : Str) (v : V) : ∀ fs : List (Str × V), (putF f v fs).lookup g = if g = f then some v else fs.lookup g
  | [] => by
    show List.lookup g [(f, v)] = _
    by_cases h : g = f
    · have hb : (g == f) = true := beq_iff_eq.mpr h
      simp only [List.lookup, hb, if_pos h]
    · have hb : (g == f) = false := beq_eq_false_iff_ne.mpr h
      simp only [List.lookup, hb, if_neg h]
  | (k, x) :: r => by
    have ih := lookup_putF f g v r
    rw [show putF f v ((k, x) :: r) = (if k = f then (k, v) :: r else (k, x) :: putF f v r) from rfl]
    by_cases hk : k = f
    · rw [if_pos hk]
      by_cases h : g = k
      · have hb : (g == k) = true := beq_iff_eq.mpr h
        simp only [List.lookup, hb, if_pos (h.trans hk)]
      · have hb : (g == k) = false := beq_eq_false_iff_ne.mpr h
        simp only [List.lookup, hb, if_neg (fun e : g = f => h (e.trans hk.symm))]
    · rw [if_neg hk]
      by_cases h : g = k
      · have hb : (g == k) = true := beq_iff_eq.mpr h
        simp only [List.lookup, hb, if_neg (fun e : g = f => hk (h.symm.trans e))]
      · have hb : (g == k) = false := beq_eq_false_iff_ne.mpr h
        simp only [List.lookup, hb]
        exact ih
theorem keys_putF (f : Str) (v : V) : ∀ fs : List (Str × V), f ∈ (putF f v fs).map (·.1) ∧ ∀ g, g ∈ fs.map (·.1) → g ∈ (putF f v fs).map (·.1)
  | [] => ⟨by simp [putF], fun g h => by simp at h⟩
  | (k, x) :: r => by
    obtain ⟨i1, i2⟩ := keys_putF f v r
    rw [show putF f v ((k, x) :: r) = (if k = f then (k, v) :: r else (k, x) :: putF f v r) from rfl]
    by_cases hk : k = f
    · rw [if_pos hk]
      subst hk
      exact ⟨by simp, fun g h => by simpa using h⟩
    · rw [if_neg hk]
      refine ⟨?_, fun g h => ?_⟩
      · rw [List.map_cons]
        exact List.mem_cons_of_mem _ i1
      · rw [List.map_cons] at h ⊢
        rcases List.mem_cons.mp h with e | e
        · exact List.mem_cons.mpr (.inl e)
        · exact List.mem_cons_of_mem _ (i2 g e)
theorem length_putF (f : Str) (v : V) : ∀ fs : List (Str × V), (putF f v fs).length ≤ fs.length + 1
  | [] => by simp [putF]
  | (k, x) :: r => by
    have ih := length_putF f v r
    rw [show putF f v ((k, x) :: r) = (if k = f then (k, v) :: r else (k, x) :: putF f v r) from rfl]
    by_cases hk : k = f
    · rw [if_pos hk, List.length_cons, List.length_cons]; omega
    · rw [if_neg hk, List.length_cons, List.length_cons]; omega
theorem RelO.some_of {v : V} {o : Option Value} (r : RelO (some v) o) : ∃ u, o = some u ∧ RelV v u := by
  cases o with
  | none => exact (show False from r).elim
  | some u => exact ⟨u, rfl, r⟩
theorem RelO.none_of {o : Option Value} (r : RelO none o) : o = none := by
  cases o with
  | none => rfl
  | some u => exact (show False from r).elim
theorem handed_of {v : V} {u : Value} (r : RelV v u) : PySem.W.handedIn u = true := by
  cases v with
  | non => cases (show u = Value.none from r); rfl
  | bl b => cases (show u = Value.bool b from r); rfl
  | int i => obtain ⟨t, e⟩ := (show ∃ t, u = Value.int i t from r); cases e; rfl
  | str x => obtain ⟨t, e⟩ := (show ∃ t, u = Value.str x t from r); cases e; rfl
  | byt b => obtain ⟨t, e⟩ := (show ∃ t, u = Value.bytes b t from r); cases e; rfl
  | flt b => obtain ⟨t, e⟩ := (show ∃ t, u = Value.float b t from r); cases e; rfl
  | ref a => cases (show u = Value.ref a from r); rfl
  | ty n => cases (show u = Value.type n from r); rfl
section
variable {P : Program} {w : World} {H H' : Hp} {h h' : Heap} {a C dx : Addr} {fs fs' : List (Str × V)}
theorem ins_get (hok : HOk P w H h) (e : H a = some (.ins C dx fs)) : ∃ mA, ObjM h a dx C mA ∧ (∀ f, RelO (fs.lookup f) (mA f)) ∧ PySem.Within mA (fs.map (·.1)) ∧ fs.length ≤ 1000 ∧ H dx = some (.own a) := by
  obtain ⟨d, z, ne, ob, mA, n, r, q⟩ := (show ObjOk P w H h a (.ins C dx fs) from hok a _ e)
  exact ⟨mA, ⟨ob, n, ne⟩, r, q, z, d⟩
end
structure Cls (K : PySem.W.Frag) (C : Addr) : Prop where
  pg : PySem.W.plainGet K C Str.empty = true
  hd : PySem.W.hasDictIn K C = true
  po : PySem.W.plainOver K C = true
  sa : PySem.W.findIn K (.ref C) "__setattr__" = some (some (.builtin "object.__setattr__"))
theorem Cls.get {K : PySem.W.Frag} {C : Addr} (c : Cls K C) (f : Str) : PySem.W.plainGet K C f = true := c.pg
def NoAttr (K : PySem.W.Frag) (C : Addr) (f : Str) : Prop := PySem.W.findIn K (.ref C) f = some none
theorem NoAttr.taker {K : PySem.W.Frag} {C : Addr} {f : Str} (n : NoAttr K C f) : PySem.W.takerIn K C f = some none := by
  unfold PySem.W.takerIn
  rw [show PySem.W.findIn K (.ref C) f = some none from n]
  rfl
structure Con (K : PySem.W.Frag) (C : Addr) (f : Str) (v : V) (u : Value) : Prop where
  at_ : PySem.W.findIn K (.ref C) f = some (some u)
  rel : RelV v u
  get : PySem.W.specialIn K u "__get__" = some none
  cp : PySem.W.copiedNames.contains f = false
structure Meth (K : PySem.W.Frag) (C : Addr) (m : Str) (f : Addr) : Prop where
  at_ : PySem.W.findIn K (.ref C) m = some (some (.ref f))
  fn : PySem.W.isFn K (.ref f) = true
  kp : PySem.W.keepIn K (.ref f) = true
section
variable {X : Cx} {pins : List (Addr × Obj)} {σ : St} {H : Hp} {s : Shared} {a C dx : Addr} {fs : List (Str × V)} {f : Str} {v : V} {A : Around} {E : Value → Shared → Prop}
theorem getattr_ok {b : Bool} {Q : Value → Shared → Prop} (I : Inv X pins σ H s) (e : H a = some (.ins C dx fs)) (c : Cls X.K C) (n : NoAttr X.K C f) (l : fs.lookup f = some v)
    (h : ∀ u s', Inv X pins σ H s' → RelV v u → Q u s') : wpAny (model X.prog X.w) A (getAttr (.ref a) f b) Q E s := by
  obtain ⟨mA, O, r, _, _, _⟩ := ins_get I.hok e
  obtain ⟨u, hu, ru⟩ := RelO.some_of (v := v) (o := mA f) (by rw [← l]; exact r f)
  exact get_map I.kIn O (c.get f) c.hd n hu (handed_of ru) (h u _ (I.tok _) ru)
theorem getmeth_ok {m : Str} {g : Addr} {pl : Sem Bool} {Q : Value × List Value → Shared → Prop} (I : Inv X pins σ H s) (e : H a = some (.ins C dx fs)) (c : Cls X.K C) (k : Meth X.K C m g) (l : fs.lookup m = none)
    (h : Q (.ref g, [.ref a]) s) : wpAny (model X.prog X.w) A (getMethod (.ref a) m pl) Q E s := by
  obtain ⟨mA, O, r, _, _, _⟩ := ins_get I.hok e
  have hn : mA m = none := RelO.none_of (by rw [← l]; exact r m)
  exact get_meth I.kIn O (c.get m) k.at_ k.fn hn h
theorem setattr_ok {y : V} {u : Value} {Q : Unit → Shared → Prop} (I : Inv X pins σ H s) (e : H a = some (.ins C dx fs)) (c : Cls X.K C) (n : NoAttr X.K C f) (hl : fs.length < 1000) (ry : RelV y u)
    (h : ∀ s', Inv X pins σ (upd H a (.ins C dx (putF f y fs))) s' → Q () s') : wpAny (model X.prog X.w) A (setAttr (.ref a) f u) Q E s := by
  obtain ⟨mA, O, r, wi, _, ho⟩ := ins_get I.hok e
  have hz : (fs.map (·.1)).length ≤ sizeLine := by rw [List.length_map, sizeLine_eq]; omega
  refine set_map I.kIn O c.sa c.po n.taker c.hd wi hz fun h' O' sb => h _ ?_
  have hd : ∃ o, h'.get? dx = some o := let ⟨o, _, _, e', _⟩ := O'.ns; ⟨o, e'⟩
  refine I.write (x := a) (e := dx) (by rw [e]; exact True.intro) (.inr ho) (fun b q hb z => (sb.2 b hb).trans z) hd ?_
  refine ⟨by rw [upd_ne O.ne]; exact ho, ?_, O.ne, O'.obj, _, O'.ns, fun g => ?_, fun g hg => ?_⟩
  · have := length_putF f y fs; omega
  · show RelO ((putF f y fs).lookup g) (if g = f then some u else mA g)
    rw [lookup_putF]
    by_cases q : g = f
    · rw [if_pos q, if_pos q]; exact ry
    · rw [if_neg q, if_neg q]; exact r g
  · by_cases q : g = f
    · rw [q]; exact (keys_putF f y fs).1
    · refine (keys_putF f y fs).2 g (wi g fun z => hg ?_)
      show (if g = f then some u else mA g) = none
      rw [if_neg q]; exact z
theorem Inv.made (I : Inv X pins σ H s) : Inv X pins σ (upd (upd H s.heap.objs.size (.own (s.heap.objs.size + 1))) (s.heap.objs.size + 1) (.ins C s.heap.objs.size []))
    { s with heap := (s.heap.push PySem.W.emptyDict).push (PySem.W.instObj C s.heap.objs.size) } := by
  have e1 : (s.heap.push PySem.W.emptyDict).get? s.heap.objs.size = some PySem.W.emptyDict := Heap.get?_push_size s.heap rfl
  have e2 : ((s.heap.push PySem.W.emptyDict).push (PySem.W.instObj C s.heap.objs.size)).get? (s.heap.objs.size + 1) = some (PySem.W.instObj C s.heap.objs.size) := by
    have := Heap.get?_push_size (s.heap.push PySem.W.emptyDict) (o := PySem.W.instObj C s.heap.objs.size) rfl
    rwa [Heap.size_push] at this
  have e3 : (s.heap.push PySem.W.emptyDict).Ns s.heap.objs.size (fun _ => none) := ⟨PySem.W.emptyDict, #[], _, e1, rfl, (fun e he => absurd he (by simp)), fun _ => rfl⟩
  have I1 := I.laid (a := s.heap.objs.size) (o := .own (s.heap.objs.size + 1)) (h' := s.heap.push PySem.W.emptyDict) (t' := s.toks) (fun b u q => Heap.get?_push_of_some _ q) (Nat.le_refl _) ⟨_, e1⟩
  refine I1.laid (a := s.heap.objs.size + 1) (o := .ins C s.heap.objs.size []) (t' := s.toks) (fun b u q => Heap.get?_push_of_some _ q) (Nat.le_of_eq (Heap.size_push _ _)) ?_
  have ne : s.heap.objs.size ≠ s.heap.objs.size + 1 := Nat.ne_of_lt (Nat.lt_succ_self _)
  refine ⟨by rw [upd_ne ne, upd_same], Nat.zero_le _, ne, e2, fun _ => none, (Heap.Ns1.of_empty e3).at fun o q => Heap.get?_push_of_some _ q, fun _ => True.intro, fun y hy => absurd rfl hy⟩
theorem attr_of {prog : Program} {w : World} {env : Env} {e : Expr} {f : Str} {pos : Pos} {s : Shared} {Q : Value → Shared → Prop} (hb : attributeBase e f env (eval e env) = eval e env)
    (h : wpAny (model prog w) A (eval e env) (fun o s₁ => wpAny (model prog w) A (getAttr o f true) Q E s₁) E s) : wpAny (model prog w) A (eval (.Attribute e f pos) env) Q E s :=
  Attribute_any_ h (by rw [arm_eval_Attribute, hb])
end
def tFld (K : PySem.W.Frag) (ta : TE) (f : Str) : TE := fun σ H Q => ta σ H fun x H1 => ∃ a C dx fs v, x = .ref a ∧ H1 a = some (.ins C dx fs) ∧ Cls K C ∧ NoAttr K C f ∧ fs.lookup f = some v ∧ Q v H1
def sFld (K : PySem.W.Frag) (ta tv : TE) (f : Str) : TS := fun D σ H => tv σ H fun y H1 => ta σ H1 fun x H2 => ∃ a C dx fs, x = .ref a ∧ H2 a = some (.ins C dx fs) ∧ Cls K C ∧ NoAttr K C f ∧ fs.length < 1000 ∧
  D.nx σ (upd H2 a (.ins C dx (putF f y fs)))
section
variable {X : Cx} {o e value : Expr} {f : Str} {pos pos' tpos : Pos} {ta tv : TE}
theorem pe_fld (he : PE X e ta) (hb : attributeBase e f X.env (eval e X.env) = eval e X.env) : PE X (.Attribute e f pos) (tFld X.K ta f) := by
  intro pins s σ H Q I h
  refine attr_of hb (thn (he pins s σ H _ I h) fun u s1 ⟨x, H1, I1, rx, a, C, dx, fs, v, ex, ea, c, n, l, q⟩ => ?_)
  subst ex
  obtain rfl : u = Value.ref a := rx
  exact getattr_ok I1 ea c n l fun u' s2 I2 ru => ⟨v, H1, I2, ru, q⟩
theorem ps_fld (ha : PE X o ta) (hv : PE X value tv) (hs : swapsWith value (some (.Attribute o f pos')) pos.line X.env = pure false) : PS X (.Assign [.Attribute o f pos'] value pos) (sFld X.K ta tv f) := by
  intro pins s σ H D I h
  refine plainObj_wpAny_Assign_Attribute (thn (hv pins s σ H _ I h) fun u s1 ⟨y, H1, I1, ry, q⟩ => thn (ha pins s1 σ H1 _ I1 q) fun ov s2 ⟨x, H2, I2, rx, a, C, dx, fs, ex, ea, c, n, l, q2⟩ => ?_) hs
  subst ex
  obtain rfl : ov = Value.ref a := rx
  exact setattr_ok I2 ea c n l ry fun s3 I3 => ⟨σ, _, I3, q2⟩
end
section
variable {X : Cx} {pins : List (Addr × Obj)} {σ : St} {H : Hp} {s : Shared} {A : Around} {E : Value → Shared → Prop} {Q : Value → Shared → Prop} {c : Value} {b : Bool}
inductive TyOf (K : PySem.W.Frag) (H : Hp) : V → Value → Prop where
  | non : TyOf K H .non (.type "NoneType")
  | bl (x : Bool) : TyOf K H (.bl x) (.type "bool")
  | int (i : Int) : TyOf K H (.int i) (.type "int")
  | str (x : Str) : TyOf K H (.str x) (.type "str")
  | flt (x : UInt64) : TyOf K H (.flt x) (.type "float")
  | lst {a : Addr} {xs : List V} (e : H a = some (.lst xs)) : TyOf K H (.ref a) (.type "list")
  | frz {a : Addr} {o : Obj} {xs : List V} (e : H a = some (.frz o (.lst xs))) : TyOf K H (.ref a) (.type "list")
  | tup {a : Addr} {xs : List V} (e : H a = some (.tup xs)) : TyOf K H (.ref a) (.type "tuple")
  | dK {a : Addr} {kvs : List (Key × V)} (e : H a = some (.dK kvs)) : TyOf K H (.ref a) (.type "dict")
  | dT {a : Addr} {kvs : List (List Key × V)} (e : H a = some (.dT kvs)) : TyOf K H (.ref a) (.type "dict")
  | ins {a C dx : Addr} {fs : List (Str × V)} (e : H a = some (.ins C dx fs)) (cl : Cls K C) (ha : PySem.W.findIn K (.ref C) "__class__" = some (some (.builtin "object.__class__")))
      (hn : PySem.W.specialIn K (.builtin "object.__class__") "__get__" = some (some (.builtin "getset_descriptor.__get__"))) (htk : PySem.W.takesIn K (.builtin "object.__class__") = some true)
      (hm : PySem.W.mroIn K C (.type "object") = some true) : TyOf K H (.ref a) (.ref C)
end
end L2
namespace L2
open PySem PySem.Spec PyProof.Rows
structure Room (k : Nat) (A : Around) : Prop where
  hd : A.handled = none
  dp : A.depth + 3 * k + 5 < recursionLimit
  un : A.units + 16 * k + 200 < cLine
theorem Room.mono {j k : Nat} {A : Around} (r : Room k A) (h : j ≤ k) : Room j A := ⟨r.hd, by have := r.dp; omega, by have := r.un; omega⟩
theorem Room.deeper {k : Nat} {A : Around} (r : Room (k + 1) A) (env : Env) : Room k (A.deeper env) :=
  ⟨r.hd, by have := r.dp; show A.depth + 1 + 3 * k + 5 < _; omega, by have := r.un; show A.units + 3 + 16 * k + 200 < _; omega⟩
theorem make_depth {A : Around} {C : Addr} {us : List Value} {kw : List (Str × Value)} : (A.under (.builtin "type.__call__" ⟨.ref C :: us, kw⟩)).depth = A.depth + 1 := by
  first | rfl | simp [Around.under, Code.weight, Code.isCreation, Code.isGuard, Code.isCaller, Code.frames, Code.isFrame, guardIds]
theorem make_units {A : Around} {C : Addr} {us : List Value} {kw : List (Str × Value)} : (A.under (.builtin "type.__call__" ⟨.ref C :: us, kw⟩)).units = A.units + 1 := by
  first | rfl | simp [Around.under, Code.cUnits, Code.frames, Code.isFrame]
theorem Room.make {k : Nat} {A : Around} (r : Room (k + 1) A) (C : Addr) (us : List Value) (kw : List (Str × Value)) : Room k (A.under (.builtin "type.__call__" ⟨.ref C :: us, kw⟩)) :=
  ⟨r.hd, by have := r.dp; rw [make_depth]; omega, by have := r.un; rw [make_units]; omega⟩
theorem Room.depth {k : Nat} {A : Around} (r : Room k A) : A.depth < recursionLimit := by have := r.dp; omega
def tNil : TA := fun _ H Q => Q [] H
def tCons (ta : TE) (tr : TA) : TA := fun σ H Q => ta σ H fun x H1 => tr σ H1 fun xs H2 => Q (x :: xs) H2
section
variable {X : Cx} {e : Expr} {es : List Expr} {te : TE} {t : TA} {pos : Pos}
theorem pa_nil : PA X [] tNil := fun _ _ _ _ H Q I h => Calls.spliced_nil ⟨[], H, I, .nil, h⟩
theorem pa_cons (ha : PE X e te) (hr : PA X es t) (hs : starEach (e :: es) X.env = (false, eval e X.env) :: starEach es X.env := by rfl) : PA X (e :: es) (tCons te t) := by
  intro pos pins s σ H Q I h
  rw [hs]
  show wpAny _ _ (spliced ((false, eval e X.env) :: backTo pos (starEach es X.env))) _ _ s
  refine Calls.spliced_cons (thn (ha pins s σ H _ I h) fun u s1 ⟨x, H1, I1, r1, q1⟩ => ?_)
  exact thn (hr pos pins s1 σ H1 _ I1 q1) fun us s2 ⟨xs, H2, I2, r2, q2⟩ => ⟨x :: xs, H2, I2, .cons r1 r2, q2⟩
def tTup (t : TA) : TE := fun σ H Q => t σ H fun xs H1 => xs.length ≤ sizeLine ∧ ∀ p, H1 p = none → Q (.ref p) (upd H1 p (.tup xs))
def tLst (t : TA) : TE := fun σ H Q => t σ H fun xs H1 => xs.length ≤ sizeLine ∧ ∀ p, H1 p = none → Q (.ref p) (upd H1 p (.lst xs))
theorem pe_tup {x1} (h : PA X es t) : PE X (.Tuple es x1 pos) (tTup t) := by
  intro pins s σ H Q I hq
  refine wpAny_Tuple_spliced (thn (h pos pins s σ H _ I hq) fun us s1 ⟨xs, H1, I1, r, z, q⟩ => ⟨by rw [← r.length]; exact z, ?_⟩)
  have hf : H1 s1.heap.objs.size = none := I1.hok.fresh (Nat.le_refl _)
  refine ⟨.ref s1.heap.objs.size, upd H1 s1.heap.objs.size (.tup xs), I1.laid (t' := s1.toks) (fun b u e => Heap.get?_push_of_some _ e) (Nat.le_refl _) ?_, rfl, q _ hf⟩
  exact ⟨z, us, r, ⟨_, Heap.get?_push_size _ rfl, rfl, _, rfl⟩⟩
theorem pe_lst (h : PA X es t) : PE X (.List es pos) (tLst t) := by
  intro pins s σ H Q I hq
  refine wpAny_List_spliced (thn (h pos pins s σ H _ I hq) fun us s1 ⟨xs, H1, I1, r, z, q⟩ => ⟨by rw [← r.length]; exact z, ?_⟩)
  have hf : H1 s1.heap.objs.size = none := I1.hok.fresh (Nat.le_refl _)
  refine ⟨.ref s1.heap.objs.size, upd H1 s1.heap.objs.size (.lst xs), I1.laid (t' := s1.toks) (fun b u e => Heap.get?_push_of_some _ e) (Nat.le_refl _) ?_, rfl, q _ hf⟩
  exact ⟨z, us, 0, r, Heap.get?_push_size _ rfl⟩
end
abbrev Sp := List V → Hp → VK → XK → Prop
abbrev CXT := List Env → Hp → Shared → XK → Value → Shared → Prop
structure Env0 (P : Program) (w : World) (K : PySem.W.Frag) (mg : Str → Option Value) (base : Heap) (A : Around) (outer : List Env) (s : Shared) (H : Hp) : Prop where
  frames : A.frames = some outer
  mod : Mod K mg base
  bs : ∀ b o, base.get? b = some o → s.heap.get? b = some o ∧ H b = none
  bsz : base.objs.size ≤ s.heap.objs.size
  funs : s.heap.FunFrames base outer
  frf : ∀ b ∈ frs outer, H b = none
  hok : HOk P w H s.heap
  bare : AllBare s.gens
def CE (outer : List Env) (P : Program) (w : World) (H : Hp) (s : Shared) (Q : VK) (u : Value) (s' : Shared) : Prop :=
  ∃ v H', s'.os = s.os ∧ AllBare s'.gens ∧ Un (frs outer) [] H H' s.heap s'.heap ∧ HOk P w H' s'.heap ∧ RelV v u ∧ Q v H'
def CR (CX : CXT) (outer : List Env) (P : Program) (w : World) (H : Hp) (s : Shared) (Q : VK) (E : XK) (r : Result) (s' : Shared) : Prop :=
  match r with
  | .ok (.ret u) => CE outer P w H s Q u s'
  | .ok _ => False
  | .error e => CX outer H s E e s'
structure FnOk (P : Program) (w : World) (K : PySem.W.Frag) (mg : Str → Option Value) (base : Heap) (CX : CXT) (k : Nat) (f : Addr) (fd : FuncData) (ps : List Str) (sp : Sp) : Prop where
  len : ∀ vs H Q E, sp vs H Q E → vs.length = ps.length
  run : ∀ (A : Around) (outer : List Env) (s : Shared) (H : Hp) (args : Args) (us : List Value) (vs : List V) (Q : VK) (E : XK), Room k A → Env0 P w K mg base A outer s H → BindsTo s fd args (ps.zip us) → Vals vs us → sp vs H Q E →
    codeAny (model P w) A (.call (.ref f) args) (CR CX outer P w H s Q E) s
theorem Env0.make {P : Program} {w : World} {K : PySem.W.Frag} {mg : Str → Option Value} {base : Heap} {A : Around} {outer : List Env} {s : Shared} {H : Hp} (e : Env0 P w K mg base A outer s H) (C : Addr) (us : List Value) (kw : List (Str × Value)) :
    Env0 P w K mg base (A.under (.builtin "type.__call__" ⟨.ref C :: us, kw⟩)) outer s H := ⟨by first | exact e.frames | (simpa [Around.under, Code.envs, Code.isFrame, pushEnvs] using e.frames), e.mod, e.bs, e.bsz, e.funs, e.frf, e.hok, e.bare⟩
section
variable {X : Cx} {pins : List (Addr × Obj)} {σ : St} {H : Hp} {s s' : Shared}
theorem Inv.env0 (I : Inv X pins σ H s) : Env0 X.prog X.w X.K X.mg X.base X.A X.stack s H :=
  ⟨I.ok.frames, I.ok.mod, I.bs, Nat.le_trans I.ok.bsz I.sz, I.stack, I.stkFree, I.hok, I.bare⟩
theorem Inv.after {Q : VK} {u : Value} (I : Inv X pins σ H s) (h : CE X.stack X.prog X.w H s Q u s') : EP X pins σ Q u s' := by
  obtain ⟨v, H', os, bare, un, hok, r, q⟩ := h
  obtain ⟨hh, g, d, t, os'⟩ := s'
  obtain rfl : os' = s.os := os
  exact ⟨v, H', I.call (h' := hh) (g' := g) (d' := d) (t' := t) (ch := []) un hok bare (fun b z => absurd z (by simp)), r, q⟩
end
def tCall (sp : Sp) (dvs : List V) (E : XK) (t : TA) : TE := fun σ H Q => t σ H fun vs H1 => sp (vs ++ dvs) H1 Q E
def tMeth (C : Addr) (m : Str) (sp : Sp) (dvs : List V) (E : XK) (ta : TE) (t : TA) : TE := fun σ H Q => ta σ H fun x H1 => ∃ a dx fs, x = .ref a ∧ H1 a = some (.ins C dx fs) ∧ fs.lookup m = none ∧
  t σ H1 fun vs H2 => sp (x :: (vs ++ dvs)) H2 Q E
def tMake (C : Addr) (sp : Sp) (dvs : List V) (E : XK) (t : TA) : TE := fun σ H Q => t σ H fun vs H1 => ∀ x dx, H1 x = none → H1 dx = none → dx ≠ x →
  sp (.ref x :: (vs ++ dvs)) (upd (upd H1 dx (.own x)) x (.ins C dx [])) (fun v H2 => v = .non ∧ Q (.ref x) H2) E
def Binds (K : PySem.W.Frag) (fd : FuncData) (ps : List Str) (ds : List Value) : Prop :=
  ∀ (s : Shared) (us : List Value), K.In s.heap → (us ++ ds).length = ps.length → BindsTo s fd ⟨us, []⟩ (ps.zip (us ++ ds))
theorem Binds.all {K : PySem.W.Frag} {fd : FuncData} {ps : List Str} (h : ∀ us : List Value, us.length = ps.length → bindArgs fd ⟨us, []⟩ = pure (ps.zip us)) : Binds K fd ps [] := fun s us _ hl => by
  rw [List.append_nil] at hl ⊢
  exact .of_eq (h us hl)
def Passes (CX : CXT) (X : Cx) (E : XK) : Prop := ∀ (pins : List (Addr × Obj)) (σ : St) (H : Hp) (s : Shared) (e : Value) (s' : Shared), Inv X pins σ H s → CX X.stack H s E e s' → X.xe e s'
section
variable {X : Cx} {CX : CXT} {k : Nat} {f C : Addr} {fd : FuncData} {ps : List Str} {sp : Sp} {dvs : List V} {ds : List Value} {E : XK} {x m : Str} {p pos apos : Pos} {e o : Expr} {es : List Expr} {ta : TE} {t : TA}
theorem run_fn {pins : List (Addr × Obj)} {σ : St} {H : Hp} {s : Shared} {Q : VK} {us : List Value} {vs : List V} (F : FnOk X.prog X.w X.K X.mg X.base CX k f fd ps sp) (hr : Room k X.A) (hb : Binds X.K fd ps ds) (hd : Vals dvs ds) (hx : Passes CX X E)
    (I : Inv X pins σ H s) (r : Vals vs us) (h : sp (vs ++ dvs) H Q E) : wpAny (model X.prog X.w) X.A (call (.ref f) us) (EP X pins σ Q) X.xe s := by
  have r2 : Vals (vs ++ dvs) (us ++ ds) := r.append hd
  have hl : (us ++ ds).length = ps.length := by rw [← r2.length]; exact F.len _ _ _ _ h
  refine wpAny_call (codeAny_mono (F.run X.A X.stack s H ⟨us, []⟩ (us ++ ds) (vs ++ dvs) Q E hr I.env0 (hb s us I.kIn hl) r2 h) fun r s' hq => ?_)
  cases r with
  | error e => exact hx pins σ H s e s' I hq
  | ok fl =>
    cases fl with
    | ret u => exact I.after hq
    | next => exact False.elim hq
    | brk => exact False.elim hq
    | cont => exact False.elim hq
theorem pe_call (F : FnOk X.prog X.w X.K X.mg X.base CX k f fd ps sp) (hr : Room k X.A) (hg : Gl X x) (hm : X.mg x = some (.ref f)) (hk : PySem.W.keepIn X.K (.ref f) = true) (hb : Binds X.K fd ps ds) (hd : Vals dvs ds) (hx : Passes CX X E)
    (ha : PA X (e :: es) t) (hdb : (x == ("__debug__" : Str)) = false := by decide) (he : starEach (e :: es) X.env = (false, eval e X.env) :: starEach es X.env := by rfl) (hpl : (backTo pos (starEach es X.env)).any (·.1) = false := by rfl) :
    PE X (.Call (.Name x p) (e :: es) [] pos) (tCall sp dvs E t) := by
  intro pins s σ H Q I h
  refine wpAny_Call_Name_kw (ld_glob I hg hm ?_ hdb)
  refine PySem.W.callWith_K (h₀ := X.base) I.ok.mod.kin hk (thn (ha pos pins s σ H _ I h) fun us s1 ⟨vs, H1, I1, r, q⟩ => ⟨I1.kIn, ?_⟩) he hpl
  exact run_fn F hr hb hd hx I1 r q
theorem pe_meth {pl : Sem Bool} (he : PE X o ta) (c : Cls X.K C) (hm : Meth X.K C m f) (F : FnOk X.prog X.w X.K X.mg X.base CX k f fd ps sp) (hr : Room k X.A) (hb : Binds X.K fd ps ds) (hd : Vals dvs ds) (hx : Passes CX X E) (ha : PA X (e :: es) t)
    (hst : starEach (e :: es) X.env = (false, eval e X.env) :: starEach es X.env := by rfl) (hpl : (backTo pos (starEach es X.env)).any (·.1) = false := by rfl)
    (ht : eval (.Call (.Attribute o m apos) (e :: es) [] pos) X.env = (do
      let ov ← eval o X.env
      standAt apos.atName
      let (f, first) ← holding [ov] (getMethod ov m pl)
      callWith pos f first (backTo pos (starEach (e :: es) X.env)) (backToKw pos (keywordEach [] X.env))) := by rfl) :
    PE X (.Call (.Attribute o m apos) (e :: es) [] pos) (tMeth C m sp dvs E ta t) := by
  intro pins s σ H Q I h
  refine PySem.W.methodCall_KW (pl := pl) (thn (he pins s σ H _ I h) fun u s1 ⟨x, H1, I1, rx, a, dx, fs, ex, ea, l, q⟩ => ?_) ht
  subst ex
  obtain rfl : u = Value.ref a := rx
  refine getmeth_ok I1 ea c hm l ?_
  refine PySem.W.callWith_K (first := [.ref a]) (h₀ := X.base) I.ok.mod.kin hm.kp (thn (ha pos pins s1 σ H1 _ I1 q) fun us s2 ⟨vs, H2, I2, r, q2⟩ => ⟨I2.kIn, ?_⟩) hst hpl
  exact run_fn (us := .ref a :: us) (vs := .ref a :: vs) F hr hb hd hx I2 (.cons rfl r) q2
theorem pe_meth0 {pl : Sem Bool} (he : PE X o ta) (c : Cls X.K C) (hm : Meth X.K C m f) (F : FnOk X.prog X.w X.K X.mg X.base CX k f fd ps sp) (hr : Room k X.A) (hb : Binds X.K fd ps ds) (hd : Vals dvs ds) (hx : Passes CX X E)
    (ht : eval (.Call (.Attribute o m apos) [] [] pos) X.env = (do
      let ov ← eval o X.env
      standAt apos.atName
      let (f, first) ← holding [ov] (getMethod ov m pl)
      callWith pos f first (backTo pos (starEach [] X.env)) (backToKw pos (keywordEach [] X.env))) := by rfl) :
    PE X (.Call (.Attribute o m apos) [] [] pos) (tMeth C m sp dvs E ta tNil) := by
  intro pins s σ H Q I h
  refine PySem.W.methodCall_KW (pl := pl) (thn (he pins s σ H _ I h) fun u s1 ⟨x, H1, I1, rx, a, dx, fs, ex, ea, l, q⟩ => ?_) ht
  subst ex
  obtain rfl : u = Value.ref a := rx
  refine getmeth_ok I1 ea c hm l ?_
  exact PySem.W.callWith_K0 (first := [.ref a]) I1.kIn hm.kp (run_fn (us := [.ref a]) (vs := [.ref a]) F hr hb hd hx I1 (.cons rfl .nil) q)
structure Mk (K : PySem.W.Frag) (C f : Addr) : Prop where
  makes : PySem.W.makesIn K C = true
  init : PySem.W.findIn K (.ref C) "__init__" = some (some (.ref f))
  fn : PySem.W.isFn K (.ref f) = true
  kp : PySem.W.keepIn K (.ref C) = true
theorem run_make {pins : List (Addr × Obj)} {σ : St} {H : Hp} {s : Shared} {Q : VK} {us : List Value} {vs : List V} (M : Mk X.K C f) (F : FnOk X.prog X.w X.K X.mg X.base CX k f fd ps sp) (hr : Room (k + 1) X.A) (hb : Binds X.K fd ps ds) (hd : Vals dvs ds)
    (hx : Passes CX X E) (I : Inv X pins σ H s) (r : Vals vs us)
    (h : ∀ x dx, H x = none → H dx = none → dx ≠ x → sp (.ref x :: (vs ++ dvs)) (upd (upd H dx (.own x)) x (.ins C dx [])) (fun v H2 => v = .non ∧ Q (.ref x) H2) E) :
    wpAny (model X.prog X.w) X.A (call (.ref C) us) (EP X pins σ Q) X.xe s := by
  have hq := h (s.heap.objs.size + 1) s.heap.objs.size (I.hok.fresh (Nat.le_succ _)) (I.hok.fresh (Nat.le_refl _)) (Nat.ne_of_lt (Nat.lt_succ_self _))
  have I2 := Inv.made (C := C) I
  have r2 : Vals (V.ref (s.heap.objs.size + 1) :: (vs ++ dvs)) (Value.ref (s.heap.objs.size + 1) :: (us ++ ds)) := .cons rfl (r.append hd)
  have hl : (Value.ref (s.heap.objs.size + 1) :: us ++ ds).length = ps.length := by
    have e := r2.length
    rw [F.len _ _ _ _ hq] at e
    exact e.symm
  refine wpAny_call (make_map (f := f) I.kIn M.makes M.init (beq_iff_eq.mp M.fn) (codeAny_mono (F.run _ X.stack _ _ ⟨Value.ref (s.heap.objs.size + 1) :: us, []⟩ (Value.ref (s.heap.objs.size + 1) :: (us ++ ds)) _ _ E (hr.make C us [])
    (I2.env0.make C us []) (hb _ (Value.ref (s.heap.objs.size + 1) :: us) I2.kIn hl) r2 hq) fun r s' hq' => ?_))
  cases r with
  | error e => exact hx pins σ _ _ e s' I2 hq'
  | ok fl =>
    cases fl with
    | ret u =>
      obtain ⟨v, H', I3, rv, ev, q3⟩ := I2.after hq'
      subst ev
      exact ⟨rv, ⟨V.ref (s.heap.objs.size + 1), H', I3, rfl, q3⟩⟩
    | next => exact False.elim hq'
    | brk => exact False.elim hq'
    | cont => exact False.elim hq'
theorem pe_make0 (M : Mk X.K C f) (F : FnOk X.prog X.w X.K X.mg X.base CX k f fd ps sp) (hr : Room (k + 1) X.A) (hg : Gl X x) (hm : X.mg x = some (.ref C)) (hb : Binds X.K fd ps ds) (hd : Vals dvs ds) (hx : Passes CX X E)
    (hdb : (x == ("__debug__" : Str)) = false := by decide) : PE X (.Call (.Name x p) [] [] pos) (tMake C sp dvs E tNil) := by
  intro pins s σ H Q I h
  refine wpAny_Call_Name_kw (ld_glob I hg hm ?_ hdb)
  exact PySem.W.callWith_K0 I.kIn M.kp (run_make (us := []) M F hr hb hd hx I .nil h)
end
section
variable {X : Cx} {CX : CXT} {k : Nat} {f C : Addr} {fd : FuncData} {ps ks : List Str} {sp : Sp} {E : XK} {x m : Str} {p pos apos kpos : Pos} {e o : Expr} {es : List Expr} {kws : List Keyword} {te ta : TE} {t tk : TA} {nm : Option Str}
structure KBinds (K : PySem.W.Frag) (fd : FuncData) (ps ks : List Str) (g : List Value → List Value → List Value) (gV : List V → List V → List V) : Prop where
  to : ∀ (s : Shared) (us ws : List Value), K.In s.heap → (g us ws).length = ps.length → BindsTo s fd ⟨us, ks.zip ws⟩ (ps.zip (g us ws))
  rel : ∀ {vs : List V} {us : List Value} {zs : List V} {ws : List Value}, Vals vs us → Vals zs ws → Vals (gV vs zs) (g us ws)
variable {g : List Value → List Value → List Value} {gV : List V → List V → List V}
end
structure FnScope (N P : List Str) (sc : Scope) : Prop where
  kind : sc.kind = .function
  co : sc.isCoroutine = false
  gen : sc.isGenerator = false
  nd : N.Nodup
  pre : N.take P.length = P
  par : ∀ x ∈ P, sc.names.lookup x = some .local ∨ sc.names.lookup x = some .cell
  nofree : ∀ y ∈ sc.names, y.2 ≠ .free
theorem bindL_out {kindOf : Str → Option NameKind} {x : Str} : ∀ {binds : List (Str × Value)} {m : Str → Option Value}, (∀ v, (x, v) ∉ binds) → bindL kindOf binds m x = m x
  | [], _, _ => rfl
  | (n, v) :: r, m, h => by
    unfold bindL
    rw [bindL_out fun w hw => h w (List.mem_cons_of_mem _ hw)]
    split
    · have : x ≠ n := by rintro rfl; exact h v List.mem_cons_self
      simp [this]
    · rfl
theorem bindC_out {kindOf : Str → Option NameKind} {x : Str} : ∀ {binds : List (Str × Value)} {m : Str → Option Value}, (∀ v, (x, v) ∉ binds) → bindC kindOf binds m x = m x
  | [], _, _ => rfl
  | (n, v) :: r, m, h => by
    unfold bindC
    rw [bindC_out fun w hw => h w (List.mem_cons_of_mem _ hw)]
    split
    · rfl
    · have : x ≠ n := by rintro rfl; exact h v List.mem_cons_self
      simp [this]
theorem bindL_get {kindOf : Str → Option NameKind} {x : Str} {v : Value} : ∀ {P : List Str} {vs : List Value} {i : Nat} {m : Str → Option Value}, P.Nodup → P[i]? = some x → vs[i]? = some v → kindOf x = some .local →
    bindL kindOf (P.zip vs) m x = some v
  | [], _, _, _, _, h, _, _ => by simp at h
  | _ :: _, [], _, _, _, _, h, _ => by simp at h
  | p :: P, w :: vs, 0, m, nd, h1, h2, hk => by
    simp at h1 h2; subst h1; subst h2
    show bindL kindOf ((p, w) :: P.zip vs) m p = _
    unfold bindL
    rw [bindL_out fun v hv => (List.nodup_cons.mp nd).1 (List.of_mem_zip hv).1, if_pos hk]
    simp
  | p :: P, w :: vs, i + 1, m, nd, h1, h2, hk => by
    show bindL kindOf ((p, w) :: P.zip vs) m x = _
    unfold bindL
    exact bindL_get (i := i) (List.nodup_cons.mp nd).2 (by simpa using h1) (by simpa using h2) hk
theorem bindC_get {kindOf : Str → Option NameKind} {x : Str} {v : Value} : ∀ {P : List Str} {vs : List Value} {i : Nat} {m : Str → Option Value}, P.Nodup → P[i]? = some x → vs[i]? = some v → kindOf x ≠ some .local →
    bindC kindOf (P.zip vs) m x = some v
  | [], _, _, _, _, h, _, _ => by simp at h
  | _ :: _, [], _, _, _, _, h, _ => by simp at h
  | p :: P, w :: vs, 0, m, nd, h1, h2, hk => by
    simp at h1 h2; subst h1; subst h2
    show bindC kindOf ((p, w) :: P.zip vs) m p = _
    unfold bindC
    rw [bindC_out fun v hv => (List.nodup_cons.mp nd).1 (List.of_mem_zip hv).1, if_neg hk]
    simp
  | p :: P, w :: vs, i + 1, m, nd, h1, h2, hk => by
    show bindC kindOf ((p, w) :: P.zip vs) m x = _
    unfold bindC
    exact bindC_get (i := i) (List.nodup_cons.mp nd).2 (by simpa using h1) (by simpa using h2) hk
def start (N : List Str) (vs : List V) : St := vs.map some ++ List.replicate (N.length - vs.length) none
def cxOf (CX : CXT) (P : Program) (w : World) (K : PySem.W.Frag) (mg : Str → Option Value) (base : Heap) (N : List Str) (qual : Str) (scope : Scope) (f : Addr) (cd : Value) (A : Around) (outer : List Env) (s : Shared) (H : Hp) (E : XK) : Cx where
  prog := P
  w := w
  K := K
  mg := mg
  base := base
  A := A.deeper (envOfC qual scope s.heap.objs.size f cd)
  N := N
  s_0 := s
  H_0 := H
  env := envOfC qual scope s.heap.objs.size f cd
  outer := outer
  stack := envOfC qual scope s.heap.objs.size f cd :: outer
  ex := []
  calm := true
  fn := fun _ => true
  pn := []
  xe := fun e s' => wpAny (model P w) (A.deeper (envOfC qual scope s.heap.objs.size f cd)) (leaving (envOfC qual scope s.heap.objs.size f cd) e) (fun _ s'' => CX outer H s E e s'') (fun e' s'' => CX outer H s E e' s'') s'
theorem cell_has {sc : Scope} {n : Nat} {x : Str} (h : sc.names.lookup x = some .cell) : ∃ c, (cellsFrom n sc.names []).lookup x = some c := by
  have q := PySem.W.cellsFrom_some sc.names n [] (.inl h)
  exact Option.isSome_iff_exists.mp q
theorem inv_start {CX : CXT} {P : Program} {w : World} {K : PySem.W.Frag} {mg : Str → Option Value} {base : Heap} {N ps : List Str} {qual : Str} {scope : Scope} {f : Addr} {cd : Value} {A : Around} {outer : List Env} {s s1 : Shared} {H : Hp} {E : XK} {us : List Value} {vs : List V}
    (S : FnScope N ps scope) (hd : A.handled = none) (e0 : Env0 P w K mg base A outer s H) (hl : vs.length = ps.length) (r : Vals vs us)
    (x : InCallC s s.heap.objs.size (bindL (envOfC qual scope s.heap.objs.size f cd).kindOf (ps.zip us) fun _ => none) (cellsFrom (s.heap.objs.size + 1) scope.names []) (bindC (envOfC qual scope s.heap.objs.size f cd).kindOf (ps.zip us) fun _ => none) s1) :
    Inv (cxOf CX P w K mg base N qual scope f cd A outer s H E) [] (start N vs) H s1 := by
  have hpl : ps.length ≤ N.length := by have := congrArg List.length S.pre; rw [List.length_take] at this; omega
  obtain ⟨h1, tk, rfl, hk⟩ := x.done
  have noA : ∀ b : Addr, b ∉ (cxOf CX P w K mg base N qual scope f cd A outer s H E).ex := fun b z => absurd (show b ∈ ([] : List Addr) from z) (by simp)
  refine ⟨⟨e0.mod, S.kind, rfl, rfl, Nat.le_refl _, fun y z c h1 h2 => ?_, fun y hy => ?_, fun y c _ h => ?_, fun _ => hd, Around.frames_deeper e0.frames, .inr ⟨rfl, rfl⟩, fun b z => absurd z (noA b), e0.bs, e0.bsz, fun b _ _ => noA b, fun b z => absurd z (noA b), e0.funs, e0.frf⟩,
    rfl, e0.bare, Un.kept hk, ⟨_, x.toInCall.ns, fun i y v h1 h2 h3 => ?_⟩, fun y c h => ⟨_, x.cell y c h⟩, e0.hok.fresh (Nat.le_refl _), fun y c h => ?_, fun p hp => absurd (show p ∈ ([] : List (Addr × Obj)) from hp) (by simp), e0.hok.kept hk, ?_⟩
  · exact name_of_addr x.apart (PySem.mem_of_lookup h1) (PySem.mem_of_lookup h2)
  · have hy : scope.names.lookup y = some .cell ∨ scope.names.lookup y = some .free := hy
    rcases hy with hy | hy
    · exact cell_has hy
    · exact absurd rfl (S.nofree _ (PySem.mem_of_lookup hy))
  · exact Nat.le_of_lt (x.above y c (PySem.mem_of_lookup h))
  · have hi : i < vs.length := by
      unfold start at h2
      by_cases hi : i < vs.length
      · exact hi
      · rw [List.getElem?_append_right (by simpa using hi)] at h2
        rw [List.getElem?_replicate] at h2
        split at h2 <;> cases h2
    have ha : vs[i]? = some v := by
      unfold start at h2
      rw [List.getElem?_append_left (by simpa using hi), List.getElem?_map] at h2
      cases e : vs[i]? with
      | none => rw [e] at h2; cases h2
      | some a => rw [e] at h2; cases h2; rfl
    obtain ⟨u, hu, rv⟩ := r.get ha
    have hp : ps[i]? = some y := by
      rw [← S.pre, List.getElem?_take_of_lt (by omega)]; exact h1
    have ndP : ps.Nodup := by rw [← S.pre]; exact S.nd.sublist (List.take_sublist _ _)
    refine ⟨u, rv, ?_⟩
    rcases S.par y (List.mem_of_getElem? hp) with k | k
    · exact .inl ⟨k, bindL_get ndP hp hu k⟩
    · obtain ⟨c, e⟩ := cell_has (n := s.heap.objs.size + 1) k
      refine .inr ⟨.inl k, c, e, ?_⟩
      have q := x.cell y c e
      rw [bindC_get ndP hp hu (by show scope.names.lookup y ≠ _; rw [k]; decide)] at q
      exact q
  · exact e0.hok.fresh (Nat.le_of_lt (x.above y c (PySem.mem_of_lookup h)))
  · unfold start
    show _ = N.length
    rw [List.length_append, List.length_map, List.length_replicate]
    omega
theorem fn_of {CX : CXT} {P : Program} {w : World} {K : PySem.W.Frag} {mg : Str → Option Value} {base : Heap} {k : Nat} {f : Addr} {name qual : Str} {params : Arguments} {body : List Stmt} {scope : Scope} {dV kV doc pm cdv ct oc : Value} {an od : Option Addr}
    {osl : Array (Option Value)} {N ps : List Str} {sp : Sp} (lk : K.lookup f = some ⟨oc, od, .func (PySem.W.fnOf name qual params body scope dV kV doc pm an cdv ct), osl⟩) (hcd : PySem.W.codeIn K cdv qual = true) (S : FnScope N ps scope)
    (len : ∀ vs H Q E, sp vs H Q E → vs.length = ps.length)
    (hbody : ∀ (A : Around) (outer : List Env) (s : Shared) (H : Hp) (vs : List V) (Q : VK) (E : XK), Room k (A.deeper (envOfC qual scope s.heap.objs.size f cdv)) → sp vs H Q E →
      ∃ t, PSs (cxOf CX P w K mg base N qual scope f cdv A outer s H E) body t ∧ t { nx := fun _ H' => Q .non H', rt := Q } (start N vs) H) :
    FnOk P w K mg base CX (k + 1) f (PySem.W.fnOf name qual params body scope dV kV doc pm an cdv ct) ps sp := by
  refine ⟨len, fun A outer s H args us vs Q E hr e0 hb r hsp => ?_⟩
  have hl := len _ _ _ _ hsp
  have KX : K.In s.heap := e0.mod.kin.keeps fun b o e => (e0.bs b o e).1
  have lim : s.heap.NoLimit := e0.mod.nolimit.keeps fun b o e => (e0.bs b o e).1
  have hkind : ∀ y ∈ ps.zip us, scope.names.lookup y.1 = some .local ∨ (scope.names.lookup y.1 = some .cell ∧ ((cellsFrom (s.heap.objs.size + 1) scope.names []).lookup y.1).isSome = true) := fun ⟨n, v⟩ hy => by
    rcases S.par n (List.of_mem_zip hy).1 with q | q
    · exact .inl q
    · exact .inr ⟨q, PySem.W.cellsFrom_some _ _ _ (.inl q)⟩
  refine codeAny_call_function hr.depth (KX _ _ lk) rfl S.co S.gen rfl (PySem.W.codeRec_of KX hcd) (hb _ _ _ _ ?_)
  refine wpAny_newFunctionEnv_cells S.kind hkind fun env he s1 x => ?_
  subst he
  refine ⟨lim.keeps x.toInCall.keep, codeAny_func ?_⟩
  obtain ⟨t, ht, hq⟩ := hbody A outer s H vs Q E (hr.deeper _) hsp
  have I : Inv (cxOf CX P w K mg base N qual scope f cdv A outer s H E) [] (start N vs) H s1 := inv_start S hr.hd e0 hl r x
  refine wpAny_mono (ht [] s1 (start N vs) H _ I hq) (fun fl s' hs => ?_) fun e s' hs => hs
  have fin : ∀ {σ' : St} {H' : Hp} {v : V} {u : Value}, Inv (cxOf CX P w K mg base N qual scope f cdv A outer s H E) [] σ' H' s' → RelV v u → Q v H' → CE outer P w H s Q u s' :=
    fun {σ' H' v u} J rv q => ⟨v, H', J.os, J.bare, J.base, J.hok, rv, q⟩
  cases fl with
  | ret u =>
    obtain ⟨v, σ', H', J, rv, q⟩ := hs
    exact fin J rv q
  | next =>
    obtain ⟨σ', H', J, q⟩ := hs
    exact fin (v := V.non) (u := Value.none) J rfl q
  | brk =>
    obtain ⟨_, _, _, q⟩ := hs
    exact False.elim q
  | cont =>
    obtain ⟨_, _, _, q⟩ := hs
    exact False.elim q
end L2
namespace L2
open PySem PySem.Spec PyProof.Rows
section
variable {X : Cx} {x : Str} {p pos : Pos} {e : Expr} {es : List Expr} {t : TA} {id T : String} {r : List V → Hp → VK → Prop}
def tCB (r : List V → Hp → VK → Prop) (t : TA) : TE := fun σ H Q => t σ H fun vs H1 => r vs H1 Q
theorem pe_callB (hc : CallR X (.builtin id) r) (hg : Gl X x) (hm : X.mg x = none) (hv : bootBuiltins x = some (.builtin id)) (ha : PA X (e :: es) t) (hn : x ≠ "__name__" := by decide) (hdb : (x == ("__debug__" : Str)) = false := by decide)
    (he : starEach (e :: es) X.env = (false, eval e X.env) :: starEach es X.env := by rfl) (hpl : (backTo pos (starEach es X.env)).any (·.1) = false := by rfl) : PE X (.Call (.Name x p) (e :: es) [] pos) (tCB r t) := by
  intro pins s σ H Q I h
  refine wpAny_Call_Name_kw (ld_blt I hg hm hv ?_ hn hdb)
  exact PyProof.Rows.callWith_builtin1 (thn (ha pos pins s σ H _ I h) fun us s1 ⟨vs, H1, I1, r1, q1⟩ => hc pins s1 σ H1 vs us Q I1 r1 q1) he hpl
theorem pe_callTy (hc : CallR X (.type T) r) (hg : Gl X x) (hm : X.mg x = none) (hv : bootBuiltins x = some (.type T)) (ha : PA X (e :: es) t) (hn : x ≠ "__name__" := by decide) (hdb : (x == ("__debug__" : Str)) = false := by decide)
    (he : starEach (e :: es) X.env = (false, eval e X.env) :: starEach es X.env := by rfl) (hpl : (backTo pos (starEach es X.env)).any (·.1) = false := by rfl) : PE X (.Call (.Name x p) (e :: es) [] pos) (tCB r t) := by
  intro pins s σ H Q I h
  refine wpAny_Call_Name_kw (ld_blt I hg hm hv ?_ hn hdb)
  exact PyProof.Rows.callWith_type1 (thn (ha pos pins s σ H _ I h) fun us s1 ⟨vs, H1, I1, r1, q1⟩ => hc pins s1 σ H1 vs us Q I1 r1 q1) he hpl
end
end L2
namespace HT
open PySem PyProof.Rows
section
open PySem.SeqAt
open PySem.AutoSeq1 (wpAny_loadPart')
open PySem.MeetsSeq PySem.MeetsSeq2 PySem.MeetsSeq3
end
section
variable {prog : Program} {w : World} {A : Around} {E : Value → Shared → Prop} {s : Shared}
def sIx (n d : Nat) : Option Int → Nat
  | none => d
  | some v => if v < 0 then (v + (n : Int)).toNat else min v.toNat n
theorem sIx_none (n d : Nat) : sIx n d none = d := rfl
theorem sIx_nat (n d k : Nat) : sIx n d (some (k : Int)) = min k n := by
  show (if (k : Int) < 0 then ((k : Int) + (n : Int)).toNat else min (k : Int).toNat n) = min k n
  rw [if_neg (by omega), Int.toNat_natCast]
end
end HT
namespace L2
open PySem PySem.Spec PyProof.Rows
abbrev TO := St → Hp → (Option Int → Hp → Prop) → Prop
def PO (X : Cx) (e : Option Expr) (t : TO) : Prop :=
  ∀ (pins : List (Addr × Obj)) (s : Shared) (σ : St) (H : Hp) (Q : Option Int → Hp → Prop), Inv X pins σ H s → t σ H Q →
    wpAny (model X.prog X.w) X.A (evalPart e X.env) (fun u s' => ∃ o H', Inv X pins σ H' s' ∧ IsPart u o ∧ Q o H') X.xe s
def tNoPart : TO := fun _ H Q => Q none H
def tPart (t : TE) : TO := fun σ H Q => t σ H fun x H1 => ∃ i, x = .int i ∧ Q (some i) H1
section
variable {X : Cx} {e : Expr} {te : TE} {lo hi : Option Expr} {tl th : TO} {pos p2 : Pos}
theorem po_none : PO X none tNoPart := by
  intro pins s σ H Q I h
  rw [evalPart_none]
  exact wpAny_pure ⟨none, H, I, .none, h⟩
theorem po_some (h : PE X e te) : PO X (some e) (tPart te) := by
  intro pins s σ H Q I hw
  rw [evalPart_some]
  refine thn (h pins s σ H _ I hw) fun u s1 ⟨x, H1, I1, r1, q1⟩ => ?_
  obtain ⟨i, rfl, q⟩ := q1
  obtain ⟨t, rfl⟩ := r1
  exact ⟨some i, H1, I1, .int i t, q⟩
def SlR (X : Cx) (r : V → Option Int → Option Int → Hp → VK → Prop) : Prop :=
  ∀ (pins : List (Addr × Obj)) (s : Shared) (σ : St) (H : Hp) (x : V) (v vl vu : Value) (lo hi : Option Int) (sl : Addr) (Q : VK), Inv X pins σ H s → RelV x v → s.heap.IsSliceOf sl vl vu .none → IsPart vl lo → IsPart vu hi → r x lo hi H Q →
    ∃ T id, typeLookup (.type T) "__getitem__" = pure (some (.builtin id)) ∧ s.TypeIs v T ∧ wpAny (model X.prog X.w) X.A (getItem v (.ref sl)) (EP X pins σ Q) X.xe s
def tSl (r : V → Option Int → Option Int → Hp → VK → Prop) (te : TE) (tl th : TO) : TE := fun σ H Q => te σ H fun x H1 => tl σ H1 fun l H2 => th σ H2 fun u H3 => r x l u H3 Q
theorem pe_slice {r : V → Option Int → Option Int → Hp → VK → Prop} (hr : SlR X r) (he : PE X e te) (hl : PO X lo tl) (hu : PO X hi th) : PE X (.Subscript e (.Slice lo hi none p2) pos) (tSl r te tl th) := by
  intro pins s σ H Q I h
  refine Subscript_ (thn (he pins s σ H _ I h) fun v s1 ⟨x, H1, I1, r1, q1⟩ => ?_)
  refine wpAny_Slice (thn (hl pins s1 σ H1 _ I1 q1) fun vl s2 ⟨l, H2, I2, pl, q2⟩ => thn (hu pins s2 σ H2 _ I2 q2) fun vu s3 ⟨u, H3, I3, pu, q3⟩ => ?_)
  rw [evalPart_none]
  refine wpAny_pure ?_
  have I4 : Inv X pins σ H3 { s3 with heap := s3.heap.push { cls := .type "slice", data := .fields #[vl, vu, .none] } } := I3.kept (t' := s3.toks) fun b ob q => Heap.get?_push_of_some _ q
  obtain ⟨T, id, hT, ht, hg⟩ := hr pins { s3 with heap := s3.heap.push { cls := .type "slice", data := .fields #[vl, vu, .none] } } σ H3 x v vl vu l u s3.heap.objs.size Q I4 r1 (Heap.IsSliceOf.new ..) pl pu q3
  show wpAny (model X.prog X.w) X.A (subscriptTail e (.Slice lo hi none p2) v (.ref s3.heap.objs.size)) (EP X pins σ Q) X.xe { s3 with heap := s3.heap.push { cls := .type "slice", data := .fields #[vl, vu, .none] } }
  exact tail_any (ops := [.ref s3.heap.objs.size, v]) ht hT hg (by with_unfolding_all rfl)
def cutV (xs : List V) (lo hi : Option Int) : List V := (xs.drop (HT.sIx xs.length 0 lo)).take (HT.sIx xs.length xs.length hi - HT.sIx xs.length 0 lo)
theorem cutV_length (xs : List V) (lo hi : Option Int) : (cutV xs lo hi).length ≤ xs.length := by
  unfold cutV
  rw [List.length_take, List.length_drop]
  omega
end
end L2
namespace L2
open PySem PySem.Spec PyProof.Rows
def ixN (n : Nat) (i : Int) : Option Nat := if 0 ≤ i then (if i < n then some i.toNat else none) else if -(n : Int) ≤ i then some (i + n).toNat else none
def atI {α : Type} (xs : List α) (i : Int) : Option α := (ixN xs.length i).bind fun j => xs[j]?
theorem ixN_seq {n : Nat} {i : Int} {j : Nat} (h : ixN n i = some j) : seqIndex? i n = some j ∧ j < n ∧ -(n : Int) ≤ i ∧ i < n := by
  unfold ixN at h
  by_cases h0 : 0 ≤ i
  · rw [if_pos h0] at h
    by_cases h1 : i < n
    · rw [if_pos h1] at h
      have e : i.toNat = j := Option.some.inj h
      exact ⟨by rw [seqIndex_of h0 h1, e], by omega, by omega, h1⟩
    · rw [if_neg h1] at h; cases h
  · rw [if_neg h0] at h
    by_cases h1 : -(n : Int) ≤ i
    · rw [if_pos h1] at h
      have e : (i + n).toNat = j := Option.some.inj h
      exact ⟨by rw [seqIndex_neg (by omega) h1, e], by omega, h1, by omega⟩
    · rw [if_neg h1] at h; cases h
theorem atI_get {α : Type} {xs : List α} {i : Int} {v : α} (h : atI xs i = some v) : ∃ j, seqIndex? i xs.length = some j ∧ xs[j]? = some v ∧ j < xs.length ∧ -(xs.length : Int) ≤ i ∧ i < xs.length := by
  unfold atI at h
  cases e : ixN xs.length i with
  | none => rw [e] at h; cases h
  | some j =>
    rw [e] at h
    obtain ⟨h1, h2, h3, h4⟩ := ixN_seq e
    exact ⟨j, h1, h, h2, h3, h4⟩
theorem atI_nat {α : Type} {xs : List α} {j : Nat} {v : α} (h : xs[j]? = some v) : atI xs (j : Int) = some v := by
  have hj : j < xs.length := (List.getElem?_eq_some_iff.mp h).1
  have e : ixN xs.length (j : Int) = some j := by
    unfold ixN
    rw [if_pos (by omega), if_pos (by omega)]; simp
  unfold atI; rw [e]; exact h
def PlainIx (b : Expr) : Prop := ∀ o i, subscripted b false o i = operate [o, i] (getItem o i)
def IxR (X : Cx) (r : R2) : Prop :=
  ∀ (value slice : Expr) (pins : List (Addr × Obj)) (s : Shared) (σ : St) (H : Hp) (x y : V) (v u : Value) (Q : VK), Inv X pins σ H s → RelV x v → RelV y u → r x y H Q →
    subscripted slice false v u = operate [v, u] (getItem v u) → wpAny (model X.prog X.w) X.A (subscriptTail value slice v u) (EP X pins σ Q) X.xe s
def MtR (X : Cx) (id : String) (r : V → List V → Hp → VK → Prop) : Prop :=
  ∀ (pins : List (Addr × Obj)) (s : Shared) (σ : St) (H : Hp) (x : V) (xs : List V) (v : Value) (us : List Value) (Q : VK), Inv X pins σ H s → RelV x v → Vals xs us → r x xs H Q →
    wpAny (model X.prog X.w) X.A (call (.builtin id) (v :: us)) (EP X pins σ Q) X.xe s
section
variable {X : Cx} {a b : Expr} {ta tb : TE} {pos : Pos}
theorem pe_ix {r : R2} (hr : IxR X r) (ha : PE X a ta) (hb : PE X b tb) (hs : PlainIx b) : PE X (.Subscript a b pos) (tOp r ta tb) := by
  intro pins s σ H Q I h
  exact Subscript_ (binT ha hb I h fun v u s2 x y H2 I2 rx ry q => hr a b pins s2 σ H2 x y v u Q I2 rx ry q (hs _ _))
def rIxL (K : PySem.W.Frag) : R2 := fun x y H Q => ∃ p xs i v, x = .ref p ∧ y = .int i ∧ SqL K H p xs ∧ atI xs i = some v ∧ Q v H
def rIxT (K : PySem.W.Frag) : R2 := fun x y H Q => ∃ p xs i v, x = .ref p ∧ y = .int i ∧ SqT K H p xs ∧ atI xs i = some v ∧ Q v H
theorem ix_list : IxR X (rIxL X.K) := by
  intro value slice pins s σ H x y v u Q I rx ry h hs
  obtain ⟨p, xs, i, z, rfl, rfl, hq, he, q⟩ := h
  cases rx
  obtain ⟨t, rfl⟩ := ry
  obtain ⟨its, r, pl, hz⟩ := I.list hq
  obtain ⟨j, h1, h2, h3, h4, h5⟩ := atI_get he
  obtain ⟨w, ew, rw'⟩ := r.get h2
  have hl := r.length
  have hn := line63
  have fin : EP X pins σ Q w s := ⟨z, H, I, rw', q⟩
  by_cases h0 : 0 ≤ i
  · have hj : i.toNat = j := by
      rw [seqIndex_of h0 h5] at h1
      exact Option.some.inj h1
    exact item_listR pl.isList h0 (by omega) (by rw [hj]; simpa using ew) fin hs
  · have hj : (i + (its.toArray.size : Int)).toNat = j := by
      rw [seqIndex_neg (by omega) h4] at h1
      rw [List.size_toArray, ← hl]
      exact Option.some.inj h1
    exact subscriptTail_builtinR (x := w) pl.isList.typeIs slot_list_getitem.lookup
      (wpAny_getItem_list_neg (Q := fun r s' => r = w ∧ EP X pins σ Q r s') pl.isList (by omega) (by rw [List.size_toArray] <;> omega) (by omega) (by rw [hj]; simpa using ew) ⟨rfl, fin⟩) hs
theorem ix_tup : IxR X (rIxT X.K) := by
  intro value slice pins s σ H x y v u Q I rx ry h hs
  obtain ⟨p, xs, i, z, rfl, rfl, hq, he, q⟩ := h
  cases rx
  obtain ⟨t, rfl⟩ := ry
  obtain ⟨its, r, pl, hz⟩ := I.tuple hq
  obtain ⟨j, h1, h2, h3, h4, h5⟩ := atI_get he
  obtain ⟨w, ew, rw'⟩ := r.get h2
  have hl := r.length
  have hn := line63
  have fin : EP X pins σ Q w s := ⟨z, H, I, rw', q⟩
  exact subscriptTail_builtinR (x := w) pl.typeIs slot_tuple_getitem.lookup
    (getItem_tuple (j := j) (Q := fun r s' => r = w ∧ EP X pins σ Q r s') pl (by omega) (by omega) (by rw [List.size_toArray, ← hl]; exact h1) (by simpa using ew) ⟨rfl, fin⟩) hs
theorem mapSeq_set (its : List Value) (n j : Nat) (u : Value) : Obj.mapSeq (·.setIfInBounds j u) { cls := .type "list", data := .seq its.toArray n } = { cls := .type "list", data := .seq (its.set j u).toArray n } := by
  simp [Obj.mapSeq]
theorem Inv.lst {pins : List (Addr × Obj)} {σ : St} {H : Hp} {s : Shared} {p : Addr} {xs : List V} (I : Inv X pins σ H s) (h : H p = some (.lst xs)) :
    ∃ (its : List Value) (n : Nat), Vals xs its ∧ s.heap.get? p = some { cls := .type "list", data := .seq its.toArray n } ∧ xs.length ≤ sizeLine := by
  obtain ⟨z, its, n, r, e⟩ := I.hok p _ h
  exact ⟨its, n, r, e, z⟩
theorem Inv.lstUpd {pins : List (Addr × Obj)} {σ : St} {H : Hp} {s : Shared} {p : Addr} {xs ys : List V} {its its' : List Value} {n n' : Nat} {f : Obj → Obj} (I : Inv X pins σ H s) (h : H p = some (.lst xs))
    (ho : s.heap.get? p = some { cls := .type "list", data := .seq its.toArray n }) (hf : f { cls := .type "list", data := .seq its.toArray n } = { cls := .type "list", data := .seq its'.toArray n' }) (r : Vals ys its') (hz : ys.length ≤ sizeLine) (t : Nat) :
    Inv X pins σ (upd H p (.lst ys)) { s with heap := s.heap.update p f, toks := t } := by
  have e : (s.heap.update p f).get? p = some { cls := .type "list", data := .seq its'.toArray n' } := by
    rw [Heap.get?_update_self f ho (by rw [hf] <;> rfl), hf]
  refine I.write (x := p) (e := p) (by rw [h]; trivial) (.inl rfl) (fun b u hb q => (Heap.get?_update_other _ _ (Ne.symm hb)).trans q) ⟨_, e⟩ ?_
  exact ⟨hz, its', n', r, e⟩
def rSetL : V → V → V → Hp → (Hp → Prop) → Prop := fun o i v H Q => ∃ p xs k j, o = .ref p ∧ i = .int k ∧ H p = some (.lst xs) ∧ ixN xs.length k = some j ∧ Q (upd H p (.lst (xs.set j v)))
theorem set_list : PSet X rSetL := by
  intro pins s σ H o i v ov iv u Q I ro ri rv h
  obtain ⟨p, xs, k, j, rfl, rfl, hp, hj, q⟩ := h
  cases ro
  obtain ⟨t, rfl⟩ := ri
  obtain ⟨its, n, r, ho, hz⟩ := I.lst hp
  obtain ⟨h1, h2, h3, h4⟩ := ixN_seq hj
  have hl := r.length
  have hn := line63
  have I' : Inv X pins σ (upd H p (.lst (xs.set j v))) { s with heap := s.heap.update p (Obj.mapSeq (·.setIfInBounds j u)) } :=
    I.lstUpd hp ho (mapSeq_set its n j u) (r.set rv j) (by rw [List.length_set]; exact hz) s.toks
  by_cases h0 : 0 ≤ k
  · have hk : k.toNat = j := by
      rw [seqIndex_of h0 h4] at h1
      exact Option.some.inj h1
    exact PySem.W.ki_setAt ho h0 (by omega) (by rw [List.size_toArray, ← hl]; exact h4) (by rw [hk]; exact ⟨_, I', q⟩)
  · have hk : (k + (its.toArray.size : Int)).toNat = j := by
      rw [seqIndex_neg (by omega) h3] at h1
      rw [List.size_toArray, ← hl]
      exact Option.some.inj h1
    exact PySem.W.ki_setBack ho (by omega) (by rw [List.size_toArray, ← hl]; exact h3) (by omega) (by rw [hk]; exact ⟨_, I', q⟩)
theorem slice_bounds (lo hi : Option Int) (n : Nat) : (sliceBounds lo hi none n).1 = ((HT.sIx n 0 lo : Nat) : Int) ∧ (sliceBounds lo hi none n).2.1 = ((HT.sIx n n hi : Nat) : Int) ∧ (sliceBounds lo hi none n).2.2 = 1 := by
  refine ⟨?_, ?_, rfl⟩
  · cases lo with
    | none => simp [sliceBounds, HT.sIx]
    | some i =>
      simp only [sliceBounds, HT.sIx, Option.getD_none, show (1 : Int) > 0 by decide, if_true]
      by_cases h : i < 0
      · simp only [h, if_true] <;> omega
      · simp only [h, if_false] <;> omega
  · cases hi with
    | none => simp [sliceBounds, HT.sIx]
    | some i =>
      simp only [sliceBounds, HT.sIx, Option.getD_none, show (1 : Int) > 0 by decide, if_true]
      by_cases h : i < 0
      · simp only [h, if_true] <;> omega
      · simp only [h, if_false] <;> omega
theorem slicePick_cut (its : List Value) (lo hi : Option Int) : slicePick its.toArray lo hi none = ((its.drop (HT.sIx its.length 0 lo)).take (HT.sIx its.length its.length hi - HT.sIx its.length 0 lo)).toArray := by
  obtain ⟨h1, h2, h3⟩ := slice_bounds lo hi its.toArray.size
  unfold slicePick
  rw [h1, h2, h3]
  simp only [sliceRange_one, pick_run, List.size_toArray] <;> rfl
def rSlL (K : PySem.W.Frag) : V → Option Int → Option Int → Hp → VK → Prop := fun x lo hi H Q => ∃ a xs, x = .ref a ∧ SqL K H a xs ∧ ∀ p, H p = none → Q (.ref p) (upd H p (.lst (cutV xs lo hi)))
theorem sl_list : SlR X (rSlL X.K) := by
  intro pins s σ H x v vl vu lo hi sl Q I rx hs pl pu h
  obtain ⟨a, xs, rfl, hx, q⟩ := h
  cases rx
  obtain ⟨its, r, ht, hz⟩ := I.list hx
  have hlen := r.length
  refine ⟨"list", _, slot_list_getitem.lookup, ht.isList.typeIs, ?_⟩
  refine wpAny_getItem_list_slice ht.isList hs pl pu .none (by simp) ?_ (by rw [List.size_toArray] <;> omega)
  rw [slicePick_cut, ← hlen]
  refine ⟨.ref s.heap.objs.size, _, I.laid (t' := s.toks) (o := .lst (cutV xs lo hi)) (fun b ob q => Heap.get?_push_of_some _ q) (Nat.le_refl _) ?_, rfl, q _ (I.hok.fresh (Nat.le_refl _))⟩
  exact ⟨Nat.le_trans (cutV_length xs lo hi) hz, _, 0, (r.drop (HT.sIx xs.length 0 lo)).take (HT.sIx xs.length xs.length hi - HT.sIx xs.length 0 lo), Heap.get?_push_size _ rfl⟩
def flatV : V → Bool
  | .non => true
  | .bl _ => true
  | .int _ => true
  | .str _ => true
  | _ => false
def eqV : V → V → Bool
  | .non, .non => true
  | .bl a, .bl b => a == b
  | .bl a, .int b => (if a then 1 else 0) == b
  | .int a, .bl b => a == (if b then 1 else 0)
  | .int a, .int b => a == b
  | .str a, .str b => a == b
  | _, _ => false
theorem eqAt_V {A : Around} {s : Shared} {y x : V} {u v : Value} (ry : RelV y u) (rx : RelV x v) (fy : flatV y = true) (fx : flatV x = true) : SeqAt.EqAt A s u v (eqV y x) := by
  cases y with
  | non =>
    cases ry
    cases x with
    | non => cases rx; exact SeqAt.EqAt.same _
    | bl b => cases rx; exact SeqAt.EqAt.none_bool b
    | int b => obtain ⟨t, rfl⟩ := rx; exact SeqAt.EqAt.none_int b t
    | str b => obtain ⟨t, rfl⟩ := rx; exact SeqAt.EqAt.none_str b t
    | _ => exact absurd (show false = true from fx) Bool.false_ne_true
  | bl a =>
    cases ry
    cases x with
    | non => cases rx; exact SeqAt.EqAt.bool_none a
    | bl b => cases rx; exact SeqAt.EqAt.bool_bool a b
    | int b => obtain ⟨t, rfl⟩ := rx; exact SeqAt.EqAt.bool_int a b t
    | str b => obtain ⟨t, rfl⟩ := rx; exact SeqAt.EqAt.bool_str a b t
    | _ => exact absurd (show false = true from fx) Bool.false_ne_true
  | int a =>
    obtain ⟨t', rfl⟩ := ry
    cases x with
    | non => cases rx; exact SeqAt.EqAt.int_none a t'
    | bl b => cases rx; exact SeqAt.EqAt.int_bool a t' b
    | int b => obtain ⟨t, rfl⟩ := rx; exact SeqAt.EqAt.int_int a t' b t
    | str b => obtain ⟨t, rfl⟩ := rx; exact SeqAt.EqAt.int_str a t' b t
    | _ => exact absurd (show false = true from fx) Bool.false_ne_true
  | str a =>
    obtain ⟨t', rfl⟩ := ry
    cases x with
    | non => cases rx; exact SeqAt.EqAt.str_none a t'
    | bl b => cases rx; exact SeqAt.EqAt.str_bool a t' b
    | int b => obtain ⟨t, rfl⟩ := rx; exact SeqAt.EqAt.str_int a t' b t
    | str b => obtain ⟨t, rfl⟩ := rx; exact SeqAt.EqAt.str_str a t' b t
    | _ => exact absurd (show false = true from fx) Bool.false_ne_true
  | _ => exact absurd (show false = true from fy) Bool.false_ne_true
def eqU (x : V) (u : Value) : Bool := match u with
  | .none => eqV .non x
  | .bool b => eqV (.bl b) x
  | .int i _ => eqV (.int i) x
  | .str z _ => eqV (.str z) x
  | _ => false
theorem eqU_of {x y : V} {u : Value} (r : RelV y u) (f : flatV y = true) : eqU x u = eqV y x := by
  cases y with
  | non => cases r; rfl
  | bl b => cases r; rfl
  | int i => obtain ⟨t, rfl⟩ := r; rfl
  | str z => obtain ⟨t, rfl⟩ := r; rfl
  | _ => exact absurd (show false = true from f) Bool.false_ne_true
theorem any_eqU {x : V} : ∀ {xs : List V} {us : List Value}, Vals xs us → xs.all flatV = true → us.any (eqU x) = xs.any fun y => eqV y x
  | _, _, .nil, _ => rfl
  | y :: xs, u :: us, .cons r t, f => by
    rw [List.all_cons, Bool.and_eq_true] at f
    rw [List.any_cons, List.any_cons, eqU_of r f.1, any_eqU t f.2]
theorem mem_eqAt {A : Around} {s : Shared} {x : V} {v : Value} (rx : RelV x v) (fx : flatV x = true) : ∀ {xs : List V} {us : List Value}, Vals xs us → xs.all flatV = true → ∀ u ∈ us, SeqAt.EqAt A s u v (eqU x u)
  | _, _, .nil, _ => fun u hu => by cases hu
  | y :: xs, u :: us, .cons r t, f => fun u' hu => by
    rw [List.all_cons, Bool.and_eq_true] at f
    rcases List.mem_cons.mp hu with rfl | hu
    · rw [eqU_of r f.1]; exact eqAt_V r rx f.1 fx
    · exact mem_eqAt rx fx t f.2 u' hu
def inV (x : V) (xs : List V) : Bool := xs.any fun y => eqV y x
def rIn (K : PySem.W.Frag) (neg : Bool) : R2 := fun x y H Q => ∃ p xs, y = .ref p ∧ (SqL K H p xs ∨ SqT K H p xs) ∧ flatV x = true ∧ xs.all flatV = true ∧ Q (.bl (if neg then !inV x xs else inV x xs)) H
theorem op_notIn_seq : OpR X (compareOp .NotIn) (rIn X.K true) := by
  intro pins s σ H x y v u Q I rx ry h
  obtain ⟨p, xs, rfl, hq, fx, fs, q⟩ := h
  cases ry
  rcases hq with hq | hq
  · obtain ⟨its, r, pl, hz⟩ := I.list hq
    refine SeqAt.notIn_listAt (eqU x) pl.isList (fun w hw => mem_eqAt rx fx r fs w (by simpa using hw)) ⟨.bl _, H, I, rfl, ?_⟩
    rw [show its.toArray.any (eqU x) = its.any (eqU x) by simp, any_eqU r fs]
    exact q
  · obtain ⟨its, r, pl, hz⟩ := I.tuple hq
    refine SeqAt.notIn_tupleAt (eqU x) pl (fun w hw => mem_eqAt rx fx r fs w (by simpa using hw)) ⟨.bl _, H, I, rfl, ?_⟩
    rw [show its.toArray.any (eqU x) = its.any (eqU x) by simp, any_eqU r fs]
    exact q
theorem call_len_seq : CallR X (.builtin "len") (fun xs H Q => ∃ p ys, xs = [.ref p] ∧ (SqL X.K H p ys ∨ SqT X.K H p ys) ∧ Q (.int ys.length) H) := by
  intro pins s σ H xs us Q I r h
  obtain ⟨p, ys, rfl, hq, q⟩ := h
  obtain ⟨u, rfl, rx⟩ := vals1 r
  cases rx
  have hn := line63
  rcases hq with hq | hq
  · obtain ⟨its, r', pl, hz⟩ := I.list hq
    have hlen := r'.length
    exact Calls.call_len_list pl.isList (by simp only [List.size_toArray] <;> omega) ⟨.int ys.length, H, I.tok _, ⟨s.toks + 1, by rw [List.size_toArray, hlen]⟩, q⟩
  · obtain ⟨its, r', pl, hz⟩ := I.tuple hq
    have hlen := r'.length
    exact len_tuple pl (by simp only [List.size_toArray] <;> omega) ⟨.int ys.length, H, I.tok _, ⟨s.toks + 1, by rw [List.size_toArray, hlen]⟩, q⟩
theorem call_list_of : CallR X (.type "list") (fun xs H Q => ∃ p ys, xs = [.ref p] ∧ (SqL X.K H p ys ∨ SqT X.K H p ys) ∧ ∀ l, H l = none → Q (.ref l) (upd H l (.lst ys))) := by
  intro pins s σ H xs us Q I r h
  obtain ⟨p, ys, rfl, hq, q⟩ := h
  obtain ⟨u, rfl, rx⟩ := vals1 r
  cases rx
  have fin : ∀ (its : List Value), Vals ys its → ys.length ≤ sizeLine → ∀ (h' : Heap) (c' : Nat), (∀ b o', s.heap.get? b = some o' → h'.get? b = some o') →
      h'.get? s.heap.objs.size = some { cls := .type "list", dict := none, data := .seq its.toArray c', slots := #[] } → EP X pins σ Q (.ref s.heap.objs.size) { s with heap := h' } := fun its r' hz h' c' kp e =>
    ⟨.ref s.heap.objs.size, _, I.laid (t' := s.toks) kp (Nat.le_refl _) (show ObjOk X.prog X.w _ h' _ (.lst ys) from ⟨hz, its, c', r', e⟩), rfl, q _ (I.hok.fresh (Nat.le_refl _))⟩
  rcases hq with hq | hq
  · obtain ⟨its, r', pl, hz⟩ := I.list hq
    have hlen := r'.length
    obtain ⟨o, ho, hc, n, hd⟩ := pl.isList
    exact call_list_seq p (.inl rfl) ho hc hd (fun h' c' kp e => fin its r' hz h' c' kp e) (by simp only [List.size_toArray] <;> omega)
  · obtain ⟨its, r', pl, hz⟩ := I.tuple hq
    have hlen := r'.length
    obtain ⟨o, ho, hc, n, hd⟩ := pl
    exact call_list_seq p (.inr rfl) ho hc hd (fun h' c' kp e => fin its r' hz h' c' kp e) (by simp only [List.size_toArray] <;> omega)
theorem call_tuple_of : CallR X (.type "tuple") (fun xs H Q => ∃ p ys, xs = [.ref p] ∧ ((SqL X.K H p ys ∧ ∀ l, H l = none → Q (.ref l) (upd H l (.tup ys))) ∨ (SqT X.K H p ys ∧ Q (.ref p) H))) := by
  intro pins s σ H xs us Q I r h
  obtain ⟨p, ys, rfl, h⟩ := h
  obtain ⟨u, rfl, rx⟩ := vals1 r
  cases rx
  rcases h with ⟨hq, q⟩ | ⟨hq, q⟩
  · obtain ⟨its, r', pl, hz⟩ := I.list hq
    have hlen := r'.length
    refine call_tuple_list pl.isList (fun h' kp => ?_) (by simp only [List.size_toArray] <;> omega)
    have I1 : Inv X pins σ H { s with heap := h' } := I.kept (t' := s.toks) kp
    have I2 : Inv X pins σ (upd H h'.objs.size (.tup ys)) { s with heap := h'.push { cls := .type "tuple", data := .seq its.toArray } } :=
      I1.laid (t' := s.toks) (fun b o e => Heap.get?_push_of_some _ e) (Nat.le_refl _) (show ObjOk X.prog X.w _ _ _ (.tup ys) from ⟨hz, its, r', IsTup.new _ _⟩)
    exact ⟨.ref h'.objs.size, _, I2, rfl, q _ (I1.hok.fresh (Nat.le_refl _))⟩
  · obtain ⟨its, r', pl, hz⟩ := I.tuple hq
    exact call_tuple_same pl ⟨.ref p, H, I, rfl, q⟩
def tyV (K : PySem.W.Frag) (T : String) (x : V) (H : Hp) : Prop := match x with
  | .str _ => T = "str"
  | .int _ => T = "int"
  | .ref p => (T = "list" ∧ ∃ xs, SqL K H p xs) ∨ (T = "tuple" ∧ ∃ o, K.lookup p = some o ∧ o.cls = .type "tuple" ∧ o.dict = none) ∨
      (T = "dict" ∧ ((∃ kvs, H p = some (.dK kvs)) ∨ ∃ kvs, H p = some (.dT kvs))) ∨ (T = "set" ∧ ∃ S n, H p = some (.set S n))
  | _ => False
theorem tyV_is {pins : List (Addr × Obj)} {σ : St} {H : Hp} {s : Shared} {T : String} {x : V} {v : Value} (I : Inv X pins σ H s) (r : RelV x v) (ty : tyV X.K T x H) :
    s.TypeIs v T ∧ ∀ a, v = .ref a → ∃ ob, s.heap.get? a = some ob ∧ ob.dict = none := by
  cases x with
  | str z =>
    obtain ⟨t, rfl⟩ := r
    cases (show T = "str" from ty)
    exact ⟨typeIs_str s z t, fun _ e => nomatch e⟩
  | int i =>
    obtain ⟨t, rfl⟩ := r
    cases (show T = "int" from ty)
    exact ⟨typeIs_int s i t, fun _ e => nomatch e⟩
  | ref p =>
    cases r
    rcases ty with ⟨rfl, xs, hq⟩ | ⟨rfl, o, hk, hc, hd⟩ | ⟨rfl, hk⟩ | ⟨rfl, S, n, hk⟩
    · obtain ⟨its, _, pl, _⟩ := I.list hq
      refine ⟨pl.isList.typeIs, fun a e => ?_⟩
      cases e
      obtain ⟨o, n, e, c, hd, _⟩ := pl
      exact ⟨o, e, hd⟩
    · refine ⟨⟨o, I.kIn p o hk, hc⟩, fun a e => ?_⟩
      cases e
      exact ⟨o, I.kIn _ o hk, hd⟩
    · have z : ∃ o, s.heap.get? p = some o ∧ o.ExactDict := by
        rcases hk with ⟨kvs, hk⟩ | ⟨kvs, hk⟩
        · obtain ⟨_, _, _, _, o, _, _, e, ex, _⟩ := I.hok p _ hk
          exact ⟨o, e, ex⟩
        · obtain ⟨_, _, _, _, o, _, _, e, ex, _⟩ := I.hok p _ hk
          exact ⟨o, e, ex⟩
      obtain ⟨o, e, ex⟩ := z
      refine ⟨⟨o, e, ex.1⟩, fun a e2 => ?_⟩
      cases e2
      exact ⟨o, e, ex.2.1⟩
    · obtain ⟨o, _, _, _, e, ex, _⟩ := I.hok p _ hk
      refine ⟨⟨o, e, ex.1⟩, fun a e2 => ?_⟩
      cases e2
      exact ⟨o, e, ex.2.1⟩
  | _ => exact False.elim ty
def tBM0 (K : PySem.W.Frag) (T : String) (r : V → List V → Hp → VK → Prop) (to : TE) : TE := fun σ H Q => to σ H fun x H1 => tyV K T x H1 ∧ r x [] H1 Q
def tBM (K : PySem.W.Frag) (T : String) (r : V → List V → Hp → VK → Prop) (to : TE) (t : TA) : TE := fun σ H Q => to σ H fun x H1 => tyV K T x H1 ∧ t σ H1 fun xs H2 => r x xs H2 Q
variable {o e : Expr} {es : List Expr} {to : TE} {t : TA} {name : Str} {apos cpos : Pos} {T id : String} {r : V → List V → Hp → VK → Prop}
theorem pe_bm0 (pa : PlainAttrs T) (slot : Slot T name id) (hty : typeOf (.builtin id) = pure (.type "method_descriptor")) (hm : MtR X id r) (ho : PE X o to)
    (hbase : attributeBase o name X.env (eval o X.env) = eval o X.env := by rfl) (hline : (apos.endLine == cpos.line) = true := by rfl) : PE X (.Call (.Attribute o name apos) [] [] cpos) (tBM0 X.K T r to) := by
  intro pins s σ H Q I h
  refine wpAny_Call_method0_late hbase hline (thn (ho pins s σ H _ I h) fun v s1 ⟨x, H1, I1, r1, ty, q1⟩ => ?_)
  obtain ⟨h1, h2⟩ := tyV_is I1 r1 ty
  exact ⟨T, id, pa, slot, hty, h1, h2, Calls.callWith_builtin rfl (PySem.evalArgs_none (hm pins s1 σ H1 x [] v [] Q I1 r1 .nil q1))⟩
theorem pe_bm (pa : PlainAttrs T) (slot : Slot T name id) (hty : typeOf (.builtin id) = pure (.type "method_descriptor")) (hm : MtR X id r) (ho : PE X o to) (ha : PA X (e :: es) t)
    (hbase : attributeBase o name X.env (eval o X.env) = eval o X.env := by rfl)
    (hfew : ((backTo cpos (starEach (e :: es) X.env)).all (fun x => !x.1) && (backToKw cpos (keywordEach [] X.env)).all (fun x => x.1.isSome)
      && decide ((e :: es).length + ([] : List Keyword).length + (if ([] : List Keyword).isEmpty then 0 else 1) < 30)) = true := by rfl)
    (hline : (apos.endLine == cpos.line) = true := by rfl) (hs : starEach (e :: es) X.env = (false, eval e X.env) :: starEach es X.env := by rfl) (hplain : (backTo cpos (starEach es X.env)).any (·.1) = false := by rfl) :
    PE X (.Call (.Attribute o name apos) (e :: es) [] cpos) (tBM X.K T r to t) := by
  intro pins s σ H Q I h
  refine wpAny_Call_method_late hbase hfew hline rfl (thn (ho pins s σ H _ I h) fun v s1 ⟨x, H1, I1, r1, ty, q1⟩ => ?_)
  obtain ⟨h1, h2⟩ := tyV_is I1 r1 ty
  refine ⟨T, id, pa, slot, hty, h1, h2, ?_⟩
  have hA := ha cpos pins s1 σ H1 _ I1 q1
  rw [hs] at hA ⊢
  refine Calls.callWith_builtin (by show (false || (backTo cpos (starEach es X.env)).any (·.1)) = false; rw [hplain] <;> rfl) (Calls.evalArgs_plain ?_)
  exact thn hA fun us s2 ⟨vs, H2, I2, r2, q2⟩ => hm pins s2 σ H2 x vs v us Q I2 r1 r2 q2
end
end L2
namespace L2
open PySem PySem.Spec PyProof.Rows
def MtM (X : Cx) (id : String) (r : V → List V → Hp → VK → Prop) : Prop :=
  ∀ (pins : List (Addr × Obj)) (s : Shared) (σ : St) (H : Hp) (x : V) (xs : List V) (v : Value) (us : List Value) (Q : VK), Inv X pins σ H s → RelV x v → Vals xs us → r x xs H Q →
    wpAny (model X.prog X.w) X.A (call (.builtin id) (v :: us)) (EP X pins σ Q) X.xe s
theorem Vals.one : ∀ {x : V} {us : List Value}, Vals [x] us → ∃ u, us = [u] ∧ RelV x u
  | _, _, .cons r .nil => ⟨_, rfl, r⟩
theorem Vals.zero : ∀ {us : List Value}, Vals [] us → us = []
  | _, .nil => rfl
theorem Vals.dropLast {xs : List V} {us : List Value} (h : Vals xs us) : Vals xs.dropLast us.dropLast := by
  induction h with
  | nil => exact .nil
  | cons r t ih =>
    cases t with
    | nil => exact .nil
    | cons q t' => exact .cons r ih
theorem Vals.rep {xs : List V} {us : List Value} (h : Vals xs us) : ∀ k : Nat, Vals (List.replicate k xs).flatten (List.replicate k us).flatten
  | 0 => .nil
  | k + 1 => by
    rw [List.replicate_succ, List.replicate_succ, List.flatten_cons, List.flatten_cons]
    exact Vals.append h (Vals.rep h k)
theorem erase_last {α : Type} (l : List α) : l.eraseIdx (l.length - 1) = l.dropLast := by
  induction l with
  | nil => rfl
  | cons a r ih =>
    cases r with
    | nil => rfl
    | cons b r =>
      have e : (a :: b :: r).length - 1 = ((b :: r).length - 1) + 1 := by
        have h1 : (a :: b :: r).length = r.length + 2 := rfl
        have h2 : (b :: r).length = r.length + 1 := rfl
        omega
      rw [e, List.eraseIdx_cons_succ, ih]
      all_goals rfl
theorem foldl_rep (its : List Value) : ∀ (k : Nat) (acc : List Value),
    List.foldl (fun x1 x2 => x1 ++ x2) acc.toArray (List.replicate k its.toArray) = (acc ++ (List.replicate k its).flatten).toArray
  | 0, acc => by simp
  | k + 1, acc => by
    have e : acc.toArray ++ its.toArray = (acc ++ its).toArray := by simp
    have e2 : (acc ++ its) ++ (List.replicate k its).flatten = acc ++ (List.replicate (k + 1) its).flatten := by
      rw [List.replicate_succ, List.flatten_cons, List.append_assoc]
    rw [← e2, ← foldl_rep its k (acc ++ its), ← e, List.replicate_succ, List.foldl_cons]
section
variable {X : Cx} {pins : List (Addr × Obj)} {σ : St} {H : Hp} {s : Shared} {l b : Addr} {xs ys zs : List V}
theorem Inv.lset {its its' : List Value} {n : Nat} {f : Array Value → Array Value} {t' : Nat} (I : Inv X pins σ H s) (hH : H l = some (.lst xs))
    (e : s.heap.get? l = some { cls := .type "list", data := .seq its.toArray n }) (hf : f its.toArray = its'.toArray) (hv : Vals ys its') (hz : ys.length ≤ sizeLine) :
    Inv X pins σ (upd H l (.lst ys)) { s with heap := s.heap.update l (Obj.mapSeq f), toks := t' } := by
  have q := PySem.IsL.update e f
  rw [hf] at q
  refine I.write (x := l) (e := l) (by rw [hH]; exact trivial) (.inl rfl) (fun b' u hb hu => (Heap.get?_update_other s.heap (Obj.mapSeq f) (Ne.symm hb)).trans hu) ⟨_, q⟩ ?_
  exact ⟨hz, its', _, hv, q⟩
theorem Inv.lnew {its : List Value} {t' : Nat} (I : Inv X pins σ H s) (hv : Vals ys its) (hz : ys.length ≤ sizeLine) :
    Inv X pins σ (upd H s.heap.objs.size (.lst ys)) { s with heap := s.heap.push { cls := .type "list", data := .seq its.toArray }, toks := t' } :=
  I.laid (fun _ _ q => Heap.get?_push_of_some _ q) (Nat.le_refl _) ⟨hz, its, 0, hv, Heap.get?_push_size _ rfl⟩
theorem Inv.fresh (I : Inv X pins σ H s) : H s.heap.objs.size = none := I.hok.fresh (Nat.le_refl _)
theorem Inv.lstM (I : Inv X pins σ H s) (hH : H l = some (.lst xs)) : xs.length ≤ sizeLine ∧ ∃ (its : List Value) (n : Nat), Vals xs its ∧ xs.length = its.length ∧ s.heap.get? l = some { cls := .type "list", data := .seq its.toArray n } := by
  obtain ⟨z, its, n, r, e⟩ := I.hok l _ hH
  exact ⟨z, its, n, r, r.length, e⟩
theorem notLongL {n : Nat} (h : n ≤ sizeLine) : Builtin.List.listTooLong n = false := by
  unfold Builtin.List.listTooLong
  exact decide_eq_false (by omega)
end
section
variable {X : Cx}
def rAppend : V → List V → Hp → VK → Prop := fun x vs H Q => ∃ l xs y, x = .ref l ∧ vs = [y] ∧ H l = some (.lst xs) ∧ xs.length < sizeLine ∧ Q .non (upd H l (.lst (xs ++ [y])))
theorem mt_append : MtM X "list.append" rAppend := by
  intro pins s σ H x vs v us Q I rx rv h
  obtain ⟨l, xs, y, rfl, rfl, hH, hz, q⟩ := h
  cases rx
  obtain ⟨u, rfl, ru⟩ := rv.one
  obtain ⟨z, its, n, r, hl, e⟩ := I.lstM hH
  refine call_meets F.slot_list_append ⟨_, e, rfl⟩ F.entry_list_append (F.args_list_append_2 _ _) (PySem.list_append l its.toArray n u (by rw [List.size_toArray]; omega)) ⟨e, ?_⟩
  refine ⟨.non, _, I.lset (its' := its ++ [u]) hH e (by simp) (r.append (.cons ru .nil)) ?_, rfl, q⟩
  rw [List.length_append, List.length_singleton]
  omega
def rExtend : V → List V → Hp → VK → Prop := fun x vs H Q => ∃ l b xs zs, x = .ref l ∧ vs = [.ref b] ∧ H l = some (.lst xs) ∧ H b = some (.lst zs) ∧ xs.length + zs.length ≤ sizeLine ∧ Q .non (upd H l (.lst (xs ++ zs)))
theorem mt_extend : MtM X "list.extend" rExtend := by
  intro pins s σ H x vs v us Q I rx rv h
  obtain ⟨l, b, xs, zs, rfl, rfl, hH, hB, hz, q⟩ := h
  cases rx
  obtain ⟨u, rfl, ru⟩ := rv.one
  cases ru
  obtain ⟨z, its, n, r, hl, e⟩ := I.lstM hH
  obtain ⟨z2, its2, n2, r2, hl2, e2⟩ := I.lstM hB
  have hsz : its.toArray.size + its2.toArray.size ≤ sizeLine := by rw [List.size_toArray, List.size_toArray]; omega
  have hlong : ¬ (!its.toArray.isEmpty && Builtin.List.listTooLong (its.toArray.size + its2.toArray.size)) = true := by
    rw [notLongL hsz, Bool.and_false]
    exact Bool.false_ne_true
  refine call_meets F.slot_list_extend ⟨_, e, rfl⟩ F.entry_list_extend (F.args_list_extend_2 _ _)
    (AutoSeq1.list_extend_list_list_0 l its.toArray n b its2.toArray n2 hlong (by rw [List.size_toArray]; omega) (by omega)) ⟨e, e2, ?_⟩
  refine ⟨.non, _, I.lset (its' := its ++ its2) hH e (by simp) (r.append r2) ?_, rfl, q⟩
  rw [List.length_append]
  omega
def rPop : V → List V → Hp → VK → Prop := fun x vs H Q => ∃ l xs y, x = .ref l ∧ vs = [] ∧ H l = some (.lst xs) ∧ xs[xs.length - 1]? = some y ∧ Q y (upd H l (.lst xs.dropLast))
theorem mt_pop : MtM X "list.pop" rPop := by
  intro pins s σ H x vs v us Q I rx rv h
  obtain ⟨l, xs, y, rfl, rfl, hH, hy, q⟩ := h
  cases rx
  have hus := rv.zero
  subst hus
  obtain ⟨z, its, n, r, hl, e⟩ := I.lstM hH
  obtain ⟨u, hu, ru⟩ := r.get hy
  have hy' : its.toArray[its.toArray.size - 1]? = some u := by
    show its.toArray[its.length - 1]? = some u
    rw [← Array.getElem?_toList, ← hl]
    exact hu
  refine call_meets F.slot_list_pop ⟨_, e, rfl⟩ F.entry_list_pop (F.args_list_pop_1 _) (MeetsSeq.list_pop_last l its.toArray n u hy' (by rw [List.size_toArray]; omega)) ⟨e, ?_⟩
  refine ⟨y, _, I.lset (its' := its.dropLast) hH e ?_ r.dropLast ?_, ru, q⟩
  · show its.toArray.eraseIdxIfInBounds (its.toArray.size - 1) = its.dropLast.toArray
    rw [List.size_toArray, List.eraseIdxIfInBounds_toArray, erase_last]
  · rw [List.length_dropLast]
    omega
def rCat : R2 := fun x y H Q => ∃ l b xs zs, x = .ref l ∧ y = .ref b ∧ H l = some (.lst xs) ∧ H b = some (.lst zs) ∧ xs.length + zs.length ≤ sizeLine ∧ ∀ p, H p = none → Q (.ref p) (upd H p (.lst (xs ++ zs)))
theorem op_cat : OpR X (binaryOp .Add) rCat := by
  intro pins s σ H x y v u Q I rx ry h
  obtain ⟨l, b, xs, zs, rfl, rfl, hH, hB, hz, q⟩ := h
  cases rx
  cases ry
  obtain ⟨z, its, n, r, hl, e⟩ := I.lstM hH
  obtain ⟨z2, its2, n2, r2, hl2, e2⟩ := I.lstM hB
  refine PySem.P.add_list e e2 ?_ (by rw [List.size_toArray, List.size_toArray]; omega)
  have ea : its.toArray ++ its2.toArray = (its ++ its2).toArray := by simp
  rw [ea]
  exact ⟨.ref _, _, I.lnew (t' := s.toks) (r.append r2) (by rw [List.length_append]; omega), rfl, q _ I.fresh⟩
def rRep : R2 := fun x y H Q => ∃ l k xs, x = .ref l ∧ y = .int k ∧ H l = some (.lst xs) ∧ -(2 ^ 63) ≤ k ∧ k < 2 ^ 63 ∧ xs.length * k.toNat ≤ sizeLine ∧
  ∀ p, H p = none → Q (.ref p) (upd H p (.lst (List.replicate k.toNat xs).flatten))
theorem len_rep {α : Type} (xs : List α) (k : Nat) : (List.replicate k xs).flatten.length = k * xs.length := by
  induction k with
  | zero => simp
  | succ k ih => rw [List.replicate_succ, List.flatten_cons, List.length_append, ih, Nat.succ_mul, Nat.add_comm]
theorem op_rep : OpR X (binaryOp .Mult) rRep := by
  intro pins s σ H x y v u Q I rx ry h
  obtain ⟨l, k, xs, rfl, rfl, hH, h1, h2, hz, q⟩ := h
  cases rx
  obtain ⟨t, rfl⟩ := ry
  obtain ⟨z, its, n, r, hl, e⟩ := I.lstM hH
  have hlen : its.toArray.size * k.toNat ≤ sizeLine := by rw [List.size_toArray, ← hl]; exact hz
  have hcap : ¬ its.toArray.size * k.toNat > (2 ^ 63 - 1) / 8 := by
    have : (sizeLine : Nat) ≤ (2 ^ 63 - 1) / 8 := by decide
    omega
  have hfit : ¬ (!Builtin.List.listFitsIndex k) = true := by
    rw [fitsIndex_both h1 h2]
    exact Bool.false_ne_true
  have hlong : ¬ Builtin.List.listTooLong (its.toArray.size * k.toNat) = true := by
    rw [notLongL hlen]
    exact Bool.false_ne_true
  have hnew : List.foldl (fun x1 x2 => x1 ++ x2) #[] (List.replicate (if its.toArray.isEmpty = true then 0 else k.toNat) its.toArray) = (List.replicate k.toNat its).flatten.toArray := by
    have f0 : ∀ m : Nat, List.foldl (fun x1 x2 => x1 ++ x2) #[] (List.replicate m its.toArray) = (List.replicate m its).flatten.toArray := fun m => by
      have := foldl_rep its m []
      rw [List.nil_append] at this
      exact this
    rw [f0]
    cases its with
    | nil => simp
    | cons a r' => rw [if_neg (by simp)]
  refine wpAny_binaryOp_repeat_ref (T := "list") (U := "int") (by decide) ⟨_, e, rfl⟩ (fun s' => typeIs_int s' k t) noFill_list_mul F.fills_int_mul F.slot_int_rmul repeat_list F.slot_int_index.lookup
    (call_meets F.slot_int_rmul (typeIs_int s k t) F.entry_int_rmul (F.args_int_rmul_2 _ _) (int___rmul___int_list k t l its.toArray n)
      ⟨e, rfl, ⟨_, e, rfl⟩, call_meets F.slot_list_mul ⟨_, e, rfl⟩ F.entry_list_mul (F.args_list_mul_2 _ _) (AutoListH.list___mul___list_int_3 l its.toArray n k t hfit hcap hlong) ⟨e, ?_⟩⟩)
  rw [hnew]
  exact ⟨.ref _, _, I.lnew (t' := s.toks) (r.rep k.toNat) (by rw [len_rep, Nat.mul_comm]; exact hz), rfl, q _ I.fresh⟩
end
section
variable {prog : Program} {w : World} {A : Around} {E : Value → Shared → Prop} {s : Shared}
set_option maxRecDepth 100000 in
end
section
variable {X : Cx}
end
end L2
namespace L2
open PySem PySem.Spec PyProof.Rows
theorem Vals.ints : ∀ {ns : List Int} {us : List Value}, Vals (ns.map V.int) us → IntsAre us ns
  | [], us, h => by
    rw [List.map_nil] at h
    cases h
    exact IntsAre.nil
  | n :: ns, us, h => by
    rw [List.map_cons] at h
    cases h with
    | cons r t =>
      obtain ⟨k, rfl⟩ := r
      exact IntsAre.cons n k (Vals.ints t)
theorem Vals.bls : ∀ {bs : List Bool} {us : List Value}, Vals (bs.map V.bl) us → us = bs.map Value.bool
  | [], us, h => by
    rw [List.map_nil] at h
    cases h
    rfl
  | b :: bs, us, h => by
    rw [List.map_cons] at h
    cases h with
    | cons r t =>
      cases r
      rw [Vals.bls t, List.map_cons]
theorem Vals.ref1 {a : Addr} {us : List Value} (r : Vals [V.ref a] us) : us = [Value.ref a] := by
  cases r with
  | cons r t =>
    cases t
    cases r
    rfl
section
variable {prog : Program} {w : World} {A : Around} {E : Value → Shared → Prop} {s : Shared} {l : Addr} {its : List Value} {ns : List Int} {Q : Value → Shared → Prop}
theorem sum_raw (hh : A.handled = none) (hl : s.heap.IsList l its.toArray) (hi : IntsAre its ns)
    (h : ∀ h' tk t', (∀ b o, s.heap.get? b = some o → h'.get? b = some o) → Q (.int ns.sum t') { s with heap := h', toks := tk }) : wpAny (model prog w) A (call (.builtin "sum") [.ref l]) Q E s := by
  obtain ⟨xs, e⟩ := hi.allInts.items
  have hn : numsOf (intItems xs).toList = ns := by rw [← e]; exact hi.numsOf
  rw [nums_intItems] at hn
  rw [e] at hl
  refine PySem.sum_intListG hh hl fun h' tk t' hk => ?_
  have := h h' tk t' hk
  rw [preSum_eq, List.take_of_length_le (by simp), hn]; exact this
end
section
variable {X : Cx}
def rSum (K : PySem.W.Frag) : List V → Hp → VK → Prop := fun vs H Q => ∃ (a : Addr) (ns : List Int), vs = [V.ref a] ∧ SqL K H a (ns.map V.int) ∧ Q (.int ns.sum) H
theorem cr_sum (hc : X.calm = true) : CallR X (.builtin "sum") (rSum X.K) := by
  intro pins s σ H vs us Q I r h
  obtain ⟨a, ns, rfl, hs, q⟩ := h
  obtain ⟨its, rv, hl, _⟩ := I.list hs
  rw [Vals.ref1 r]
  exact sum_raw (I.ok.hd hc) hl.isList rv.ints fun h' tk t' hk => ⟨.int _, H, I.kept hk, ⟨_, rfl⟩, q⟩
end
section
variable {X : Cx}
end
section
variable {X : Cx}
end
theorem iter_any {prog : Program} {w : World} {A : Around} {E : Value → Shared → Prop} {s : Shared} {l : Addr} {items : Array Value} {Q : Value → Shared → Prop} (hl : s.heap.IsList l items)
    (h : ∀ s₂ : Shared, s₂ = { s with heap := s.heap.push { cls := .type "list_iterator", data := .fields #[.ref l, .int 0 0] } } →
      (s₂.heap.IsListIter s.heap.objs.size l 0 ∧ s₂.heap.IsList l items) → l ≠ s.heap.objs.size → Q (.ref s.heap.objs.size) s₂) : wpAny (model prog w) A (pyIter (.ref l)) Q E s := by
  have hlt : l < s.heap.objs.size := by obtain ⟨_, e, _⟩ := hl; exact Heap.lt_size e
  exact wpAny_pyIter_list hl (h _ rfl ⟨⟨_, Heap.get?_push_size _ rfl, rfl, rfl⟩, hl.push _⟩ (Nat.ne_of_lt hlt))
theorem truth_bools {prog : Program} {w : World} {A : Around} {bs : List Bool} {its : List Value} (e : its = bs.map Value.bool) :
    TruthOf prog w A (fun i v => its.toArray[i]? = some v) (fun i => bs.getD i false) := fun i v s Q E hv hq => by
  have hv' : its[i]? = some v := by simpa using hv
  rw [e, List.getElem?_map] at hv'
  obtain ⟨b, hb, rfl⟩ := Option.map_eq_some_iff.mp hv'
  have hg : bs.getD i false = b := by rw [List.getD_eq_getElem?_getD, hb] <;> rfl
  have hq' : Q (bs.getD i false) s := hq
  rw [hg] at hq'
  exact wpAny_truthy_bool hq'
theorem all_range : ∀ bs : List Bool, (List.range bs.length).all (fun i => bs.getD i false) = bs.all id
  | [] => rfl
  | b :: bs => by
    rw [List.length_cons, List.range_succ_eq_map, List.all_cons, List.all_map, List.all_cons, ← all_range bs]
    all_goals rfl
section
variable {X : Cx}
def rAll (K : PySem.W.Frag) : List V → Hp → VK → Prop := fun vs H Q => ∃ (a : Addr) (bs : List Bool), vs = [V.ref a] ∧ SqL K H a (bs.map V.bl) ∧ Q (.bl (bs.all id)) H
theorem cr_all (hc : X.calm = true) : CallR X (.builtin "all") (rAll X.K) := by
  intro pins s σ H vs us Q I r h
  obtain ⟨a, bs, rfl, hs, q⟩ := h
  obtain ⟨its, rv, hl, _⟩ := I.list hs
  rw [Vals.ref1 r]
  have hb := rv.bls
  refine call_all_walk (iter_any hl.isList fun s₂ e2 st hne => ?_)
  subst e2
  refine ⟨_, _, _, _, _, _, _, rfl, Walks.list (A := X.A.in1) (I.ok.hd hc) _ a hne its.toArray, st, truth_bools hb, fun h' tk hk => ?_⟩
  refine ⟨.bl _, H, I.kept fun b o eo => hk b o (fun hmem => ?_) (Heap.get?_push_of_some _ eo), ?_, q⟩
  · rcases List.mem_cons.mp hmem with e1 | hmem
    · exact absurd (e1 ▸ Heap.lt_size eo) (Nat.lt_irrefl _)
    · cases hmem
  · show Value.bool _ = Value.bool _
    rw [← all_range, hb, List.size_toArray, List.length_map]
end
mutual
inductive Dp (K : PySem.W.Frag) (H : Hp) : V → PyData → Prop
  | non : Dp K H .non .none
  | bl (b : Bool) : Dp K H (.bl b) (.bool b)
  | int (i : Int) : Dp K H (.int i) (.int i)
  | str (x : Str) : Dp K H (.str x) (.str x)
  | lst {a : Addr} {xs : List V} {ds : List PyData} : SqL K H a xs → DpAll K H xs ds → Dp K H (.ref a) (.list ds)
  | tup {a : Addr} {xs : List V} {ds : List PyData} : SqT K H a xs → DpAll K H xs ds → Dp K H (.ref a) (.tuple ds)
inductive DpAll (K : PySem.W.Frag) (H : Hp) : List V → List PyData → Prop
  | nil : DpAll K H [] []
  | cons {v : V} {vs : List V} {d : PyData} {ds : List PyData} : Dp K H v d → DpAll K H vs ds → DpAll K H (v :: vs) (d :: ds)
end
section
variable {X : Cx} {pins : List (Addr × Obj)} {σ : St} {H : Hp} {s : Shared}
mutual
theorem Dp.reads (I : Inv X pins σ H s) : ∀ (d : PyData) (v : V) (u : Value), Dp X.K H v d → RelV v u → ∃ as, Reads s.heap u d as
  | .none, _, _, h, r => by
    cases h
    cases r
    exact ⟨_, Reads.none⟩
  | .bool b, _, _, h, r => by
    cases h
    cases r
    exact ⟨_, Reads.bool b⟩
  | .int i, _, _, h, r => by
    cases h
    obtain ⟨t, rfl⟩ := r
    exact ⟨_, Reads.int i t⟩
  | .str x, _, _, h, r => by
    cases h
    obtain ⟨t, rfl⟩ := r
    exact ⟨_, Reads.str x t⟩
  | .list ds, _, _, h, r => by
    cases h with
    | lst hs ha =>
      cases r
      obtain ⟨its, rv, ⟨o, n, ho, hc, _, hd⟩, _⟩ := I.list hs
      obtain ⟨as, hr⟩ := Dp.readsAll I ds _ its ha rv
      exact ⟨_, Reads.list ho hc hd hr⟩
  | .tuple ds, _, _, h, r => by
    cases h with
    | tup hs ha =>
      cases r
      obtain ⟨its, rv, ⟨o, ho, hc, n, hd⟩, _⟩ := I.tuple hs
      obtain ⟨as, hr⟩ := Dp.readsAll I ds _ its ha rv
      exact ⟨_, Reads.tuple ho hc hd hr⟩
  | .dict _, _, _, h, _ => by cases h
theorem Dp.readsAll (I : Inv X pins σ H s) : ∀ (ds : List PyData) (vs : List V) (us : List Value), DpAll X.K H vs ds → Vals vs us → ∃ as, ReadsAll s.heap us ds as
  | [], _, _, h, r => by
    cases h
    cases r
    exact ⟨_, ReadsAll.nil⟩
  | d :: ds, _, _, h, r => by
    cases h with
    | cons h1 h2 =>
      cases r with
      | cons r1 r2 =>
        obtain ⟨as, q1⟩ := Dp.reads I d _ _ h1 r1
        obtain ⟨bs, q2⟩ := Dp.readsAll I ds _ _ h2 r2
        exact ⟨_, ReadsAll.cons q1 q2⟩
end
end
section
variable {X : Cx}
end
end L2
namespace L2
open PySem PySem.Spec PyProof.Rows
abbrev CellAt (h : Heap) (c : Addr) (v : Option Value) : Prop := h.IsCell c v
def relS (scope sc : Scope) : Scope :=
  { scope with names := scope.names.map fun (n, k) => if (k == .free && sc.kind == .function && sc.names.lookup n == some .cell) then (n, .cell) else (n, k) }
def cloFrom (cells : List (Str × Addr)) : List (Str × NameKind) → List (Str × Addr) → List (Str × Addr)
  | [], acc => acc
  | (n, k) :: r, acc => if k == .free then cloFrom cells r ((n, (cells.lookup n).getD 0) :: acc) else cloFrom cells r acc
theorem closure_loop (env : Env) (f : Str × NameKind → List (Str × Addr) → Sem (ForInStep (List (Str × Addr))))
    (hf : ∀ n k c, f (n, k) c = if k == .free then (do let a ← cellOf env n; pure (.yield ((n, a) :: c))) else pure (.yield c)) :
    ∀ (names : List (Str × NameKind)) (acc : List (Str × Addr)), (∀ y ∈ names, y.2 = .free → ∃ c, env.cells.lookup y.1 = some c) → forIn names acc f = pure (cloFrom env.cells names acc)
  | [], acc, _ => by rw [List.forIn_nil]; rfl
  | (n, k) :: r, acc, h => by
    rw [List.forIn_cons, hf]
    have ih := fun acc => closure_loop env f hf r acc fun y hy => h y (List.mem_cons_of_mem _ hy)
    unfold cloFrom
    by_cases hk : (k == NameKind.free) = true
    · rw [if_pos hk, if_pos hk]
      obtain ⟨c, hc⟩ := h (n, k) List.mem_cons_self (by simpa using hk)
      have e : cellOf env n = pure c := by unfold cellOf; rw [hc]
      rw [e]
      have e2 : (env.cells.lookup n).getD 0 = c := by rw [hc]; rfl
      rw [e2]
      exact ih _
    · rw [if_neg hk, if_neg hk]
      exact ih _
theorem closure_ok {scope : Scope} {env : Env} (h : ∀ y ∈ scope.names, y.2 = .free → ∃ c, env.cells.lookup y.1 = some c) : closureFor scope env = pure (cloFrom env.cells scope.names []) := by
  simp only [closureFor]
  rw [closure_loop env _ (fun n k c => rfl) scope.names [] h]
  rfl
theorem mem_lookup {α : Type} : ∀ {l : List (Str × α)} {n : Str} {c : α}, (n, c) ∈ l → ∃ c', l.lookup n = some c'
  | (k, v) :: r, n, c, h => by
    rw [List.lookup_cons]
    cases hb : n == k with
    | true => exact ⟨_, rfl⟩
    | false =>
      rcases List.mem_cons.mp h with e | h
      · cases e; simp at hb
      · exact mem_lookup h
theorem cloFrom_mem {cells : List (Str × Addr)} : ∀ {names : List (Str × NameKind)} {acc : List (Str × Addr)} {n : Str} {c : Addr}, (n, c) ∈ cloFrom cells names acc → (n, c) ∈ acc ∨ ((n, .free) ∈ names ∧ c = (cells.lookup n).getD 0)
  | [], _, _, _, h => .inl h
  | (m, k) :: r, acc, n, c, h => by
    unfold cloFrom at h
    split at h
    · rename_i hk
      have hk : k = .free := by simpa using hk
      rcases cloFrom_mem h with h | ⟨h1, h2⟩
      · rcases List.mem_cons.mp h with e | h
        · cases e; exact .inr ⟨hk ▸ List.mem_cons_self, rfl⟩
        · exact .inl h
      · exact .inr ⟨List.mem_cons_of_mem _ h1, h2⟩
    · rcases cloFrom_mem h with h | ⟨h1, h2⟩
      · exact .inl h
      · exact .inr ⟨List.mem_cons_of_mem _ h1, h2⟩
theorem cloFrom_acc {cells : List (Str × Addr)} : ∀ {names : List (Str × NameKind)} {acc : List (Str × Addr)} {p : Str × Addr}, p ∈ acc → p ∈ cloFrom cells names acc
  | [], _, _, h => h
  | (m, k) :: r, acc, p, h => by
    unfold cloFrom
    split
    · exact cloFrom_acc (List.mem_cons_of_mem _ h)
    · exact cloFrom_acc h
theorem cloFrom_has {cells : List (Str × Addr)} : ∀ {names : List (Str × NameKind)} {acc : List (Str × Addr)} {n : Str}, (n, .free) ∈ names → (n, (cells.lookup n).getD 0) ∈ cloFrom cells names acc
  | (m, k) :: r, acc, n, h => by
    unfold cloFrom
    rcases List.mem_cons.mp h with e | h
    · cases e
      exact cloFrom_acc List.mem_cons_self
    · split
      · exact cloFrom_has h
      · exact cloFrom_has h
theorem cells_mem : ∀ {names : List (Str × NameKind)} {h : Heap} {acc : List (Str × Addr)} {x : Str} {c : Addr}, (x, c) ∈ cellsFrom h.objs.size names acc →
    (x, c) ∈ acc ∨ ((x, .cell) ∈ names ∧ h.objs.size ≤ c ∧ CellAt (pushCells h names) c none)
  | [], _, _, _, _, h => .inl h
  | (n, k) :: r, h, acc, x, c, hm => by
    unfold cellsFrom at hm
    unfold pushCells
    split at hm
    · rename_i hk
      rw [if_pos hk]
      have hk : k = .cell := by simpa using hk
      rw [← Heap.size_push h { cls := .type "cell", data := .cell none }] at hm
      rcases cells_mem hm with hm | ⟨h1, h2, h3⟩
      · rcases List.mem_cons.mp hm with e | hm
        · cases e
          exact .inr ⟨hk ▸ List.mem_cons_self, Nat.le_refl _, _, pushCells_keeps r _ _ _ (Heap.get?_push_size _ rfl), rfl⟩
        · exact .inl hm
      · rw [Heap.size_push] at h2
        exact .inr ⟨List.mem_cons_of_mem _ h1, Nat.le_of_succ_le h2, h3⟩
    · rename_i hk
      rw [if_neg hk]
      rcases cells_mem hm with hm | ⟨h1, h2, h3⟩
      · exact .inl hm
      · exact .inr ⟨List.mem_cons_of_mem _ h1, h2, h3⟩
theorem cells_acc : ∀ {names : List (Str × NameKind)} {n : Nat} {acc : List (Str × Addr)} {p : Str × Addr}, p ∈ acc → p ∈ cellsFrom n names acc
  | [], _, _, _, h => h
  | (m, k) :: r, n, acc, p, h => by
    unfold cellsFrom
    split
    · exact cells_acc (List.mem_cons_of_mem _ h)
    · exact cells_acc h
theorem cells_has : ∀ {names : List (Str × NameKind)} {n : Nat} {acc : List (Str × Addr)} {x : Str}, (x, .cell) ∈ names → ∃ c, (x, c) ∈ cellsFrom n names acc
  | (m, k) :: r, n, acc, x, h => by
    unfold cellsFrom
    rcases List.mem_cons.mp h with e | h
    · cases e
      exact ⟨n, cells_acc List.mem_cons_self⟩
    · split
      · exact cells_has h
      · exact cells_has h
theorem cells_inj : ∀ {names : List (Str × NameKind)} {h : Heap} {acc : List (Str × Addr)} {x y : Str} {c : Addr}, (∀ p ∈ acc, p.2 < h.objs.size) → (∀ x y c, (x, c) ∈ acc → (y, c) ∈ acc → x = y) →
    (x, c) ∈ cellsFrom h.objs.size names acc → (y, c) ∈ cellsFrom h.objs.size names acc → x = y
  | [], _, _, _, _, _, _, hi, h1, h2 => hi _ _ _ h1 h2
  | (n, k) :: r, h, acc, x, y, c, hl, hi, h1, h2 => by
    unfold cellsFrom at h1 h2
    split at h1
    · rename_i hk
      rw [if_pos hk] at h2
      rw [← Heap.size_push h { cls := .type "cell", data := .cell none }] at h1 h2
      refine cells_inj (h := h.push _) (fun p hp => ?_) (fun x y c a b => ?_) h1 h2
      · rw [Heap.size_push]
        rcases List.mem_cons.mp hp with rfl | hp
        · exact Nat.lt_succ_self _
        · exact Nat.lt_succ_of_lt (hl p hp)
      · rcases List.mem_cons.mp a with e | a <;> rcases List.mem_cons.mp b with e' | b
        · cases e; cases e'; rfl
        · cases e; exact absurd (hl _ b) (Nat.lt_irrefl _)
        · cases e'; exact absurd (hl _ a) (Nat.lt_irrefl _)
        · exact hi _ _ _ a b
    · rename_i hk
      rw [if_neg hk] at h2
      exact cells_inj hl hi h1 h2
theorem newEnv_comp {M : Model} {A : Around} {E : Value → Shared → Prop} {s : Shared} {scope : Scope} {globals : Addr} {closure : List (Str × Addr)} {qual : Str} {func : Option Addr} {code : Value} {around : Env} {builtins : Addr} {Q : Env → Shared → Prop}
    (h : Q (newEnv scope s.heap.objs.size globals (cellsFrom (s.heap.objs.size + 1) scope.names closure) qual func code (some around) builtins)
      { s with heap := pushCells (s.heap.push { cls := .type "dict", data := .dict #[] }) scope.names }) :
    wpAny M A (newFunctionEnv scope globals closure [] qual func code (some around) builtins) Q E s := by
  simp only [newFunctionEnv, Option.isSome_some, if_true]
  refine wpAny_bind (wpAny_alloc ?_)
  refine wpAny_bind (wpAny_layCells _ (fun n k c => rfl) scope.names closure _ _ ?_)
  rw [show ({ s with heap := s.heap.push { cls := .type "dict", data := .dict #[] } } : Shared).heap.objs.size = s.heap.objs.size + 1 from Heap.size_push ..]
  rw [List.forIn_nil]
  exact wpAny_bind (wpAny_pure (wpAny_pure h))
theorem lookup_relS {sc : Scope} : ∀ {names : List (Str × NameKind)} {x : Str} {k : NameKind},
    (names.map fun (n, k) => if (k == NameKind.free && sc.kind == .function && sc.names.lookup n == some .cell) then (n, NameKind.cell) else (n, k)).lookup x = some k →
    ∃ k', names.lookup x = some k' ∧ (k = k' ∨ (k' = .free ∧ k = .cell))
  | [], _, _, h => by simp at h
  | (n, k₀) :: r, x, k, h => by
    have ih := @lookup_relS sc r x k
    have h' : List.lookup x ((if (k₀ == NameKind.free && sc.kind == .function && sc.names.lookup n == some .cell) = true then (n, NameKind.cell) else (n, k₀)) :: (r.map _)) = some k := h
    cases hx : x == n with
    | true =>
      simp only [List.lookup_cons, hx]
      by_cases hc : (k₀ == NameKind.free && sc.kind == .function && sc.names.lookup n == some .cell) = true
      · rw [if_pos hc] at h'
        simp only [List.lookup_cons, hx] at h'
        cases h'
        simp only [Bool.and_eq_true, beq_iff_eq] at hc
        exact ⟨k₀, rfl, .inr ⟨hc.1.1, rfl⟩⟩
      · rw [if_neg hc] at h'
        simp only [List.lookup_cons, hx] at h'
        cases h'
        exact ⟨_, rfl, .inl rfl⟩
    | false =>
      simp only [List.lookup_cons, hx]
      by_cases hc : (k₀ == NameKind.free && sc.kind == .function && sc.names.lookup n == some .cell) = true
      · rw [if_pos hc] at h'
        simp only [List.lookup_cons, hx] at h'
        exact ih h'
      · rw [if_neg hc] at h'
        simp only [List.lookup_cons, hx] at h'
        exact ih h'
structure BlkOk (N : List Str) (sc scope : Scope) (own : List (Str × Nat)) : Prop where
  kind : scope.kind = .function
  uniq : ∀ y ∈ scope.names, scope.names.lookup y.1 = some y.2
  ix : ∀ p ∈ own, N[p.2]? = some p.1
  free : ∀ y ∈ scope.names, y.2 = .free → sc.names.lookup y.1 = some .cell ∨ sc.names.lookup y.1 = some .free
  own : ∀ y ∈ scope.names, y.2 = .local ∨ y.2 = .cell → y.1 ∈ own.map (·.1) ∨ y.1 ∉ N
def wipe (σ : St) : List Nat → St
  | [] => σ
  | v :: vs => (wipe σ vs).set v none
theorem wipe_length (σ : St) : ∀ vs : List Nat, (wipe σ vs).length = σ.length
  | [] => rfl
  | v :: vs => by unfold wipe; rw [List.length_set, wipe_length σ vs]
theorem wipe_some {σ : St} {i : Nat} {x : V} : ∀ {vs : List Nat}, (wipe σ vs)[i]? = some (some x) → σ[i]? = some (some x) ∧ i ∉ vs
  | [], h => ⟨h, by simp⟩
  | v :: vs, h => by
    unfold wipe at h
    by_cases hi : v = i
    · subst hi
      by_cases hv : v < (wipe σ vs).length
      · rw [List.getElem?_set_self hv] at h; cases h
      · rw [List.getElem?_eq_none (by simpa using hv)] at h; cases h
    · rw [List.getElem?_set_ne hi] at h
      obtain ⟨h1, h2⟩ := wipe_some h
      exact ⟨h1, by simp only [List.mem_cons, not_or]; exact ⟨fun e => hi e.symm, h2⟩⟩
abbrev Cx.blk (X : Cx) (s : Shared) (H : Hp) (scope : Scope) (cenv : Env) (fp : List Addr) : Cx := { X with s_0 := s, H_0 := H, env := cenv, outer := X.stack, ex := fp, fn := fun x => scope.names.lookup x == some .cell, pn := [], xe := fun _ _ => False }
section
variable {X : Cx} {pins : List (Addr × Obj)} {σ : St} {H : Hp} {s : Shared}
theorem block_start {scope : Scope} {own : List (Str × Nat)} {fp : List Addr} (I : Inv X pins σ H s) (ok : BlkOk X.N X.env.scope scope own) (hN : X.N.Nodup) (hfp : ∀ b ∈ fp, FpOk X pins H b ∧ b < s.heap.objs.size) :
    Inv (X.blk s H scope (compEnvC scope (cellsFrom (s.heap.objs.size + 1) scope.names (cloFrom X.env.cells scope.names [])) s.heap.objs.size X.env) fp) [] (wipe σ (own.map (·.2))) H { s with heap := pushCells (s.heap.push { cls := .type "dict", data := .dict #[] }) scope.names } := by
  have hfree : ∀ y ∈ scope.names, y.2 = .free → ∃ c, X.env.cells.lookup y.1 = some c := fun y hy e => by
    rcases ok.free y hy e with k | k
    · exact I.ok.has _ (.inl k)
    · exact I.ok.has _ (.inr k)
  generalize hcenv : compEnvC scope (cellsFrom (s.heap.objs.size + 1) scope.names (cloFrom X.env.cells scope.names [])) s.heap.objs.size X.env = cenv
  have kp : ∀ b o, s.heap.get? b = some o → (pushCells (s.heap.push { cls := .type "dict", data := .dict #[] }) scope.names).get? b = some o := fun b o e => pushCells_keeps _ _ _ _ (Heap.get?_push_of_some _ e)
  have hL : cenv.locals = s.heap.objs.size := by rw [← hcenv]; rfl
  have hcl : cenv.cells = cellsFrom (s.heap.objs.size + 1) scope.names (cloFrom X.env.cells scope.names []) := by rw [← hcenv]; rfl
  have hsc : cenv.scope = relS scope X.env.scope := by rw [← hcenv]; rfl
  rw [← Heap.size_push s.heap { cls := .type "dict", data := .dict #[] }] at hcl
  have cm : ∀ {y c}, (y, c) ∈ cloFrom X.env.cells scope.names [] → X.env.cells.lookup y = some c ∧ c < s.heap.objs.size := fun {y c} hm => by
    rcases cloFrom_mem hm with hm | ⟨h1, rfl⟩
    · cases hm
    · obtain ⟨c, hc⟩ := hfree _ h1 rfl
      rw [hc]
      obtain ⟨w, z⟩ := I.cell _ _ hc
      exact ⟨rfl, z.lt⟩
  have mem : ∀ {y c}, cenv.cells.lookup y = some c → (X.env.cells.lookup y = some c ∧ c < s.heap.objs.size) ∨ (s.heap.objs.size + 1 ≤ c ∧ CellAt (pushCells (s.heap.push { cls := .type "dict", data := .dict #[] }) scope.names) c none) := fun {y c} e => by
    rw [hcl] at e
    rcases cells_mem (PySem.mem_of_lookup e) with hm | ⟨_, h2, h3⟩
    · exact .inl (cm hm)
    · rw [Heap.size_push] at h2; exact .inr ⟨h2, h3⟩
  have look : ∀ {y}, scope.names.lookup y = some .free → ∃ c, cenv.cells.lookup y = some c ∧ X.env.cells.lookup y = some c := fun {y} hl => by
    have hy : (y, NameKind.free) ∈ scope.names := PySem.mem_of_lookup hl
    obtain ⟨c', e'⟩ := mem_lookup (cells_acc (names := scope.names) (n := (s.heap.push { cls := .type "dict", data := .dict #[] }).objs.size) (cloFrom_has (cells := X.env.cells) (acc := []) hy))
    rw [← hcl] at e'
    refine ⟨c', e', ?_⟩
    rw [hcl] at e'
    rcases cells_mem (PySem.mem_of_lookup e') with hm | ⟨h1, _, _⟩
    · exact (cm hm).1
    · have := ok.uniq _ h1
      rw [hl] at this; cases this
  have okB : (X.blk s H scope cenv fp).Ok := by
    refine ⟨I.ok.mod, by show cenv.scope.kind = _; rw [hsc]; exact ok.kind, by show cenv.globals = _; rw [← hcenv]; exact I.ok.glob, by show cenv.builtins = _; rw [← hcenv]; exact I.ok.blt, by show s.heap.objs.size ≤ cenv.locals; rw [hL]; exact Nat.le_refl _,
      fun y z c e1 e2 => ?_, fun y hy => ?_, fun y c z e => ?_, I.ok.hd, I.ok.frames, .inl rfl, fun b hb => ⟨?_, fun y c e z => ?_⟩, I.bs, Nat.le_trans I.ok.bsz I.sz, fun b o e hb => ?_, fun b hb z => ?_, I.stack, I.stkFree⟩
    · have e1 : cenv.cells.lookup y = some c := e1
      have e2 : cenv.cells.lookup z = some c := e2
      rw [hcl] at e1 e2
      refine cells_inj (fun p hp => ?_) (fun y z c a b => I.ok.inj y z c (cm a).1 (cm b).1) (PySem.mem_of_lookup e1) (PySem.mem_of_lookup e2)
      rw [Heap.size_push]
      exact Nat.lt_succ_of_lt (cm (y := p.1) (c := p.2) hp).2
    · show ∃ c, cenv.cells.lookup y = some c
      have key : ∀ k, cenv.kindOf y = some k → (k = .cell ∨ k = .free) → ∃ c, cenv.cells.lookup y = some c := fun k hk hk' => by
        unfold Env.kindOf at hk
        rw [hsc] at hk
        obtain ⟨k', e, r⟩ := lookup_relS hk
        have : k' = .cell ∨ k' = .free := by
          rcases r with rfl | ⟨rfl, _⟩
          · exact hk'
          · exact .inr rfl
        rcases this with rfl | rfl
        · obtain ⟨c, hm⟩ := cells_has (n := (s.heap.push { cls := .type "dict", data := .dict #[] }).objs.size) (acc := cloFrom X.env.cells scope.names []) (PySem.mem_of_lookup e)
          obtain ⟨c', e'⟩ := mem_lookup hm
          exact ⟨c', by rw [hcl]; exact e'⟩
        · obtain ⟨c, h1, _⟩ := look e
          exact ⟨c, h1⟩
      rcases hy with hy | hy
      · exact key _ hy (.inl rfl)
      · exact key _ hy (.inr rfl)
    · have z : (scope.names.lookup y == some NameKind.cell) = true := z
      have z : scope.names.lookup y = some .cell := by simpa using z
      have e : cenv.cells.lookup y = some c := e
      rw [hcl] at e
      rcases cells_mem (PySem.mem_of_lookup e) with hm | ⟨_, h2, _⟩
      · rcases cloFrom_mem hm with hm | ⟨h1, _⟩
        · cases hm
        · have q := ok.uniq _ h1
          rw [z] at q; cases q
      · rw [Heap.size_push] at h2
        exact Nat.le_of_succ_le h2
    · show b ≠ cenv.locals
      rw [hL]; exact Nat.ne_of_lt (hfp b hb).2
    · have e : cenv.cells.lookup y = some c := e
      rcases mem e with ⟨h1, _⟩ | ⟨h1, _⟩
      · exact (hfp b hb).1.2.2.2.2.1 y c h1 z
      · have h2 : s.heap.objs.size + 1 ≤ b := by rw [← z]; exact h1
        exact absurd (Nat.lt_of_lt_of_le (hfp b hb).2 (Nat.le_of_succ_le h2)) (Nat.lt_irrefl _)
    · rcases (hfp b hb).1.2.2.2.1 with z | z
      · exact I.ok.noex b o e z
      · exact absurd (Nat.lt_of_lt_of_le (Heap.lt_size e) (Nat.le_trans I.ok.bsz z)) (Nat.lt_irrefl _)
    · rcases List.mem_cons.mp (I.stkSub b z) with z | z
      · exact (hfp b hb).1.2.1 z
      · exact (hfp b hb).1.2.2.1 z
  refine ⟨okB, rfl, I.bare, Un.kept kp, ⟨fun _ => none, ?_, fun i y av e1 e2 e3 => ?_⟩, fun y c e => ?_, ?_, fun y c e => ?_, fun p hp => ?_, I.hok.kept kp, by rw [wipe_length]; exact I.len⟩
  · show Heap.Ns _ cenv.locals _
    rw [hL]
    exact Heap.Ns.keeps (Heap.Ns.new ..) fun b o e => pushCells_keeps _ _ _ _ e
  · obtain ⟨e2, hne⟩ := wipe_some e2
    have hfr : scope.names.lookup y = some .free ∧ (cenv.kindOf y = some .cell ∨ cenv.kindOf y = some .free) := by
      have key : ∀ k, cenv.scope.names.lookup y = some k → k = .local ∨ k = .cell ∨ k = .free → scope.names.lookup y = some .free ∧ (cenv.kindOf y = some .cell ∨ cenv.kindOf y = some .free) := fun k hk hk' => by
        have hk0 := hk
        rw [hsc] at hk
        obtain ⟨k', e, r⟩ := lookup_relS hk
        have no : ¬ (k' = .local ∨ k' = .cell) := fun hh => by
          rcases ok.own _ (PySem.mem_of_lookup e) hh with e' | e'
          · obtain ⟨p, hp, hpy⟩ := List.mem_map.mp e'
            have e3 := ok.ix p hp
            have : p.1 = y := hpy
            rw [this] at e3
            exact hne (List.mem_map.mpr ⟨p, hp, nodup_ix hN e3 e1⟩)
          · exact e' (List.mem_of_getElem? e1)
        rcases r with rfl | ⟨rfl, rfl⟩
        · rcases hk' with rfl | rfl | rfl
          · exact absurd (.inl rfl) no
          · exact absurd (.inr rfl) no
          · exact ⟨e, .inr hk0⟩
        · exact ⟨e, .inl hk0⟩
      have e3 : Vis cenv.scope y := e3
      rcases e3 with e3 | e3 | e3
      · exact key _ e3 (.inl rfl)
      · exact key _ e3 (.inr (.inl rfl))
      · exact key _ e3 (.inr (.inr rfl))
    obtain ⟨m, hn, hl⟩ := I.loc
    have hvis : Vis X.env.scope y := (ok.free _ (PySem.mem_of_lookup hfr.1) rfl).elim (fun k => .inr (.inl k)) (fun k => .inr (.inr k))
    obtain ⟨w, r, q⟩ := hl i y av e1 e2 hvis
    refine ⟨w, r, .inr ⟨hfr.2, ?_⟩⟩
    obtain ⟨c, h1, h2⟩ := look hfr.1
    rcases q with ⟨k, _⟩ | ⟨_, c', e', z⟩
    · have k : X.env.scope.names.lookup y = some .local := k
      rcases ok.free _ (PySem.mem_of_lookup hfr.1) rfl with k' | k' <;> rw [show X.env.scope.names.lookup y = _ from k'] at k <;> cases k
    · rw [h2] at e'; cases e'
      exact ⟨c, h1, z.keeps kp⟩
  · have e : cenv.cells.lookup y = some c := e
    rcases mem e with ⟨h1, _⟩ | ⟨_, z⟩
    · obtain ⟨w, z⟩ := I.cell y c h1
      exact ⟨w, z.keeps kp⟩
    · exact ⟨_, z⟩
  · show H cenv.locals = none
    rw [hL]; exact I.hok.fresh (Nat.le_refl _)
  · have e : cenv.cells.lookup y = some c := e
    rcases mem e with ⟨h1, _⟩ | ⟨h1, _⟩
    · exact I.freeC y c h1
    · exact I.hok.fresh (Nat.le_of_succ_le h1)
  · exact absurd (show p ∈ ([] : List (Addr × Obj)) ++ [] from hp) (by simp)
theorem app_ok {E : Value → Shared → Prop} {D : Addr} {xs : List V} {y : V} {v : Value} {Q : Value → Shared → Prop} (I : Inv X pins σ H s) (hD : H D = some (.lst xs)) (hz : xs.length < sizeLine) (r : RelV y v)
    (h : ∀ s', Inv X pins σ (upd H D (.lst (xs ++ [y]))) s' → Q .none s') : wpAny (model X.prog X.w) X.A (call (.builtin "list.append") [.ref D, v]) Q E s := by
  obtain ⟨hz', its, n, ri, e⟩ := I.hok D _ hD
  have hl := ri.length
  refine append_at (hsz := by rw [List.size_toArray]; omega) e fun h' sb ho' => ?_
  refine h { s with heap := h' } (I.write (t' := s.toks) (by rw [hD]; trivial) (.inl rfl) (fun b u hb q => (sb.2 b hb).trans q) ⟨_, ho'⟩ ⟨by rw [List.length_append]; exact hz, its ++ [v], n + 1, ri.append (.cons r .nil), ?_⟩)
  rw [ho']
  simp
def PTs (X : Cx) (ifs : List Expr) (t : TT) : Prop :=
  ∀ (pins : List (Addr × Obj)) (s : Shared) (σ : St) (H : Hp) (Q : Bool → Hp → Prop), Inv X pins σ H s → t σ H Q →
    wpAny (model X.prog X.w) X.A (forIn ifs true fun c r => if r = true then do let ok ← isTrue c X.env (eval c X.env); pure (ForInStep.yield ok) else pure (ForInStep.yield r)) (TP X pins σ Q) X.xe s
def tYes : TT := fun _ H Q => Q true H
theorem pts_nil : PTs X [] tYes := fun _ _ _ H _ I h => wpAny_tests_nil ⟨H, I, h⟩
theorem pts_one {c : Expr} {t : TT} (h : PT X c t) : PTs X [c] t := fun pins s σ H Q I hw => wpAny_tests_one (h pins s σ H Q I hw)
end
theorem thnF {α : Type} {t : Sem α} {Q Q' : α → Shared → Prop} {M : Model} {A : Around} {E : Value → Shared → Prop} {s : Shared} (h : wpAny M A t Q (fun _ _ => False) s) (hQ : ∀ a s, Q a s → Q' a s) : wpAny M A t Q' E s := wpAny_mono h hQ fun _ _ z => False.elim z
theorem compLoop_any {prog : Program} {w : World} {A : Around} {R : Result → Shared → Prop} {s : Shared} {elt target iter : Expr} {ifs : List Expr} {scope : Scope} {pos : Pos} {it acc : Value} {env : Env} (I : Nat → Shared → Prop)
    (turn : ∀ n s, I n s → wpAny (model prog w) A (pyNext it) (fun r s₁ => match r with
      | none => R (.ok .next) s₁
      | some v => wpAny (model prog w) A (letOwnedTupleGo target it v) (fun _ s₁' => wpAny (model prog w) A (assign target env v) (fun _ s₂ =>
          wpAny (model prog w) A (forIn ifs true fun c r => if r = true then do let ok ← isTrue c env (eval c env); pure (ForInStep.yield ok) else pure (ForInStep.yield r)) (fun ok s₃ =>
            if ok = true then wpAny (model prog w) A (eval elt env) (fun x s₄ =>
              wpAny (model prog w) A (call (.builtin "list.append") [acc, x]) (fun _ s₅ => ∃ m, m < n ∧ I m s₅) (notedBy (model prog w) A env fun e s' => R (.error e) s') s₄) (notedBy (model prog w) A env fun e s' => R (.error e) s') s₃
            else ∃ m, m < n ∧ I m s₃) (notedBy (model prog w) A env fun e s' => R (.error e) s') s₂) (notedBy (model prog w) A env fun e s' => R (.error e) s') s₁') (notedBy (model prog w) A env fun e s' => R (.error e) s') s₁) (notedBy (model prog w) A env fun e s' => R (.error e) s') s)
    (n : Nat) (h : I n s) :
    codeAny (model prog w) A (.compLoop (.ListComp elt [⟨target, iter, ifs, 0⟩] scope pos) 0 it acc env) R s := by
  refine codeAny_loop rfl I (fun n s hI => ?_) n h
  show wpAny _ A ((compTurn (.ListComp elt [⟨target, iter, ifs, 0⟩] scope pos) 0 it acc env).onRaise (fun x => do noteFrame x env; theTreesLotGoes x)) _ _ s
  refine wpAny_noted ?_
  rw [compTurn_list]
  refine wpAny_bind (wpAny_standAt (wpAny_bind (wpAny_mono (turn n s hI) (fun r s₁ h₁ => ?_) fun _ _ h' => h')))
  cases r with
  | none => exact wpAny_pure h₁
  | some v =>
    refine wpAny_bind (wpAny_mono h₁ (fun _ s₁' h₁' => ?_) fun _ _ h' => h')
    refine wpAny_bind (wpAny_mono h₁' (fun _ s₂ h₂ => wpAny_bind (wpAny_mono h₂ (fun ok s₃ h₃ => ?_) fun _ _ h' => h')) fun _ _ h' => h')
    cases ok with
    | false => exact wpAny_pure ⟨rfl, h₃⟩
    | true =>
      exact wpAny_bind (wpAny_bind (wpAny_mono h₃ (fun x s₄ h₄ => wpAny_bind (wpAny_mono h₄ (fun _ s₅ h₅ => wpAny_pure (wpAny_pure ⟨rfl, h₅⟩)) fun _ _ h' => h')) fun _ _ h' => h'))
section
variable {X : Cx}
def tLc (wi : TI) (g : TG) (tt : TT) (te : TE) (vs : List Nat) : TE := fun σ H Q => wi σ H fun J H1 => ∀ D, H1 D = none → ∃ W : Nat → Nat → Hp → Prop, (∃ m, W 0 m (upd H1 D (.lst []))) ∧ ∀ i m H, W i m H →
  (J.stop i H ∧ Q (.ref D) H) ∨ (J.go i H ∧ ∃ Nx : Hp → Prop, (∀ H', Nx H' → ∃ m', m' < m ∧ W (i + 1) m' H') ∧ ∀ x H', J.yld i H x H' → g x (wipe σ vs) H' fun σ2 H2 => wipe σ2 vs = wipe σ vs ∧ tt σ2 H2 fun b H3 =>
    if b = true then te σ2 H3 fun y H4 => ∃ acc, H4 D = some (.lst acc) ∧ acc.length < sizeLine ∧ Nx (upd H4 D (.lst (acc ++ [y]))) else Nx H3)
theorem lc_core {pins : List (Addr × Obj)} {s : Shared} {σ : St} {H : Hp} {Q : VK} {elt tg iter : Expr} {ifs : List Expr} {scope : Scope} {own : List (Str × Nat)} {pos pos' : Pos} {wi : TI} {g : TG} {tt : TT} {te : TE} {use : Option (Value → Sem Unit)} {Qf : Value → Shared → Prop}
    (hc : X.calm = true) (hN : X.N.Nodup) (I : Inv X pins σ H s) (hi : PI X tg iter wi) (ok : BlkOk X.N X.env.scope scope own)
    (hg : ∀ (s : Shared) (H : Hp) (C : Addr) (cl : List (Str × Addr)) (fp : List Addr), PG (X.blk s H scope (compEnvC scope cl C X.env) fp) tg g) (ht : ∀ (s : Shared) (H : Hp) (C : Addr) (cl : List (Str × Addr)) (fp : List Addr), PTs (X.blk s H scope (compEnvC scope cl C X.env) fp) ifs tt)
    (he : ∀ (s : Shared) (H : Hp) (C : Addr) (cl : List (Str × Addr)) (fp : List Addr), PE (X.blk s H scope (compEnvC scope cl C X.env) fp) elt te) (hs : ∀ x, foldedSetIterable iter X.env x = pure x)
    (h : tLc wi g tt te (own.map (·.2)) σ H Q)
    (hRR : ∀ D C s' m H', Inv X pins σ H' s' → Q (.ref D) H' → s'.heap.Ns C m → FpOk X pins H' C → compPost (model X.prog X.w) X.A X.xe use Qf (.ref D) C (.ok .next) s') :
    wpAny (model X.prog X.w) X.A (comprehension (.ListComp elt [⟨tg, iter, ifs, 0⟩] scope pos) scope X.env pos' (newList []) false (eval iter X.env) use) Qf X.xe s := by
  have hfree : ∀ y ∈ scope.names, y.2 = .free → ∃ c, X.env.cells.lookup y.1 = some c := fun y hy e => by
    rcases ok.free y hy e with k | k
    · exact I.ok.has _ (.inl k)
    · exact I.ok.has _ (.inr k)
  refine wpAny_comprehension_free (use := use) rfl hs (closure_ok hfree) ok.kind (fun y hy e => by rw [ok.uniq y hy, e])
    (thn (hi pins s σ H _ I h) fun xv s1 hx => thn hx fun itv s2 h2 => ?_)
  obtain ⟨it, fp, tn, J, H2, e, I2, T, st2, f2, q⟩ := h2
  subst e
  refine wpAny_newObj_type (newEnv_comp ?_) (by show 0 ≤ sizeLine; decide)
  generalize hD : s2.heap.objs.size = D
  have hDn : H2 D = none := I2.hok.fresh (Nat.le_of_eq hD)
  obtain ⟨W, ⟨m0, w0⟩, turn⟩ := q D hDn
  -- the new list
  generalize hs3 : ({ s2 with heap := s2.heap.push { cls := .type "list", data := .seq ([] : List Value).toArray } } : Shared) = s3
  have I3 : Inv X pins σ (upd H2 D (.lst [])) s3 := by
    rw [← hs3]
    refine I2.laid (t' := s2.toks) (fun b o e => Heap.get?_push_of_some _ e) (Nat.le_of_eq hD) ⟨Nat.zero_le _, [], 0, .nil, ?_⟩
    rw [← hD]
    exact Heap.get?_push_size _ rfl
  have h3 : s3.heap = s2.heap.push { cls := .type "list", data := .seq ([] : List Value).toArray } := by rw [← hs3]
  have sz : ∀ b ∈ fp, b < s2.heap.objs.size := fun b hb => by
    obtain ⟨o, e, _⟩ := T.obj _ _ st2 b hb
    exact Heap.lt_size e
  have f3 : ∀ b ∈ fp, FpOk X pins (upd H2 D (.lst [])) b ∧ b < s3.heap.objs.size := fun b hb => by
    have hlt := sz b hb
    refine ⟨⟨?_, (f2 b hb).2⟩, by rw [h3, Heap.size_push]; exact Nat.lt_succ_of_lt hlt⟩
    rw [upd_ne (by rw [← hD]; exact Nat.ne_of_lt hlt)]
    exact (f2 b hb).1
  have st3 : tn 0 s3.heap := T.keep _ _ _ st2 fun b _ o e => by rw [h3]; exact Heap.get?_push_of_some _ e
  have I4 := block_start I3 ok hN f3
  have pg := hg s3 (upd H2 D (.lst [])) s3.heap.objs.size (cellsFrom (s3.heap.objs.size + 1) scope.names (cloFrom X.env.cells scope.names [])) fp
  have pt := ht s3 (upd H2 D (.lst [])) s3.heap.objs.size (cellsFrom (s3.heap.objs.size + 1) scope.names (cloFrom X.env.cells scope.names [])) fp
  have pe := he s3 (upd H2 D (.lst [])) s3.heap.objs.size (cellsFrom (s3.heap.objs.size + 1) scope.names (cloFrom X.env.cells scope.names [])) fp
  show codeAny _ _ (.compStart (.ListComp elt [⟨tg, iter, ifs, 0⟩] scope pos) 0 (.ref it) (.ref D) (compEnvC scope (cellsFrom (s3.heap.objs.size + 1) scope.names (cloFrom X.env.cells scope.names [])) s3.heap.objs.size X.env)) (compPost (model X.prog X.w) X.A X.xe use Qf (.ref D) s3.heap.objs.size) { s3 with heap := pushCells (s3.heap.push { cls := .type "dict", data := .dict #[] }) scope.names }
  have nfp : ∀ b ∈ fp, (upd H2 D (.lst [])) b = none := fun b hb => (f3 b hb).1.1
  generalize hce : compEnvC scope (cellsFrom (s3.heap.objs.size + 1) scope.names (cloFrom X.env.cells scope.names [])) s3.heap.objs.size X.env = ce at I4 pg pt pe ⊢
  have cL : ce.locals = s3.heap.objs.size := by subst hce; rfl
  generalize hH3 : upd H2 D (.lst []) = H3 at I3 I4 pg pt pe w0 nfp f3
  generalize hs4 : ({ s3 with heap := pushCells (s3.heap.push { cls := .type "dict", data := .dict #[] }) scope.names } : Shared) = s4 at I4 ⊢
  have st4 : tn 0 s4.heap := T.keep _ _ _ st3 fun b _ o e => by rw [← hs4]; exact pushCells_keeps _ _ _ _ (Heap.get?_push_of_some _ e)
  have stat : ∀ {σ' : St} {H' : Hp} {s' : Shared}, Inv (X.blk s3 H3 scope ce fp) [] σ' H' s' → (∀ b ∈ fp, H' b = none) → ∀ b ∈ fp, FpOk (X.blk s3 H3 scope ce fp) [] H' b := fun {σ' H' s'} I' hn b hb =>
    ⟨hn b hb, (I'.ok.exf b hb).1, I'.ok.exfs b hb, .inl hb, fun x c e => (I'.ok.exf b hb).2 x c e, fun p hp => absurd (show p ∈ ([] : List (Addr × Obj)) ++ [] from hp) (by simp)⟩
  have loop : codeAny (model X.prog X.w) X.A (.compLoop (.ListComp elt [⟨tg, iter, ifs, 0⟩] scope pos) 0 (.ref it) (.ref D) ce) (compPost (model X.prog X.w) X.A X.xe use Qf (.ref D) s3.heap.objs.size) s4 := by
    refine compLoop_any (fun n s' => ∃ i H', Inv (X.blk s3 H3 scope ce fp) [] (wipe σ (own.map (·.2))) H' s' ∧ tn i s'.heap ∧ (∀ b ∈ fp, H' b = none) ∧ W i n H') ?_ m0 ⟨0, H3, I4, st4, nfp, w0⟩
    rintro n s5 ⟨i, H5, I5, st5, n5, w5⟩
    rcases turn i n H5 w5 with ⟨stop, qq⟩ | ⟨go, Nx, hNx, step⟩
    · have td := T.done (X.blk s3 H3 scope ce fp) rfl rfl rfl hc i [] s5 _ H5 (fun _ _ => False) I5 (stat I5 n5) st5 stop
      refine thnF td fun r s6 ⟨hr, I6⟩ => ?_
      subst hr
      -- back in the def's context
      have I7 : Inv X pins σ H5 s6 := I3.call' (ch := fp) I6.os I6.base I6.hok I6.bare fun b hb => ⟨(f3 b hb).1.2.2.2.1, (f3 b hb).1.2.1, (f3 b hb).1.2.2.2.2.1, (f3 b hb).1.2.2.2.2.2⟩
      have nC : H5 s3.heap.objs.size = none := by
        have z : H5 ce.locals = none := I6.free
        rw [cL] at z
        exact z
      obtain ⟨m, hn, _⟩ := I6.loc
      have hn : s6.heap.Ns ce.locals m := hn
      rw [cL] at hn
      exact hRR D s3.heap.objs.size s6 m H5 I7 qq hn (I3.fpOk (Nat.le_refl _) nC)
    · have ti := T.item (X.blk s3 H3 scope ce fp) rfl rfl rfl hc i [] s5 _ H5 (fun _ _ => False) I5 (stat I5 n5) st5 go
      refine thnF ti fun r s6 ⟨u, hr, h6⟩ => ?_
      subst hr
      refine thnF h6 fun _ s7 ⟨x, H7, I7, r7, y7, st7, n7⟩ => ?_
      have I7' := I7.pinned (stat I7 n7) (T.obj _ _ st7)
      refine thnF (pg _ s7 _ H7 x u _ I7' r7 (step x H7 y7)) fun _ s8 ⟨σ8, H8, I8, hw8, q8⟩ => ?_
      refine thnF (pt _ s8 σ8 H8 _ I8 q8) fun b s9 ⟨H9, I9, q9⟩ => ?_
      -- the turn's end
      have fin : ∀ {s' : Shared} {H' : Hp}, Inv (X.blk s3 H3 scope ce fp) ([] ++ pinsAt fp s7.heap) σ8 H' s' → Nx H' → ∃ m, m < n ∧ ∃ i H', Inv (X.blk s3 H3 scope ce fp) [] (wipe σ (own.map (·.2))) H' s' ∧ tn i s'.heap ∧ (∀ b ∈ fp, H' b = none) ∧ W i m H' := fun {s' H'} I' nx => by
        obtain ⟨m', hm, w'⟩ := hNx H' nx
        have pin' : ∀ b ∈ fp, ∀ o, s7.heap.get? b = some o → s'.heap.get? b = some o ∧ H' b = none := fun b hb o e =>
          let z := I'.pin (b, o) (List.mem_append_right _ (List.mem_append_right _ (mem_pinsAt hb e)))
          ⟨z.1, z.2.1⟩
        have hl : (wipe σ (own.map (·.2))).length = σ8.length := by rw [← hw8, wipe_length]
        refine ⟨m', hm, i + 1, H', (I'.unpinned (pins := [])).weak hl (fun j v e => ?_), T.keep _ _ _ st7 fun b hb o e => (pin' b hb o e).1, fun b hb => ?_, w'⟩
        · rw [← hw8] at e
          exact (wipe_some e).1
        · obtain ⟨o, e, _⟩ := T.obj _ _ st7 b hb
          exact (pin' b hb o e).2
      cases b with
      | false =>
        simp only [Bool.false_eq_true, if_false] at q9 ⊢
        exact fin I9 q9
      | true =>
        simp only [if_true] at q9 ⊢
        refine thnF (pe _ s9 σ8 H9 _ I9 q9) fun z s10 ⟨yv, H10, I10, r10, acc, hD10, hz10, nx⟩ => ?_
        exact app_ok (X := X.blk s3 H3 scope ce fp) I10 hD10 hz10 r10 fun s11 I11 => fin I11 nx
  exact codeAny_compStart_list loop (T.self X.A 0 _ _ _ st4 loop)
theorem pe_lc {elt tg iter : Expr} {ifs : List Expr} {scope : Scope} {own : List (Str × Nat)} {pos : Pos} {wi : TI} {g : TG} {tt : TT} {te : TE} (hc : X.calm = true) (hN : X.N.Nodup) (hi : PI X tg iter wi) (ok : BlkOk X.N X.env.scope scope own)
    (hg : ∀ (s : Shared) (H : Hp) (C : Addr) (cl : List (Str × Addr)) (fp : List Addr), PG (X.blk s H scope (compEnvC scope cl C X.env) fp) tg g) (ht : ∀ (s : Shared) (H : Hp) (C : Addr) (cl : List (Str × Addr)) (fp : List Addr), PTs (X.blk s H scope (compEnvC scope cl C X.env) fp) ifs tt)
    (he : ∀ (s : Shared) (H : Hp) (C : Addr) (cl : List (Str × Addr)) (fp : List Addr), PE (X.blk s H scope (compEnvC scope cl C X.env) fp) elt te) (hs : ∀ x, foldedSetIterable iter X.env x = pure x := by intro _; rfl) :
    PE X (.ListComp elt [⟨tg, iter, ifs, 0⟩] scope pos) (tLc wi g tt te (own.map (·.2))) := by
  intro pins s σ H Q I h
  rw [eval_ListComp]
  refine lc_core hc hN I hi ok hg ht he hs h fun D C s' m H' I' q hn f => ⟨m, hn, fun h'' sb => ?_⟩
  obtain ⟨f0, f1, f2, f3, f4, f5⟩ := f
  exact ⟨.ref D, H', I'.turned (t' := s'.toks) (fun b o hb e => (sb.2 b hb).trans e) f0 f1 f3 f4 f5, rfl, q⟩
theorem ps_setLc {i : Nat} {y : Str} {py : Pos} {elt tg iter : Expr} {ifs : List Expr} {scope : Scope} {own : List (Str × Nat)} {pos spos : Pos} {wi : TI} {g : TG} {tt : TT} {te : TE} (hc : X.calm = true) (hN : X.N.Nodup) (hy : X.N[i]? = some y) (hyl : X.env.scope.names.lookup y = some .local)
    (hsw : swapsWith (.ListComp elt [⟨tg, iter, ifs, 0⟩] scope pos) (some (.Name y py)) spos.line X.env = pure true) (hi : PI X tg iter wi) (ok : BlkOk X.N X.env.scope scope own)
    (hg : ∀ (s : Shared) (H : Hp) (C : Addr) (cl : List (Str × Addr)) (fp : List Addr), PG (X.blk s H scope (compEnvC scope cl C X.env) fp) tg g) (ht : ∀ (s : Shared) (H : Hp) (C : Addr) (cl : List (Str × Addr)) (fp : List Addr), PTs (X.blk s H scope (compEnvC scope cl C X.env) fp) ifs tt)
    (he : ∀ (s : Shared) (H : Hp) (C : Addr) (cl : List (Str × Addr)) (fp : List Addr), PE (X.blk s H scope (compEnvC scope cl C X.env) fp) elt te) (hs : ∀ x, foldedSetIterable iter X.env x = pure x := by intro _; rfl) :
    PS X (.Assign [.Name y py] (.ListComp elt [⟨tg, iter, ifs, 0⟩] scope pos) spos) (tAsg (tLc wi g tt te (own.map (·.2))) (gName i)) := by
  intro pins s σ H D I h
  rw [exec_Assign_Name_used _ _ _ _ hsw]
  refine wpAny_bind (wpAny_standAt (wpAny_bind ?_))
  show wpAny _ X.A (do let _ ← comprehension (.ListComp elt [⟨tg, iter, ifs, 0⟩] scope pos) scope X.env (firstIterPos [⟨tg, iter, ifs, 0⟩] pos) (newList []) false (eval iter X.env) (some (assign (.Name y py) X.env))) _ _ s
  have h : tLc wi g tt te (own.map (·.2)) σ H (fun x H1 => gName i x σ H1 D.nx) := h
  refine wpAny_bind (thn (lc_core (Qf := fun _ s' => SP X pins D .next s') hc hN I hi ok hg ht he hs h fun L C s' m H' I' q hn f => ?_) fun _ s' hq => wpAny_pure (wpAny_pure hq))
  show wpAny _ _ (assign (.Name y py) X.env (.ref L)) _ _ _
  refine wpAny_assign_Name (store_ok2 (v := V.ref L) I' hN hy (.inl hyl) rfl (fun s2 I2 ⟨a, sb, ha⟩ => ?_) (.inr hyl))
  obtain ⟨f0, f1, f2, f3, f4, f5⟩ := f
  have haC : C ≠ a := by
    rcases ha with z | z
    · rw [z]; exact f1
    · exact fun e => f4 y a z e.symm
  refine ⟨m, hn.sameBut sb haC, fun h3 sb3 => ?_⟩
  exact ⟨_, H', I2.turned (t' := s2.toks) (fun b o hb e => (sb3.2 b hb).trans e) f0 f1 f3 f4 f5, q⟩
theorem sw_true {elt : Expr} {gs : List Comprehension} {scope : Scope} {pos py : Pos} {y : Str} {l : Nat} {env : Env} (hk : env.scope.kind = .function) (hy : env.scope.names.lookup y = some .local) (hl : (py.line == pos.line) = true)
    (ha : (scope.names.any fun (n, k) => n == y && (k == .local || k == .cell)) = false) : swapsWith (.ListComp elt gs scope pos) (some (.Name y py)) l env = pure true := by
  have ky : env.kindOf y = some .local := hy
  have hb : env.blockKind = .function := by unfold Env.blockKind; rw [hk]; rfl
  unfold swapsWith
  simp only [hb, ky, ha, Expr.pos, hl]
  rfl
end
theorem lc_range {lo : Int} {n : Nat} {g : TG} {tt : TT} {te : TE} {vs : List Nat} {σ : St} {H1 : Hp} {D : Addr} {Qd : Hp → Prop} (Pv : Nat → Hp → Prop) (h0 : Pv 0 (upd H1 D (.lst [])))
    (hs : ∀ i H, i < n → Pv i H → g (.int (lo + i)) (wipe σ vs) H fun σ2 H2 => wipe σ2 vs = wipe σ vs ∧ tt σ2 H2 fun b H3 =>
      if b = true then te σ2 H3 fun y H4 => ∃ acc, H4 D = some (.lst acc) ∧ acc.length < sizeLine ∧ Pv (i + 1) (upd H4 D (.lst (acc ++ [y]))) else Pv (i + 1) H3) (hd : ∀ H, Pv n H → Qd H) :
    ∃ W : Nat → Nat → Hp → Prop, (∃ m, W 0 m (upd H1 D (.lst []))) ∧ ∀ i m H, W i m H →
      ((Itr lo n).stop i H ∧ Qd H) ∨ ((Itr lo n).go i H ∧ ∃ Nx : Hp → Prop, (∀ H', Nx H' → ∃ m', m' < m ∧ W (i + 1) m' H') ∧ ∀ x H', (Itr lo n).yld i H x H' → g x (wipe σ vs) H' fun σ2 H2 => wipe σ2 vs = wipe σ vs ∧ tt σ2 H2 fun b H3 =>
        if b = true then te σ2 H3 fun y H4 => ∃ acc, H4 D = some (.lst acc) ∧ acc.length < sizeLine ∧ Nx (upd H4 D (.lst (acc ++ [y]))) else Nx H3) := by
  refine ⟨fun i m H => m = n - i ∧ i ≤ n ∧ Pv i H, ⟨n, by simp, Nat.zero_le _, h0⟩, ?_⟩
  rintro i m H ⟨rfl, hi, p⟩
  by_cases hlt : i < n
  · refine .inr ⟨hlt, Pv (i + 1), fun H' p' => ⟨n - (i + 1), by omega, rfl, hlt, p'⟩, fun x H' y => ?_⟩
    obtain ⟨e, y⟩ := y
    subst e y
    exact hs i _ hlt p
  · have e : i = n := by omega
    subst e
    exact .inl ⟨Nat.le_refl _, hd H p⟩
theorem lc_list {K : PySem.W.Frag} {a : Addr} {xs : List V} {g : TG} {tt : TT} {te : TE} {vs : List Nat} {σ : St} {H1 : Hp} {D : Addr} {Qd : Hp → Prop} (Pv : Nat → Hp → Prop) (h0 : Pv 0 (upd H1 D (.lst []))) (hl : ∀ i H, i ≤ xs.length → Pv i H → SqL K H a xs)
    (hs : ∀ i x H, xs[i]? = some x → Pv i H → g x (wipe σ vs) H fun σ2 H2 => wipe σ2 vs = wipe σ vs ∧ tt σ2 H2 fun b H3 =>
      if b = true then te σ2 H3 fun y H4 => ∃ acc, H4 D = some (.lst acc) ∧ acc.length < sizeLine ∧ Pv (i + 1) (upd H4 D (.lst (acc ++ [y]))) else Pv (i + 1) H3) (hd : ∀ H, Pv xs.length H → Qd H) :
    ∃ W : Nat → Nat → Hp → Prop, (∃ m, W 0 m (upd H1 D (.lst []))) ∧ ∀ i m H, W i m H →
      ((Itl K a).stop i H ∧ Qd H) ∨ ((Itl K a).go i H ∧ ∃ Nx : Hp → Prop, (∀ H', Nx H' → ∃ m', m' < m ∧ W (i + 1) m' H') ∧ ∀ x H', (Itl K a).yld i H x H' → g x (wipe σ vs) H' fun σ2 H2 => wipe σ2 vs = wipe σ vs ∧ tt σ2 H2 fun b H3 =>
        if b = true then te σ2 H3 fun y H4 => ∃ acc, H4 D = some (.lst acc) ∧ acc.length < sizeLine ∧ Nx (upd H4 D (.lst (acc ++ [y]))) else Nx H3) := by
  refine ⟨fun i m H => m = xs.length - i ∧ i ≤ xs.length ∧ Pv i H, ⟨xs.length, by simp, Nat.zero_le _, h0⟩, ?_⟩
  rintro i m H ⟨rfl, hi, p⟩
  have q := hl i H hi p
  by_cases hlt : i < xs.length
  · refine .inr ⟨⟨xs, xs[i], q, by simp [hlt]⟩, Pv (i + 1), fun H' p' => ⟨xs.length - (i + 1), by omega, rfl, hlt, p'⟩, fun x H' y => ?_⟩
    obtain ⟨e, y⟩ := y
    subst e
    exact hs i x _ (y xs q) p
  · have e : i = xs.length := by omega
    subst e
    exact .inl ⟨⟨xs, q, Nat.le_refl _⟩, hd H p⟩
def blkC (N : List Str) (sc scope : Scope) (own : List (Str × Nat)) : Bool :=
  (match scope.kind with | .function => true | _ => false) && (scope.names.all fun y => decide (scope.names.lookup y.1 = some y.2)) && (own.all fun p => decide (N[p.2]? = some p.1)) &&
    (scope.names.all fun y => match y.2 with
      | .free => (match sc.names.lookup y.1 with | some .cell => true | some .free => true | _ => false)
      | .local => decide (y.1 ∈ own.map (·.1)) || decide (y.1 ∉ N)
      | .cell => decide (y.1 ∈ own.map (·.1)) || decide (y.1 ∉ N)
      | _ => true)
theorem blkOk_by {N : List Str} {sc scope : Scope} {own : List (Str × Nat)} (h : blkC N sc scope own = true) : BlkOk N sc scope own := by
  unfold blkC at h
  simp only [Bool.and_eq_true, List.all_eq_true, decide_eq_true_eq] at h
  obtain ⟨⟨⟨h1, h2⟩, h3⟩, h4⟩ := h
  refine ⟨?_, h2, h3, fun y hy e => ?_, fun y hy e => ?_⟩
  · split at h1
    · assumption
    · cases h1
  · have q := h4 y hy
    simp only [e] at q
    split at q <;> first | exact .inl (by assumption) | exact .inr (by assumption) | cases q
  · have q := h4 y hy
    rcases e with e | e <;> (simp only [e, Bool.or_eq_true, decide_eq_true_eq] at q; exact q)
end L2
namespace L2
open PySem PySem.Spec PyProof.Rows
section
variable {prog : Program} {w : World} {A : Around} {R : Result → Shared → Prop} {s : Shared} {elt t0 i0 t1 i1 : Expr} {ifs0 ifs1 : List Expr} {scope : Scope} {pos : Pos} {it acc : Value} {env : Env}
end
section
variable {X : Cx}
end
end L2
namespace L2
open PySem PySem.Spec PyProof.Rows
section
variable {κ : Type} [DecidableEq κ]
end
section
variable {P : Program} {w : World} {H : Hp} {h : Heap} {a : Addr}
end
section
variable {X : Cx} {pins : List (Addr × Obj)} {σ : St} {H : Hp} {s : Shared} {a : Addr} {y v : V} {u r : Value} {o : Option V} {A : Around} {E : Value → Shared → Prop}
end
section
variable {X : Cx} {pins : List (Addr × Obj)} {σ : St} {H : Hp} {s : Shared} {a : Addr} {kvs : List (Key × V)} {k : Key} {u : Value} {A : Around} {E : Value → Shared → Prop}
end
section
variable {X : Cx} {o i e value : Expr} {pos pos' tpos : Pos} {td ty tv : TE}
end
section
variable {X : Cx} {pos : Pos}
end
structure M1 (X : Cx) (o : Expr) (m : Str) (apos : Pos) (e : Expr) (cpos : Pos) : Prop where
  base : attributeBase o m X.env (eval o X.env) = eval o X.env
  few : ((backTo cpos (starEach [e] X.env)).all (fun x => !x.1) && (backToKw cpos (keywordEach [] X.env)).all (fun x => x.1.isSome)
    && decide (([e] : List Expr).length + ([] : List Keyword).length + (if ([] : List Keyword).isEmpty then 0 else 1) < 30)) = true
  line : (apos.endLine == cpos.line) = true
  trees : backTo cpos (starEach [e] X.env) = [(false, eval e X.env)]
structure M2 (X : Cx) (o : Expr) (m : Str) (apos : Pos) (e f : Expr) (cpos : Pos) : Prop where
  base : attributeBase o m X.env (eval o X.env) = eval o X.env
  few : ((backTo cpos (starEach [e, f] X.env)).all (fun x => !x.1) && (backToKw cpos (keywordEach [] X.env)).all (fun x => x.1.isSome)
    && decide (([e, f] : List Expr).length + ([] : List Keyword).length + (if ([] : List Keyword).isEmpty then 0 else 1) < 30)) = true
  line : (apos.endLine == cpos.line) = true
  trees : backTo cpos (starEach [e, f] X.env) = [(false, eval e X.env), (false, eval f X.env)]
section
variable {X : Cx} {pins : List (Addr × Obj)} {σ : St} {H : Hp} {s : Shared} {a : Addr} {y d : V} {u r : Value} {o : Option V} {A : Around} {E : Value → Shared → Prop}
end
section
variable {X : Cx} {o e f : Expr} {apos cpos : Pos} {td ty tx : TE}
end
section
variable {X : Cx} {pins : List (Addr × Obj)} {σ : St} {H : Hp} {s : Shared} {a : Addr} {kvs : List (Key × V)} {A : Around} {E : Value → Shared → Prop}
end
section
variable {X : Cx} {pins : List (Addr × Obj)} {σ : St} {H : Hp} {s : Shared} {a : Addr} {y : V} {u : Value} {A : Around} {E : Value → Shared → Prop}
end
end L2
namespace L2
open PySem PySem.Spec PyProof.Rows
section
variable {prog : Program} {w : World} {A : Around} {E : Value → Shared → Prop}
end
section
variable {X : Cx}
end
end L2
namespace L2
open PySem PySem.Spec PyProof.Rows
section
variable {X : Cx} {pins : List (Addr × Obj)} {σ : St} {H : Hp} {s : Shared} {h' : Heap}
end
section
variable {X : Cx}
end
section
variable {X : Cx} {tg : Expr}
end
section
variable {X : Cx} {tg : Expr}
end
section
variable {prog : Program} {w : World} {A : Around} {E : Value → Shared → Prop} {s : Shared}
end
section
variable {X : Cx} {pins : List (Addr × Obj)} {σ : St} {H : Hp} {s : Shared} {d : Addr} {o : Obj}
end
section
variable {P : Program} {w : World} {K : PySem.W.Frag} {tg : Expr} {d : Addr} {o : Obj} {es : Array DictEntry} {ep : Nat}
end
section
variable {X : Cx} {tg e : Expr} {td : TE} {apos cpos : Pos}
end
end L2
section 
namespace Bits
open PySem PyProof.Rows
end Bits
end 
section 
namespace TL
open PySem PySem.Builtin PySem.Builtin.Str PySem.StrLaws
end TL
end 
namespace L2
open PySem PySem.Spec PyProof.Rows
section
variable {X : Cx} {pins : List (Addr × Obj)} {σ : St} {H : Hp} {s : Shared} {Q : VK}
end
section
variable {X : Cx}
end
section
variable {X : Cx} {o e : Expr} {to te : TE}
end
end L2
namespace L2
open PySem PySem.Spec PyProof.Rows
section
variable {X : Cx}
end
end L2
namespace Att
open PySem PySem.W PySem.Calls PyProof.Rows
section
variable {prog : Program} {w : World} {A : Around} {E : Value → Shared → Prop} {s : Shared} {K : Frag}
end
end Att
namespace L2
open PySem PySem.Spec PyProof.Rows
end L2
namespace L2
open PySem PySem.Spec PyProof.Rows
end L2
namespace L2
open PySem PySem.Spec PyProof.Rows
def inClass (s : Stmt) (j : Nat) : Stmt := match s with
  | .ClassDef _ _ _ body _ _ _ _ _ _ _ => body.getD j (.Pass ⟨0, 0, 0, 0⟩)
  | _ => .Pass ⟨0, 0, 0, 0⟩
def defArgs (s : Stmt) : Arguments := match s with
  | .FunctionDef _ a _ _ _ _ _ _ _ _ => a
  | _ => { posonlyargs := [], args := [], vararg := none, kwonlyargs := [], kw_defaults := [], kwarg := none, defaults := [] }
def defBody (s : Stmt) : List Stmt := match s with
  | .FunctionDef _ _ b _ _ _ _ _ _ _ => b
  | _ => []
def defScope (s : Stmt) : Scope := match s with
  | .FunctionDef _ _ _ _ _ _ sc _ _ _ => sc
  | _ => { kind := .function, names := [], isGenerator := false, isCoroutine := false }
abbrev CX0 : CXT := fun _ _ _ _ _ _ => False
abbrev E0 : XK := fun _ _ _ => False
theorem pass0 {X : Cx} : Passes CX0 X E0 := fun _ _ _ _ _ _ _ h => h.elim
structure Fun (K : PySem.W.Frag) (x qual : Str) (st : Stmt) (f : Addr) (fd : FuncData) : Prop where
  ex : ∃ (oc : Value) (od : Option Addr) (kV doc pm : Value) (an : Option Addr) (cdv ct : Value) (osl : Array (Option Value)),
    fd = PySem.W.fnOf x qual (defArgs st) (defBody st) (defScope st) .none kV doc pm an cdv ct ∧ K.lookup f = some ⟨oc, od, .func fd, osl⟩ ∧ PySem.W.codeIn K cdv qual = true
  kp : PySem.W.keepIn K (.ref f) = true
section
variable {P : Program} {w : World} {K : PySem.W.Frag} {mg : Str → Option Value} {base : Heap}
theorem Fun.ok {x qual : Str} {st : Stmt} {f : Addr} {fd : FuncData} {N ps : List Str} {k : Nat} {sp : Sp} (F : Fun K x qual st f fd) (S : FnScope N ps (defScope st)) (len : ∀ vs H Q E, sp vs H Q E → vs.length = ps.length)
    (hbody : ∀ (cdv : Value) (A : Around) (outer : List Env) (s : Shared) (H : Hp) (vs : List V) (Q : VK) (E : XK), Room k (A.deeper (envOfC qual (defScope st) s.heap.objs.size f cdv)) → sp vs H Q E →
      ∃ t, PSs (cxOf CX0 P w K mg base N qual (defScope st) f cdv A outer s H E).nox (defBody st) t ∧ t { nx := fun _ H' => Q .non H', rt := Q } (start N vs) H) : FnOk P w K mg base CX0 (k + 1) f fd ps sp := by
  obtain ⟨oc, od, kV, doc, pm, an, cdv, ct, osl, rfl, lk, hcd⟩ := F.ex
  refine fn_of lk hcd S len fun A outer s H vs Q E hr hsp => ?_
  obtain ⟨t, h, q⟩ := hbody cdv A outer s H vs Q E hr hsp
  exact ⟨t, h.nox, q⟩
theorem Fun.binds {x qual : Str} {st : Stmt} {f : Addr} {fd : FuncData} {ps : List Str} (F : Fun K x qual st f fd)
    (h : ∀ (kV doc pm : Value) (an : Option Addr) (cdv ct : Value) (us : List Value), us.length = ps.length → bindArgs (PySem.W.fnOf x qual (defArgs st) (defBody st) (defScope st) .none kV doc pm an cdv ct) ⟨us, []⟩ = pure (ps.zip us)) : Binds K fd ps [] := by
  obtain ⟨oc, od, kV, doc, pm, an, cdv, ct, osl, rfl, lk, hcd⟩ := F.ex
  exact .all (h kV doc pm an cdv ct)
theorem fun_mk {x qual : Str} {st : Stmt} {f : Addr} {oc : Value} {od an : Option Addr} {osl : Array (Option Value)} {kV doc pm cdv ct : Value} (l : K.lookup f = some ⟨oc, od, .func (PySem.W.fnOf x qual (defArgs st) (defBody st) (defScope st) .none kV doc pm an cdv ct), osl⟩)
    (c : PySem.W.codeIn K cdv qual = true) (k : PySem.W.keepIn K (.ref f) = true) : Fun K x qual st f (PySem.W.fnOf x qual (defArgs st) (defBody st) (defScope st) .none kV doc pm an cdv ct) := ⟨⟨oc, od, kV, doc, pm, an, cdv, ct, osl, rfl, l, c⟩, k⟩
end
theorem small1000 {n : Nat} (h : n ≤ 1000) : n < sizeLine := Nat.lt_of_le_of_lt h (by decide)
section
variable {X : Cx}
theorem pv (i : Nat) {x : Str} {pos : Pos} (hN : X.N[i]? = some x := by rfl) (hv : Vis X.env.scope x := by first | exact Or.inl rfl | exact Or.inr (Or.inl rfl) | exact Or.inr (Or.inr rfl)) (hd : (x == ("__debug__" : Str)) = false := by decide)
    (hcd : (x == ("__classdict__" : Str)) = false := by decide) : PE X (.Name x pos) (tVar i) := pe_var hN hv hd hcd
end
theorem iteF {A B : Prop} (h : B) : if false = true then A else B := by
  rw [if_neg Bool.false_ne_true]
  exact h
theorem iteT {A B : Prop} (h : A) : if true = true then A else B := by
  rw [if_pos rfl]
  exact h
theorem ite2 {c A B : Prop} [Decidable c] (h1 : c → A) (h2 : ¬ c → B) : if c then A else B := by
  by_cases h : c
  · rw [if_pos h]
    exact h1 h
  · rw [if_neg h]
    exact h2 h
section
variable {κ : Type} [DecidableEq κ]
end
theorem nd_ix {α : Type} {l : List α} (hN : l.Nodup) {i j : Nat} {x : α} (a : l[i]? = some x) (b : l[j]? = some x) : i = j := by
  obtain ⟨h1, e1⟩ := List.getElem?_eq_some_iff.mp a
  obtain ⟨h2, e2⟩ := List.getElem?_eq_some_iff.mp b
  exact (List.getElem_inj hN).mp (e1.trans e2.symm)
end L2
section
set_option Elab.async false
set_option linter.all false
set_option maxRecDepth 100000
set_option maxHeartbeats 2000000
namespace L2
open PySem PySem.Spec PyProof.Rows
open PySem.W (WData Codec OpenSpec Well WellAll ReadsW ReadsAllW)
mutual
/-- x stands for the datum d, lists and tuples all the way -/
inductive Dw (K : PySem.W.Frag) (H : Hp) : V → WData → Prop
  | non : Dw K H .non .none
  | bl (b : Bool) : Dw K H (.bl b) (.bool b)
  | int (i : Int) : Dw K H (.int i) (.int i)
  | str (x : Str) : Dw K H (.str x) (.str x)
  | byt (b : Array UInt8) : Dw K H (.byt b) (.bytes b.toList)
  | lst {a : Addr} {xs : List V} {ds : List WData} : SqL K H a xs → DwAll K H xs ds → Dw K H (.ref a) (.list ds)
  | tup {a : Addr} {xs : List V} {ds : List WData} : SqT K H a xs → DwAll K H xs ds → Dw K H (.ref a) (.tuple ds)
inductive DwAll (K : PySem.W.Frag) (H : Hp) : List V → List WData → Prop
  | nil : DwAll K H [] []
  | cons {v : V} {vs : List V} {d : WData} {ds : List WData} : Dw K H v d → DwAll K H vs ds → DwAll K H (v :: vs) (d :: ds)
end
theorem dw_ints {K : PySem.W.Frag} {H : Hp} : ∀ ns : List Int, DwAll K H (ns.map V.int) (ns.map WData.int)
  | [] => .nil
  | n :: r => .cons (.int n) (dw_ints r)
theorem ints_dw {K : PySem.W.Frag} {H : Hp} : ∀ (ns : List Int) (xs : List V), DwAll K H xs (ns.map WData.int) → xs = ns.map V.int
  | [], xs, h => by
    cases h
    rfl
  | n :: r, xs, h => by
    cases h with
    | cons h1 h2 =>
      cases h1
      rw [ints_dw r _ h2] <;> rfl
section
variable {P : Program} {w : World} {K : PySem.W.Frag} {H : Hp} {h : Heap} {R : PySem.W.WRecords} {cl : Str → Option Addr}
theorem sqL_at {a : Addr} {xs : List V} (hok : HOk P w H h) (KX : K.In h) (q : SqL K H a xs) : ∃ (its : List Value) (o : Obj) (n : Nat), Vals xs its ∧ h.get? a = some o ∧ o.cls = .type "list" ∧ o.data = .seq its.toArray n := by
  rcases q with q | ⟨o, its, n, e, hc, _, hd, _, hv⟩
  · obtain ⟨_, its, n, hv, e⟩ := (show ObjOk P w H h a (.lst xs) from q.ok hok)
    exact ⟨its, _, n, hv, e, rfl, rfl⟩
  · exact ⟨its.toList, o, n, hv, KX _ _ e, hc, by simp [hd]⟩
theorem sqT_at {a : Addr} {xs : List V} (hok : HOk P w H h) (KX : K.In h) (q : SqT K H a xs) : ∃ (its : List Value) (o : Obj) (n : Nat), Vals xs its ∧ h.get? a = some o ∧ o.cls = .type "tuple" ∧ o.data = .seq its.toArray n := by
  rcases q with q | ⟨o, its, n, e, hc, hd, _, hv⟩
  · obtain ⟨_, its, hv, o, e, hc, n, hd⟩ := (show ObjOk P w H h a (.tup xs) from q.ok hok)
    exact ⟨its, o, n, hv, e, hc, hd⟩
  · exact ⟨its.toList, o, n, hv, KX _ _ e, hc, by simp [hd]⟩
mutual
theorem Dw.reads (hok : HOk P w H h) (KX : K.In h) : ∀ (d : WData) (v : V) (u : Value), Dw K H v d → RelV v u → ∃ as, ReadsW R cl h u d as
  | .none, _, _, x, r => by
    cases x
    cases r
    exact ⟨_, ReadsW.none⟩
  | .bool b, _, _, x, r => by
    cases x
    cases r
    exact ⟨_, ReadsW.bool b⟩
  | .int i, _, _, x, r => by
    cases x
    obtain ⟨t, rfl⟩ := r
    exact ⟨_, ReadsW.int i t⟩
  | .str s, _, _, x, r => by
    cases x
    obtain ⟨t, rfl⟩ := r
    exact ⟨_, ReadsW.str s t⟩
  | .bytes b, _, _, x, r => by
    cases x
    obtain ⟨t, rfl⟩ := r
    exact ⟨_, ReadsW.bytes _ t⟩
  | .list ds, _, _, x, r => by
    cases x with
    | lst hs ha =>
      cases r
      obtain ⟨its, o, n, rv, ho, hc, hd⟩ := sqL_at hok KX hs
      obtain ⟨as, hr⟩ := Dw.readsAll hok KX ds _ its ha rv
      exact ⟨_, ReadsW.list ho hc hd hr⟩
  | .tuple ds, _, _, x, r => by
    cases x with
    | tup hs ha =>
      cases r
      obtain ⟨its, o, n, rv, ho, hc, hd⟩ := sqT_at hok KX hs
      obtain ⟨as, hr⟩ := Dw.readsAll hok KX ds _ its ha rv
      exact ⟨_, ReadsW.tuple ho hc hd hr⟩
  | .float _, _, _, x, _ => by cases x
  | .dict _, _, _, x, _ => by cases x
  | .bytearray _, _, _, x, _ => by cases x
  | .set _, _, _, x, _ => by cases x
  | .frozenset _, _, _, x, _ => by cases x
  | .obj _ _, _, _, x, _ => by cases x
theorem Dw.readsAll (hok : HOk P w H h) (KX : K.In h) : ∀ (ds : List WData) (vs : List V) (us : List Value), DwAll K H vs ds → Vals vs us → ∃ as, ReadsAllW R cl h us ds as
  | [], _, _, x, r => by
    cases x
    cases r
    exact ⟨_, ReadsAllW.nil⟩
  | d :: ds, _, _, x, r => by
    cases x with
    | cons h1 h2 =>
      cases r with
      | cons r1 r2 =>
        obtain ⟨as, q1⟩ := Dw.reads hok KX d _ _ h1 r1
        obtain ⟨bs, q2⟩ := Dw.readsAll hok KX ds _ _ h2 r2
        exact ⟨_, ReadsAllW.cons q1 q2⟩
end
end
mutual
/-- data that a codec tells -/
def plW : WData → Bool
  | .none => true
  | .bool _ => true
  | .int _ => true
  | .str _ => true
  | .bytes _ => true
  | .list xs => plWs xs
  | .tuple xs => plWs xs
  | _ => false
def plWs : List WData → Bool
  | [] => true
  | x :: r => plW x && plWs r
end
theorem plWs_map {α : Type} {f : α → WData} (h : ∀ a, plW (f a) = true) : ∀ l : List α, plWs (l.map f) = true
  | [] => rfl
  | x :: r => by
    show (plW (f x) && plWs (r.map f)) = true
    rw [h x, plWs_map h r] <;> rfl
theorem pl_enc : ∀ (c : Codec) (a : c.denote), plW (c.enc a) = true
  | .unit, _ => rfl
  | .bool, _ => rfl
  | .int _ _, _ => rfl
  | .nat _ _, _ => rfl
  | .u8, _ => rfl
  | .bytes _ _, _ => rfl
  | .text _ _ _ _, _ => rfl
  | .list _ _ c, a => plWs_map (fun x => pl_enc c x) a
  | .pair c d, a => by
    show (plW (c.enc a.1) && (plW (d.enc a.2) && true)) = true
    rw [pl_enc c a.1, pl_enc d a.2] <;> rfl
  | .triple c d e, a => by
    show (plW (c.enc a.1) && (plW (d.enc a.2.1) && (plW (e.enc a.2.2) && true))) = true
    rw [pl_enc c a.1, pl_enc d a.2.1, pl_enc e a.2.2] <;> rfl
  | .option c, none => rfl
  | .option c, some x => pl_enc c x
theorem pl_encAll : ∀ (cs : List Codec) (a : Codec.denoteAll cs), plWs (Codec.encAll cs a) = true
  | [], _ => rfl
  | c :: cs, a => by
    show (plW (c.enc a.1) && plWs (Codec.encAll cs a.2)) = true
    rw [pl_enc c a.1, pl_encAll cs a.2] <;> rfl
theorem weight_mem : ∀ {xs : List WData} {d : WData}, d ∈ xs → d.weight ≤ WData.weightAll xs
  | [], d, h => absurd h (by simp)
  | x :: r, d, h => by
    show d.weight ≤ x.weight + 1 + WData.weightAll r
    rcases List.mem_cons.mp h with e | m
    · rw [e]
      omega
    · have z := weight_mem m
      omega
def toV : Value → V
  | .none => .non
  | .bool b => .bl b
  | .int i _ => .int i
  | .str x _ => .str x
  | .bytes b _ => .byt b
  | .ref a => .ref a
  | _ => .non
def OkU (A : List Addr) : Value → Prop
  | .none => True
  | .bool _ => True
  | .int _ _ => True
  | .str _ _ => True
  | .bytes _ _ => True
  | .ref a => a ∈ A
  | _ => False
theorem OkU.mono {A B : List Addr} (h : ∀ a ∈ A, a ∈ B) : ∀ {u : Value}, OkU A u → OkU B u := fun {u} x => by
  cases u with
  | ref a => exact h a x
  | none => trivial
  | bool b => trivial
  | int i t => trivial
  | str s t => trivial
  | bytes b t => trivial
  | _ => exact False.elim x
theorem relV_toV {A : List Addr} {u : Value} (x : OkU A u) : RelV (toV u) u := by
  cases u with
  | ref a => rfl
  | none => rfl
  | bool b => rfl
  | int i t => exact ⟨t, rfl⟩
  | str s t => exact ⟨t, rfl⟩
  | bytes b t => exact ⟨t, rfl⟩
  | _ => exact False.elim x
theorem vals_toV {A : List Addr} : ∀ {vs : List Value}, (∀ u ∈ vs, OkU A u) → Vals (vs.map toV) vs
  | [], _ => .nil
  | u :: r, h => .cons (relV_toV (h u (List.mem_cons_self ..))) (vals_toV fun x hx => h x (List.mem_cons_of_mem _ hx))
def ArgOb (h : Heap) (A : List Addr) (a : Addr) : Prop := ∃ vs : List Value, vs.length ≤ sizeLine ∧ (∀ u ∈ vs, OkU A u) ∧
  (h.get? a = some { cls := .type "list", data := .seq vs.toArray } ∨ h.get? a = some { cls := .type "tuple", data := .seq vs.toArray })
theorem ArgOb.mono {h : Heap} {A B : List Addr} {a : Addr} (k : ∀ a ∈ A, a ∈ B) (x : ArgOb h A a) : ArgOb h B a := by
  obtain ⟨vs, h1, h2, h3⟩ := x
  exact ⟨vs, h1, fun u hu => (h2 u hu).mono k, h3⟩
theorem wellAll_len {P : Params} {h : Heap} : ∀ {vs : List Value} {ds : List WData}, WellAll P h vs ds → vs.length = ds.length
  | _, _, .nil => rfl
  | _, _, .cons _ b => by
    show _ + 1 = _ + 1
    rw [wellAll_len b]
theorem well_list {P : Params} {h : Heap} {v : Value} {ds : List WData} (x : Well P h v (.list ds)) : ∃ (a : Addr) (vs : List Value), v = .ref a ∧ h.get? a = some { cls := .type "list", data := .seq vs.toArray } ∧ WellAll P h vs ds := by
  cases x with
  | list ho hall => exact ⟨_, _, rfl, ho, hall⟩
theorem well_tuple {P : Params} {h : Heap} {v : Value} {ds : List WData} (x : Well P h v (.tuple ds)) : ∃ (a : Addr) (vs : List Value), v = .ref a ∧ h.get? a = some { cls := .type "tuple", data := .seq vs.toArray } ∧ WellAll P h vs ds := by
  cases x with
  | tuple ho hall => exact ⟨_, _, rfl, ho, hall⟩
theorem well_cons {P : Params} {h : Heap} {us : List Value} {d : WData} {ds : List WData} (x : WellAll P h us (d :: ds)) : ∃ (v : Value) (vs : List Value), us = v :: vs ∧ Well P h v d ∧ WellAll P h vs ds := by
  cases x with
  | cons a b => exact ⟨_, _, rfl, a, b⟩
theorem line_of {n : Nat} (h : n ≤ 1048576) : n ≤ sizeLine := Nat.le_trans h (by decide)
section
variable {P : Params} {h : Heap}
mutual
theorem area_one : ∀ (d : WData) (v : Value), Well P h v d → plW d = true → d.weight ≤ 1048576 → ∃ A : List Addr, OkU A v ∧ ∀ a ∈ A, ArgOb h A a
  | .none, _, x, _, _ => by
    cases x
    exact ⟨[], trivial, fun a m => absurd m (by simp)⟩
  | .bool b, _, x, _, _ => by
    cases x
    exact ⟨[], trivial, fun a m => absurd m (by simp)⟩
  | .int i, _, x, _, _ => by
    cases x
    exact ⟨[], trivial, fun a m => absurd m (by simp)⟩
  | .str s, _, x, _, _ => by
    cases x
    exact ⟨[], trivial, fun a m => absurd m (by simp)⟩
  | .bytes b, _, x, _, _ => by
    cases x
    exact ⟨[], trivial, fun a m => absurd m (by simp)⟩
  | .list ds, _, x, p, z => by
    obtain ⟨a, vs, rfl, ho, hall⟩ := well_list x
    have z2 : WData.weightAll ds ≤ 1048576 := z
    obtain ⟨A, h1, h2⟩ := area_all ds _ hall p fun d hd => Nat.le_trans (weight_mem hd) z2
    have k : ∀ b ∈ A, b ∈ a :: A := fun b hb => List.mem_cons_of_mem _ hb
    refine ⟨a :: A, List.mem_cons_self .., fun b hb => ?_⟩
    rcases List.mem_cons.mp hb with e | m
    · rw [e]
      exact ⟨vs, line_of (by rw [wellAll_len hall]; exact Nat.le_trans (PySem.W.length_le_weightAllW ds) z2), fun u hu => (h1 u hu).mono k, .inl ho⟩
    · exact (h2 b m).mono k
  | .tuple ds, _, x, p, z => by
    obtain ⟨a, vs, rfl, ho, hall⟩ := well_tuple x
    have z2 : WData.weightAll ds ≤ 1048576 := z
    obtain ⟨A, h1, h2⟩ := area_all ds _ hall p fun d hd => Nat.le_trans (weight_mem hd) z2
    have k : ∀ b ∈ A, b ∈ a :: A := fun b hb => List.mem_cons_of_mem _ hb
    refine ⟨a :: A, List.mem_cons_self .., fun b hb => ?_⟩
    rcases List.mem_cons.mp hb with e | m
    · rw [e]
      exact ⟨vs, line_of (by rw [wellAll_len hall]; exact Nat.le_trans (PySem.W.length_le_weightAllW ds) z2), fun u hu => (h1 u hu).mono k, .inr ho⟩
    · exact (h2 b m).mono k
  | .float _, _, _, p, _ => Bool.noConfusion (show false = true from p)
  | .dict _, _, _, p, _ => Bool.noConfusion (show false = true from p)
  | .bytearray _, _, _, p, _ => Bool.noConfusion (show false = true from p)
  | .set _, _, _, p, _ => Bool.noConfusion (show false = true from p)
  | .frozenset _, _, _, p, _ => Bool.noConfusion (show false = true from p)
  | .obj _ _, _, _, p, _ => Bool.noConfusion (show false = true from p)
theorem area_all : ∀ (ds : List WData) (vs : List Value), WellAll P h vs ds → plWs ds = true → (∀ d ∈ ds, d.weight ≤ 1048576) → ∃ A : List Addr, (∀ u ∈ vs, OkU A u) ∧ ∀ a ∈ A, ArgOb h A a
  | [], _, x, _, _ => by
    cases x
    exact ⟨[], fun u m => absurd m (by simp), fun a m => absurd m (by simp)⟩
  | d :: ds, _, x, p, z => by
    obtain ⟨v, vs, rfl, x1, x2⟩ := well_cons x
    have q : plW d = true ∧ plWs ds = true := Bool.and_eq_true_iff.mp p
    obtain ⟨A, a1, a2⟩ := area_one d v x1 q.1 (z d (List.mem_cons_self ..))
    obtain ⟨B, b1, b2⟩ := area_all ds vs x2 q.2 fun e he => z e (List.mem_cons_of_mem _ he)
    have kA : ∀ b ∈ A, b ∈ A ++ B := fun b hb => List.mem_append.mpr (.inl hb)
    have kB : ∀ b ∈ B, b ∈ A ++ B := fun b hb => List.mem_append.mpr (.inr hb)
    refine ⟨A ++ B, fun u hu => ?_, fun b hb => ?_⟩
    · rcases List.mem_cons.mp hu with e | m
      · rw [e]
        exact a1.mono kA
      · exact (b1 u m).mono kB
    · rcases List.mem_append.mp hb with m | m
      · exact (a2 b m).mono kA
      · exact (b2 b m).mono kB
end
end
def hoOf (o : Obj) : Option HO := match o.data with
  | .seq vs _ => if (o.cls == Value.type "list") = true then some (.frz o (.lst (vs.toList.map toV))) else some (.frz o (.tup (vs.toList.map toV)))
  | _ => none
def argH (K : PySem.W.Frag) (h : Heap) (A : List Addr) : Hp := fun b => if b ∈ A then (if (K.lookup b).isNone = true then (h.get? b).bind hoOf else none) else none
def OnlyF (H : Hp) : Prop := ∀ b, H b = none ∨ ∃ o u, H b = some (.frz o u)
theorem hoOf_lst (vs : List Value) : hoOf { cls := .type "list", data := .seq vs.toArray } = some (.frz { cls := .type "list", data := .seq vs.toArray } (.lst (vs.map toV))) := by
  show (if (Value.type "list" == Value.type "list") = true then some (HO.frz { cls := .type "list", data := .seq vs.toArray } (.lst (vs.toArray.toList.map toV))) else some (HO.frz { cls := .type "list", data := .seq vs.toArray } (.tup (vs.toArray.toList.map toV)))) = _
  rw [if_pos (beq_self_eq_true _)]
theorem hoOf_tup (vs : List Value) : hoOf { cls := .type "tuple", data := .seq vs.toArray } = some (.frz { cls := .type "tuple", data := .seq vs.toArray } (.tup (vs.map toV))) := by
  show (if (Value.type "tuple" == Value.type "list") = true then some (HO.frz { cls := .type "tuple", data := .seq vs.toArray } (.lst (vs.toArray.toList.map toV))) else some (HO.frz { cls := .type "tuple", data := .seq vs.toArray } (.tup (vs.toArray.toList.map toV)))) = _
  rw [if_neg (by decide)]
section
variable {P : Program} {w : World} {K : PySem.W.Frag} {h : Heap} {A : List Addr}
theorem argH_at {b : Addr} {o : Obj} (hb : b ∈ A) (hk : K.lookup b = none) (e : h.get? b = some o) : argH K h A b = hoOf o := by
  unfold argH
  rw [if_pos hb, hk, if_pos (show (none : Option Obj).isNone = true from rfl), e] <;> rfl
theorem of_argH {b : Addr} {u : HO} (q : argH K h A b = some u) : b ∈ A ∧ K.lookup b = none := by
  unfold argH at q
  by_cases hb : b ∈ A
  · rw [if_pos hb] at q
    cases hk : K.lookup b with
    | none => exact ⟨hb, rfl⟩
    | some o =>
      rw [hk, if_neg (by simp)] at q
      cases q
  · rw [if_neg hb] at q
    cases q
theorem argH_is (ar : ∀ a ∈ A, ArgOb h A a) {b : Addr} {u : HO} (q : argH K h A b = some u) : K.lookup b = none ∧ ∃ vs : List Value, vs.length ≤ sizeLine ∧ (∀ u ∈ vs, OkU A u) ∧
    ((h.get? b = some { cls := .type "list", data := .seq vs.toArray } ∧ u = .frz { cls := .type "list", data := .seq vs.toArray } (.lst (vs.map toV))) ∨
     (h.get? b = some { cls := .type "tuple", data := .seq vs.toArray } ∧ u = .frz { cls := .type "tuple", data := .seq vs.toArray } (.tup (vs.map toV)))) := by
  obtain ⟨hb, hk⟩ := of_argH q
  obtain ⟨vs, h1, h2, h3⟩ := ar b hb
  refine ⟨hk, vs, h1, h2, ?_⟩
  rcases h3 with e | e
  · rw [argH_at hb hk e, hoOf_lst] at q
    exact .inl ⟨e, (Option.some.inj q).symm⟩
  · rw [argH_at hb hk e, hoOf_tup] at q
    exact .inr ⟨e, (Option.some.inj q).symm⟩
theorem argH_only (ar : ∀ a ∈ A, ArgOb h A a) : OnlyF (argH K h A) := fun b => by
  cases q : argH K h A b with
  | none => exact .inl rfl
  | some u =>
    obtain ⟨_, vs, _, _, ⟨_, e⟩ | ⟨_, e⟩⟩ := argH_is ar q
    · exact .inr ⟨_, _, by rw [e]⟩
    · exact .inr ⟨_, _, by rw [e]⟩
theorem argH_ok (ar : ∀ a ∈ A, ArgOb h A a) : HOk P w (argH K h A) h := fun b u q => by
  obtain ⟨_, vs, h1, h2, ⟨e, rfl⟩ | ⟨e, rfl⟩⟩ := argH_is ar q
  · exact ⟨e, by rw [List.length_map]; exact h1, vs, _, vals_toV h2, e⟩
  · exact ⟨e, by rw [List.length_map]; exact h1, vs, vals_toV h2, _, e, rfl, _, rfl⟩
theorem seq_inj {c c' : Value} {vs us : List Value} (e : (some { cls := c, data := .seq vs.toArray } : Option Obj) = some { cls := c', data := .seq us.toArray }) : c = c' ∧ vs = us := by
  have e1 := Option.some.inj e
  have e2 : c = c' := congrArg Obj.cls e1
  have e3 : Data.seq vs.toArray = Data.seq us.toArray := congrArg Obj.data e1
  injection e3 with e4
  refine ⟨e2, ?_⟩
  have e5 := congrArg Array.toList e4
  simpa using e5
theorem argL (KX : K.In h) (ar : ∀ a ∈ A, ArgOb h A a) {a : Addr} {vs : List Value} (ha : a ∈ A) (e : h.get? a = some { cls := .type "list", data := .seq vs.toArray }) : (∀ u ∈ vs, OkU A u) ∧ SqL K (argH K h A) a (vs.map toV) := by
  obtain ⟨us, h1, h2, h3⟩ := ar a ha
  have hu : us = vs := by
    rcases h3 with q | q
    · rw [e] at q
      exact (seq_inj q).2.symm
    · rw [e] at q
      exact absurd (Value.type.inj (seq_inj q).1) (by decide)
  subst hu
  refine ⟨h2, ?_⟩
  cases hk : K.lookup a with
  | none => exact .inl (.inr ⟨_, by rw [argH_at ha hk e, hoOf_lst]⟩)
  | some o =>
    have e2 := KX a o hk
    rw [e] at e2
    obtain rfl := Option.some.inj e2
    exact .inr ⟨_, us.toArray, _, hk, rfl, rfl, rfl, by rw [List.size_toArray]; exact h1, by simpa using vals_toV h2⟩
theorem argT (KX : K.In h) (ar : ∀ a ∈ A, ArgOb h A a) {a : Addr} {vs : List Value} (ha : a ∈ A) (e : h.get? a = some { cls := .type "tuple", data := .seq vs.toArray }) : (∀ u ∈ vs, OkU A u) ∧ SqT K (argH K h A) a (vs.map toV) := by
  obtain ⟨us, h1, h2, h3⟩ := ar a ha
  have hu : us = vs := by
    rcases h3 with q | q
    · rw [e] at q
      exact absurd (Value.type.inj (seq_inj q).1) (by decide)
    · rw [e] at q
      exact (seq_inj q).2.symm
  subst hu
  refine ⟨h2, ?_⟩
  cases hk : K.lookup a with
  | none => exact .inl (.inr ⟨_, by rw [argH_at ha hk e, hoOf_tup]⟩)
  | some o =>
    have e2 := KX a o hk
    rw [e] at e2
    obtain rfl := Option.some.inj e2
    exact .inr ⟨_, us.toArray, _, hk, rfl, rfl, by rw [List.size_toArray]; exact h1, by simpa using vals_toV h2⟩
mutual
theorem dw_one {Pm : Params} (KX : K.In h) (ar : ∀ a ∈ A, ArgOb h A a) : ∀ (d : WData) (v : Value), Well Pm h v d → plW d = true → OkU A v → Dw K (argH K h A) (toV v) d
  | .none, _, x, _, _ => by
    cases x
    exact .non
  | .bool b, _, x, _, _ => by
    cases x
    exact .bl b
  | .int i, _, x, _, _ => by
    cases x
    exact .int i
  | .str s, _, x, _, _ => by
    cases x
    exact .str s
  | .bytes b, _, x, _, _ => by
    cases x
    have z := Dw.byt (K := K) (H := argH K h A) b.toArray
    exact z
  | .list ds, _, x, p, hu => by
    obtain ⟨a, vs, rfl, ho, hall⟩ := well_list x
    obtain ⟨h2, hs⟩ := argL KX ar hu ho
    exact .lst hs (dw_all KX ar ds _ hall p h2)
  | .tuple ds, _, x, p, hu => by
    obtain ⟨a, vs, rfl, ho, hall⟩ := well_tuple x
    obtain ⟨h2, hs⟩ := argT KX ar hu ho
    exact .tup hs (dw_all KX ar ds _ hall p h2)
  | .float _, _, _, p, _ => Bool.noConfusion (show false = true from p)
  | .dict _, _, _, p, _ => Bool.noConfusion (show false = true from p)
  | .bytearray _, _, _, p, _ => Bool.noConfusion (show false = true from p)
  | .set _, _, _, p, _ => Bool.noConfusion (show false = true from p)
  | .frozenset _, _, _, p, _ => Bool.noConfusion (show false = true from p)
  | .obj _ _, _, _, p, _ => Bool.noConfusion (show false = true from p)
theorem dw_all {Pm : Params} (KX : K.In h) (ar : ∀ a ∈ A, ArgOb h A a) : ∀ (ds : List WData) (vs : List Value), WellAll Pm h vs ds → plWs ds = true → (∀ u ∈ vs, OkU A u) → DwAll K (argH K h A) (vs.map toV) ds
  | [], _, x, _, _ => by
    cases x
    exact .nil
  | d :: ds, _, x, p, hu => by
    obtain ⟨v, vs, rfl, x1, x2⟩ := well_cons x
    have q : plW d = true ∧ plWs ds = true := Bool.and_eq_true_iff.mp p
    exact .cons (dw_one KX ar d v x1 q.1 (hu _ (List.mem_cons_self ..))) (dw_all KX ar ds vs x2 q.2 fun u m => hu u (List.mem_cons_of_mem _ m))
end
end
theorem spec_call {P : Program} {w : World} {K : PySem.W.Frag} {mg mb : Str → Option Value} {CX : CXT} {k : Nat} {fa : Addr} {fd : FuncData} {ps : List Str} {sp : Sp} {s₁ : Shared} {vals : List Value} {ds : List WData} {R : PySem.W.WRecords} {cl : Str → Option Addr} {d0 : WData}
    (KX : K.In s₁.heap) (hns : s₁.heap.Ns mainGlobals mg) (hb : s₁.heap.Ns builtinsNs mb) (hbb : ∀ x : Str, x ≠ "__name__" → mb x = bootBuiltins x) (hlim : s₁.heap.NoLimit) (hg : s₁.gens = #[])
    (hwl : WellAll w.params s₁.heap vals ds) (hpl : plWs ds = true) (hwt : ∀ d ∈ ds, d.weight ≤ 1048576) (hr : Room k callerA)
    (F : ∀ base : Heap, K.In base → base.Ns mainGlobals mg → FnOk P w K mg base CX k fa fd ps sp) (hbind : ∀ (s : Shared) (us : List Value), us.length = ps.length → BindsTo s fd ⟨us, []⟩ (ps.zip us)) (hlen : ds.length = ps.length)
    (hsp : ∀ (H : Hp) (xs : List V), OnlyF H → DwAll K H xs ds → sp xs H (fun v H' => Dw K H' v d0) fun _ _ _ => False)
    (hCX : ∀ H e s', CX [] H s₁ (fun _ _ _ => False) e s' → False) :
    codeAny (model P w) callerA (.call (.ref fa) ⟨vals, []⟩) (fun r s' => ∃ u as, r = .ok (.ret u) ∧ ReadsW R cl s'.heap u d0 as ∧ OldK s₁.heap s'.heap ∧ s'.os = s₁.os ∧ AllBare s'.gens) s₁ := by
  obtain ⟨A, ho, ar⟩ := area_all ds vals hwl hpl hwt
  have hO : OnlyF (argH K s₁.heap A) := argH_only ar
  have hok : HOk P w (argH K s₁.heap A) s₁.heap := argH_ok ar
  have hS := dw_all KX ar ds vals hwl hpl ho
  have hV := vals_toV ho
  have hK : ∀ b u, argH K s₁.heap A b = some u → K.lookup b = none := fun b u q => (argH_is ar q).1
  have noA : ∀ {b : Addr} {o : Obj} {es : Array DictEntry} {ep : Nat}, s₁.heap.get? b = some o → o.data = .dict es ep → argH K s₁.heap A b = none := fun {b o es ep} e d => by
    cases q : argH K s₁.heap A b with
    | none => rfl
    | some u =>
      obtain ⟨_, vs, _, _, ⟨e2, _⟩ | ⟨e2, _⟩⟩ := argH_is ar q
      · rw [e2] at e
        cases e
        have d' : Data.seq vs.toArray _ = Data.dict es ep := d
        cases d'
      · rw [e2] at e
        cases e
        have d' : Data.seq vs.toArray _ = Data.dict es ep := d
        cases d'
  generalize argH K s₁.heap A = H at hO hok hS hK noA
  have base_of : ∀ {b : Addr} {o : Obj}, s₁.heap.get? b = some o → H b = none → (hidT s₁.heap H).get? b = some o := fun e n => hidT_get e n
  have nsK : ∀ {b : Addr} {m : Str → Option Value}, s₁.heap.Ns b m → (hidT s₁.heap H).Ns b m := fun {b m} ⟨o, es, ep, e, d, r⟩ => ⟨o, es, ep, base_of e (noA e d), d, r⟩
  have nK : ∀ b o, K.lookup b = some o → H b = none := fun b o e => by
    cases q : H b with
    | none => rfl
    | some u =>
      rw [hK b u q] at e
      cases e
  have hKb : K.In (hidT s₁.heap H) := fun b o e => base_of (KX b o e) (nK b o e)
  have hM : Mod K mg (hidT s₁.heap H) := ⟨hKb, nsK hns, ⟨mb, nsK hb, hbb⟩, let ⟨mc, h1, h2⟩ := hlim; ⟨mc, nsK h1, h2⟩⟩
  have e0 : Env0 P w K mg (hidT s₁.heap H) callerA [] s₁ H := ⟨rfl, hM, fun b o e => of_hidT e, Nat.le_of_eq (hidT_size _ _), trivial, fun b hb => absurd (show b ∈ ([] : List Addr) from hb) (by simp), hok, .of_eq hg⟩
  have hl : vals.length = ps.length := by rw [wellAll_len hwl]; exact hlen
  refine codeAny_mono ((F _ hKb (nsK hns)).run callerA [] s₁ H ⟨vals, []⟩ vals (vals.map toV) _ _ hr e0 (hbind s₁ vals hl) hV (hsp H _ hO hS)) fun r s' x => ?_
  cases r with
  | error e => exact (hCX H e s' x).elim
  | ok fl =>
    cases fl with
    | next => exact False.elim x
    | brk => exact False.elim x
    | cont => exact False.elim x
    | ret u =>
      obtain ⟨v, H', os, bare, un, hok', r', q⟩ := x
      have kept : ∀ b o, s₁.heap.get? b = some o → s'.heap.get? b = some o := fun b o e => by
        cases q2 : H b with
        | none => exact un.keep b o e q2 (by intro z; exact absurd (show b ∈ ([] : List Addr) from z) (by simp)) (by simp)
        | some u2 =>
          rcases hO b with z | ⟨ob, u3, z⟩
          · rw [q2] at z
            cases z
          · have z2 := un.frzs b ob _ z
            obtain ⟨e1, _⟩ := hok b _ z
            obtain ⟨e2, _⟩ := hok' b _ z2
            rw [e] at e1
            cases e1
            exact e2
      have KX' : K.In s'.heap := fun b o e => kept b o (KX b o e)
      obtain ⟨as, hrd⟩ := Dw.reads (R := R) (cl := cl) hok' KX' d0 v u q r'
      exact ⟨u, as, rfl, hrd, OldK.of_keep kept, os, bare⟩
theorem layable_weight {ds : List WData} (h : WData.layableAll ds = true) : ∀ d ∈ ds, d.weight ≤ 1048576 := fun d hd =>
  (PySem.W.layableW_iff.mp (List.all_eq_true.mp h d hd)).2.2
theorem encAll_len : ∀ (cs : List Codec) (a : Codec.denoteAll cs), (Codec.encAll cs a).length = cs.length
  | [], _ => rfl
  | c :: cs, a => by
    show (Codec.encAll cs a.2).length + 1 = cs.length + 1
    rw [encAll_len cs a.2]
theorem walk_spec {r : OpenSpec} {k : Nat} {q : Program} {loose : List Str} {XP : (Str → Option Value) → Heap → Prop} {YP : World → Heap → Prop} {d : DefRec} {K : Params → PySem.W.Frag} {CX : World → CXT} {ps : List Str} {sp : World → Sp}
    (hwell : r.wellSaid = true) (hdf : d.params.defaults = []) (hlen : r.args.length = ps.length) (hr : Room k callerA)
    (hY : ∀ (w : World) (h : Heap), YP w h → (K w.params).In h)
    (F : ∀ (w : World) (mg : Str → Option Value) (fa : Addr) (h : Heap), YP w h → (K w.params).In h → h.Ns mainGlobals mg → mg d.name = some (.ref fa) →
      ∃ fd : FuncData, (∀ (s : Shared) (us : List Value), us.length = ps.length → BindsTo s fd ⟨us, []⟩ (ps.zip us)) ∧
        ∀ base : Heap, (K w.params).In base → base.Ns mainGlobals mg → FnOk r.prog w (K w.params) mg base (CX w) k fa fd ps (sp w))
    (hsp : ∀ (w : World) (H : Hp) (xs : List V) (a : Codec.denoteAll r.args), OnlyF H → Codec.withinAll r.args a = true → Codec.app r.args r.asked a = true → DwAll (K w.params) H xs (Codec.encAll r.args a) →
      sp w xs H (fun v H' => Dw (K w.params) H' v (r.ret.enc (Codec.app r.args r.f a))) fun _ _ _ => False)
    (hCX : ∀ (w : World) (H : Hp) (s : Shared) (e : Value) (s' : Shared), CX w [] H s (fun _ _ _ => False) e s' → False) :
    PySem.W.WalkOS q loose XP YP r d [] (fun f vs => PySem.call f vs) := by
  intro w s_0 s₁ mg mb G Y fa o pm cd doc dV kV ho hd hcd hD hmg hg args vals as hpre hlay hrd hwl hlo
  obtain ⟨a, e1, e2⟩ := PySem.W.os_pre_some hpre
  obtain ⟨e3, hwi⟩ := Codec.encAll_of_decAll r.args args a e1
  subst e3
  have KX := hY w _ Y
  obtain ⟨fd, hb, hF⟩ := F w mg fa _ Y KX G.T.g hmg
  refine PySem.W.enter_call (codeAny_mono (spec_call (R := []) (cl := classAt s_0.heap) (d0 := r.ret.enc (Codec.app r.args r.f a)) KX G.T.g G.T.b G.T.builtins G.T.nolimit hg hwl (pl_encAll _ _) (layable_weight hlay) hr hF hb (by rw [encAll_len]; exact hlen)
    (fun H xs hO hS => hsp w H xs a hO hwi e2 hS) fun H e s' => hCX w H s₁ e s') fun r' s' hq => ?_)
  obtain ⟨u, as', rfl, h1, h2, h3, h4⟩ := hq
  exact ⟨.inl ⟨u, _, as', rfl, fun _ => rfl, h1, (OpenSpec.post_iff hwell hwi _ _).mpr rfl, fun z => Bool.noConfusion (show false = true from z)⟩, h2, h3, h4⟩
theorem walk_specK {r : OpenSpec} {k : Nat} {q : Program} {loose : List Str} {XP : (Str → Option Value) → Heap → Prop} {YP : World → Heap → Prop} {d : DefRec} {K : Params → PySem.W.Frag} {CX : CXT} {ps : List Str} {sp : PySem.W.Frag → Sp}
    (hwell : r.wellSaid = true) (hdf : d.params.defaults = []) (hlen : r.args.length = ps.length) (hr : Room k callerA)
    (hY : ∀ (w : World) (h : Heap), YP w h → (K w.params).In h)
    (F : ∀ (w : World) (mg : Str → Option Value) (fa : Addr) (h : Heap), YP w h → (K w.params).In h → h.Ns mainGlobals mg → mg d.name = some (.ref fa) →
      ∃ fd : FuncData, (∀ (s : Shared) (us : List Value), us.length = ps.length → BindsTo s fd ⟨us, []⟩ (ps.zip us)) ∧
        ∀ base : Heap, (K w.params).In base → base.Ns mainGlobals mg → FnOk r.prog w (K w.params) mg base CX k fa fd ps (sp (K w.params)))
    (hsp : ∀ (K : PySem.W.Frag) (H : Hp) (xs : List V) (a : Codec.denoteAll r.args), OnlyF H → Codec.withinAll r.args a = true → Codec.app r.args r.asked a = true → DwAll K H xs (Codec.encAll r.args a) →
      sp K xs H (fun v H' => Dw K H' v (r.ret.enc (Codec.app r.args r.f a))) fun _ _ _ => False)
    (hCX : ∀ (H : Hp) (s : Shared) (e : Value) (s' : Shared), CX [] H s (fun _ _ _ => False) e s' → False) :
    PySem.W.WalkOS q loose XP YP r d [] (fun f vs => PySem.call f vs) :=
  walk_spec (K := K) (CX := fun _ => CX) (sp := fun w => sp (K w.params)) hwell hdf hlen hr hY F (fun w H xs a h1 h2 h3 h4 => hsp (K w.params) H xs a h1 h2 h3 h4) fun _ H s e s' => hCX H s e s'
end L2
end

/-! There is always a plan: plain Lean over the specification's own words, no code in it. -/
namespace KPlan

/-- the sum of f over 0, 1, .. below n -/
def S (f : Nat → Nat) : Nat → Nat
  | 0 => 0
  | n + 1 => S f n + f n

theorem S_congr {f g : Nat → Nat} : ∀ {n : Nat}, (∀ i, i < n → f i = g i) → S f n = S g n
  | 0, _ => rfl
  | n + 1, h => by
    show S f n + f n = S g n + g n
    rw [S_congr (n := n) fun i hi => h i (by omega), h n (by omega)]

theorem S_add (f g : Nat → Nat) : ∀ n : Nat, S (fun i => f i + g i) n = S f n + S g n
  | 0 => rfl
  | n + 1 => by
    show S _ n + (f n + g n) = (S f n + f n) + (S g n + g n)
    rw [S_add f g n]; omega

theorem S_zero : ∀ n : Nat, S (fun _ => 0) n = 0
  | 0 => rfl
  | n + 1 => by show S _ n + 0 = 0; rw [S_zero n]

theorem S_mul (f : Nat → Nat) (c : Nat) : ∀ n : Nat, S (fun i => c * f i) n = c * S f n
  | 0 => rfl
  | n + 1 => by
    show S _ n + c * f n = c * (S f n + f n)
    rw [S_mul f c n, Nat.mul_add]

theorem S_mono {f g : Nat → Nat} : ∀ {n : Nat}, (∀ i, i < n → f i ≤ g i) → S f n ≤ S g n
  | 0, _ => Nat.le_refl _
  | n + 1, h => Nat.add_le_add (S_mono (n := n) fun i hi => h i (by omega)) (h n (by omega))

theorem S_swap (w : Nat → Nat → Nat) (n : Nat) : ∀ L : Nat, S (fun k => S (fun j => w j k) L) n = S (fun j => S (fun k => w j k) n) L
  | 0 => S_zero n
  | L + 1 => by
    show S (fun k => S (fun j => w j k) L + w L k) n = S _ L + S _ n
    rw [S_add, S_swap w n L]

theorem S_lt {f g : Nat → Nat} {i : Nat} : ∀ {n : Nat}, (∀ i, i < n → f i ≤ g i) → i < n → f i < g i → S f n < S g n
  | 0, _, hi, _ => absurd hi (Nat.not_lt_zero _)
  | n + 1, h, hi, e => by
    show S f n + f n < S g n + g n
    have hn := h n (by omega)
    by_cases q : i = n
    · subst q
      have := S_mono (n := i) fun k hk => h k (by omega)
      omega
    · have := S_lt (n := n) (fun k hk => h k (by omega)) (by omega) e
      omega

/-- where the sums stand so and one place stands the other way round, another place stands so -/
theorem S_find {f g : Nat → Nat} {n k0 : Nat} (h : S f n ≤ S g n) (hk : k0 < n) (e : g k0 < f k0) : ∃ k, k < n ∧ f k < g k := by
  refine Classical.byContradiction fun q => ?_
  have a : ∀ i, i < n → g i ≤ f i := fun i hi => Nat.le_of_not_lt fun z => q ⟨i, hi, z⟩
  have := S_lt a hk e
  omega

/-- two that differ at one place alone -/
theorem S_upd {f g : Nat → Nat} {j : Nat} : ∀ {n : Nat}, (∀ i, i < n → i ≠ j → f i = g i) → j < n → S f n + g j = S g n + f j
  | 0, _, hj => absurd hj (Nat.not_lt_zero _)
  | n + 1, h, hj => by
    show S f n + f n + g j = S g n + g n + f j
    by_cases q : j = n
    · subst q
      have := S_congr (n := j) fun i hi => h i (by omega) (by omega)
      omega
    · have := S_upd (n := n) (fun i hi => h i (by omega)) (by omega)
      have := h n (by omega) (fun z => q z.symm)
      omega

theorem S_one {n k c : Nat} (hk : k < n) : S (fun i => if k = i then c else 0) n = c := by
  have h := S_upd (f := fun i => if k = i then c else 0) (g := fun _ => 0) (j := k) (n := n) (fun i _ hi => if_neg fun z => hi z.symm) hk
  rw [S_zero, if_pos rfl] at h
  omega

section
variable (n L : Nat) (R : Nat → Nat → Bool)

def Valid (a : Nat → Nat) : Prop := ∀ j, j < L → a j < n ∧ R j (a j) = true
def C (a : Nat → Nat) (k : Nat) : Nat := S (fun j => if a j = k then 1 else 0) L
def put (a : Nat → Nat) (j k : Nat) : Nat → Nat := fun i => if i = j then k else a i

/-- k can be come to from k0 in d steps: a day that the one drives might be driven by the other -/
def Fw (a : Nat → Nat) (k0 : Nat) : Nat → Nat → Prop
  | 0, k => k = k0
  | d + 1, k => ∃ j, j < L ∧ Fw a k0 d (a j) ∧ k < n ∧ R j k = true
/-- k0 can be come to from k in d steps -/
def Bw (a : Nat → Nat) (k0 : Nat) : Nat → Nat → Prop
  | 0, k => k = k0
  | d + 1, k => ∃ j k', j < L ∧ a j = k ∧ k' < n ∧ R j k' = true ∧ Bw a k0 d k'
end

section
variable {n L : Nat} {R : Nat → Nat → Bool}

theorem put_valid {a : Nat → Nat} {j k : Nat} (h : Valid n L R a) (hk : k < n) (r : R j k = true) : Valid n L R (put a j k) := fun i hi => by
  unfold put
  by_cases q : i = j
  · subst q; rw [if_pos rfl]; exact ⟨hk, r⟩
  · rw [if_neg q]; exact h i hi

theorem put_C {a : Nat → Nat} {j k : Nat} (hj : j < L) (v : Nat) : C L (put a j k) v + (if v = a j then 1 else 0) = C L a v + (if v = k then 1 else 0) := by
  have h := S_upd (f := fun i => if put a j k i = v then 1 else 0) (g := fun i => if a i = v then 1 else 0) (j := j) (n := L)
    (fun i _ hi => by simp only [put, if_neg hi]) hj
  have e1 : (if put a j k j = v then 1 else 0) = (if v = k then 1 else 0) := by
    have e : put a j k j = k := if_pos rfl
    rw [e]
    by_cases q : k = v
    · subst q; rfl
    · rw [if_neg q, if_neg fun z => q z.symm]
  have e2 : (if a j = v then 1 else 0) = (if v = a j then 1 else 0) := by
    by_cases q : a j = v
    · rw [if_pos q, if_pos q.symm]
    · rw [if_neg q, if_neg fun z => q z.symm]
  simp only [e1, e2] at h
  exact h

theorem shift_fw {k0 : Nat} : ∀ (d : Nat) (a : Nat → Nat) (k : Nat), Valid n L R a → Fw n L R a k0 d k → k ≠ k0 →
    ∃ a', Valid n L R a' ∧ ∀ v, C L a' v + (if v = k0 then 1 else 0) = C L a v + (if v = k then 1 else 0) := by
  intro d
  induction d using Nat.strongRecOn with
  | ind d ih =>
    intro a k hv hd hne
    by_cases hq : ∃ i, i < d ∧ Fw n L R a k0 i k
    · obtain ⟨i, hi, e⟩ := hq; exact ih i hi a k hv e hne
    cases d with
    | zero => exact absurd hd hne
    | succ d =>
      obtain ⟨j, hj, hf, hk, hr⟩ := hd
      have hv1 := put_valid (j := j) hv hk hr
      by_cases q : a j = k0
      · refine ⟨put a j k, hv1, fun v => ?_⟩
        have := put_C (L := L) (a := a) (k := k) hj v
        rw [q] at this
        exact this
      · have nl : ∀ i, i < d → ¬ Fw n L R a k0 i (a j) := fun i hi z => hq ⟨i + 1, by omega, j, hj, z, hk, hr⟩
        have stay : ∀ i v, i ≤ d → Fw n L R a k0 i v → Fw n L R (put a j k) k0 i v := by
          intro i
          induction i with
          | zero => exact fun v _ z => z
          | succ i ii =>
            rintro v hi ⟨j', hj', hf', hk', hr'⟩
            have ne : j' ≠ j := fun z => nl i (by omega) (z ▸ hf')
            have e : put a j k j' = a j' := if_neg ne
            exact ⟨j', hj', e ▸ ii _ (by omega) hf', hk', hr'⟩
        obtain ⟨a', va, ca⟩ := ih d (by omega) (put a j k) (a j) hv1 (stay d _ (Nat.le_refl _) hf) q
        refine ⟨a', va, fun v => ?_⟩
        have h1 := ca v
        have h2 := put_C (L := L) (a := a) (k := k) hj v
        omega

theorem shift_bw {k0 : Nat} : ∀ (d : Nat) (a : Nat → Nat) (k : Nat), Valid n L R a → Bw n L R a k0 d k → k ≠ k0 →
    ∃ a', Valid n L R a' ∧ ∀ v, C L a' v + (if v = k then 1 else 0) = C L a v + (if v = k0 then 1 else 0) := by
  intro d
  induction d using Nat.strongRecOn with
  | ind d ih =>
    intro a k hv hd hne
    by_cases hq : ∃ i, i < d ∧ Bw n L R a k0 i k
    · obtain ⟨i, hi, e⟩ := hq; exact ih i hi a k hv e hne
    cases d with
    | zero => exact absurd hd hne
    | succ d =>
      obtain ⟨j, k', hj, ej, hk, hr, hf⟩ := hd
      have hv1 := put_valid (j := j) hv hk hr
      by_cases q : k' = k0
      · refine ⟨put a j k', hv1, fun v => ?_⟩
        have := put_C (L := L) (a := a) (k := k') hj v
        rw [q, ej] at this
        rw [q]
        exact this
      · have nl : ∀ i, i ≤ d → ¬ Bw n L R a k0 i k := fun i hi z => hq ⟨i, by omega, z⟩
        have stay : ∀ i v, i ≤ d → Bw n L R a k0 i v → Bw n L R (put a j k') k0 i v := by
          intro i
          induction i with
          | zero => exact fun v _ z => z
          | succ i ii =>
            rintro v hi ⟨j', k1, hj', ej', hk1, hr1, hf'⟩
            have ne : j' ≠ j := fun z => nl (i + 1) hi ⟨j', k1, hj', z ▸ ej, hk1, hr1, hf'⟩
            have e : put a j k' j' = a j' := if_neg ne
            exact ⟨j', k1, hj', e.trans ej', hk1, hr1, ii _ (by omega) hf'⟩
        obtain ⟨a', va, ca⟩ := ih d (by omega) (put a j k') k' hv1 (stay d _ (Nat.le_refl _) hf) q
        refine ⟨a', va, fun v => ?_⟩
        have h1 := ca v
        have h2 := put_C (L := L) (a := a) (k := k') hj v
        rw [ej] at h2
        omega

variable {w : Nat → Nat → Nat} {W : Nat}

/-- what the members of F drive, against what they ought to: both, day by day -/
theorem drives_sum (a : Nat → Nat) (hv : Valid n L R a) (F : Nat → Bool) :
    S (fun k => if F k then W * C L a k else 0) n = S (fun j => if F (a j) then W else 0) L := by
  have e1 : S (fun k => if F k then W * C L a k else 0) n = S (fun k => S (fun j => if F k then (if a j = k then W else 0) else 0) L) n := S_congr fun k _ => by
    cases F k
    · simp only [Bool.false_eq_true, if_false]; exact (S_zero L).symm
    · simp only [if_true, C]
      rw [← S_mul]
      exact S_congr fun j _ => by by_cases q : a j = k <;> simp [q]
  rw [e1, S_swap]
  refine S_congr fun j hj => ?_
  have h : S (fun k => if a j = k then (if F (a j) then W else 0) else 0) n = _ := S_one (c := if F (a j) then W else 0) (hv j hj).1
  refine Eq.trans (S_congr fun k _ => ?_) h
  by_cases q : a j = k
  · subst q; simp
  · simp [q]

theorem ought_sum (F : Nat → Bool) : S (fun k => if F k then S (fun j => w j k) L else 0) n = S (fun j => S (fun k => if F k then w j k else 0) n) L := by
  rw [← S_swap]
  refine S_congr fun k _ => ?_
  cases F k
  · simp only [Bool.false_eq_true, if_false]; exact (S_zero L).symm
  · simp only [if_true]

theorem over_step (hw : ∀ j, j < L → S (w j) n = W) (hR : ∀ j k, R j k = false → w j k = 0) {a : Nat → Nat} (hv : Valid n L R a) {k0 : Nat} (hk0 : k0 < n) (h : S (fun j => w j k0) L < W * C L a k0) :
    ∃ k a', k < n ∧ W * C L a k < S (fun j => w j k) L ∧ Valid n L R a' ∧ ∀ v, C L a' v + (if v = k0 then 1 else 0) = C L a v + (if v = k then 1 else 0) := by
  have dec : ∀ k, Decidable (∃ d, Fw n L R a k0 d k) := fun k => Classical.propDecidable _
  have hle : S (fun k => if (decide (∃ d, Fw n L R a k0 d k)) then W * C L a k else 0) n ≤ S (fun k => if (decide (∃ d, Fw n L R a k0 d k)) then S (fun j => w j k) L else 0) n := by
    rw [drives_sum a hv, ought_sum]
    refine S_mono fun j hj => ?_
    by_cases q : ∃ d, Fw n L R a k0 d (a j)
    · rw [if_pos (decide_eq_true q), ← hw j hj]
      refine S_mono fun k hk => ?_
      cases r : R j k with
      | false => rw [hR j k r]; exact Nat.zero_le _
      | true =>
        obtain ⟨d, hd⟩ := q
        rw [if_pos (decide_eq_true ⟨d + 1, j, hj, hd, hk, r⟩)]
        exact Nat.le_refl _
    · rw [if_neg (by simpa using q)]; exact Nat.zero_le _
  have m0 : ∃ d, Fw n L R a k0 d k0 := ⟨0, rfl⟩
  obtain ⟨k, hk, e⟩ := S_find hle hk0 (by rw [if_pos (decide_eq_true m0), if_pos (decide_eq_true m0)]; exact h)
  by_cases q : ∃ d, Fw n L R a k0 d k
  · rw [if_pos (decide_eq_true q), if_pos (decide_eq_true q)] at e
    have ne : k ≠ k0 := fun z => by subst z; omega
    obtain ⟨d, hd⟩ := q
    obtain ⟨a', va, ca⟩ := shift_fw d a k hv hd ne
    exact ⟨k, a', hk, e, va, ca⟩
  · rw [if_neg (by simpa using q), if_neg (by simpa using q)] at e
    exact absurd e (Nat.lt_irrefl _)

theorem under_step (hw : ∀ j, j < L → S (w j) n = W) (hR : ∀ j k, R j k = false → w j k = 0) {a : Nat → Nat} (hv : Valid n L R a) {k0 : Nat} (hk0 : k0 < n) (h : W * C L a k0 < S (fun j => w j k0) L) :
    ∃ k a', k < n ∧ S (fun j => w j k) L < W * C L a k ∧ Valid n L R a' ∧ ∀ v, C L a' v + (if v = k then 1 else 0) = C L a v + (if v = k0 then 1 else 0) := by
  have dec : ∀ k, Decidable (∃ d, Bw n L R a k0 d k) := fun k => Classical.propDecidable _
  have hle : S (fun k => if (decide (∃ d, Bw n L R a k0 d k)) then S (fun j => w j k) L else 0) n ≤ S (fun k => if (decide (∃ d, Bw n L R a k0 d k)) then W * C L a k else 0) n := by
    rw [drives_sum a hv, ought_sum]
    refine S_mono fun j hj => ?_
    by_cases q : ∃ d, Bw n L R a k0 d (a j)
    · rw [if_pos (decide_eq_true q), ← hw j hj]
      refine S_mono fun k hk => ?_
      by_cases z : (decide (∃ d, Bw n L R a k0 d k)) = true
      · rw [if_pos z]; exact Nat.le_refl _
      · rw [if_neg z]; exact Nat.zero_le _
    · rw [if_neg (by simpa using q)]
      refine Nat.le_of_eq ?_
      refine Eq.trans (S_congr (g := fun _ => 0) fun k hk => ?_) (S_zero n)
      cases r : R j k with
      | false => rw [hR j k r]; exact ite_self _
      | true =>
        have z : ¬ ∃ d, Bw n L R a k0 d k := fun ⟨d, hd⟩ => q ⟨d + 1, j, k, hj, rfl, hk, r, hd⟩
        rw [if_neg (by simpa using z)]
  have m0 : ∃ d, Bw n L R a k0 d k0 := ⟨0, rfl⟩
  obtain ⟨k, hk, e⟩ := S_find hle hk0 (by rw [if_pos (decide_eq_true m0), if_pos (decide_eq_true m0)]; exact h)
  by_cases q : ∃ d, Bw n L R a k0 d k
  · rw [if_pos (decide_eq_true q), if_pos (decide_eq_true q)] at e
    have ne : k ≠ k0 := fun z => by subst z; omega
    obtain ⟨d, hd⟩ := q
    obtain ⟨a', va, ca⟩ := shift_bw d a k hv hd ne
    exact ⟨k, a', hk, e, va, ca⟩
  · rw [if_neg (by simpa using q), if_neg (by simpa using q)] at e
    exact absurd e (Nat.lt_irrefl _)

/-- how far from fair -/
def Off (n L : Nat) (lo hi : Nat → Nat) (a : Nat → Nat) : Nat := S (fun k => (C L a k - hi k) + (lo k - C L a k)) n

theorem balanced (hW : 0 < W) (hw : ∀ j, j < L → S (w j) n = W) (hR : ∀ j k, R j k = false → w j k = 0) : ∀ (m : Nat) (a : Nat → Nat), Valid n L R a →
    Off n L (fun k => S (fun j => w j k) L / W) (fun k => (S (fun j => w j k) L + (W - 1)) / W) a ≤ m →
    ∃ a', Valid n L R a' ∧ ∀ k, k < n → S (fun j => w j k) L / W ≤ C L a' k ∧ C L a' k ≤ (S (fun j => w j k) L + (W - 1)) / W := by
  intro m
  have lo_iff : ∀ p c : Nat, c < p / W → W * c < p := fun p c h => by
    have := (Nat.lt_div_iff_mul_lt hW).mp h
    have := Nat.mul_comm W c
    omega
  have hi_iff : ∀ p c : Nat, (p + (W - 1)) / W < c → p < W * c := fun p c h => by
    have := (Nat.div_lt_iff_lt_mul hW).mp h
    have := Nat.mul_comm W c
    omega
  have lo_of : ∀ p c : Nat, p < W * c → p / W < c := fun p c h => by
    have := Nat.mul_comm W c
    exact (Nat.div_lt_iff_lt_mul hW).mpr (by omega)
  have hi_of : ∀ p c : Nat, W * c < p → c < (p + (W - 1)) / W := fun p c h => by
    have := Nat.mul_comm W c
    refine (Nat.le_div_iff_mul_le hW).mpr ?_
    rw [Nat.succ_mul]
    omega
  induction m with
  | zero =>
    intro a hv h
    refine ⟨a, hv, fun k hk => ?_⟩
    refine Classical.byContradiction fun q => ?_
    have : 0 < Off n L (fun k => S (fun j => w j k) L / W) (fun k => (S (fun j => w j k) L + (W - 1)) / W) a := by
      rw [← S_zero n]
      refine S_lt (i := k) (fun _ _ => Nat.zero_le _) hk ?_
      show 0 < (C L a k - (S (fun j => w j k) L + (W - 1)) / W) + (S (fun j => w j k) L / W - C L a k)
      omega
    omega
  | succ m ih =>
    intro a hv h
    by_cases ov : ∃ k, k < n ∧ (S (fun j => w j k) L + (W - 1)) / W < C L a k
    · obtain ⟨k0, hk0, e⟩ := ov
      obtain ⟨k, a', hk, e', va, ca⟩ := over_step hw hR hv hk0 (hi_iff _ _ e)
      refine ih a' va (Nat.le_of_lt_succ (Nat.lt_of_lt_of_le ?_ h))
      have ne : k0 ≠ k := fun z => by
        subst z
        have := hi_iff _ _ e
        omega
      have hlo : ∀ v, S (fun j => w j v) L / W ≤ (S (fun j => w j v) L + (W - 1)) / W := fun v => Nat.div_le_div_right (by omega)
      refine S_lt (i := k0) (fun v hv' => ?_) hk0 ?_
      · have c := ca v
        by_cases q1 : v = k0
        · subst q1
          rw [if_pos rfl, if_neg ne] at c
          have := hlo v
          dsimp only
          omega
        · rw [if_neg q1] at c
          by_cases q2 : v = k
          · subst q2
            rw [if_pos rfl] at c
            have := hi_of _ _ e'
            dsimp only
            omega
          · rw [if_neg q2] at c
            dsimp only
            omega
      · have c := ca k0
        rw [if_pos rfl, if_neg ne] at c
        have := hlo k0
        dsimp only
        omega
    · by_cases un : ∃ k, k < n ∧ C L a k < S (fun j => w j k) L / W
      · obtain ⟨k0, hk0, e⟩ := un
        obtain ⟨k, a', hk, e', va, ca⟩ := under_step hw hR hv hk0 (lo_iff _ _ e)
        refine ih a' va (Nat.le_of_lt_succ (Nat.lt_of_lt_of_le ?_ h))
        have ne : k0 ≠ k := fun z => by
          subst z
          have := lo_iff _ _ e
          omega
        have hlo : ∀ v, S (fun j => w j v) L / W ≤ (S (fun j => w j v) L + (W - 1)) / W := fun v => Nat.div_le_div_right (by omega)
        refine S_lt (i := k0) (fun v hv' => ?_) hk0 ?_
        · have c := ca v
          by_cases q1 : v = k0
          · subst q1
            rw [if_pos rfl, if_neg ne] at c
            have := hlo v
            dsimp only
            omega
          · rw [if_neg q1] at c
            by_cases q2 : v = k
            · subst q2
              rw [if_pos rfl] at c
              have := lo_of _ _ e'
              dsimp only
              omega
            · rw [if_neg q2] at c
              dsimp only
              omega
        · have c := ca k0
          rw [if_pos rfl, if_neg ne] at c
          have := hlo k0
          dsimp only
          omega
      · refine ⟨a, hv, fun k hk => ⟨Nat.le_of_not_lt fun z => un ⟨k, hk, z⟩, Nat.le_of_not_lt fun z => ov ⟨k, hk, z⟩⟩⟩
end

/-! ## The specification's own words -/
open Kyd

theorem sum_go : ∀ (l : List Nat) (a : Nat), l.foldl (· + ·) a = a + l.foldl (· + ·) 0
  | [], a => rfl
  | x :: l, a => by
    show l.foldl (· + ·) (a + x) = a + l.foldl (· + ·) (0 + x)
    rw [sum_go l (a + x), sum_go l (0 + x)]; omega
theorem sum_cons (x : Nat) (l : List Nat) : Kyd.sum (x :: l) = x + Kyd.sum l := by
  show l.foldl (· + ·) (0 + x) = _
  rw [sum_go l (0 + x), Nat.zero_add]; rfl
theorem sum_snoc (x : Nat) : ∀ l : List Nat, Kyd.sum (l ++ [x]) = Kyd.sum l + x
  | [] => by rw [List.nil_append, sum_cons]; exact Nat.add_comm _ _
  | y :: l => by rw [List.cons_append, sum_cons, sum_cons, sum_snoc x l]; omega

/-- a list by its places -/
theorem S_list (l : List Nat) (f : Nat → Nat) : Kyd.sum (l.map f) = S (fun j => f (l.getD j 0)) l.length := by
  have h : ∀ (r : Nat) (hr : r ≤ l.length), Kyd.sum ((l.take r).map f) = S (fun j => f (l.getD j 0)) r := by
    intro r
    induction r with
    | zero => intro _; rfl
    | succ r ih =>
      intro hr
      have hlt : r < l.length := hr
      rw [List.take_succ_eq_append_getElem hlt, List.map_append, List.map_cons, List.map_nil, sum_snoc, ih (by omega)]
      show _ = S _ r + f (l.getD r 0)
      rw [List.getD_eq_getElem?_getD, List.getElem?_eq_getElem hlt]; rfl
  have := h l.length (Nat.le_refl _)
  rwa [List.take_length] at this

theorem due_plan (n : Nat) (l : List Nat) (k : Nat) : due n (l.map fun m => (m, 0)) k = S (fun j => if has (l.getD j 0) k then part n (l.getD j 0) else 0) l.length := by
  unfold due
  rw [List.map_map]
  exact S_list l _

theorem filter_len (p : Nat → Bool) (c : Nat) : ∀ n : Nat, S (fun k => if p k then c else 0) n = ((List.range n).filter p).length * c
  | 0 => by simp [S]
  | n + 1 => by
    show S _ n + (if p n then c else 0) = _
    rw [filter_len p c n, List.range_succ, List.filter_append, List.length_append]
    cases h : p n <;> simp [h, Nat.add_mul]

theorem riders_le (n m : Nat) : (riders n m).length ≤ n := by
  have := List.length_filter_le (has m) (List.range n)
  rwa [List.length_range] at this

/-- a mask that isn't empty has a bit within -/
theorem some_bit : ∀ (n m : Nat), m < 2 ^ n → m ≠ 0 → ∃ k, k < n ∧ has m k = true
  | 0, m, h, e => absurd (Nat.lt_one_iff.mp h) e
  | n + 1, m, h, e => by
    by_cases q : m % 2 = 1
    · exact ⟨0, by omega, by simp [has, q]⟩
    · obtain ⟨k, hk, r⟩ := some_bit n (m / 2) (by rw [Nat.pow_succ] at h; omega) (by omega)
      refine ⟨k + 1, by omega, ?_⟩
      unfold has at r ⊢
      rwa [Nat.pow_succ, Nat.mul_comm, ← Nat.div_div_eq_div_mul]

theorem ok_iff {n m : Nat} : okRide n m = true ↔ m < 2 ^ n ∧ m ≠ 0 := by simp [okRide]
theorem mem_riders {n m k : Nat} : k ∈ riders n m ↔ k < n ∧ has m k = true := by simp [riders, List.mem_filter]

theorem riders_pos {n m : Nat} (h : okRide n m = true) : 0 < (riders n m).length := by
  obtain ⟨a, b⟩ := ok_iff.mp h
  obtain ⟨k, hk, r⟩ := some_bit n m a b
  exact List.length_pos_of_mem (mem_riders.mpr ⟨hk, r⟩)

theorem part_whole {n m : Nat} (hn : n ≤ 10) (h : okRide n m = true) : (riders n m).length * part n m = whole := by
  have a := riders_pos h
  have b := riders_le n m
  unfold part
  generalize (riders n m).length = x at *
  have : x = 1 ∨ x = 2 ∨ x = 3 ∨ x = 4 ∨ x = 5 ∨ x = 6 ∨ x = 7 ∨ x = 8 ∨ x = 9 ∨ x = 10 := by omega
  rcases this with rfl | rfl | rfl | rfl | rfl | rfl | rfl | rfl | rfl | rfl <;> decide

theorem day_sum {n m : Nat} (hn : n ≤ 10) (h : okRide n m = true) : S (fun k => if has m k then part n m else 0) n = whole := by
  rw [filter_len]; exact part_whole hn h

theorem times_cons (x : Nat) (d : List Nat) (k : Nat) : times (x :: d) k = times d k + (if x = k then 1 else 0) := by
  unfold times
  rw [List.filter_cons]
  by_cases q : x = k
  · simp [q]
  · simp [q]
theorem times_append (d e : List Nat) (k : Nat) : times (d ++ e) k = times d k + times e k := by simp [times]
theorem times_reverse (d : List Nat) (k : Nat) : times d.reverse k = times d k := by simp [times, List.filter_reverse]

/-- each day one who rides -/
inductive Way (n : Nat) : List Nat → List Nat → Prop
  | nil : Way n [] []
  | cons {m k : Nat} {l e : List Nat} : k ∈ riders n m → Way n l e → Way n (m :: l) (k :: e)
theorem Way.length {n : Nat} : ∀ {l e : List Nat}, Way n l e → l.length = e.length
  | _, _, .nil => rfl
  | _, _, .cons _ w => by simp [w.length]
/-- everybody's drives are fair -/
def Fair (n : Nat) (all d : List Nat) : Prop := ∀ k, k < n → atLeast n all k ≤ times d k ∧ times d k ≤ atMost n all k

theorem first_some {f : Nat → Option (List Nat)} {k : Nat} : ∀ {l : List Nat}, k ∈ l → f k ≠ none → Kyd.first f l ≠ none
  | x :: l, h, e => by
    unfold Kyd.first
    cases q : f x with
    | some _ => simp
    | none =>
      rcases List.mem_cons.mp h with rfl | h
      · exact absurd q e
      · exact first_some h e

theorem wayOn_some {n : Nat} {all : List Nat} : ∀ {l e : List Nat} (d : List Nat), Way n l e → Fair n all (e.reverse ++ d) → wayOn n all l d ≠ none
  | _, _, d, .nil, h => by
    have q : ((List.range n).all fun k => decide (atLeast n all k ≤ times d k) && decide (times d k ≤ atMost n all k)) = true := by
      rw [List.all_eq_true]
      intro k hk
      have := h k (List.mem_range.mp hk)
      simpa using this
    unfold wayOn
    rw [if_pos q]
    simp
  | _, _, d, .cons (m := m) (k := k) (l := l) (e := e) hk w, h => by
    unfold wayOn
    have hr := mem_riders.mp hk
    have e1 : (k :: e).reverse ++ d = e.reverse ++ (k :: d) := by simp
    rw [e1] at h
    refine first_some hk ?_
    have := (h k hr.1).2
    rw [times_append, times_cons, if_pos rfl] at this
    rw [if_pos (by omega)]
    exact wayOn_some (k :: d) w h

theorem way_of (n : Nat) (a : Nat → Nat) : ∀ (l : List Nat) (i : Nat), (∀ j, j < l.length → a (i + j) ∈ riders n (l.getD j 0)) → Way n l ((List.range l.length).map fun j => a (i + j))
  | [], _, _ => .nil
  | m :: l, i, h => by
    have h0 := h 0 (by simp)
    have hs := way_of n a l (i + 1) fun j hj => by
      have := h (j + 1) (by simpa using hj)
      have e : i + (j + 1) = i + 1 + j := by omega
      rw [e] at this
      simpa using this
    have e : (List.range (m :: l).length).map (fun j => a (i + j)) = a (i + 0) :: (List.range l.length).map (fun j => a (i + 1 + j)) := by
      rw [List.length_cons, List.range_succ_eq_map, List.map_cons, List.map_map]
      congr 1
      refine List.map_congr_left fun j _ => ?_
      show a (i + (j + 1)) = _
      congr 1; omega
    rw [e]
    exact .cons h0 hs

theorem times_of (a : Nat → Nat) (k : Nat) : ∀ L : Nat, times ((List.range L).map a) k = C L a k
  | 0 => rfl
  | L + 1 => by
    rw [List.range_succ, List.map_append, times_append, times_of a k L]
    show _ = C L a k + (if a L = k then 1 else 0)
    rw [List.map_cons, List.map_nil, times_cons]
    simp [times]

/-- **there's always a plan** -/
theorem always {n : Nat} (hn : n ≤ 10) {l : List Nat} (h : ∀ m, m ∈ l → okRide n m = true) : ∃ e, Way n l e ∧ Fair n l e := by
  have hget : ∀ j, j < l.length → okRide n (l.getD j 0) = true := fun j hj => by
    rw [List.getD_eq_getElem?_getD, List.getElem?_eq_getElem hj]
    exact h _ (List.getElem_mem hj)
  have a0 : ∃ a : Nat → Nat, Valid n l.length (fun j k => has (l.getD j 0) k) a := by
    refine ⟨fun j => (riders n (l.getD j 0)).headD 0, fun j hj => ?_⟩
    have := riders_pos (hget j hj)
    have hm : (riders n (l.getD j 0)).headD 0 ∈ riders n (l.getD j 0) := by
      cases e : riders n (l.getD j 0) with
      | nil => rw [e] at this; simp at this
      | cons x r => simp
    exact mem_riders.mp hm
  obtain ⟨a0, v0⟩ := a0
  obtain ⟨a, va, fa⟩ := balanced (n := n) (L := l.length) (R := fun j k => has (l.getD j 0) k) (w := fun j k => if has (l.getD j 0) k then part n (l.getD j 0) else 0) (W := whole)
    (by decide) (fun j hj => day_sum hn (hget j hj)) (fun j k e => if_neg (by rw [e]; decide)) _ a0 v0 (Nat.le_refl _)
  have w := way_of n a l 0 fun j hj => mem_riders.mpr (by rw [Nat.zero_add]; exact va j hj)
  simp only [Nat.zero_add] at w
  refine ⟨_, w, fun k hk => ?_⟩
  rw [times_of, atLeast, atMost, due_plan]
  exact fa k hk

theorem planned_some {n : Nat} (hn : n ≤ 10) {l : List Nat} (h : ∀ m, m ∈ l → okRide n m = true) : planned n l ≠ none := by
  obtain ⟨e, w, f⟩ := always hn h
  refine wayOn_some (all := l) [] w ?_
  rw [List.append_nil]
  exact fun k hk => by rw [times_reverse]; exact f k hk
end KPlan

/-! Who can drive, found by asking around: plain Lean, no code in it. -/
namespace KMatch
open KPlan

def fupd {α : Type} (f : Nat → α) (j : Nat) (v : α) : Nat → α := fun i => if i = j then v else f i
theorem fupd_same {α : Type} {f : Nat → α} {j : Nat} {v : α} : fupd f j v j = v := if_pos rfl
theorem fupd_ne {α : Type} {f : Nat → α} {j i : Nat} {v : α} (h : i ≠ j) : fupd f j v i = f i := if_neg h

/-- how many days somebody drives; how many days are driven -/
def Cp (L : Nat) (g : Nat → Option Nat) (k : Nat) : Nat := S (fun j => if g j = some k then 1 else 0) L
def As (L : Nat) (g : Nat → Option Nat) : Nat := S (fun j => if (g j).isSome = true then 1 else 0) L

section
variable (n L : Nat) (rs : Nat → List Nat)
/-- who drives rides -/
def PV (g : Nat → Option Nat) : Prop := ∀ j, j < L → ∀ k, g j = some k → k ∈ rs j
/-- people who have no drive left, and all who ride on their days are among them -/
def Closed (T : Nat → Bool) (g : Nat → Option Nat) (left : Nat → Nat) : Prop :=
  ∀ p, p < n → T p = true → left p = 0 ∧ ∀ j, j < L → g j = some p → ∀ q, q ∈ rs j → T q = true
def Grow (a a' : Nat → Bool) : Prop := ∀ p, p < n → a p = true → a' p = true
def NewC (g : Nat → Option Nat) (left : Nat → Nat) (a a' : Nat → Bool) : Prop :=
  ∀ p, p < n → a' p = true → a p = false → left p = 0 ∧ ∀ j, j < L → g j = some p → ∀ q, q ∈ rs j → a' q = true
def FixAt (g : Nat → Option Nat) (a : Nat → Bool) (j : Nat) : Prop := g j = none ∨ ∃ p, g j = some p ∧ a p = true

structure FindNo (day : Nat) (g : Nat → Option Nat) (left : Nat → Nat) (a a' : Nat → Bool) : Prop where
  grow : Grow n a a'
  all : ∀ q, q ∈ rs day → a' q = true
  new : NewC n L rs g left a a'
structure FindYes (day : Nat) (g : Nat → Option Nat) (left : Nat → Nat) (a : Nat → Bool) (g' : Nat → Option Nat) (left' : Nat → Nat) : Prop where
  pv : PV L rs g'
  bal : ∀ p, p < n → left' p + Cp L g' p + (if g day = some p then 1 else 0) = left p + Cp L g p
  fix : ∀ j, j < L → j ≠ day → FixAt g a j → g' j = g j
  here : (g' day).isSome = true
  keep : ∀ j, j < L → (g j).isSome = true → (g' j).isSome = true
  cl : ∀ T, Closed n L rs T g left → (∃ q, q ∈ rs day ∧ T q = false) ∧ Closed n L rs T g' left'
structure TakeNo (q : Nat) (g : Nat → Option Nat) (left : Nat → Nat) (a a' : Nat → Bool) : Prop where
  grow : Grow n a a'
  zero : left q = 0
  all : ∀ j, j < L → g j = some q → ∀ r, r ∈ rs j → a' r = true
  new : NewC n L rs g left a a'
structure TakeYes (q : Nat) (g : Nat → Option Nat) (left : Nat → Nat) (a : Nat → Bool) (g' : Nat → Option Nat) (left' : Nat → Nat) : Prop where
  pv : PV L rs g'
  bal : ∀ p, p < n → left' p + Cp L g' p + (if p = q then 1 else 0) = left p + Cp L g p
  fix : ∀ j, j < L → g j ≠ some q → FixAt g a j → g' j = g j
  keep : ∀ j, j < L → (g j).isSome = true → (g' j).isSome = true
  cl : ∀ T, Closed n L rs T g left → T q = false ∧ Closed n L rs T g' left'
/-- of the days so far all that q drives were asked in vain -/
structure TakeUp (q i : Nat) (g : Nat → Option Nat) (left : Nat → Nat) (a a' : Nat → Bool) : Prop where
  grow : Grow n a a'
  all : ∀ j, j < i → g j = some q → ∀ r, r ∈ rs j → a' r = true
  new : NewC n L rs g left a a'
/-- of those who ride so many were asked in vain -/
structure FindUp (day i : Nat) (g : Nat → Option Nat) (left : Nat → Nat) (a a' : Nat → Bool) : Prop where
  grow : Grow n a a'
  all : ∀ q, q ∈ (rs day).take i → a' q = true
  new : NewC n L rs g left a a'
end

section
variable {n L : Nat} {rs : Nat → List Nat} {g g' : Nat → Option Nat} {left left' : Nat → Nat} {a a1 a' : Nat → Bool} {q day i j : Nat}

theorem Cp_upd {g : Nat → Option Nat} {j k : Nat} (hj : j < L) (p : Nat) : Cp L (fupd g j (some k)) p + (if g j = some p then 1 else 0) = Cp L g p + (if p = k then 1 else 0) := by
  have h := S_upd (f := fun i => if fupd g j (some k) i = some p then 1 else 0) (g := fun i => if g i = some p then 1 else 0) (j := j) (n := L)
    (fun i _ hi => by simp only [fupd_ne hi]) hj
  have e1 : (if fupd g j (some k) j = some p then 1 else 0) = (if p = k then 1 else 0) := by
    rw [fupd_same]
    by_cases c : k = p
    · subst c; simp
    · rw [if_neg fun z => c (Option.some.inj z), if_neg fun z => c z.symm]
  simp only [e1] at h
  exact h

theorem Grow.refl : Grow n a a := fun _ _ h => h
theorem Grow.trans (h : Grow n a a1) (h' : Grow n a1 a') : Grow n a a' := fun p hp e => h' p hp (h p hp e)
theorem NewC.refl : NewC n L rs g left a a := fun p _ h1 h2 => by rw [h1] at h2; cases h2
theorem FixAt.grow (hrs : ∀ j, j < L → ∀ q, q ∈ rs j → q < n) (pv : PV L rs g) (hj : j < L) (h : FixAt g a j) (gr : Grow n a a1) : FixAt g a1 j := by
  rcases h with h | ⟨p, h, e⟩
  · exact .inl h
  · exact .inr ⟨p, h, gr p (hrs j hj p (pv j hj p h)) e⟩

theorem take_left (hq : q < n) (pv : PV L rs g) (h : 0 < left q) : TakeYes n L rs q g left a g (fupd left q (left q - 1)) where
  pv := pv
  bal p hp := by
    by_cases c : p = q
    · subst c; rw [fupd_same, if_pos rfl]; omega
    · rw [fupd_ne c, if_neg c]; omega
  fix _ _ _ _ := rfl
  keep _ _ h := h
  cl T c := by
    have ht : T q = false := by
      cases e : T q with
      | false => rfl
      | true => have := (c q hq e).1; omega
    refine ⟨ht, fun p hp e => ?_⟩
    have hpq : p ≠ q := fun z => by subst z; rw [e] at ht; cases ht
    rw [fupd_ne hpq]
    exact c p hp e

theorem take_find (hrs : ∀ j, j < L → ∀ q, q ∈ rs j → q < n) (pv : PV L rs g) (hq : q < n) (hj : j < L) (e : g j = some q) (gr : Grow n a a1) (F : FindYes n L rs j g left a1 g' left') : TakeYes n L rs q g left a g' left' where
  pv := F.pv
  bal p hp := by
    have := F.bal p hp
    rw [e] at this
    by_cases c : p = q
    · subst c; rw [if_pos rfl] at this ⊢; exact this
    · rw [if_neg fun z => c (Option.some.inj z).symm] at this; rw [if_neg c]; exact this
  fix i hi hne fx := F.fix i hi (fun z => by subst z; exact hne e) (fx.grow hrs pv hi gr)
  keep := F.keep
  cl T c := by
    obtain ⟨⟨r, hr, hT⟩, c'⟩ := F.cl T c
    refine ⟨?_, c'⟩
    cases eT : T q with
    | false => rfl
    | true =>
      have := (c q hq eT).2 j hj e r hr
      rw [hT] at this; cases this

theorem TakeUp.zero : TakeUp n L rs q 0 g left a a := ⟨Grow.refl, fun j h => absurd h (Nat.not_lt_zero _), NewC.refl⟩
theorem TakeUp.skip (u : TakeUp n L rs q i g left a a') (h : g i ≠ some q) : TakeUp n L rs q (i + 1) g left a a' :=
  ⟨u.grow, fun j hj e r hr => by
    by_cases c : j = i
    · subst c; exact absurd e h
    · exact u.all j (by omega) e r hr, u.new⟩
theorem NewC.trans (hrs : ∀ j, j < L → ∀ q, q ∈ rs j → q < n) (h : NewC n L rs g left a a1) (gr : Grow n a1 a') (h' : NewC n L rs g left a1 a') : NewC n L rs g left a a' := fun p hp e1 e2 => by
  cases c : a1 p with
  | false => exact h' p hp e1 c
  | true =>
    have := h p hp c e2
    exact ⟨this.1, fun j hj e q hq => gr q (hrs j hj q hq) (this.2 j hj e q hq)⟩
theorem TakeUp.no (hrs : ∀ j, j < L → ∀ q, q ∈ rs j → q < n) (hi : i < L) (u : TakeUp n L rs q i g left a a1) (F : FindNo n L rs i g left a1 a') : TakeUp n L rs q (i + 1) g left a a' :=
  ⟨u.grow.trans F.grow, fun j hj e r hr => by
    by_cases c : j = i
    · subst c; exact F.all r hr
    · exact F.grow r (hrs j (by omega) r hr) (u.all j (by omega) e r hr), u.new.trans hrs F.grow F.new⟩
theorem TakeUp.fin (u : TakeUp n L rs q L g left a a') (h : left q = 0) : TakeNo n L rs q g left a a' := ⟨u.grow, h, u.all, u.new⟩

theorem FindUp.zero : FindUp n L rs day 0 g left a a := ⟨Grow.refl, fun q h => by simp at h, NewC.refl⟩
theorem FindUp.skip (u : FindUp n L rs day i g left a a') (hq : (rs day)[i]? = some q) (h : a' q = true) : FindUp n L rs day (i + 1) g left a a' :=
  ⟨u.grow, fun r hr => by
    rw [List.take_add_one, hq] at hr
    rcases List.mem_append.mp hr with hr | hr
    · exact u.all r hr
    · have : r = q := by simpa using hr
      rw [this]; exact h, u.new⟩
theorem mark_grow : Grow n a (fupd a q true) := fun p _ e => by
  by_cases c : p = q
  · subst c; exact fupd_same
  · rw [fupd_ne c]; exact e
theorem FindUp.no (hrs : ∀ j, j < L → ∀ q, q ∈ rs j → q < n) (hd : day < L) (u : FindUp n L rs day i g left a a1) (hq : (rs day)[i]? = some q) (h : a1 q = false) (F : TakeNo n L rs q g left (fupd a1 q true) a') :
    FindUp n L rs day (i + 1) g left a a' := by
  have hqn : q < n := hrs day hd q (List.mem_of_getElem? hq)
  have gr : Grow n a1 a' := mark_grow.trans F.grow
  refine ⟨u.grow.trans gr, fun r hr => ?_, fun p hp e1 e2 => ?_⟩
  · have hrn : r < n := hrs day hd r (List.mem_of_mem_take hr)
    rw [List.take_add_one, hq] at hr
    rcases List.mem_append.mp hr with hr | hr
    · exact gr r hrn (u.all r hr)
    · have : r = q := by simpa using hr
      rw [this]; exact F.grow q hqn fupd_same
  · cases c : a1 p with
    | true =>
      have := u.new p hp c e2
      exact ⟨this.1, fun j hj e q hq => gr q (hrs j hj q hq) (this.2 j hj e q hq)⟩
    | false =>
      by_cases z : p = q
      · subst z; exact ⟨F.zero, F.all⟩
      · exact F.new p hp e1 (by rw [fupd_ne z]; exact c)
theorem FindUp.fin (u : FindUp n L rs day (rs day).length g left a a') : FindNo n L rs day g left a a' := ⟨u.grow, fun q hq => u.all q (by rw [List.take_length]; exact hq), u.new⟩
theorem FindUp.yes (hrs : ∀ j, j < L → ∀ q, q ∈ rs j → q < n) (hd : day < L) (pv : PV L rs g) (fx : FixAt g a day) (u : FindUp n L rs day i g left a a1) (hq : q ∈ rs day) (h : a1 q = false) (F : TakeYes n L rs q g left (fupd a1 q true) g' left') :
    FindYes n L rs day g left a (fupd g' day (some q)) left' := by
  have hne : ∀ j, j < L → FixAt g a j → g j ≠ some q := fun j hj f z => by
    rcases f with f | ⟨p, f, e⟩
    · rw [f] at z; cases z
    · rw [z] at f
      cases f
      have := u.grow q (hrs day hd q hq) e
      rw [h] at this; cases this
  have gr : Grow n a (fupd a1 q true) := u.grow.trans mark_grow
  have ed : g' day = g day := F.fix day hd (hne day hd fx) (fx.grow hrs pv hd gr)
  refine ⟨fun j hj k e => ?_, fun p hp => ?_, fun j hj hjd f => ?_, ?_, fun j hj e => ?_, fun T c => ?_⟩
  · by_cases c : j = day
    · subst c; rw [fupd_same] at e; cases e; exact hq
    · rw [fupd_ne c] at e; exact F.pv j hj k e
  · have h1 := F.bal p hp
    have h2 := Cp_upd (g := g') (k := q) hd p
    rw [ed] at h2
    omega
  · rw [fupd_ne hjd]; exact F.fix j hj (hne j hj f) (f.grow hrs pv hj gr)
  · rw [fupd_same]; rfl
  · by_cases c : j = day
    · subst c; rw [fupd_same]; rfl
    · rw [fupd_ne c]; exact F.keep j hj e
  · obtain ⟨ht, c'⟩ := F.cl T c
    refine ⟨⟨q, hq, ht⟩, fun p hp e => ⟨(c' p hp e).1, fun j hj ej r hr => ?_⟩⟩
    by_cases z : j = day
    · subst z
      rw [fupd_same] at ej
      cases ej
      rw [ht] at e; cases e
    · rw [fupd_ne z] at ej
      exact (c' p hp e).2 j hj ej r hr
end

/-! ## all days one behind another -/
structure Days (n L : Nat) (rs : Nat → List Nat) (cap : Nat → Nat) (i : Nat) (g : Nat → Option Nat) (left : Nat → Nat) : Prop where
  pv : PV L rs g
  bal : ∀ p, p < n → left p + Cp L g p = cap p
  more : ∀ j, j < L → i ≤ j → g j = none
  cl : ∃ T, Closed n L rs T g left ∧ ∀ j, j < i → g j = none → ∀ q, q ∈ rs j → T q = true
section
variable {n L : Nat} {rs : Nat → List Nat} {cap : Nat → Nat} {g g' : Nat → Option Nat} {left left' : Nat → Nat} {a' : Nat → Bool} {i : Nat}
theorem Days.zero : Days n L rs cap 0 (fun _ => none) cap := by
  have z : ∀ p, Cp L (fun _ => none) p = 0 := fun p => by
    unfold Cp
    rw [S_congr (g := fun _ => 0) fun i _ => if_neg (by simp), S_zero]
  refine ⟨fun _ _ _ h => (nomatch h), fun p _ => (by rw [z p]; exact Nat.add_zero _), fun _ _ _ => rfl, fun _ => false, fun _ _ h => (nomatch h), fun _ h => absurd h (Nat.not_lt_zero _)⟩
theorem Days.no (d : Days n L rs cap i g left) (hi : i < L) (F : FindNo n L rs i g left (fun _ => false) a') : Days n L rs cap (i + 1) g left := by
  obtain ⟨T, c, h⟩ := d.cl
  have o1 : ∀ q, T q = true → (fun p => T p || a' p) q = true := fun q e => by show (T q || a' q) = true; rw [e]; rfl
  have o2 : ∀ q, a' q = true → (fun p => T p || a' p) q = true := fun q e => by show (T q || a' q) = true; rw [e, Bool.or_true]
  refine ⟨d.pv, d.bal, fun j hj z => d.more j hj (by omega), fun p => T p || a' p, fun p hp e => ?_, fun j hj e q hq => ?_⟩
  · rw [Bool.or_eq_true] at e
    rcases e with e | e
    · exact ⟨(c p hp e).1, fun j hj ej q hq => o1 q ((c p hp e).2 j hj ej q hq)⟩
    · have := F.new p hp e rfl
      exact ⟨this.1, fun j hj ej q hq => o2 q (this.2 j hj ej q hq)⟩
  · by_cases z : j = i
    · subst z; exact o2 q (F.all q hq)
    · exact o1 q (h j (by omega) e q hq)
theorem Days.yes (d : Days n L rs cap i g left) (hi : i < L) (F : FindYes n L rs i g left (fun _ => false) g' left') : Days n L rs cap (i + 1) g' left' ∧ As L g' = As L g + 1 := by
  obtain ⟨T, c, h⟩ := d.cl
  have ei := d.more i hi (Nat.le_refl _)
  have non : ∀ j, j < L → j ≠ i → ((g' j).isSome = true ↔ (g j).isSome = true) := fun j hj z => by
    refine ⟨fun e => ?_, F.keep j hj⟩
    cases q : g j with
    | some _ => rfl
    | none => rw [F.fix j hj z (.inl q), q] at e; exact e
  refine ⟨⟨F.pv, fun p hp => ?_, fun j hj z => ?_, T, (F.cl T c).2, fun j hj e q hq => ?_⟩, ?_⟩
  · have := F.bal p hp
    rw [ei, if_neg (by simp)] at this
    rw [← d.bal p hp]; omega
  · have := d.more j hj (by omega)
    rw [F.fix j hj (by omega) (.inl this), this]
  · by_cases z : j = i
    · subst z
      have := F.here
      rw [e] at this; cases this
    · refine h j (by omega) ?_ q hq
      cases w : g j with
      | none => rfl
      | some x =>
        have := (non j (by omega) z).mpr (by rw [w]; rfl)
        rw [e] at this; cases this
  · have := S_upd (f := fun j => if (g' j).isSome = true then 1 else 0) (g := fun j => if (g j).isSome = true then 1 else 0) (j := i) (n := L) (fun j hj z => by
      by_cases w : (g j).isSome = true
      · rw [if_pos w, if_pos ((non j hj z).mpr w)]
      · rw [if_neg w, if_neg fun u => w ((non j hj z).mp u)]) hi
    simp only [F.here, ei] at this
    unfold As
    simpa using this

/-- so many days can be driven, and no more -/
structure Best (n L : Nat) (rs : Nat → List Nat) (cap : Nat → Nat) (r : Nat) : Prop where
  ex : ∃ g, PV L rs g ∧ (∀ p, p < n → Cp L g p ≤ cap p) ∧ As L g = r
  most : ∀ h, PV L rs h → (∀ p, p < n → Cp L h p ≤ cap p) → As L h ≤ r

/-- the drives of some people, counted by the people and by the days -/
def inT (T : Nat → Bool) : Option Nat → Bool
  | none => false
  | some p => T p
theorem count_in (T : Nat → Bool) {h : Nat → Option Nat} (hh : ∀ j, j < L → ∀ k, h j = some k → k < n) : S (fun p => if T p = true then Cp L h p else 0) n = S (fun j => if inT T (h j) = true then 1 else 0) L := by
  have e1 : S (fun p => if T p = true then Cp L h p else 0) n = S (fun p => S (fun j => if T p = true ∧ h j = some p then 1 else 0) L) n := by
    refine S_congr fun p _ => ?_
    by_cases c : T p = true
    · rw [if_pos c]; unfold Cp
      exact S_congr fun j _ => by simp [c]
    · rw [if_neg c]
      rw [S_congr (g := fun _ => 0) fun j _ => if_neg fun z => c z.1, S_zero]
  rw [e1, S_swap (fun j p => if T p = true ∧ h j = some p then 1 else 0)]
  refine S_congr fun j hj => ?_
  cases e : h j with
  | none =>
    rw [S_congr (g := fun _ => 0) fun p _ => if_neg (by simp), S_zero]
    simp [inT]
  | some k =>
    have hk := hh j hj k e
    have e2 : S (fun p => if T p = true ∧ some k = some p then 1 else 0) n = S (fun p => if k = p then (if T k = true then 1 else 0) else 0) n := by
      refine S_congr fun p _ => ?_
      by_cases c : k = p
      · subst c; simp
      · rw [if_neg c, if_neg fun z => c (Option.some.inj z.2)]
    rw [e2, S_one hk]
    rfl

theorem Days.best (hrs : ∀ j, j < L → ∀ q, q ∈ rs j → q < n) (d : Days n L rs cap L g left) : Best n L rs cap (As L g) := by
  refine ⟨⟨g, d.pv, fun p hp => by have := d.bal p hp; omega, rfl⟩, fun h pv hc => ?_⟩
  obtain ⟨T, c, hT⟩ := d.cl
  have cg := count_in (n := n) (L := L) T (h := g) fun j hj k e => hrs j hj k (d.pv j hj k e)
  have ch := count_in (n := n) (L := L) T (h := h) fun j hj k e => hrs j hj k (pv j hj k e)
  have le : S (fun p => if T p = true then Cp L h p else 0) n ≤ S (fun p => if T p = true then Cp L g p else 0) n := S_mono fun p hp => by
    by_cases z : T p = true
    · rw [if_pos z, if_pos z]
      have h1 := hc p hp
      have h2 := d.bal p hp
      have h3 := (c p hp z).1
      omega
    · rw [if_neg z, if_neg z]; exact Nat.le_refl _
  rw [cg, ch] at le
  have eg : As L g = S (fun j => if inT T (g j) = true then 1 else 0) L + S (fun j => if (g j).isSome = true ∧ inT T (g j) = false then 1 else 0) L := by
    rw [← S_add]
    refine S_congr fun j _ => ?_
    cases e : g j with
    | none => simp [inT]
    | some k =>
      cases w : T k <;> simp [inT, w]
  have eh : As L h ≤ S (fun j => if inT T (h j) = true then 1 else 0) L + S (fun j => if (g j).isSome = true ∧ inT T (g j) = false then 1 else 0) L := by
    rw [← S_add]
    refine S_mono fun j hj => ?_
    cases e : h j with
    | none => simp
    | some k =>
      have hk := pv j hj k e
      by_cases w : T k = true
      · simp [inT, w]
      · have : (g j).isSome = true ∧ inT T (g j) = false := by
          cases eg : g j with
          | none => exact absurd (hT j hj eg k hk) w
          | some p =>
            refine ⟨rfl, ?_⟩
            show T p = false
            cases z : T p with
            | false => rfl
            | true => exact absurd ((c p (hrs j hj p (d.pv j hj p eg)) z).2 j hj eg k hk) w
        rw [if_pos this]
        simp
  omega
end
end KMatch

/-! When a way on is left: plain Lean, no code in it. -/
namespace KMatch
open KPlan

section
variable {n L : Nat} {rs : Nat → List Nat} {lo hi : Nat → Nat}

theorem S_le_lt {f g : Nat → Nat} {L : Nat} (h : S f L < S g L) : ∃ j, j < L ∧ f j < g j := by
  refine Classical.byContradiction fun z => ?_
  have := S_mono (f := g) (g := f) (n := L) fun i hi => Nat.le_of_not_lt fun w => z ⟨i, hi, w⟩
  omega
theorem S_eq {f g : Nat → Nat} {n : Nat} (h : ∀ i, i < n → f i ≤ g i) (e : S f n = S g n) : ∀ i, i < n → f i = g i := fun i hi => by
  refine Classical.byContradiction fun z => ?_
  have := S_lt h hi (by have := h i hi; omega)
  omega
theorem put_self (a : Nat → Nat) (j k : Nat) : put a j k j = k := if_pos rfl
theorem put_other {a : Nat → Nat} {i j k : Nat} (h : i ≠ j) : put a j k i = a i := if_neg h

/-- where all days can be driven and all drives that must be, a way does both -/
theorem both_ways (g : Nat → Option Nat) (pv : PV L rs g) (hg : ∀ k, k < n → Cp L g k = lo k) (hle : ∀ k, k < n → lo k ≤ hi k) : ∀ (m : Nat) (a : Nat → Nat), (∀ j, j < L → a j ∈ rs j) → (∀ k, k < n → C L a k ≤ hi k) →
    L ≤ S (fun j => if g j = some (a j) then 1 else 0) L + m → ∃ a, (∀ j, j < L → a j ∈ rs j) ∧ ∀ k, k < n → lo k ≤ C L a k ∧ C L a k ≤ hi k := by
  have ones : ∀ M : Nat, S (fun _ => 1) M = M := fun M => by
    induction M with
    | zero => rfl
    | succ M ih => show S _ M + 1 = _; rw [ih]
  intro m
  induction m with
  | zero =>
    intro a ha hc hm
    refine ⟨a, ha, fun k hk => ⟨?_, hc k hk⟩⟩
    have al := S_eq (f := fun j => if g j = some (a j) then 1 else 0) (g := fun _ => 1) (n := L) (fun i _ => by split <;> omega) (by
      have := S_mono (f := fun j => if g j = some (a j) then 1 else 0) (g := fun _ => 1) (n := L) (fun i _ => by split <;> omega)
      rw [ones] at this ⊢; omega)
    have : Cp L g k = C L a k := S_congr fun j hj => by
      have e := al j hj
      have e : g j = some (a j) := by
        refine Classical.byContradiction fun z => ?_
        rw [if_neg z] at e; cases e
      rw [e]
      by_cases c : a j = k
      · simp [c]
      · rw [if_neg c, if_neg fun z => c (Option.some.inj z)]
    rw [← hg k hk, this]; exact Nat.le_refl _
  | succ m ih =>
    intro a ha hc hm
    by_cases done : ∀ k, k < n → lo k ≤ C L a k
    · exact ⟨a, ha, fun k hk => ⟨done k hk, hc k hk⟩⟩
    obtain ⟨p, hp, hlt⟩ : ∃ p, p < n ∧ C L a p < lo p := by
      refine Classical.byContradiction fun z => done fun k hk => Nat.le_of_not_lt fun w => z ⟨k, hk, w⟩
    rw [← hg p hp] at hlt
    obtain ⟨j, hj, hjl⟩ := S_le_lt hlt
    have e1 : g j = some p := by
      refine Classical.byContradiction fun z => ?_
      rw [if_neg z] at hjl; omega
    have e2 : a j ≠ p := fun z => by
      rw [if_pos e1, if_pos z] at hjl; omega
    refine ih (put a j p) (fun i hi => ?_) (fun k hk => ?_) ?_
    · by_cases c : i = j
      · subst c; rw [put_self]; exact pv i hi p e1
      · rw [put_other c]; exact ha i hi
    · have h1 := put_C (a := a) (k := p) hj k
      have h2 := hc k hk
      by_cases c : k = p
      · subst c
        rw [if_neg fun z => e2 z.symm, if_pos rfl] at h1
        have := hg k hk
        have := hle k hk
        omega
      · rw [if_neg c] at h1
        omega
    · have h1 := S_upd (f := fun i => if g i = some (put a j p i) then 1 else 0) (g := fun i => if g i = some (a i) then 1 else 0) (j := j) (n := L) (fun i _ z => by simp only [put_other z]) hj
      simp only [put_self, e1] at h1
      rw [if_pos trivial, if_neg fun z => e2 (Option.some.inj z).symm] at h1
      omega

/-- the drives over what must be left out -/
def trim (a : Nat → Nat) (lo : Nat → Nat) : Nat → Option Nat := fun j => if C j a (a j) < lo (a j) then some (a j) else none
theorem trim_C (a lo : Nat → Nat) (k : Nat) : ∀ M : Nat, Cp M (trim a lo) k = min (C M a k) (lo k)
  | 0 => by show 0 = min 0 _; omega
  | M + 1 => by
    show Cp M (trim a lo) k + (if trim a lo M = some k then 1 else 0) = min (C M a k + (if a M = k then 1 else 0)) (lo k)
    rw [trim_C a lo k M]
    unfold trim
    by_cases c : a M = k
    · subst c
      by_cases d : C M a (a M) < lo (a M)
      · rw [if_pos d]; simp; omega
      · rw [if_neg d]; simp; omega
    · have : ¬ (if C M a (a M) < lo (a M) then some (a M) else none) = some k := by
        split
        · exact fun z => c (Option.some.inj z)
        · exact fun z => by cases z
      rw [if_neg this, if_neg c]; omega
theorem Cp_sum (hrs : ∀ j, j < L → ∀ q, q ∈ rs j → q < n) {g : Nat → Option Nat} (pv : PV L rs g) : S (fun p => Cp L g p) n = As L g := by
  have h := count_in (n := n) (L := L) (fun _ => true) (h := g) fun j hj k e => hrs j hj k (pv j hj k e)
  simp only [if_true] at h
  rw [h]
  refine S_congr fun j _ => ?_
  cases g j <;> simp [inT]

/-- **the two questions tell whether a way is left** -/
theorem asked_two (hrs : ∀ j, j < L → ∀ q, q ∈ rs j → q < n) (hle : ∀ k, k < n → lo k ≤ hi k) {r1 r2 : Nat} (b1 : Best n L rs hi r1) (b2 : Best n L rs lo r2) :
    (r1 = L ∧ r2 = S lo n) ↔ ∃ a : Nat → Nat, (∀ j, j < L → a j ∈ rs j) ∧ ∀ k, k < n → lo k ≤ C L a k ∧ C L a k ≤ hi k := by
  have ones : ∀ M : Nat, S (fun _ => 1) M = M := fun M => by
    induction M with
    | zero => rfl
    | succ M ih => show S _ M + 1 = _; rw [ih]
  constructor
  · rintro ⟨e1, e2⟩
    obtain ⟨f, pf, cf, af⟩ := b1.ex
    obtain ⟨g, pg, cg, ag⟩ := b2.ex
    have eq := S_eq (f := fun p => Cp L g p) (g := lo) (n := n) cg (by rw [Cp_sum hrs pg, ag, e2])
    have al : ∀ j, j < L → (f j).isSome = true := fun j hj => by
      have := S_eq (f := fun j => if (f j).isSome = true then 1 else 0) (g := fun _ => 1) (n := L) (fun i _ => by split <;> omega) (by
        rw [ones]; unfold As at af; rw [af, e1]) j hj
      refine Classical.byContradiction fun z => ?_
      rw [if_neg z] at this; cases this
    have ef : ∀ j, j < L → f j = some ((f j).getD 0) := fun j hj => by
      have := al j hj
      cases e : f j with
      | none => rw [e] at this; cases this
      | some k => rfl
    refine both_ways g pg eq hle L (fun j => (f j).getD 0) (fun j hj => pf j hj _ (ef j hj)) (fun k hk => ?_) (Nat.le_add_left _ _)
    have : C L (fun j => (f j).getD 0) k = Cp L f k := S_congr fun j hj => by
      have e := ef j hj
      by_cases c : (f j).getD 0 = k
      · rw [if_pos c]; rw [c] at e; rw [if_pos e]
      · rw [if_neg c, if_neg fun z => c (by rw [z]; rfl)]
    rw [this]; exact cf k hk
  · rintro ⟨a, ha, hc⟩
    constructor
    · have h1 := b1.most (fun j => some (a j)) (fun j hj k e => by cases e; exact ha j hj) (fun p hp => by
        have : Cp L (fun j => some (a j)) p = C L a p := S_congr fun j _ => by
          by_cases c : a j = p
          · simp [c]
          · rw [if_neg c, if_neg fun z => c (Option.some.inj z)]
        rw [this]; exact (hc p hp).2)
      have e1 : As L (fun j => some (a j)) = L := by
        unfold As; rw [S_congr (g := fun _ => 1) fun j _ => by simp, ones]
      obtain ⟨f, pf, cf, af⟩ := b1.ex
      have h2 : As L f ≤ L := by
        have := S_mono (f := fun j => if (f j).isSome = true then 1 else 0) (g := fun _ => 1) (n := L) (fun i _ => by split <;> omega)
        rwa [ones] at this
      omega
    · have pt : PV L rs (trim a lo) := fun j hj k e => by
        unfold trim at e
        split at e
        · cases e; exact ha j hj
        · cases e
      have ct : ∀ k, k < n → Cp L (trim a lo) k = lo k := fun k hk => by
        rw [trim_C]; have := (hc k hk).1; omega
      have h1 := b2.most (trim a lo) pt fun p hp => by rw [ct p hp]; exact Nat.le_refl _
      rw [← Cp_sum hrs pt, S_congr (g := lo) ct] at h1
      obtain ⟨f, pf, cf, af⟩ := b2.ex
      rw [← Cp_sum hrs pf] at af
      have h2 := S_mono (f := fun p => Cp L f p) (g := lo) (n := n) cf
      omega
end

/-- a way in which everybody drives as often as told -/
def Fit (n L : Nat) (rs : Nat → List Nat) (lo hi : Nat → Nat) : Prop := ∃ a : Nat → Nat, (∀ j, j < L → a j ∈ rs j) ∧ ∀ k, k < n → lo k ≤ C L a k ∧ C L a k ≤ hi k
theorem fit_all {n L : Nat} {rs : Nat → List Nat} {lo hi : Nat → Nat} {r1 : Nat} (b1 : Best n L rs hi r1) (h : Fit n L rs lo hi) : r1 = L := by
  obtain ⟨a, ha, hc⟩ := h
  have ones : ∀ M : Nat, S (fun _ => 1) M = M := fun M => by
    induction M with
    | zero => rfl
    | succ M ih => show S _ M + 1 = _; rw [ih]
  have h1 := b1.most (fun j => some (a j)) (fun j hj k e => by cases e; exact ha j hj) (fun p hp => by
    have : Cp L (fun j => some (a j)) p = C L a p := S_congr fun j _ => by
      by_cases c : a j = p
      · simp [c]
      · rw [if_neg c, if_neg fun z => c (Option.some.inj z)]
    rw [this]; exact (hc p hp).2)
  have e1 : As L (fun j => some (a j)) = L := by
    unfold As; rw [S_congr (g := fun _ => 1) fun j _ => by simp, ones]
  obtain ⟨f, pf, cf, af⟩ := b1.ex
  have h2 : As L f ≤ L := by
    have := S_mono (f := fun j => if (f j).isSome = true then 1 else 0) (g := fun _ => 1) (n := L) (fun i _ => by split <;> omega)
    rwa [ones] at this
  omega

/-! ## the specification's way on -/
open Kyd
theorem first_mem {f : Nat → Option (List Nat)} {x : List Nat} : ∀ {l : List Nat}, Kyd.first f l = some x → ∃ k, k ∈ l ∧ f k = some x
  | [], h => by cases h
  | y :: l, h => by
    unfold Kyd.first at h
    cases q : f y with
    | some z => rw [q] at h; cases h; exact ⟨y, List.mem_cons_self, q⟩
    | none =>
      rw [q] at h
      obtain ⟨k, hk, e⟩ := first_mem h
      exact ⟨k, List.mem_cons_of_mem _ hk, e⟩
theorem first_at {f : Nat → Option (List Nat)} : ∀ {l : List Nat} {i k : Nat}, l[i]? = some k → (∀ j y, j < i → l[j]? = some y → f y = none) → f k ≠ none → Kyd.first f l = f k
  | [], i, k, h, _, _ => by simp at h
  | y :: l, 0, k, h, _, e => by
    have : y = k := by simpa using h
    subst this
    unfold Kyd.first
    cases q : f y with
    | some z => rfl
    | none => exact absurd q e
  | y :: l, i + 1, k, h, hb, e => by
    unfold Kyd.first
    rw [hb 0 y (by omega) rfl]
    exact first_at (l := l) (i := i) (by simpa using h) (fun j z hj hz => hb (j + 1) z (by omega) (by simpa using hz)) e
theorem first_none {f : Nat → Option (List Nat)} : ∀ {l : List Nat}, (∀ j y, j < l.length → l[j]? = some y → f y = none) → Kyd.first f l = none
  | [], _ => rfl
  | y :: l, hb => by
    unfold Kyd.first
    rw [hb 0 y (by simp) rfl]
    exact first_none fun j z hj hz => hb (j + 1) z (by simpa using hj) (by simpa using hz)

theorem wayOn_way {n : Nat} {all : List Nat} : ∀ (l d : List Nat) (x : List Nat), wayOn n all l d = some x → ∃ e, Way n l e ∧ Fair n all (e.reverse ++ d)
  | [], d, x, h => by
    unfold wayOn at h
    split at h
    · rename_i q
      rw [List.all_eq_true] at q
      exact ⟨[], .nil, fun k hk => by simpa using q k (List.mem_range.mpr hk)⟩
    · cases h
  | m :: l, d, x, h => by
    unfold wayOn at h
    obtain ⟨k, hk, e⟩ := first_mem h
    split at e
    · obtain ⟨w, hw, hf⟩ := wayOn_way l (k :: d) x e
      refine ⟨k :: w, .cons hk hw, ?_⟩
      have e1 : (k :: w).reverse ++ d = w.reverse ++ (k :: d) := by simp
      rw [e1]; exact hf
    · cases e
/-- a way by its days -/
theorem way_get {n : Nat} : ∀ {l e : List Nat}, Way n l e → ∀ j, j < l.length → e.getD j 0 ∈ riders n (l.getD j 0)
  | _, _, .nil, j, h => absurd h (Nat.not_lt_zero _)
  | _, _, .cons hk w, 0, _ => hk
  | _, _, .cons hk w, j + 1, h => by
    have := way_get w j (by simpa using h)
    simpa using this
theorem times_get (e : List Nat) (k : Nat) : times e k = C e.length (fun j => e.getD j 0) k := by
  rw [← times_of]
  congr 1
  refine List.ext_getElem? fun i => ?_
  by_cases h : i < e.length
  · rw [List.getElem?_map, List.getElem?_range h]
    show e[i]? = some (e.getD i 0)
    rw [List.getD_eq_getElem?_getD, List.getElem?_eq_getElem h]; rfl
  · rw [List.getElem?_eq_none (by omega), List.getElem?_eq_none (by simp; omega)]

def loOf (n : Nat) (all d : List Nat) (k : Nat) : Nat := atLeast n all k - times d k
def hiOf (n : Nat) (all d : List Nat) (k : Nat) : Nat := atMost n all k - times d k
theorem least_most (n : Nat) (all : List Nat) (k : Nat) : atLeast n all k ≤ atMost n all k := Nat.div_le_div_right (Nat.le_add_right _ _)
theorem lo_hi (n : Nat) (all d : List Nat) (k : Nat) : loOf n all d k ≤ hiOf n all d k := by
  have := least_most n all k
  unfold loOf hiOf; omega
/-- **a way is left just where the specification finds one** -/
theorem fits_iff {n : Nat} {all l d : List Nat} (hd : ∀ k, k < n → times d k ≤ atMost n all k) :
    (∃ a : Nat → Nat, (∀ j, j < l.length → a j ∈ riders n (l.getD j 0)) ∧ ∀ k, k < n → loOf n all d k ≤ C l.length a k ∧ C l.length a k ≤ hiOf n all d k) ↔ wayOn n all l d ≠ none := by
  constructor
  · rintro ⟨a, ha, hc⟩
    have w := way_of n a l 0 fun j hj => by rw [Nat.zero_add]; exact ha j hj
    simp only [Nat.zero_add] at w
    refine wayOn_some d w fun k hk => ?_
    rw [times_append, times_reverse, times_of]
    have h1 : loOf n all d k ≤ C l.length (fun j => a j) k ∧ C l.length (fun j => a j) k ≤ hiOf n all d k := hc k hk
    have h2 := hd k hk
    unfold loOf hiOf at h1
    omega
  · intro h
    cases e : wayOn n all l d with
    | none => exact absurd e h
    | some x =>
      obtain ⟨w, hw, hf⟩ := wayOn_way l d x e
      refine ⟨fun j => w.getD j 0, way_get hw, fun k hk => ?_⟩
      have h1 := hf k hk
      have h2 := hd k hk
      rw [times_append, times_reverse] at h1
      rw [hw.length, ← times_get]
      unfold loOf hiOf
      omega
/-- may this one drive -/
def mayDrive (n : Nat) (all l d : List Nat) (k : Nat) : Option (List Nat) := if times d k < atMost n all k then wayOn n all l (k :: d) else none
theorem wayOn_cons (n : Nat) (all : List Nat) (m : Nat) (l d : List Nat) : wayOn n all (m :: l) d = Kyd.first (mayDrive n all l d) (riders n m) := by
  show Kyd.first _ _ = _
  rfl
theorem may_iff {n : Nat} {all l d : List Nat} (hd : ∀ k, k < n → times d k ≤ atMost n all k) {k : Nat} :
    (0 < hiOf n all d k ∧ Fit n l.length (fun j => riders n (l.getD j 0)) (loOf n all (k :: d)) (hiOf n all (k :: d))) ↔ mayDrive n all l d k ≠ none := by
  unfold mayDrive
  by_cases hm : times d k < atMost n all k
  · have hd' : ∀ j, j < n → times (k :: d) j ≤ atMost n all j := fun j hj => by
      rw [times_cons]
      have := hd j hj
      by_cases c : k = j
      · subst c; rw [if_pos rfl]; omega
      · rw [if_neg c]; omega
    rw [if_pos hm, ← fits_iff hd']
    refine ⟨fun h => h.2, fun h => ⟨?_, h⟩⟩
    unfold hiOf; omega
  · rw [if_neg hm]
    refine ⟨fun h => ?_, fun h => absurd rfl h⟩
    have := h.1
    unfold hiOf at this; omega
theorem dec_lo (n : Nat) (all d : List Nat) (k j : Nat) : loOf n all (k :: d) j = fupd (loOf n all d) k (loOf n all d k - 1) j := by
  unfold loOf fupd
  rw [times_cons]
  by_cases c : j = k
  · subst c; rw [if_pos rfl, if_pos rfl]; omega
  · rw [if_neg fun z => c z.symm, if_neg c]; rfl
theorem dec_hi (n : Nat) (all d : List Nat) (k j : Nat) : hiOf n all (k :: d) j = fupd (hiOf n all d) k (hiOf n all d k - 1) j := by
  unfold hiOf fupd
  rw [times_cons]
  by_cases c : j = k
  · subst c; rw [if_pos rfl, if_pos rfl]; omega
  · rw [if_neg fun z => c z.symm, if_neg c]; rfl
theorem dec_le {lo hi : Nat → Nat} (k : Nat) {j : Nat} (h : ∀ j, lo j ≤ hi j) : fupd lo k (lo k - 1) j ≤ fupd hi k (hi k - 1) j := by
  unfold fupd
  have h1 := h j
  have h2 := h k
  by_cases c : j = k
  · rw [if_pos c, if_pos c]; omega
  · rw [if_neg c, if_neg c]; exact h1
end KMatch

/-! A line's calls one behind another: plain Lean over the specification's own words, no code in it. -/
namespace KLine
open Kyd KydNeutral

/-- how a call stands in the list -/
def enc : Kyd.Call → List Int
  | .start n => [0, (n : Int)]
  | .who m => [1, (m : Int)]
  | .ride m => [2, (m : Int)]
  | .rideBy m k => [3, (m : Int), (k : Int)]
  | .back => [4]
  | .owes k => [5, (k : Int)]
  | .count k => [6, (k : Int)]
  | .plan l => 7 :: (l.length : Int) :: l.map fun (x : Nat) => (x : Int)
/-- what may be handed over -/
def Small : Kyd.Call → Prop
  | .start n => n < 2 ^ 32
  | .who m => m < 2 ^ 32
  | .ride m => m < 2 ^ 32
  | .rideBy m k => m < 2 ^ 32 ∧ k < 2 ^ 32
  | .back => True
  | .owes k => k < 2 ^ 32
  | .count k => k < 2 ^ 32
  | .plan l => l.length ≤ 20 ∧ ∀ x, x ∈ l → x < 2 ^ 16
/-- the rest of a line, from a state: what is asked of it, and what is due for it -/
def Line (s : S) (l out : List Int) : Prop :=
  ∃ (f : Nat) (cs : List (List (List Int))), PyFlat.calls PyKyd.shape f l = some cs ∧ cs.all asked1 = true ∧ may s cs = true ∧ out = PyFlat.told (PyFlat.played step s cs)

theorem nat_of {z : Int} {b : Nat} (h : natural z b = true) : ∃ k : Nat, z = (k : Int) ∧ k < 2 ^ b := by
  unfold natural at h
  rw [Bool.and_eq_true, decide_eq_true_eq, decide_eq_true_eq] at h
  obtain ⟨k, rfl⟩ := Int.eq_ofNat_of_zero_le h.1
  refine ⟨k, rfl, ?_⟩
  have := h.2
  have e : ((2 : Int) ^ b) = ((2 ^ b : Nat) : Int) := by simp
  rw [e] at this
  exact Int.ofNat_lt.mp this
theorem nats_of {b : Nat} : ∀ {l : List Int}, l.all (fun z => natural z b) = true → ∃ ks : List Nat, l = ks.map (fun (x : Nat) => (x : Int)) ∧ ∀ x, x ∈ ks → x < 2 ^ b
  | [], _ => ⟨[], rfl, by simp⟩
  | z :: l, h => by
    rw [List.all_cons, Bool.and_eq_true] at h
    obtain ⟨k, rfl, hk⟩ := nat_of h.1
    obtain ⟨ks, rfl, hks⟩ := nats_of h.2
    exact ⟨k :: ks, rfl, by simp; exact ⟨hk, hks⟩⟩
theorem natsOf_ints (ks : List Nat) : natsOf (ks.map fun (x : Nat) => (x : Int)) = ks := by
  unfold natsOf
  rw [List.map_map]
  exact (List.map_congr_left fun x _ => Int.toNat_natCast x).trans (List.map_id _)

/-- one call's form, by its place -/
theorem call_form {p : Int} {r : List Int} {c : List (List Int)} {t : List Int} (h : PyFlat.call PyKyd.shape (p :: r) = some (c, t)) (ha : asked1 c = true) :
    ∃ k : Kyd.Call, p :: r = enc k ++ t ∧ Small k ∧ callOf c = some k := by
  unfold PyFlat.call at h
  dsimp only at h
  cases hs : PyKyd.shape p with
  | none => rw [hs] at h; cases h
  | some nk =>
    obtain ⟨n, k⟩ := nk
    rw [hs] at h
    dsimp only at h
    by_cases hl : r.length < n
    · rw [if_pos hl] at h; cases h
    rw [if_neg hl] at h
    have fin0 : ∀ {x : List Int}, PyFlat.rows 0 x = some ([], x) := fun {x} => rfl
    unfold PyKyd.shape at hs
    by_cases p0 : p = 0
    · subst p0
      cases (Option.some.inj hs)
      rw [fin0] at h
      cases h
      match r, hl, ha with
      | a :: r, _, ha =>
        obtain ⟨x, rfl, hx⟩ := nat_of (show natural a 32 = true from ha)
        exact ⟨.start x, rfl, hx, rfl⟩
    rw [if_neg p0] at hs
    by_cases p1 : p = 1
    · subst p1
      cases (Option.some.inj hs)
      rw [fin0] at h
      cases h
      match r, hl, ha with
      | a :: r, _, ha =>
        obtain ⟨x, rfl, hx⟩ := nat_of (show natural a 32 = true from ha)
        exact ⟨.who x, rfl, hx, rfl⟩
    rw [if_neg p1] at hs
    by_cases p2 : p = 2
    · subst p2
      cases (Option.some.inj hs)
      rw [fin0] at h
      cases h
      match r, hl, ha with
      | a :: r, _, ha =>
        obtain ⟨x, rfl, hx⟩ := nat_of (show natural a 32 = true from ha)
        exact ⟨.ride x, rfl, hx, rfl⟩
    rw [if_neg p2] at hs
    by_cases p3 : p = 3
    · subst p3
      cases (Option.some.inj hs)
      rw [fin0] at h
      cases h
      match r, hl, ha with
      | a :: b :: r, _, ha =>
        have ha : (natural a 32 && natural b 32) = true := ha
        rw [Bool.and_eq_true] at ha
        obtain ⟨x, rfl, hx⟩ := nat_of ha.1
        obtain ⟨y, rfl, hy⟩ := nat_of ha.2
        exact ⟨.rideBy x y, rfl, ⟨hx, hy⟩, rfl⟩
      | [a], hl, _ => simp at hl
    rw [if_neg p3] at hs
    by_cases p4 : p = 4
    · subst p4
      cases (Option.some.inj hs)
      rw [fin0] at h
      cases h
      exact ⟨.back, rfl, trivial, rfl⟩
    rw [if_neg p4] at hs
    by_cases p5 : p = 5
    · subst p5
      cases (Option.some.inj hs)
      rw [fin0] at h
      cases h
      match r, hl, ha with
      | a :: r, _, ha =>
        obtain ⟨x, rfl, hx⟩ := nat_of (show natural a 32 = true from ha)
        exact ⟨.owes x, rfl, hx, rfl⟩
    rw [if_neg p5] at hs
    by_cases p6 : p = 6
    · subst p6
      cases (Option.some.inj hs)
      rw [fin0] at h
      cases h
      match r, hl, ha with
      | a :: r, _, ha =>
        obtain ⟨x, rfl, hx⟩ := nat_of (show natural a 32 = true from ha)
        exact ⟨.count x, rfl, hx, rfl⟩
    rw [if_neg p6] at hs
    by_cases p7 : p = 7
    · subst p7
      cases (Option.some.inj hs)
      rw [List.drop_zero, List.take_zero] at h
      unfold PyFlat.rows at h
      cases r with
      | nil => cases h
      | cons m r =>
        unfold PyFlat.row at h
        dsimp only at h
        by_cases hm : 0 ≤ m ∧ m.toNat ≤ r.length
        · rw [if_pos hm] at h
          dsimp only at h
          rw [fin0] at h
          cases h
          have ha : ((r.take m.toNat).all (fun z => natural z 16) && decide ((r.take m.toNat).length ≤ 20)) = true := ha
          rw [Bool.and_eq_true, decide_eq_true_eq] at ha
          obtain ⟨ks, e, hks⟩ := nats_of ha.1
          have hlen : ks.length = m.toNat := by
            have := congrArg List.length e
            rw [List.length_map, List.length_take] at this
            omega
          refine ⟨.plan ks, ?_, ⟨?_, hks⟩, ?_⟩
          · show (7 : Int) :: m :: r = 7 :: (ks.length : Int) :: (ks.map fun (x : Nat) => (x : Int)) ++ _
            rw [← e, hlen, List.cons_append, List.cons_append, List.take_append_drop, Int.toNat_of_nonneg hm.1]
          · have := ha.2
            rw [List.length_take] at this
            omega
          · show some (Kyd.Call.plan (natsOf (r.take m.toNat))) = _
            rw [e, natsOf_ints]
        · rw [if_neg hm] at h; cases h
    rw [if_neg p7] at hs
    cases hs

theorem line_nil {s : S} {out : List Int} (h : Line s [] out) : out = [] := by
  obtain ⟨f, cs, h1, _, _, rfl⟩ := h
  have e : PyFlat.calls PyKyd.shape f [] = some [] := by cases f <;> rfl
  rw [e] at h1
  cases h1
  rfl
/-- the next call, and what is due for it -/
theorem line_cons {s : S} {l out : List Int} (h : Line s l out) (hl : l ≠ []) : ∃ (c : Kyd.Call) (t out' : List Int) (s' : S) (a : Kyd.Ans), l = enc c ++ t ∧ Small c ∧ Kyd.acts s c = some (s', a) ∧
    out = ((a.out.length + 1 : Nat) : Int) :: a.value :: KydNeutral.ints a.out ++ out' ∧ Line s' t out' := by
  obtain ⟨f, cs, h1, h2, h3, rfl⟩ := h
  match l, hl with
  | p :: r, _ =>
    match f with
    | 0 => cases h1
    | f + 1 =>
      have h1 : (match PyFlat.call PyKyd.shape (p :: r) with
        | none => none
        | some (c, t) => match PyFlat.calls PyKyd.shape f t with
          | none => none
          | some cs => some (c :: cs)) = some cs := h1
      cases e : PyFlat.call PyKyd.shape (p :: r) with
      | none => rw [e] at h1; cases h1
      | some ct =>
        obtain ⟨c, t⟩ := ct
        rw [e] at h1
        dsimp only at h1
        cases e2 : PyFlat.calls PyKyd.shape f t with
        | none => rw [e2] at h1; cases h1
        | some cs' =>
          rw [e2] at h1
          cases h1
          rw [List.all_cons, Bool.and_eq_true] at h2
          obtain ⟨k, ek, hk, ck⟩ := call_form e h2.1
          have h3 : (!((step s c).2.isEmpty) && may (step s c).1 cs') = true := h3
          rw [Bool.and_eq_true] at h3
          have es : step s c = match (callOf c).bind (Kyd.acts s) with
            | none => (s, [])
            | some (t, a) => (t, a.value :: KydNeutral.ints a.out) := rfl
          rw [ck] at es
          have es : step s c = match Kyd.acts s k with
            | none => (s, [])
            | some (t, a) => (t, a.value :: KydNeutral.ints a.out) := es
          cases ea : Kyd.acts s k with
          | none =>
            rw [ea] at es
            rw [es] at h3
            simp at h3
          | some sa =>
            obtain ⟨s', a⟩ := sa
            rw [ea] at es
            dsimp only at es
            rw [es] at h3
            refine ⟨k, t, _, s', a, ek, hk, ea, ?_, f, cs', e2, h2.2, h3.2, rfl⟩
            show PyFlat.told ((step s c).2 :: PyFlat.played step (step s c).1 cs') = _
            rw [es]
            unfold PyFlat.told
            rw [List.flatMap_cons]
            have e3 : (a.value :: KydNeutral.ints a.out).length = a.out.length + 1 := by unfold KydNeutral.ints; rw [List.length_cons, List.length_map]
            rw [e3]
theorem whole_id (c : List (List Int)) : PyKyd.whole c = c := by
  unfold PyKyd.whole
  split <;> rfl
/-- the whole line -/
theorem line_of {l : List Int} (h : PyKyd.answers_asked l = true) : Line KydNeutral.start l (PyKyd.answers l) := by
  unfold PyKyd.answers_asked at h
  unfold PyKyd.answers
  unfold PyKyd.calls at h ⊢
  cases e : PyFlat.calls PyKyd.shape l.length l with
  | none => rw [e] at h; cases h
  | some cs =>
    rw [e] at h
    dsimp only at h ⊢
    have em : cs.map PyKyd.whole = cs := (List.map_congr_left fun c _ => whole_id c).trans (List.map_id _)
    rw [em] at h ⊢
    rw [Bool.and_eq_true] at h
    have h2 := h.2
    unfold asked at h2
    rw [Bool.and_eq_true, Bool.and_eq_true, Bool.and_eq_true] at h2
    exact ⟨l.length, cs, e, h2.1.2, h2.2, rfl⟩
/-- what a state may be -/
def poolOf : S → Kyd.Pool
  | none => ⟨0, []⟩
  | some q => q
end KLine

set_option maxHeartbeats 2000000
namespace Df
open PySem PySem.Spec PyProof.Rows L2
open PySem.W (Codec)

/-! ### what the layer lacks -/
section
variable {X : Cx}
/-- xs[i] in an augmented assignment -/
theorem get_list : PGet X (rIxL X.K) := by
  intro pins s σ H o i ov iv Q I ro ri h
  obtain ⟨p, xs, k, z, rfl, rfl, hq, he, q⟩ := h
  cases ro
  obtain ⟨t, rfl⟩ := ri
  obtain ⟨its, r, pl, hz⟩ := I.list hq
  obtain ⟨j, h1, h2, h3, h4, h5⟩ := atI_get he
  obtain ⟨w, ew, rw'⟩ := r.get h2
  have hl := r.length
  have hn := line63
  have fin : EP X pins σ Q w s := ⟨z, H, I, rw', q⟩
  by_cases h0 : 0 ≤ k
  · have hj : k.toNat = j := by
      rw [seqIndex_of h0 h5] at h1
      exact Option.some.inj h1
    exact wpAny_getItem_list pl.isList h0 (by omega) (by rw [hj]; simpa using ew) fin
  · have hj : (k + (its.toArray.size : Int)).toNat = j := by
      rw [seqIndex_neg (by omega) h4] at h1
      rw [List.size_toArray, ← hl]
      exact Option.some.inj h1
    exact wpAny_getItem_list_neg pl.isList (by omega) (by rw [List.size_toArray] <;> omega) (by omega) (by rw [hj]; simpa using ew) fin
end

/-! ### the text by places -/
def top (i : Nat) : Stmt := PySem.Challenge.pw_drivesfair_s01_answers.main.body.getD i (.Pass ⟨0, 0, 0, 0⟩)
abbrev sShare : Stmt := top 2
abbrev sFirstPlan : Stmt := top 5
abbrev sOught : Stmt := top 6
abbrev sFirstDriver : Stmt := top 7
abbrev sCanDrive : Stmt := top 8
abbrev sOneLess : Stmt := top 9
abbrev sDaysDriven : Stmt := top 10
abbrev sFind : Stmt := top 11
abbrev sTake : Stmt := top 12
abbrev sInit : Stmt := inClass (top 22) 0
abbrev sStart : Stmt := inClass (top 22) 1
abbrev sWho : Stmt := inClass (top 22) 2
abbrev sRide : Stmt := inClass (top 22) 3
abbrev sRideBy : Stmt := inClass (top 22) 4
abbrev sBack : Stmt := inClass (top 22) 5
abbrev sOwes : Stmt := inClass (top 22) 6
abbrev sCount : Stmt := inClass (top 22) 7
abbrev sPlan : Stmt := inClass (top 22) 8
abbrev sThere : Stmt := inClass (top 22) 9
abbrev sCan : Stmt := inClass (top 22) 10
abbrev sRiders : Stmt := inClass (top 22) 11
abbrev sTurn : Stmt := inClass (top 22) 12
abbrev sOwedBy : Stmt := inClass (top 22) 13
abbrev sFull : Stmt := inClass (top 22) 14
abbrev sAdd : Stmt := inClass (top 22) 15
abbrev sReckon : Stmt := inClass (top 22) 16
abbrev sAnswers : Stmt := top 33
abbrev sEnd : Stmt := top 34
abbrev sAnswer : Stmt := top 35

/-! ### the data -/
def nv (k : Nat) : V := .int (k : Int)
structure Ads where
  ld : Addr
  la : Addr
  lb : Addr
  lc : Addr
def Ads.l (A : Ads) : List Addr := [A.ld, A.la, A.lb, A.lc]
def cf (n : Nat) (A : Ads) : List (Str × V) := putF "ought" (.ref A.lc) (putF "rode" (.ref A.lb) (putF "drove" (.ref A.la) (putF "days" (.ref A.ld) (putF "people" (nv n) []))))
theorem cf_people (n : Nat) (A : Ads) : (cf n A).lookup ("people" : Str) = some (nv n) := by
  unfold cf
  rw [lookup_putF, if_neg (by decide +kernel), lookup_putF, if_neg (by decide +kernel), lookup_putF, if_neg (by decide +kernel), lookup_putF, if_neg (by decide +kernel), lookup_putF, if_pos rfl]
theorem cf_days (n : Nat) (A : Ads) : (cf n A).lookup ("days" : Str) = some (.ref A.ld) := by
  unfold cf
  rw [lookup_putF, if_neg (by decide +kernel), lookup_putF, if_neg (by decide +kernel), lookup_putF, if_neg (by decide +kernel), lookup_putF, if_pos rfl]
theorem cf_drove (n : Nat) (A : Ads) : (cf n A).lookup ("drove" : Str) = some (.ref A.la) := by
  unfold cf
  rw [lookup_putF, if_neg (by decide +kernel), lookup_putF, if_neg (by decide +kernel), lookup_putF, if_pos rfl]
theorem cf_rode (n : Nat) (A : Ads) : (cf n A).lookup ("rode" : Str) = some (.ref A.lb) := by
  unfold cf
  rw [lookup_putF, if_neg (by decide +kernel), lookup_putF, if_pos rfl]
theorem cf_ought (n : Nat) (A : Ads) : (cf n A).lookup ("ought" : Str) = some (.ref A.lc) := by
  unfold cf
  rw [lookup_putF, if_pos rfl]
def isF (m : Str) : Bool := decide (m = "ought") || decide (m = "rode") || decide (m = "drove") || decide (m = "days") || decide (m = "people")
theorem cf_no (n : Nat) (A : Ads) {m : Str} (h : isF m = false) : (cf n A).lookup m = none := by
  unfold isF at h
  simp only [Bool.or_eq_false_iff, decide_eq_false_iff_not] at h
  obtain ⟨⟨⟨⟨h1, h2⟩, h3⟩, h4⟩, h5⟩ := h
  unfold cf
  rw [lookup_putF, if_neg h1, lookup_putF, if_neg h2, lookup_putF, if_neg h3, lookup_putF, if_neg h4, lookup_putF, if_neg h5]
  rfl
theorem cf_eq (n : Nat) (A : Ads) : cf n A = [(("people" : Str), nv n), (("days" : Str), .ref A.ld), (("drove" : Str), .ref A.la), (("rode" : Str), .ref A.lb), (("ought" : Str), .ref A.lc)] := by
  unfold cf
  repeat (simp only [putF]; repeat rw [if_neg (by decide +kernel)])
theorem cf_setP (n y : Nat) (A : Ads) : putF "people" (nv y) (cf n A) = cf y A := by
  rw [cf_eq, cf_eq]
  simp only [putF]
  rw [if_pos trivial]
theorem cf_setD (n : Nat) (A : Ads) (x : Addr) : putF "days" (.ref x) (cf n A) = cf n { A with ld := x } := by
  rw [cf_eq, cf_eq]
  simp only [putF]
  rw [if_neg (by decide +kernel), if_pos trivial]
theorem cf_setA (n : Nat) (A : Ads) (x : Addr) : putF "drove" (.ref x) (cf n A) = cf n { A with la := x } := by
  rw [cf_eq, cf_eq]
  simp only [putF]
  rw [if_neg (by decide +kernel), if_neg (by decide +kernel), if_pos trivial]
theorem cf_setB (n : Nat) (A : Ads) (x : Addr) : putF "rode" (.ref x) (cf n A) = cf n { A with lb := x } := by
  rw [cf_eq, cf_eq]
  simp only [putF]
  rw [if_neg (by decide +kernel), if_neg (by decide +kernel), if_neg (by decide +kernel), if_pos trivial]
theorem cf_setC (n : Nat) (A : Ads) (x : Addr) : putF "ought" (.ref x) (cf n A) = cf n { A with lc := x } := by
  rw [cf_eq, cf_eq]
  simp only [putF]
  rw [if_neg (by decide +kernel), if_neg (by decide +kernel), if_neg (by decide +kernel), if_neg (by decide +kernel), if_pos trivial]
theorem cf_len (n : Nat) (A : Ads) : (cf n A).length < 1000 := by rw [cf_eq]; show 5 < 1000; decide

def GInt (mg : Str → Option Value) (x : Str) (i : Int) : Prop := ∃ u, mg x = some u ∧ RelV (.int i) u
structure Txt (K : PySem.W.Frag) (mg : Str → Option Value) (C : Addr) : Prop where
  cl : Cls K C
  nP : NoAttr K C "people"
  nD : NoAttr K C "days"
  nA : NoAttr K C "drove"
  nB : NoAttr K C "rode"
  nC : NoAttr K C "ought"
  mgC : mg "Car" = some (.ref C)
  len : mg "len" = none
  rng : mg "range" = none
  tpl : mg "tuple" = none
  lst : mg "list" = none
  mx : mg "max" = none
  sm : mg "sum" = none
  ab : mg "abs" = none
  al : mg "all" = none
  few : GInt mg "FEWEST_PEOPLE" 2
  mostP : GInt mg "MOST_PEOPLE" 10
  mostD : GInt mg "MOST_DAYS" 1000
  mostPl : GInt mg "MOST_DAYS_OF_A_PLAN" 7
  parts : GInt mg "PARTS_OF_A_DRIVE" 2520
  nobody : GInt mg "NOBODY" (-1)
  told : GInt mg "NOT_AS_TOLD" (-22)
  there : GInt mg "NOT_THERE" (-2)
  room : GInt mg "NO_ROOM" (-28)
  noDays : GInt mg "NO_DAYS" (-6)
  kStart : GInt mg "START" 0
  kWho : GInt mg "WHO" 1
  kRide : GInt mg "RIDE" 2
  kRideBy : GInt mg "RIDE_BY" 3
  kBack : GInt mg "BACK" 4
  kOwes : GInt mg "OWES" 5
  kCount : GInt mg "COUNT" 6
  kPlan : GInt mg "PLAN" 7
  behind : ∃ tp, mg "NUMBERS_BEHIND" = some (.ref tp) ∧ ∀ H, SqT K H tp ([1, 1, 1, 2, 0, 1, 1].map nv)

/-! ### mathematics -/
theorem can_eq (n m : Nat) (h : m ≠ 0) : Kyd.okRide n m = decide ((m : Int) < 1 * 2 ^ (n : Int).toNat) := by
  unfold Kyd.okRide
  rw [Int.toNat_natCast, Int.one_mul, show (m != 0) = true from by simpa using h, Bool.and_true]
  refine decide_eq_decide.mpr ⟨fun z => ?_, fun z => ?_⟩
  · have : ((m : Nat) : Int) < ((2 ^ n : Nat) : Int) := Int.ofNat_lt.mpr z
    rwa [Int.natCast_pow] at this
  · refine Int.ofNat_lt.mp ?_
    rwa [Int.natCast_pow]
theorem can_zero (n : Nat) : Kyd.okRide n 0 = false := by simp [Kyd.okRide]
theorem has_eq (m k : Nat) : decide (V.int ((m : Int) / 2 ^ (k : Int).toNat % 2) = V.int 1) = Kyd.has m k := by
  have e : (m : Int) / 2 ^ (k : Int).toNat % 2 = ((m / 2 ^ k % 2 : Nat) : Int) := by
    rw [Int.toNat_natCast]; simp
  unfold Kyd.has
  rw [e]
  by_cases q : m / 2 ^ k % 2 = 1
  · rw [q]; rfl
  · rw [decide_eq_false (by intro z; injection z with z; exact q (by exact_mod_cast z))]
    simp [q]
/-- the turn among those seen so far -/
def turnOf (ow : Nat → Int) (k : Nat) (l : List Nat) : Nat := l.foldl (fun t k => if ow t < ow k then k else t) k
theorem most_cons (p : Kyd.Pool) (x : Nat) (l : List Nat) : Kyd.most p (x :: l) = match Kyd.most p l with
    | none => some x
    | some j => if Kyd.owes p x < Kyd.owes p j then some j else some x := rfl
theorem turn_most (p : Kyd.Pool) : ∀ (l : List Nat) (k : Nat), turnOf (Kyd.owes p) k l = match Kyd.most p l with
    | none => k
    | some j => if Kyd.owes p k < Kyd.owes p j then j else k
  | [], k => rfl
  | x :: l, k => by
    show turnOf (Kyd.owes p) (if Kyd.owes p k < Kyd.owes p x then x else k) l = _
    rw [turn_most p l, most_cons]
    cases Kyd.most p l with
    | none => rfl
    | some j =>
      dsimp only
      by_cases a : Kyd.owes p k < Kyd.owes p x
      · rw [if_pos a]
        by_cases b : Kyd.owes p x < Kyd.owes p j
        · rw [if_pos b, if_pos b]; exact (if_pos (by omega)).symm
        · rw [if_neg b, if_neg b]; exact (if_pos a).symm
      · rw [if_neg a]
        by_cases b : Kyd.owes p x < Kyd.owes p j
        · rw [if_pos b]
        · rw [if_neg b]; dsimp only; rw [if_neg (by omega), if_neg a]
theorem turn_driver (p : Kyd.Pool) (m k : Nat) (l : List Nat) (h : Kyd.riders p.n m = k :: l) : turnOf (Kyd.owes p) k (k :: l) = Kyd.driver p m := by
  unfold Kyd.driver
  rw [h, turn_most, most_cons]
  cases Kyd.most p l with
  | none => simp
  | some j =>
    dsimp only
    by_cases a : Kyd.owes p k < Kyd.owes p j
    · rw [if_pos a]; dsimp only; rw [if_pos a]; rfl
    · rw [if_neg a]; dsimp only; rw [if_neg (by omega)]; rfl
theorem turn_mem (q : Kyd.Pool) : ∀ (l : List Nat) (k n : Nat), k < n → (∀ x, x ∈ l → x < n) → turnOf (Kyd.owes q) k l < n
  | [], k, n, h, _ => h
  | x :: l, k, n, h, hl => by
    show turnOf (Kyd.owes q) (if Kyd.owes q k < Kyd.owes q x then x else k) l < n
    refine turn_mem q l _ n ?_ fun y hy => hl y (List.mem_cons_of_mem _ hy)
    have := hl x List.mem_cons_self
    by_cases c : Kyd.owes q k < Kyd.owes q x
    · rw [if_pos c]; exact this
    · rw [if_neg c]; exact h
theorem most_mem (p : Kyd.Pool) : ∀ (l : List Nat) (j : Nat), Kyd.most p l = some j → j ∈ l
  | [], _, h => by cases h
  | x :: l, j, h => by
    rw [most_cons] at h
    cases e : Kyd.most p l with
    | none => rw [e] at h; cases h; exact List.mem_cons_self
    | some i =>
      rw [e] at h
      dsimp only at h
      by_cases c : Kyd.owes p x < Kyd.owes p i
      · rw [if_pos c] at h; cases h; exact List.mem_cons_of_mem _ (most_mem p l _ e)
      · rw [if_neg c] at h; cases h; exact List.mem_cons_self
theorem driver_mem {p : Kyd.Pool} {m : Nat} (h : Kyd.okRide p.n m = true) : Kyd.driver p m ∈ Kyd.riders p.n m := by
  have hpos := KPlan.riders_pos h
  unfold Kyd.driver
  cases e : Kyd.most p (Kyd.riders p.n m) with
  | some j => exact most_mem p _ j e
  | none =>
    cases r : Kyd.riders p.n m with
    | nil => rw [r] at hpos; simp at hpos
    | cons a b =>
      rw [r, most_cons] at e
      cases q : Kyd.most p b with
      | none => rw [q] at e; cases e
      | some i =>
        rw [q] at e
        dsimp only at e
        by_cases c : Kyd.owes p a < Kyd.owes p i
        · rw [if_pos c] at e; cases e
        · rw [if_neg c] at e; cases e
theorem take_snoc {α : Type} {l : List α} {i : Nat} {x : α} (h : l[i]? = some x) : l.take (i + 1) = l.take i ++ [x] := by
  rw [List.take_add_one, h]; rfl
theorem map_get {α β : Type} {f : α → β} {l : List α} {i : Nat} {y : β} (h : (l.map f)[i]? = some y) : ∃ z, l[i]? = some z ∧ f z = y := by
  rw [List.getElem?_map] at h
  cases e : l[i]? with
  | none => rw [e] at h; cases h
  | some z => rw [e] at h; exact ⟨z, rfl, Option.some.inj h⟩
/-- a list by a function of its places -/
theorem range_set {α : Type} {n j : Nat} (f : Nat → α) (v : α) (hj : j < n) : ((List.range n).map f).set j v = (List.range n).map fun k => if k = j then v else f k := by
  refine List.ext_getElem? fun i => ?_
  by_cases h : j = i
  · subst h
    rw [List.getElem?_set_self (by simpa using hj)]
    simp [List.getElem?_map, List.getElem?_range hj]
  · rw [List.getElem?_set_ne h, List.getElem?_map, List.getElem?_map]
    by_cases hi : i < n
    · rw [List.getElem?_range hi]
      show some (f i) = some (if i = j then v else f i)
      rw [if_neg fun z => h z.symm]
    · rw [List.getElem?_eq_none (by simpa using hi)]
      rfl
theorem range_get {α : Type} {n j : Nat} (f : Nat → α) (hj : j < n) : ((List.range n).map f)[j]? = some (f j) := by
  rw [List.getElem?_map, List.getElem?_range hj]; rfl
theorem range_at {α : Type} {n j : Nat} (f : Nat → α) (hj : j < n) : atI ((List.range n).map f) (j : Int) = some (f j) := atI_nat (range_get f hj)
theorem range_ix {α : Type} {n j : Nat} (f : Nat → α) (hj : j < n) : ixN ((List.range n).map f).length (j : Int) = some j := by
  rw [List.length_map, List.length_range]
  unfold ixN
  rw [if_pos (by omega), if_pos (by omega)]
  simp
theorem rep_eq (x : V) : ∀ n : Nat, (List.replicate n [x]).flatten = (List.range n).map fun _ => x
  | 0 => rfl
  | n + 1 => by rw [List.replicate_succ', List.flatten_append, rep_eq x n, List.range_succ, List.map_append]; rfl
theorem rep_int (x : V) (n : Nat) : (List.replicate (n : Int).toNat [x]).flatten = (List.range n).map fun _ => x := by
  rw [Int.toNat_natCast]; exact rep_eq x n
theorem riders_nodup (n m : Nat) : (Kyd.riders n m).Nodup := List.Pairwise.filter _ List.nodup_range
theorem riders_lt {n m k : Nat} (h : k ∈ Kyd.riders n m) : k < n := (KPlan.mem_riders.mp h).1
theorem due_add (n m d : Nat) (l : List (Nat × Nat)) (k : Nat) : Kyd.due n ((m, d) :: l) k = (if Kyd.has m k then Kyd.part n m else 0) + Kyd.due n l k := by
  unfold Kyd.due
  rw [List.map_cons, KPlan.sum_cons]
theorem drove_add (m d : Nat) (l : List (Nat × Nat)) (k : Nat) : Kyd.drove ((m, d) :: l) k = (if k = d then 1 else 0) + Kyd.drove l k := by
  unfold Kyd.drove
  rw [List.filter_cons]
  by_cases q : k = d
  · simp [q]; omega
  · have : ¬ d = k := fun z => q z.symm
    simp [q, this]
theorem rode_add (m d : Nat) (l : List (Nat × Nat)) (k : Nat) : Kyd.rode ((m, d) :: l) k = (if Kyd.has m k then 1 else 0) + Kyd.rode l k := by
  unfold Kyd.rode
  rw [List.filter_cons]
  by_cases q : Kyd.has m k = true
  · simp [q]; omega
  · simp [q]
theorem in_riders_iff {n m k : Nat} (h : k < n) : k ∈ Kyd.riders n m ↔ Kyd.has m k = true := ⟨fun z => (KPlan.mem_riders.mp z).2, fun z => KPlan.mem_riders.mpr ⟨h, z⟩⟩
/-- of a mask that is as told a bit tells a person -/
theorem bit_lt {n m k : Nat} (h : m < 2 ^ n) (b : Kyd.has m k = true) : k < n := by
  refine Classical.byContradiction fun z => ?_
  have h1 : 2 ^ n ≤ 2 ^ k := Nat.pow_le_pow_right (by decide) (by omega)
  unfold Kyd.has at b
  rw [Nat.div_eq_of_lt (by omega)] at b
  simp at b
theorem in_riders (k : Nat) (l : List Nat) : inV (nv k) (l.map nv) = decide (k ∈ l) := by
  unfold inV
  rw [List.any_map]
  by_cases h : k ∈ l
  · rw [decide_eq_true h, List.any_eq_true]
    exact ⟨k, h, by simp [eqV, nv]⟩
  · rw [decide_eq_false h, List.any_eq_false]
    intro x hx e
    have : x = k := by
      simp [eqV, nv] at e
      omega
    exact h (this ▸ hx)
theorem flat_nv (l : List Nat) : (l.map nv).all flatV = true := by
  rw [List.all_eq_true]
  intro x hx
  obtain ⟨k, _, rfl⟩ := List.mem_map.mp hx
  rfl
theorem not_in_take {l : List Nat} (nd : l.Nodup) {i z : Nat} (hz : l[i]? = some z) : z ∉ l.take i := fun hin => by
  obtain ⟨j, hj, e⟩ := List.getElem_of_mem hin
  rw [List.length_take] at hj
  rw [List.getElem_take] at e
  have := nd_ix nd (i := j) (j := i) (x := z) (by rw [List.getElem?_eq_getElem (by omega), e]) hz
  omega

theorem part_eq (n m : Nat) : (2520 : Int) / ((Kyd.riders n m).length : Int) = (Kyd.part n m : Int) := by
  unfold Kyd.part Kyd.whole; simp

theorem boot_tup : bootBuiltins "tuple" = some (.type "tuple") := by decide +kernel
theorem boot_lst : bootBuiltins "list" = some (.type "list") := by decide +kernel
theorem boot_max : bootBuiltins "max" = some (.builtin "max") := by decide +kernel
theorem boot_sum : bootBuiltins "sum" = some (.builtin "sum") := by decide +kernel
theorem boot_abs : bootBuiltins "abs" = some (.builtin "abs") := by decide +kernel
theorem boot_all : bootBuiltins "all" = some (.builtin "all") := by decide +kernel

theorem cut_drop (xs : List V) (i : Nat) (h : i ≤ xs.length) : cutV xs (some (i : Int)) none = xs.drop i := by
  unfold cutV
  rw [HT.sIx_nat, HT.sIx_none, Nat.min_eq_left h]
  refine List.take_of_length_le ?_
  rw [List.length_drop]
  exact Nat.le_refl _
theorem cut_mid (xs : List V) (i j : Nat) (h1 : i ≤ j) (h : j ≤ xs.length) : cutV xs (some (i : Int)) (some (j : Int)) = (xs.drop i).take (j - i) := by
  unfold cutV
  rw [HT.sIx_nat, HT.sIx_nat, Nat.min_eq_left h, Nat.min_eq_left (by omega)]

theorem yes_i {σ : L2.St} {H : Hp} {Q : Bool → Hp → Prop} (h : Q true H) : tYes σ H Q := h

/-! ### frames -/
/-- all that was tracked, but at these places, is as it was -/
def Frame (H H' : Hp) (ex : List Addr) : Prop := ∀ b o, H b = some o → b ∉ ex → H' b = some o
theorem Frame.refl {H : Hp} {ex : List Addr} : Frame H H ex := fun _ _ e _ => e
theorem Frame.trans {H H1 H2 : Hp} {ex : List Addr} (a : Frame H H1 ex) (b : Frame H1 H2 ex) : Frame H H2 ex := fun x o e n => b x o (a x o e n) n
theorem Frame.new {H : Hp} {l : Addr} (hl : H l = none) (o : HO) (ex : List Addr) : Frame H (upd H l o) ex := fun b u e _ => by rw [upd_ne (ne_of_none e hl)]; exact e
theorem Frame.weak {H H' : Hp} {ex ex' : List Addr} (a : Frame H H' ex) (h : ∀ x, x ∈ ex → x ∈ ex') : Frame H H' ex' := fun b o e n => a b o e fun z => n (h b z)
/-- all that was tracked is as it was -/
def Ext (H H' : Hp) : Prop := ∀ b o, H b = some o → H' b = some o
theorem Ext.refl {H : Hp} : Ext H H := fun _ _ e => e
theorem Ext.trans {H H1 H2 : Hp} (a : Ext H H1) (b : Ext H1 H2) : Ext H H2 := fun x o e => b x o (a x o e)
theorem Ext.new {H : Hp} {l : Addr} (hl : H l = none) (o : HO) : Ext H (upd H l o) := fun b u e => by rw [upd_ne (ne_of_none e hl)]; exact e
theorem Ext.frame {H H' : Hp} (a : Ext H H') (ex : List Addr) : Frame H H' ex := fun b o e _ => a b o e
theorem Ext.none {H H' : Hp} (a : Ext H H') {b : Addr} (h : H' b = none) : H b = none := by
  cases e : H b with
  | none => rfl
  | some o => have := a b o e; rw [h] at this; cases this
theorem Ext.seq {K : PySem.W.Frag} {H H' : Hp} (g : Ext H H') {a : Addr} {xs : List V} (h : SqL K H a xs) : SqL K H' a xs := by
  rcases h with (h | ⟨o, h⟩) | h
  · exact .inl (.inl (g _ _ h))
  · exact .inl (.inr ⟨o, g _ _ h⟩)
  · exact .inr h
theorem Ext.tup {K : PySem.W.Frag} {H H' : Hp} (g : Ext H H') {a : Addr} {xs : List V} (h : SqT K H a xs) : SqT K H' a xs := by
  rcases h with (h | ⟨o, h⟩) | h
  · exact .inl (.inl (g _ _ h))
  · exact .inl (.inr ⟨o, g _ _ h⟩)
  · exact .inr h
theorem SqL.at {K : PySem.W.Frag} {H H' : Hp} {a : Addr} {xs : List V} (e : H' a = H a) (h : SqL K H a xs) : SqL K H' a xs := by
  rcases h with (h | ⟨o, h⟩) | h
  · exact .inl (.inl (e.trans h))
  · exact .inl (.inr ⟨o, e.trans h⟩)
  · exact .inr h
theorem SqT.at {K : PySem.W.Frag} {H H' : Hp} {a : Addr} {xs : List V} (e : H' a = H a) (h : SqT K H a xs) : SqT K H' a xs := by
  rcases h with (h | ⟨o, h⟩) | h
  · exact .inl (.inl (e.trans h))
  · exact .inl (.inr ⟨o, e.trans h⟩)
  · exact .inr h

/-! ### THE INVARIANT -/
def CarIs (C : Addr) (H : Hp) (p : Addr) (n : Nat) (A : Ads) : Prop := ∃ dx, H p = some (.ins C dx (cf n A))
def DayAt (H : Hp) (n : Nat) (t : Addr) (d : Nat × Nat) : Prop := ∃ r, H t = some (.tup [.ref r, nv d.2]) ∧ H r = some (.tup ((Kyd.riders n d.1).map nv))
def rl (n : Nat) (f : Nat → Int) : HO := .lst ((List.range n).map fun k => V.int (f k))
structure Apart (A : Ads) : Prop where
  da : A.ld ≠ A.la
  db : A.ld ≠ A.lb
  dc : A.ld ≠ A.lc
  ab : A.la ≠ A.lb
  ac : A.la ≠ A.lc
  bc : A.lb ≠ A.lc
structure Tot (C : Addr) (H : Hp) (p : Addr) (n : Nat) (A : Ads) (fa fb fc : Nat → Int) : Prop where
  car : CarIs C H p n A
  dr : H A.la = some (rl n fa)
  ro : H A.lb = some (rl n fb)
  ou : H A.lc = some (rl n fc)
  ap : Apart A
structure CarAt (C : Addr) (H : Hp) (p : Addr) (A : Ads) (q : Kyd.Pool) : Prop where
  tot : Tot C H p q.n A (fun k => (Kyd.drove q.days k : Int)) (fun k => (Kyd.rode q.days k : Int)) (fun k => (Kyd.due q.n q.days k : Int))
  days : ∃ ts : List Addr, H A.ld = some (.lst (ts.map V.ref)) ∧ Paired (DayAt H q.n) ts q.days.reverse
structure Good (q : Kyd.Pool) : Prop where
  n : q.n ≤ 10
  len : q.days.length ≤ 1000
  ok : ∀ d, d ∈ q.days → Kyd.okRide q.n d.1 = true ∧ d.2 ∈ Kyd.riders q.n d.1
theorem CarAt.car {C : Addr} {H : Hp} {p : Addr} {A : Ads} {q : Kyd.Pool} (c : CarAt C H p A q) : CarIs C H p q.n A := c.tot.car
theorem CarAt.len {C : Addr} {H : Hp} {p : Addr} {A : Ads} {q : Kyd.Pool} (c : CarAt C H p A q) : ∃ ts : List Addr, H A.ld = some (.lst (ts.map V.ref)) ∧ ts.length = q.days.length := by
  obtain ⟨ts, h1, h2⟩ := c.days
  exact ⟨ts, h1, by rw [Paired.length h2, List.length_reverse]⟩
theorem DayAt.stay {H H' : Hp} {n : Nat} {ts : List Addr} {ds : List (Nat × Nat)} (h : ∀ b xs, H b = some (.tup xs) → H' b = some (.tup xs)) (p : Paired (DayAt H n) ts ds) : Paired (DayAt H' n) ts ds :=
  Paired.mapP p fun t d ⟨r, a, b⟩ => ⟨r, h _ _ a, h _ _ b⟩
theorem Paired.snoc {α β : Type} {F : α → β → Prop} : ∀ {l₁ : List α} {l₂ : List β} {a : α} {b : β}, Paired F l₁ l₂ → F a b → Paired F (l₁ ++ [a]) (l₂ ++ [b])
  | _, _, _, _, .nil, h => .cons h .nil
  | _, _, _, _, .cons r t, h => .cons r (Paired.snoc t h)
theorem Paired.unsnoc {α β : Type} {F : α → β → Prop} : ∀ {l₁ : List α} {l₂ : List β} {b : β}, Paired F l₁ (l₂ ++ [b]) → ∃ (l : List α) (a : α), l₁ = l ++ [a] ∧ Paired F l l₂ ∧ F a b
  | _, [], _, .cons r t => by cases t; exact ⟨[], _, rfl, .nil, r⟩
  | _, y :: l₂, _, .cons r t => by
    obtain ⟨l, a, rfl, h1, h2⟩ := Paired.unsnoc (l₂ := l₂) t
    exact ⟨_ :: l, a, rfl, .cons r h1, h2⟩
theorem Tot.ext {C : Addr} {H H' : Hp} {p : Addr} {n : Nat} {A : Ads} {fa fb fc : Nat → Int} (t : Tot C H p n A fa fb fc) (e : Ext H H') : Tot C H' p n A fa fb fc := by
  obtain ⟨dx, hp⟩ := t.car
  exact ⟨⟨dx, e _ _ hp⟩, e _ _ t.dr, e _ _ t.ro, e _ _ t.ou, t.ap⟩
/-- the car stands behind what is new as it stood -/
theorem CarAt.ext {C : Addr} {H H' : Hp} {p : Addr} {A : Ads} {q : Kyd.Pool} (c : CarAt C H p A q) (e : Ext H H') : CarAt C H' p A q := by
  obtain ⟨ts, h1, h2⟩ := c.days
  exact ⟨c.tot.ext e, ts, e _ _ h1, DayAt.stay (fun b xs z => e _ _ z) h2⟩
/-- the places of a car: the old ones, or new -/
def Anew (H : Hp) (A A' : Ads) : Prop := ∀ x, x ∈ A'.l → x ∈ A.l ∨ H x = none
theorem Anew.refl {H : Hp} {A : Ads} : Anew H A A := fun _ h => .inl h
/-- what a call leaves: the pool q' at the same place, all else as it was -/
def Goes (C : Addr) (H : Hp) (p : Addr) (A : Ads) (q' : Kyd.Pool) (R : Hp → Prop) : Prop :=
  ∀ H' A', CarAt C H' p A' q' → Frame H H' (p :: A.l) → Anew H A A' → R H'
theorem Goes.same {C : Addr} {H : Hp} {p : Addr} {A : Ads} {q : Kyd.Pool} {R : Hp → Prop} (g : Goes C H p A q R) (c : CarAt C H p A q) : R H := g H A c Frame.refl Anew.refl
theorem Goes.ext {C : Addr} {H H' : Hp} {p : Addr} {A : Ads} {q : Kyd.Pool} {R : Hp → Prop} (g : Goes C H p A q R) (c : CarAt C H p A q) (e : Ext H H') : R H' := g H' A (c.ext e) (e.frame _) Anew.refl

/-- a method, a def as it stands behind the top -/
def Mth (P : Program) (w : World) (K : PySem.W.Frag) (mg : Str → Option Value) (base : Heap) (C : Addr) (m : Str) (k : Nat) (ps : List Str) (sp : Sp) : Prop :=
  ∃ f fd, FnOk P w K mg base CX0 k f fd ps sp ∧ Binds K fd ps [] ∧ Meth K C m f
def Fnc (P : Program) (w : World) (K : PySem.W.Frag) (mg : Str → Option Value) (base : Heap) (m : Str) (k : Nat) (ps : List Str) (sp : Sp) : Prop :=
  ∃ f fd, FnOk P w K mg base CX0 k f fd ps sp ∧ Binds K fd ps [] ∧ mg m = some (.ref f) ∧ PySem.W.keepIn K (.ref f) = true
end Df

namespace Df
open PySem PySem.Spec PyProof.Rows L2
open PySem.W (Codec)
section
variable {P : Program} {w : World} {K : PySem.W.Frag} {mg : Str → Option Value} {base : Heap}

def spShare (K : PySem.W.Frag) : Sp := fun vs H Q _ => ∃ (l : Addr) (xs : List V), vs = [.ref l] ∧ (SqL K H l xs ∨ SqT K H l xs) ∧ 0 < xs.length ∧ xs.length ≤ 10 ∧ Q (.int (2520 / (xs.length : Int))) H
theorem scShare : FnScope ["riding"] ["riding"] (defScope sShare) := ⟨rfl, rfl, rfl, by decide +kernel, rfl, by decide +kernel, by decide +kernel⟩
theorem ok_share {f C : Addr} {fd : FuncData} (F : Fun K "share_of" "share_of" sShare f fd) (T : Txt K mg C) : FnOk P w K mg base CX0 1 f fd ["riding"] (spShare K) := by
  refine F.ok scShare (fun vs H Q E h => ?_) (fun cdv A outer s H vs Q E hr h => ?_)
  · obtain ⟨l, xs, rfl, _⟩ := h
    rfl
  · obtain ⟨l, xs, rfl, hl, h1, h2, k⟩ := h
    obtain ⟨u, hu, r⟩ := T.parts
    refine ⟨_, pss_one (ps_ret (pe_op op_fdiv (pe_glob rfl hu r) (pe_callB call_len_seq (by rfl) T.len PySem.boot_len (pa_cons (pv 0) pa_nil)))), ?_⟩
    exact ⟨_, rfl, l, _, rfl, hl, _, _, rfl, rfl, ⟨by omega, by omega⟩, k⟩

def spCan (C : Addr) : Sp := fun vs H Q _ => ∃ (p : Addr) (n m : Nat) (A : Ads), vs = [.ref p, nv m] ∧ CarIs C H p n A ∧ n ≤ 10 ∧ Q (.bl (Kyd.okRide n m)) H
theorem scCan : FnScope ["self", "m"] ["self", "m"] (defScope sCan) := ⟨rfl, rfl, rfl, by decide +kernel, rfl, by decide +kernel, by decide +kernel⟩
theorem ok_can {f C : Addr} {fd : FuncData} (F : Fun K "can_ride" "Car.can_ride" sCan f fd) (T : Txt K mg C) : FnOk P w K mg base CX0 1 f fd ["self", "m"] (spCan C) := by
  refine F.ok scCan (fun vs H Q E h => ?_) (fun cdv A outer s H vs Q E hr h => ?_)
  · obtain ⟨p, n, m, A, rfl, _⟩ := h
    rfl
  · obtain ⟨p, n, m, A, rfl, ⟨dx, hp⟩, hn, k⟩ := h
    refine ⟨_, pss_one (ps_ret (pe_and (pe_cmpR op_ne (pv 1) pe_int (nomark _)) (pe_one (pe_cmpR op_lt (pv 1) (pe_op op_shl pe_int (pe_fld (pv 0) rfl)) (nomark _))))), ?_⟩
    refine ⟨_, rfl, rfl, _, rfl, ite2 (fun h => ?_) (fun h => ?_)⟩
    · refine ⟨_, rfl, _, rfl, p, C, dx, _, _, rfl, hp, T.cl, T.nP, cf_people _ _, _, _, rfl, rfl, ⟨by omega, by omega, by decide⟩, _, _, rfl, rfl, ?_⟩
      have hm : m ≠ 0 := fun z => by subst z; simp [nv] at h
      rw [can_eq n m hm] at k
      exact k
    · have hm : m = 0 := by
        refine Classical.byContradiction fun z => h ?_
        simp [nv]; omega
      subst hm
      rw [can_zero] at k
      exact k

def spRiders (C : Addr) : Sp := fun vs H Q _ => ∃ (p : Addr) (n m : Nat) (A : Ads), vs = [.ref p, nv m] ∧ CarIs C H p n A ∧ n ≤ 10 ∧ ∀ l, H l = none → Q (.ref l) (upd H l (.lst ((Kyd.riders n m).map nv)))
theorem scRiders : FnScope ["self", "m", "person"] ["self", "m"] (defScope sRiders) := ⟨rfl, rfl, rfl, by decide +kernel, rfl, by decide +kernel, by decide +kernel⟩
theorem ok_riders {f C : Addr} {fd : FuncData} (F : Fun K "riders" "Car.riders" sRiders f fd) (T : Txt K mg C) : FnOk P w K mg base CX0 1 f fd ["self", "m"] (spRiders C) := by
  refine F.ok scRiders (fun vs H Q E h => ?_) (fun cdv A outer s H vs Q E hr h => ?_)
  · obtain ⟨p, n, m, A, rfl, _⟩ := h
    rfl
  · obtain ⟨p, n, m, A, rfl, ⟨dx, hp⟩, hn, k⟩ := h
    refine ⟨_, pss_one (ps_ret (pe_lc (own := [("person", 2)]) rfl scRiders.nd (pi_range1 rfl T.rng (pa_cons (pe_fld (pv 0) rfl) pa_nil)) (blkOk_by (N := ["self", "m", "person"]) (sc := defScope sRiders) (by decide +kernel))
      (fun s H C cl fp => pg_name (i := 2) scRiders.nd rfl (Or.inl rfl))
      (fun s H C cl fp => pts_one (pt_cmpR op_eq (pe_op op_mod (pe_op op_shr (pv 1) (pv 2)) pe_int) pe_int (nomark _)))
      (fun s H C cl fp => pv 2))), ?_⟩
    refine ⟨_, rfl, p, C, dx, _, _, rfl, hp, T.cl, T.nP, cf_people _ _, (n : Int), rfl, by omega, by omega, fun D hD => ?_⟩
    refine lc_range (n := n) (fun i H' => H' = upd H D (.lst (((List.range i).filter (Kyd.has m)).map nv))) rfl ?_ ?_
    · rintro i H' hi rfl
      refine ⟨rfl, _, rfl, _, rfl, _, _, rfl, rfl, (by show (0 : Int) ≤ 0 + i; omega), _, _, rfl, rfl, (by show (0 : Int) < 2; decide), rfl, _, rfl, ?_⟩
      have e0 : ((0 : Int) + (i : Int)) = (i : Int) := Int.zero_add _
      rw [e0, has_eq]
      cases hh : Kyd.has m i with
      | true =>
        refine iteT ⟨_, rfl, _, upd_same, ?_, ?_⟩
        · rw [List.length_map]
          have := List.length_filter_le (Kyd.has m) (List.range i)
          rw [List.length_range] at this
          exact small1000 (by omega)
        · rw [upd_upd, List.range_succ, List.filter_append, List.map_append, List.filter_cons, hh]
          rfl
      | false =>
        refine iteF ?_
        rw [List.range_succ, List.filter_append, List.filter_cons, hh]
        simp
    · rintro H' rfl
      exact k D hD

def spThere (C : Addr) : Sp := fun vs H Q _ => ∃ (p : Addr) (n m : Nat) (A : Ads), vs = [.ref p, nv m] ∧ CarIs C H p n A ∧ Q (.bl (decide ((m : Int) < (n : Int)))) H
theorem scThere : FnScope ["self", "k"] ["self", "k"] (defScope sThere) := ⟨rfl, rfl, rfl, by decide +kernel, rfl, by decide +kernel, by decide +kernel⟩
theorem ok_there {f C : Addr} {fd : FuncData} (F : Fun K "is_there" "Car.is_there" sThere f fd) (T : Txt K mg C) : FnOk P w K mg base CX0 1 f fd ["self", "k"] (spThere C) := by
  refine F.ok scThere (fun vs H Q E h => ?_) (fun cdv A outer s H vs Q E hr h => ?_)
  · obtain ⟨p, n, m, A, rfl, _⟩ := h
    rfl
  · obtain ⟨p, n, m, A, rfl, ⟨dx, hp⟩, k⟩ := h
    refine ⟨_, pss_one (ps_ret (pe_cmpR op_lt (pv 1) (pe_fld (pv 0) rfl) (nomark _))), ?_⟩
    exact ⟨_, rfl, _, rfl, p, C, dx, _, _, rfl, hp, T.cl, T.nP, cf_people _ _, _, _, rfl, rfl, k⟩

def spOwedBy (C : Addr) : Sp := fun vs H Q _ => ∃ (p : Addr) (n k : Nat) (A : Ads) (fa fb fc : Nat → Int), vs = [.ref p, nv k] ∧ Tot C H p n A fa fb fc ∧ k < n ∧ Q (.int (fc k - 2520 * fa k)) H
theorem scOwedBy : FnScope ["self", "person"] ["self", "person"] (defScope sOwedBy) := ⟨rfl, rfl, rfl, by decide +kernel, rfl, by decide +kernel, by decide +kernel⟩
theorem ok_owedBy {f C : Addr} {fd : FuncData} (F : Fun K "owed_by" "Car.owed_by" sOwedBy f fd) (T : Txt K mg C) : FnOk P w K mg base CX0 1 f fd ["self", "person"] (spOwedBy C) := by
  refine F.ok scOwedBy (fun vs H Q E h => ?_) (fun cdv A outer s H vs Q E hr h => ?_)
  · obtain ⟨p, n, m, A, fa, fb, fc, rfl, _⟩ := h
    rfl
  · obtain ⟨p, n, m, A, fa, fb, fc, rfl, t, hm, k⟩ := h
    obtain ⟨dx, hp⟩ := t.car
    obtain ⟨u, hu, r⟩ := T.parts
    refine ⟨_, pss_one (ps_ret (pe_op op_sub (pe_ix ix_list (pe_fld (pv 0) rfl) (pv 1) (fun _ _ => rfl)) (pe_op op_mul (pe_glob rfl hu r) (pe_ix ix_list (pe_fld (pv 0) rfl) (pv 1) (fun _ _ => rfl))))), ?_⟩
    exact ⟨_, rfl, p, C, dx, _, _, rfl, hp, T.cl, T.nC, cf_ought _ _, _, rfl, A.lc, _, _, _, rfl, rfl, SqL.of t.ou, range_at _ hm,
      _, rfl, p, C, dx, _, _, rfl, hp, T.cl, T.nA, cf_drove _ _, _, rfl, A.la, _, _, _, rfl, rfl, SqL.of t.dr, range_at _ hm, _, _, rfl, rfl, .inl ⟨by decide, by decide⟩, _, _, rfl, rfl, k⟩

def spTurn (K : PySem.W.Frag) (C : Addr) : Sp := fun vs H Q _ => ∃ (p l : Addr) (A : Ads) (q : Kyd.Pool) (m : Nat), vs = [.ref p, .ref l] ∧ CarAt C H p A q ∧ SqL K H l ((Kyd.riders q.n m).map nv) ∧ Kyd.okRide q.n m = true ∧ Q (nv (Kyd.driver q m)) H
theorem scTurn : FnScope ["self", "riding", "turn", "person"] ["self", "riding"] (defScope sTurn) := ⟨rfl, rfl, rfl, by decide +kernel, rfl, by decide +kernel, by decide +kernel⟩
theorem ok_turn {f C : Addr} {fd : FuncData} (F : Fun K "whose_turn" "Car.whose_turn" sTurn f fd) (T : Txt K mg C) (M1 : Mth P w K mg base C "owed_by" 1 ["self", "person"] (spOwedBy C)) : FnOk P w K mg base CX0 2 f fd ["self", "riding"] (spTurn K C) := by
  obtain ⟨f1, fd1, G1, b1, m1⟩ := M1
  refine F.ok scTurn (fun vs H Q E h => ?_) (fun cdv A outer s H vs Q E hr h => ?_)
  · obtain ⟨p, l, A, q, m, rfl, _⟩ := h
    rfl
  · obtain ⟨p, l, A, q, m, rfl, ct, hl, hm, k⟩ := h
    obtain ⟨dx, hp⟩ := ct.car
    refine ⟨_, pss_cons (ps_set (i := 2) scTurn.nd rfl (Or.inl rfl) (pe_ix ix_list (pv 1) pe_int (fun _ _ => rfl)))
      (pss_cons (ps_for PassesOwn.never rfl (pi_list (pv 1)) (pg_name (i := 3) scTurn.nd rfl (Or.inl rfl))
        (pss_one (ps_if (pt_cmpR op_gt (pe_meth (pv 0) T.cl m1 G1 hr b1 .nil pass0 (pa_cons (pv 3) pa_nil)) (pe_meth (pv 0) T.cl m1 G1 hr b1 .nil pass0 (pa_cons (pv 2) pa_nil)) (nomark _))
          (pss_one (ps_set (i := 2) scTurn.nd rfl (Or.inl rfl) (pv 3))) pss_nil)))
      (pss_one (ps_ret (pv 2)))), ?_⟩
    have hpos := KPlan.riders_pos hm
    obtain ⟨k0, rs, ers⟩ : ∃ k0 rs, Kyd.riders q.n m = k0 :: rs := by
      cases e : Kyd.riders q.n m with
      | nil => rw [e] at hpos; simp at hpos
      | cons a b => exact ⟨a, b, rfl⟩
    have hlt : ∀ x, x ∈ Kyd.riders q.n m → x < q.n := fun x hx => riders_lt hx
    have hk0 : k0 < q.n := hlt k0 (by rw [ers]; exact List.mem_cons_self)
    refine ⟨_, rfl, l, _, 0, nv k0, rfl, rfl, hl, ?_, ?_⟩
    · exact atI_nat (j := 0) (xs := (Kyd.riders q.n m).map nv) (by rw [ers]; rfl)
    refine ⟨_, rfl, l, rfl, ⟨_, hl⟩, for_list (K := K) (a := l) (xs := (Kyd.riders q.n m).map nv) (fun i σ H' => ∃ v : Option V, σ = [some (.ref p), some (.ref l), some (nv (turnOf (Kyd.owes q) k0 ((Kyd.riders q.n m).take i))), v] ∧ H' = H)
      ⟨none, rfl, rfl⟩ (fun i σ H' _ ⟨_, _, e⟩ => by rw [e]; exact hl) ?_ ?_⟩
    · rintro i y σ H' hi ⟨v, rfl, rfl⟩
      obtain ⟨z, hz, rfl⟩ := map_get hi
      have hzn : z < q.n := hlt z (List.mem_of_getElem? hz)
      have htn : turnOf (Kyd.owes q) k0 ((Kyd.riders q.n m).take i) < q.n := turn_mem q _ k0 q.n hk0 fun x hx => hlt x (List.mem_of_mem_take hx)
      refine ⟨_, rfl, p, dx, _, rfl, hp, cf_no _ _ (by decide +kernel), _, rfl, p, q.n, z, A, _, _, _, rfl, ct.tot, hzn,
        _, rfl, p, dx, _, rfl, hp, cf_no _ _ (by decide +kernel), _, rfl, p, q.n, turnOf (Kyd.owes q) k0 ((Kyd.riders q.n m).take i), A, _, _, _, rfl, ct.tot, htn, _, _, rfl, rfl, _, rfl, ?_⟩
      have e1 : turnOf (Kyd.owes q) k0 ((Kyd.riders q.n m).take (i + 1)) = if Kyd.owes q (turnOf (Kyd.owes q) k0 ((Kyd.riders q.n m).take i)) < Kyd.owes q z then z else turnOf (Kyd.owes q) k0 ((Kyd.riders q.n m).take i) := by
        rw [take_snoc hz]; unfold turnOf; rw [List.foldl_append]; rfl
      refine ite2 (fun c => ?_) (fun c => ?_)
      · have c' : Kyd.owes q (turnOf (Kyd.owes q) k0 ((Kyd.riders q.n m).take i)) < Kyd.owes q z := of_decide_eq_true c
        refine ⟨_, rfl, some (nv z), ?_, rfl⟩
        rw [e1, if_pos c']; rfl
      · have c' : ¬ Kyd.owes q (turnOf (Kyd.owes q) k0 ((Kyd.riders q.n m).take i)) < Kyd.owes q z := of_decide_eq_false (Bool.eq_false_iff.mpr c)
        refine ⟨some (nv z), ?_, rfl⟩
        rw [e1, if_neg c']; rfl
    · rintro σ H' ⟨v, rfl, rfl⟩
      refine ⟨_, rfl, ?_⟩
      rw [List.length_map, List.take_length]
      have := turn_driver q m k0 rs ers
      rw [← ers] at this
      rw [this]
      exact k

def spFull (C : Addr) : Sp := fun vs H Q _ => ∃ (p : Addr) (A : Ads) (q : Kyd.Pool), vs = [.ref p] ∧ CarAt C H p A q ∧ Q (.bl (decide ((1000 : Int) ≤ (q.days.length : Int)))) H
theorem scFull : FnScope ["self"] ["self"] (defScope sFull) := ⟨rfl, rfl, rfl, by decide +kernel, rfl, by decide +kernel, by decide +kernel⟩
theorem ok_full {f C : Addr} {fd : FuncData} (F : Fun K "is_full" "Car.is_full" sFull f fd) (T : Txt K mg C) : FnOk P w K mg base CX0 1 f fd ["self"] (spFull C) := by
  refine F.ok scFull (fun vs H Q E h => ?_) (fun cdv A outer s H vs Q E hr h => ?_)
  · obtain ⟨p, A, q, rfl, _⟩ := h
    rfl
  · obtain ⟨p, A, q, rfl, ct, k⟩ := h
    obtain ⟨dx, hp⟩ := ct.car
    obtain ⟨u, hm, r⟩ := T.mostD
    obtain ⟨ts, h1, h2⟩ := ct.len
    refine ⟨_, pss_one (ps_ret (pe_cmpR op_ge (pe_callB call_len_seq (by rfl) T.len PySem.boot_len (pa_cons (pe_fld (pv 0) rfl) pa_nil)) (pe_glob rfl hm r) (nomark _))), ?_⟩
    refine ⟨_, rfl, p, C, dx, _, _, rfl, hp, T.cl, T.nD, cf_days _ _, A.ld, _, rfl, .inl (SqL.of h1), _, _, rfl, rfl, ?_⟩
    rw [List.length_map, h2]
    exact k

theorem scReck : FnScope ["self", "riding", "driver", "times", "person"] ["self", "riding", "driver", "times"] (defScope sReckon) := ⟨rfl, rfl, rfl, by decide +kernel, rfl, by decide +kernel, by decide +kernel⟩

def spReckL (K : PySem.W.Frag) (C : Addr) : Sp := fun vs H Q _ => ∃ (p l : Addr) (n d : Nat) (A : Ads) (fa fb fc : Nat → Int) (rs : List Nat) (t : Int), vs = [.ref p, .ref l, nv d, .int t] ∧ Tot C H p n A fa fb fc ∧ SqL K H l (rs.map nv) ∧ l ≠ A.la ∧ l ≠ A.lb ∧ l ≠ A.lc ∧
  rs.Nodup ∧ (∀ x, x ∈ rs → x < n) ∧ 0 < rs.length ∧ rs.length ≤ 10 ∧ d < n ∧ (t = 1 ∨ t = -1) ∧
  ∀ H', Tot C H' p n A (fun k => fa k + if k = d then t else 0) (fun k => fb k + if k ∈ rs then t else 0) (fun k => fc k + if k ∈ rs then t * (2520 / (rs.length : Int)) else 0) → (∀ b, b ≠ A.la → b ≠ A.lb → b ≠ A.lc → H' b = H b) → Q .non H'
theorem ok_reckL {f C : Addr} {fd : FuncData} (F : Fun K "reckon" "Car.reckon" sReckon f fd) (T : Txt K mg C) (M1 : Fnc P w K mg base "share_of" 1 ["riding"] (spShare K)) : FnOk P w K mg base CX0 2 f fd ["self", "riding", "driver", "times"] (spReckL K C) := by
  obtain ⟨f1, fd1, G1, b1, m1, k1⟩ := M1
  refine F.ok scReck (fun vs H Q E h => ?_) (fun cdv A outer s H vs Q E hr h => ?_)
  · obtain ⟨p, l, n, d, A, fa, fb, fc, rs, t, rfl, _⟩ := h
    rfl
  · obtain ⟨p, l, n, d, A, fa, fb, fc, rs, t, rfl, tt, hl, nla, nlb, nlc, nd, hlt, hpos, hle, hd, ht, k⟩ := h
    obtain ⟨dx, hp⟩ := tt.car
    refine ⟨_, pss_cons (ps_for PassesOwn.never rfl (pi_list (pv 1)) (pg_name (i := 4) scReck.nd rfl (Or.inl rfl))
        (pss_cons (ps_augS (pe_fld (pv 0) rfl) (pv 4) get_list (pv 3) ip_add set_list)
        (pss_one (ps_augS (pe_fld (pv 0) rfl) (pv 4) get_list (pe_op op_mul (pv 3) (pe_call G1 hr rfl m1 k1 b1 .nil pass0 (pa_cons (pv 1) pa_nil))) ip_add set_list))))
      (pss_one (ps_augS (pe_fld (pv 0) rfl) (pv 2) get_list (pv 3) ip_add set_list)), ?_⟩
    have pa : p ≠ A.la := ne_of hp tt.dr (by intro z; cases z)
    have pb : p ≠ A.lb := ne_of hp tt.ro (by intro z; cases z)
    have pc : p ≠ A.lc := ne_of hp tt.ou (by intro z; cases z)
    refine ⟨_, rfl, l, rfl, ⟨_, hl⟩, for_list (K := K) (a := l) (xs := rs.map nv) (fun i σ H' => ∃ v : Option V, σ = [some (.ref p), some (.ref l), some (nv d), some (.int t), v] ∧
        H' A.lb = some (rl n fun k => fb k + if k ∈ rs.take i then t else 0) ∧ H' A.lc = some (rl n fun k => fc k + if k ∈ rs.take i then t * (2520 / (rs.length : Int)) else 0) ∧ ∀ b, b ≠ A.lb → b ≠ A.lc → H' b = H b)
      ⟨none, rfl, ?_, ?_, fun _ _ _ => rfl⟩ (fun i σ H' _ ⟨_, _, _, _, e⟩ => SqL.at (e l nlb nlc) hl) ?_ ?_⟩
    · rw [tt.ro]; simp
    · rw [tt.ou]; simp
    · rintro i y σ H' hi ⟨v, rfl, h1, h2, hb⟩
      obtain ⟨z, hz, rfl⟩ := map_get hi
      have hzn : z < n := hlt z (List.mem_of_getElem? hz)
      have nin := not_in_take nd hz
      have step : ∀ (f : Nat → Int) (c : Int), ((List.range n).map fun k => V.int (f k + if k ∈ rs.take i then c else 0)).set z (V.int (f z + (if z ∈ rs.take i then c else 0) + c)) = (List.range n).map fun k => V.int (f k + if k ∈ rs.take (i + 1) then c else 0) := fun f c => by
        rw [range_set _ _ hzn]
        refine List.map_congr_left fun k hk => ?_
        rw [take_snoc hz]
        by_cases e : k = z
        · subst e
          rw [if_pos rfl, if_neg nin, if_pos (by simp)]
          simp
        · rw [if_neg e]
          simp [e]
      refine ⟨_, rfl, p, C, dx, _, _, rfl, (by rw [hb p pb pc]; exact hp), T.cl, T.nB, cf_rode _ _, _, rfl, A.lb, _, _, _, rfl, rfl, SqL.of h1, range_at _ hzn,
        _, rfl, _, _, rfl, rfl, A.lb, _, _, z, rfl, rfl, h1, range_ix _ hzn, ?_⟩
      rw [step]
      have h1' : (upd H' A.lb (.lst ((List.range n).map fun k => V.int (fb k + if k ∈ rs.take (i + 1) then t else 0)))) A.lb = some (rl n fun k => fb k + if k ∈ rs.take (i + 1) then t else 0) := upd_same
      have h2' : (upd H' A.lb (.lst ((List.range n).map fun k => V.int (fb k + if k ∈ rs.take (i + 1) then t else 0)))) A.lc = some (rl n fun k => fc k + if k ∈ rs.take i then t * (2520 / (rs.length : Int)) else 0) := by rw [upd_ne tt.ap.bc.symm]; exact h2
      have hb' : ∀ b, b ≠ A.lb → b ≠ A.lc → (upd H' A.lb (.lst ((List.range n).map fun k => V.int (fb k + if k ∈ rs.take (i + 1) then t else 0)))) b = H b := fun b x y => by rw [upd_ne x]; exact hb b x y
      generalize upd H' A.lb (.lst ((List.range n).map fun k => V.int (fb k + if k ∈ rs.take (i + 1) then t else 0))) = H2 at h1' h2' hb' ⊢
      refine ⟨_, rfl, p, C, dx, _, _, rfl, (by rw [hb' p pb pc]; exact hp), T.cl, T.nC, cf_ought _ _, _, rfl, A.lc, _, _, _, rfl, rfl, SqL.of h2', range_at _ hzn,
        _, rfl, _, rfl, l, _, rfl, .inl (SqL.at (hb' l nlb nlc) hl), (by rw [List.length_map]; exact hpos), (by rw [List.length_map]; exact hle), _, _, rfl, rfl, .inl ⟨by omega, by omega⟩, _, _, rfl, rfl, A.lc, _, _, z, rfl, rfl, h2', range_ix _ hzn, ?_⟩
      rw [List.length_map, step]
      refine ⟨some (nv z), rfl, ?_, upd_same, fun b x y => by rw [upd_ne y]; exact hb' b x y⟩
      rw [upd_ne tt.ap.bc]; exact h1'
    · rintro σ H' ⟨v, rfl, h1, h2, hb⟩
      rw [List.length_map, List.take_length] at h1 h2
      have h0 : H' A.la = some (rl n fa) := by rw [hb A.la tt.ap.ab tt.ap.ac]; exact tt.dr
      refine ⟨_, rfl, p, C, dx, _, _, rfl, (by rw [hb p pb pc]; exact hp), T.cl, T.nA, cf_drove _ _, _, rfl, A.la, _, _, _, rfl, rfl, SqL.of h0, range_at _ hd,
        _, rfl, _, _, rfl, rfl, A.la, _, _, d, rfl, rfl, h0, range_ix _ hd, ?_⟩
      refine k _ ⟨⟨dx, ?_⟩, ?_, ?_, ?_, tt.ap⟩ fun b x y z => ?_
      · rw [upd_ne pa, hb p pb pc]; exact hp
      · rw [upd_same, range_set _ _ hd]
        refine congrArg (fun x => some (HO.lst x)) (List.map_congr_left fun j hj => ?_)
        by_cases e : j = d
        · rw [if_pos e]
          show V.int (fa d + t) = V.int (fa j + if j = d then t else 0)
          rw [if_pos e, e]
        · rw [if_neg e]
          show V.int (fa j) = V.int (fa j + if j = d then t else 0)
          rw [if_neg e, Int.add_zero]
      · rw [upd_ne tt.ap.ab.symm]; exact h1
      · rw [upd_ne tt.ap.ac.symm]; exact h2
      · rw [upd_ne x]; exact hb b y z

def spReckT (K : PySem.W.Frag) (C : Addr) : Sp := fun vs H Q _ => ∃ (p l : Addr) (n d : Nat) (A : Ads) (fa fb fc : Nat → Int) (rs : List Nat) (t : Int), vs = [.ref p, .ref l, nv d, .int t] ∧ Tot C H p n A fa fb fc ∧ SqT K H l (rs.map nv) ∧ l ≠ A.la ∧ l ≠ A.lb ∧ l ≠ A.lc ∧
  rs.Nodup ∧ (∀ x, x ∈ rs → x < n) ∧ 0 < rs.length ∧ rs.length ≤ 10 ∧ d < n ∧ (t = 1 ∨ t = -1) ∧
  ∀ H', Tot C H' p n A (fun k => fa k + if k = d then t else 0) (fun k => fb k + if k ∈ rs then t else 0) (fun k => fc k + if k ∈ rs then t * (2520 / (rs.length : Int)) else 0) → (∀ b, b ≠ A.la → b ≠ A.lb → b ≠ A.lc → H' b = H b) → Q .non H'
theorem ok_reckT {f C : Addr} {fd : FuncData} (F : Fun K "reckon" "Car.reckon" sReckon f fd) (T : Txt K mg C) (M1 : Fnc P w K mg base "share_of" 1 ["riding"] (spShare K)) : FnOk P w K mg base CX0 2 f fd ["self", "riding", "driver", "times"] (spReckT K C) := by
  obtain ⟨f1, fd1, G1, b1, m1, k1⟩ := M1
  refine F.ok scReck (fun vs H Q E h => ?_) (fun cdv A outer s H vs Q E hr h => ?_)
  · obtain ⟨p, l, n, d, A, fa, fb, fc, rs, t, rfl, _⟩ := h
    rfl
  · obtain ⟨p, l, n, d, A, fa, fb, fc, rs, t, rfl, tt, hl, nla, nlb, nlc, nd, hlt, hpos, hle, hd, ht, k⟩ := h
    obtain ⟨dx, hp⟩ := tt.car
    refine ⟨_, pss_cons (ps_for PassesOwn.never rfl (pi_tup (pv 1)) (pg_name (i := 4) scReck.nd rfl (Or.inl rfl))
        (pss_cons (ps_augS (pe_fld (pv 0) rfl) (pv 4) get_list (pv 3) ip_add set_list)
        (pss_one (ps_augS (pe_fld (pv 0) rfl) (pv 4) get_list (pe_op op_mul (pv 3) (pe_call G1 hr rfl m1 k1 b1 .nil pass0 (pa_cons (pv 1) pa_nil))) ip_add set_list))))
      (pss_one (ps_augS (pe_fld (pv 0) rfl) (pv 2) get_list (pv 3) ip_add set_list)), ?_⟩
    have pa : p ≠ A.la := ne_of hp tt.dr (by intro z; cases z)
    have pb : p ≠ A.lb := ne_of hp tt.ro (by intro z; cases z)
    have pc : p ≠ A.lc := ne_of hp tt.ou (by intro z; cases z)
    refine ⟨_, rfl, l, rfl, ⟨_, hl⟩, for_tup (K := K) (a := l) (xs := rs.map nv) (fun i σ H' => ∃ v : Option V, σ = [some (.ref p), some (.ref l), some (nv d), some (.int t), v] ∧
        H' A.lb = some (rl n fun k => fb k + if k ∈ rs.take i then t else 0) ∧ H' A.lc = some (rl n fun k => fc k + if k ∈ rs.take i then t * (2520 / (rs.length : Int)) else 0) ∧ ∀ b, b ≠ A.lb → b ≠ A.lc → H' b = H b)
      ⟨none, rfl, ?_, ?_, fun _ _ _ => rfl⟩ (fun i σ H' _ ⟨_, _, _, _, e⟩ => SqT.at (e l nlb nlc) hl) ?_ ?_⟩
    · rw [tt.ro]; simp
    · rw [tt.ou]; simp
    · rintro i y σ H' hi ⟨v, rfl, h1, h2, hb⟩
      obtain ⟨z, hz, rfl⟩ := map_get hi
      have hzn : z < n := hlt z (List.mem_of_getElem? hz)
      have nin := not_in_take nd hz
      have step : ∀ (f : Nat → Int) (c : Int), ((List.range n).map fun k => V.int (f k + if k ∈ rs.take i then c else 0)).set z (V.int (f z + (if z ∈ rs.take i then c else 0) + c)) = (List.range n).map fun k => V.int (f k + if k ∈ rs.take (i + 1) then c else 0) := fun f c => by
        rw [range_set _ _ hzn]
        refine List.map_congr_left fun k hk => ?_
        rw [take_snoc hz]
        by_cases e : k = z
        · subst e
          rw [if_pos rfl, if_neg nin, if_pos (by simp)]
          simp
        · rw [if_neg e]
          simp [e]
      refine ⟨_, rfl, p, C, dx, _, _, rfl, (by rw [hb p pb pc]; exact hp), T.cl, T.nB, cf_rode _ _, _, rfl, A.lb, _, _, _, rfl, rfl, SqL.of h1, range_at _ hzn,
        _, rfl, _, _, rfl, rfl, A.lb, _, _, z, rfl, rfl, h1, range_ix _ hzn, ?_⟩
      rw [step]
      have h1' : (upd H' A.lb (.lst ((List.range n).map fun k => V.int (fb k + if k ∈ rs.take (i + 1) then t else 0)))) A.lb = some (rl n fun k => fb k + if k ∈ rs.take (i + 1) then t else 0) := upd_same
      have h2' : (upd H' A.lb (.lst ((List.range n).map fun k => V.int (fb k + if k ∈ rs.take (i + 1) then t else 0)))) A.lc = some (rl n fun k => fc k + if k ∈ rs.take i then t * (2520 / (rs.length : Int)) else 0) := by rw [upd_ne tt.ap.bc.symm]; exact h2
      have hb' : ∀ b, b ≠ A.lb → b ≠ A.lc → (upd H' A.lb (.lst ((List.range n).map fun k => V.int (fb k + if k ∈ rs.take (i + 1) then t else 0)))) b = H b := fun b x y => by rw [upd_ne x]; exact hb b x y
      generalize upd H' A.lb (.lst ((List.range n).map fun k => V.int (fb k + if k ∈ rs.take (i + 1) then t else 0))) = H2 at h1' h2' hb' ⊢
      refine ⟨_, rfl, p, C, dx, _, _, rfl, (by rw [hb' p pb pc]; exact hp), T.cl, T.nC, cf_ought _ _, _, rfl, A.lc, _, _, _, rfl, rfl, SqL.of h2', range_at _ hzn,
        _, rfl, _, rfl, l, _, rfl, .inr (SqT.at (hb' l nlb nlc) hl), (by rw [List.length_map]; exact hpos), (by rw [List.length_map]; exact hle), _, _, rfl, rfl, .inl ⟨by omega, by omega⟩, _, _, rfl, rfl, A.lc, _, _, z, rfl, rfl, h2', range_ix _ hzn, ?_⟩
      rw [List.length_map, step]
      refine ⟨some (nv z), rfl, ?_, upd_same, fun b x y => by rw [upd_ne y]; exact hb' b x y⟩
      rw [upd_ne tt.ap.bc]; exact h1'
    · rintro σ H' ⟨v, rfl, h1, h2, hb⟩
      rw [List.length_map, List.take_length] at h1 h2
      have h0 : H' A.la = some (rl n fa) := by rw [hb A.la tt.ap.ab tt.ap.ac]; exact tt.dr
      refine ⟨_, rfl, p, C, dx, _, _, rfl, (by rw [hb p pb pc]; exact hp), T.cl, T.nA, cf_drove _ _, _, rfl, A.la, _, _, _, rfl, rfl, SqL.of h0, range_at _ hd,
        _, rfl, _, _, rfl, rfl, A.la, _, _, d, rfl, rfl, h0, range_ix _ hd, ?_⟩
      refine k _ ⟨⟨dx, ?_⟩, ?_, ?_, ?_, tt.ap⟩ fun b x y z => ?_
      · rw [upd_ne pa, hb p pb pc]; exact hp
      · rw [upd_same, range_set _ _ hd]
        refine congrArg (fun x => some (HO.lst x)) (List.map_congr_left fun j hj => ?_)
        by_cases e : j = d
        · rw [if_pos e]
          show V.int (fa d + t) = V.int (fa j + if j = d then t else 0)
          rw [if_pos e, e]
        · rw [if_neg e]
          show V.int (fa j) = V.int (fa j + if j = d then t else 0)
          rw [if_neg e, Int.add_zero]
      · rw [upd_ne tt.ap.ab.symm]; exact h1
      · rw [upd_ne tt.ap.ac.symm]; exact h2
      · rw [upd_ne x]; exact hb b y z
end
end Df

namespace Df
open PySem PySem.Spec PyProof.Rows L2
open PySem.W (Codec)

section
variable {P : Program} {w : World} {K : PySem.W.Frag} {mg : Str → Option Value} {base : Heap}

/-- a day more, a day less, as the three lists tell it -/
theorem tot_add {C : Addr} {H : Hp} {p : Addr} {A : Ads} {q : Kyd.Pool} {m d : Nat}
    (t : Tot C H p q.n A (fun k => (Kyd.drove q.days k : Int) + if k = d then 1 else 0) (fun k => (Kyd.rode q.days k : Int) + if k ∈ Kyd.riders q.n m then 1 else 0) (fun k => (Kyd.due q.n q.days k : Int) + if k ∈ Kyd.riders q.n m then 1 * (2520 / ((Kyd.riders q.n m).length : Int)) else 0)) :
    Tot C H p (Kyd.add q m d).n A (fun k => (Kyd.drove (Kyd.add q m d).days k : Int)) (fun k => (Kyd.rode (Kyd.add q m d).days k : Int)) (fun k => (Kyd.due (Kyd.add q m d).n (Kyd.add q m d).days k : Int)) := by
  refine ⟨t.car, t.dr.trans ?_, t.ro.trans ?_, t.ou.trans ?_, t.ap⟩
  · refine congrArg (fun x => some (HO.lst x)) (List.map_congr_left fun k hk => congrArg V.int ?_)
    show (Kyd.drove q.days k : Int) + (if k = d then 1 else 0) = ((Kyd.drove ((m, d) :: q.days) k : Nat) : Int)
    rw [drove_add]
    by_cases c : k = d <;> simp [c] <;> omega
  · refine congrArg (fun x => some (HO.lst x)) (List.map_congr_left fun k hk => congrArg V.int ?_)
    show (Kyd.rode q.days k : Int) + (if k ∈ Kyd.riders q.n m then 1 else 0) = ((Kyd.rode ((m, d) :: q.days) k : Nat) : Int)
    rw [rode_add]
    have e := in_riders_iff (m := m) (List.mem_range.mp hk)
    by_cases c : Kyd.has m k = true
    · rw [if_pos (e.mpr c), if_pos c]; omega
    · rw [if_neg fun z => c (e.mp z), if_neg c]; omega
  · refine congrArg (fun x => some (HO.lst x)) (List.map_congr_left fun k hk => congrArg V.int ?_)
    show (Kyd.due q.n q.days k : Int) + (if k ∈ Kyd.riders q.n m then 1 * (2520 / ((Kyd.riders q.n m).length : Int)) else 0) = ((Kyd.due q.n ((m, d) :: q.days) k : Nat) : Int)
    rw [due_add, part_eq]
    have e := in_riders_iff (m := m) (List.mem_range.mp hk)
    by_cases c : Kyd.has m k = true
    · rw [if_pos (e.mpr c), if_pos c]; omega
    · rw [if_neg fun z => c (e.mp z), if_neg c]; omega
theorem tot_back {C : Addr} {H : Hp} {p : Addr} {A : Ads} {n : Nat} {l : List (Nat × Nat)} {m d : Nat}
    (t : Tot C H p n A (fun k => (Kyd.drove ((m, d) :: l) k : Int) + if k = d then -1 else 0) (fun k => (Kyd.rode ((m, d) :: l) k : Int) + if k ∈ Kyd.riders n m then -1 else 0) (fun k => (Kyd.due n ((m, d) :: l) k : Int) + if k ∈ Kyd.riders n m then -1 * (2520 / ((Kyd.riders n m).length : Int)) else 0)) :
    Tot C H p n A (fun k => (Kyd.drove l k : Int)) (fun k => (Kyd.rode l k : Int)) (fun k => (Kyd.due n l k : Int)) := by
  refine ⟨t.car, t.dr.trans ?_, t.ro.trans ?_, t.ou.trans ?_, t.ap⟩
  · refine congrArg (fun x => some (HO.lst x)) (List.map_congr_left fun k hk => congrArg V.int ?_)
    dsimp only
    rw [drove_add]
    by_cases c : k = d <;> simp [c] <;> omega
  · refine congrArg (fun x => some (HO.lst x)) (List.map_congr_left fun k hk => congrArg V.int ?_)
    dsimp only
    rw [rode_add]
    have e := in_riders_iff (m := m) (List.mem_range.mp hk)
    by_cases c : Kyd.has m k = true
    · rw [if_pos (e.mpr c), if_pos c]; omega
    · rw [if_neg fun z => c (e.mp z), if_neg c]; omega
  · refine congrArg (fun x => some (HO.lst x)) (List.map_congr_left fun k hk => congrArg V.int ?_)
    dsimp only
    rw [due_add, part_eq]
    have e := in_riders_iff (m := m) (List.mem_range.mp hk)
    by_cases c : Kyd.has m k = true
    · rw [if_pos (e.mpr c), if_pos c]; omega
    · rw [if_neg fun z => c (e.mp z), if_neg c]; omega

def spAdd (C : Addr) : Sp := fun vs H Q _ => ∃ (p l : Addr) (A : Ads) (q : Kyd.Pool) (m d : Nat), vs = [.ref p, .ref l, nv d] ∧ CarAt C H p A q ∧ q.n ≤ 10 ∧ q.days.length < 1000 ∧ H l = some (.lst ((Kyd.riders q.n m).map nv)) ∧ l ∉ A.l ∧ Kyd.okRide q.n m = true ∧ d ∈ Kyd.riders q.n m ∧
  ∀ H', CarAt C H' p A (Kyd.add q m d) → Frame H H' A.l → Q .non H'
theorem scAdd : FnScope ["self", "riding", "driver"] ["self", "riding", "driver"] (defScope sAdd) := ⟨rfl, rfl, rfl, by decide +kernel, rfl, by decide +kernel, by decide +kernel⟩
theorem ok_add {f C : Addr} {fd : FuncData} (F : Fun K "add_day" "Car.add_day" sAdd f fd) (T : Txt K mg C) (M1 : Mth P w K mg base C "reckon" 2 ["self", "riding", "driver", "times"] (spReckL K C)) : FnOk P w K mg base CX0 3 f fd ["self", "riding", "driver"] (spAdd C) := by
  obtain ⟨f1, fd1, G1, b1, m1⟩ := M1
  refine F.ok scAdd (fun vs H Q E h => ?_) (fun cdv A outer s H vs Q E hr h => ?_)
  · obtain ⟨p, l, A, q, m, d, rfl, _⟩ := h
    rfl
  · obtain ⟨p, l, A, q, m, d, rfl, ct, hn, hlen, hl, nl, hm, hd, k⟩ := h
    have nld : l ≠ A.ld := fun z => nl (by simp [Ads.l, z])
    have nla : l ≠ A.la := fun z => nl (by simp [Ads.l, z])
    have nlb : l ≠ A.lb := fun z => nl (by simp [Ads.l, z])
    have nlc : l ≠ A.lc := fun z => nl (by simp [Ads.l, z])
    have ap := ct.tot.ap
    obtain ⟨dx, hp⟩ := ct.car
    obtain ⟨ts, hts, pts⟩ := ct.days
    have tlen : ts.length = q.days.length := by rw [Paired.length pts, List.length_reverse]
    refine ⟨_, pss_cons (ps_expr (pe_bm PySem.F.plainAttrs_list PySem.F.slot_list_append PySem.F.type_list_append mt_append (pe_fld (pv 0) rfl) (pa_cons (pe_tup (pa_cons (pe_callTy call_tuple_of (by rfl) T.tpl boot_tup (pa_cons (pv 1) pa_nil)) (pa_cons (pv 2) pa_nil))) pa_nil)))
      (pss_one (ps_expr (pe_meth (pv 0) T.cl m1 G1 hr b1 .nil pass0 (pa_cons (pv 1) (pa_cons (pv 2) (pa_cons pe_int pa_nil)))))), ?_⟩
    refine ⟨_, rfl, p, C, dx, _, _, rfl, hp, T.cl, T.nD, cf_days _ _, .inl ⟨rfl, _, SqL.of hts⟩, ?_⟩
    refine ⟨_, rfl, l, _, rfl, .inl ⟨SqL.of hl, fun r0 hr0 => ?_⟩⟩
    refine ⟨_, rfl, (by show 2 ≤ sizeLine; decide), fun t0 ht0 => ?_⟩
    have trk : Ext H (upd (upd H r0 (.tup ((Kyd.riders q.n m).map nv))) t0 (.tup [.ref r0, nv d])) := (Ext.new hr0 _).trans (Ext.new ht0 _)
    refine ⟨A.ld, _, _, rfl, rfl, trk _ _ hts, (by rw [List.length_map, tlen]; exact small1000 (by omega)), ?_⟩
    have r0t0 : r0 ≠ t0 := ne_of_none (o := .tup ((Kyd.riders q.n m).map nv)) upd_same ht0
    generalize hH2 : upd (upd H r0 (.tup ((Kyd.riders q.n m).map nv))) t0 (.tup [.ref r0, nv d]) = H2 at trk
    have h2t : H2 t0 = some (.tup [.ref r0, nv d]) := by rw [← hH2]; exact upd_same
    have h2r : H2 r0 = some (.tup ((Kyd.riders q.n m).map nv)) := by rw [← hH2, upd_ne r0t0]; exact upd_same
    have h2ld := trk _ _ hts
    have kp : ∀ {b : Addr} {o : HO}, H2 b = some o → b ≠ A.ld → (upd H2 A.ld (.lst (ts.map V.ref ++ [V.ref t0]))) b = some o := fun {b o} e hb => by rw [upd_ne hb]; exact e
    have h3l := kp (trk _ _ hl) nld
    have h3p := kp (trk _ _ hp) (ne_of hp hts (by intro z; cases z))
    have tot3 : Tot C (upd H2 A.ld (.lst (ts.map V.ref ++ [V.ref t0]))) p q.n A (fun k => (Kyd.drove q.days k : Int)) (fun k => (Kyd.rode q.days k : Int)) (fun k => (Kyd.due q.n q.days k : Int)) :=
      ⟨⟨dx, h3p⟩, kp (trk _ _ ct.tot.dr) ap.da.symm, kp (trk _ _ ct.tot.ro) ap.db.symm, kp (trk _ _ ct.tot.ou) ap.dc.symm, ap⟩
    have h3ld : (upd H2 A.ld (.lst (ts.map V.ref ++ [V.ref t0]))) A.ld = some (.lst ((ts ++ [t0]).map V.ref)) := by rw [upd_same, List.map_append]; rfl
    have tups : ∀ b xs, H b = some (.tup xs) → (upd H2 A.ld (.lst (ts.map V.ref ++ [V.ref t0]))) b = some (.tup xs) := fun b xs e => kp (trk _ _ e) (ne_of e hts (by intro z; cases z))
    have days3 : Paired (DayAt (upd H2 A.ld (.lst (ts.map V.ref ++ [V.ref t0]))) q.n) (ts ++ [t0]) ((m, d) :: q.days).reverse := by
      rw [List.reverse_cons]
      refine Paired.snoc (DayAt.stay tups pts) ⟨r0, kp h2t (ne_of h2t h2ld (by intro z; cases z)), kp h2r (ne_of h2r h2ld (by intro z; cases z))⟩
    have fr3 : Frame H (upd H2 A.ld (.lst (ts.map V.ref ++ [V.ref t0]))) A.l := fun b o e hb => kp (trk _ _ e) (fun z => hb (by simp [Ads.l, z]))
    generalize upd H2 A.ld (.lst (ts.map V.ref ++ [V.ref t0])) = H3 at h3l h3p tot3 h3ld days3 fr3 ⊢
    have hpos := KPlan.riders_pos hm
    have hle := KPlan.riders_le q.n m
    refine ⟨_, rfl, p, dx, _, rfl, h3p, cf_no _ _ (by decide +kernel), _, rfl, _, rfl, p, l, q.n, d, A, _, _, _, Kyd.riders q.n m, 1, rfl, tot3, SqL.of h3l, nla, nlb, nlc, riders_nodup _ _, fun x hx => riders_lt hx, hpos, by omega, riders_lt hd, .inl rfl, fun H' t' hb => ?_⟩
    refine k H' ⟨tot_add t', ts ++ [t0], ?_, ?_⟩ ?_
    · rw [hb A.ld ap.da ap.db ap.dc]; exact h3ld
    · refine DayAt.stay (fun b xs e => ?_) days3
      rw [hb b (ne_of e tot3.dr (by intro z; cases z)) (ne_of e tot3.ro (by intro z; cases z)) (ne_of e tot3.ou (by intro z; cases z))]; exact e
    · intro b o e hb'
      rw [hb b (fun z => hb' (by simp [Ads.l, z])) (fun z => hb' (by simp [Ads.l, z])) (fun z => hb' (by simp [Ads.l, z]))]
      exact fr3 b o e hb'

def spInit (C : Addr) : Sp := fun vs H Q _ => ∃ (p dx : Addr), vs = [.ref p] ∧ H p = some (.ins C dx []) ∧ ∀ H' A, CarAt C H' p A ⟨0, []⟩ → Frame H H' [p] → (∀ x, x ∈ A.l → H x = none) → Q .non H'
theorem scInit : FnScope ["self"] ["self"] (defScope sInit) := ⟨rfl, rfl, rfl, by decide +kernel, rfl, by decide +kernel, by decide +kernel⟩
theorem st_new {H Hc : Hp} {p l : Addr} {op o : HO} (F : Frame H Hc [p]) (hp : Hc p = some op) (hl : Hc l = none) : Frame H (upd Hc l o) [p] ∧ (upd Hc l o) p = some op ∧ H l = none ∧ l ≠ p := by
  have e : l ≠ p := (ne_of_none hp hl).symm
  refine ⟨F.trans (Frame.new hl _ _), by rw [upd_ne e.symm]; exact hp, ?_, e⟩
  cases z : H l with
  | none => rfl
  | some u => have := F l u z (by simpa using e); rw [hl] at this; cases this
theorem st_put {H Hc : Hp} {p : Addr} {o : HO} (F : Frame H Hc [p]) : Frame H (upd Hc p o) [p] := fun b u e hb => by
  rw [upd_ne (by simpa using hb)]; exact F b u e hb
theorem upd_none {H : Hp} {a b : Addr} {o : HO} (h : (upd H a o) b = none) : b ≠ a ∧ H b = none := by
  by_cases c : b = a
  · subst c; rw [upd_same] at h; cases h
  · rw [upd_ne c] at h; exact ⟨c, h⟩
theorem ok_init {f C : Addr} {fd : FuncData} (F : Fun K "__init__" "Car.__init__" sInit f fd) (T : Txt K mg C) : FnOk P w K mg base CX0 1 f fd ["self"] (spInit C) := by
  refine F.ok scInit (fun vs H Q E h => ?_) (fun cdv A outer s H vs Q E hr h => ?_)
  · obtain ⟨p, dx, rfl, _⟩ := h
    rfl
  · obtain ⟨p, dx, rfl, hp, k⟩ := h
    refine ⟨_, pss_cons (ps_fld (pv 0) pe_int rfl) (pss_cons (ps_fld (pv 0) (pe_lst pa_nil) rfl) (pss_cons (ps_fld (pv 0) (pe_lst pa_nil) rfl) (pss_cons (ps_fld (pv 0) (pe_lst pa_nil) rfl) (pss_one (ps_fld (pv 0) (pe_lst pa_nil) rfl))))), ?_⟩
    refine ⟨_, rfl, p, C, dx, [], rfl, hp, T.cl, T.nP, (by show 0 < 1000; decide), ?_⟩
    have F1 : Frame H (upd H p (.ins C dx (putF "people" (.int 0) []))) [p] := st_put Frame.refl
    have p1 : (upd H p (.ins C dx (putF "people" (.int 0) []))) p = some (.ins C dx (putF "people" (.int 0) [])) := upd_same
    generalize upd H p (.ins C dx (putF "people" (.int 0) [])) = H1 at F1 p1 ⊢
    refine ⟨Nat.zero_le _, fun ld hld => ?_⟩
    obtain ⟨F2, p2, n_ld, e_ld⟩ := st_new (o := .lst []) F1 p1 hld
    have g2_ld : (upd H1 ld (.lst [])) ld = some (.lst []) := upd_same
    generalize upd H1 ld (.lst []) = H2 at F2 p2 g2_ld ⊢
    refine ⟨_, rfl, p, C, dx, _, rfl, p2, T.cl, T.nD, (by show 1 < 1000; decide), ?_⟩
    have F3 : Frame H (upd H2 p (.ins C dx (putF "days" (.ref ld) (putF "people" (.int 0) [])))) [p] := st_put F2
    have p3 : (upd H2 p (.ins C dx (putF "days" (.ref ld) (putF "people" (.int 0) [])))) p = some (.ins C dx (putF "days" (.ref ld) (putF "people" (.int 0) []))) := upd_same
    have g3_ld : (upd H2 p (.ins C dx (putF "days" (.ref ld) (putF "people" (.int 0) [])))) ld = some (.lst []) := by rw [upd_ne e_ld]; exact g2_ld
    generalize upd H2 p (.ins C dx (putF "days" (.ref ld) (putF "people" (.int 0) []))) = H3 at F3 p3 g3_ld ⊢
    refine ⟨Nat.zero_le _, fun la hla => ?_⟩
    obtain ⟨F4, p4, n_la, e_la⟩ := st_new (o := .lst []) F3 p3 hla
    have g4_la : (upd H3 la (.lst [])) la = some (.lst []) := upd_same
    have g4_ld : (upd H3 la (.lst [])) ld = some (.lst []) := by rw [upd_ne (ne_of_none g3_ld hla)]; exact g3_ld
    have d_ld_la : ld ≠ la := ne_of_none g3_ld hla
    generalize upd H3 la (.lst []) = H4 at F4 p4 g4_ld g4_la ⊢
    refine ⟨_, rfl, p, C, dx, _, rfl, p4, T.cl, T.nA, (by show 2 < 1000; decide), ?_⟩
    have F5 : Frame H (upd H4 p (.ins C dx (putF "drove" (.ref la) (putF "days" (.ref ld) (putF "people" (.int 0) []))))) [p] := st_put F4
    have p5 : (upd H4 p (.ins C dx (putF "drove" (.ref la) (putF "days" (.ref ld) (putF "people" (.int 0) []))))) p = some (.ins C dx (putF "drove" (.ref la) (putF "days" (.ref ld) (putF "people" (.int 0) [])))) := upd_same
    have g5_ld : (upd H4 p (.ins C dx (putF "drove" (.ref la) (putF "days" (.ref ld) (putF "people" (.int 0) []))))) ld = some (.lst []) := by rw [upd_ne e_ld]; exact g4_ld
    have g5_la : (upd H4 p (.ins C dx (putF "drove" (.ref la) (putF "days" (.ref ld) (putF "people" (.int 0) []))))) la = some (.lst []) := by rw [upd_ne e_la]; exact g4_la
    generalize upd H4 p (.ins C dx (putF "drove" (.ref la) (putF "days" (.ref ld) (putF "people" (.int 0) [])))) = H5 at F5 p5 g5_ld g5_la ⊢
    refine ⟨Nat.zero_le _, fun lb hlb => ?_⟩
    obtain ⟨F6, p6, n_lb, e_lb⟩ := st_new (o := .lst []) F5 p5 hlb
    have g6_lb : (upd H5 lb (.lst [])) lb = some (.lst []) := upd_same
    have g6_ld : (upd H5 lb (.lst [])) ld = some (.lst []) := by rw [upd_ne (ne_of_none g5_ld hlb)]; exact g5_ld
    have d_ld_lb : ld ≠ lb := ne_of_none g5_ld hlb
    have g6_la : (upd H5 lb (.lst [])) la = some (.lst []) := by rw [upd_ne (ne_of_none g5_la hlb)]; exact g5_la
    have d_la_lb : la ≠ lb := ne_of_none g5_la hlb
    generalize upd H5 lb (.lst []) = H6 at F6 p6 g6_ld g6_la g6_lb ⊢
    refine ⟨_, rfl, p, C, dx, _, rfl, p6, T.cl, T.nB, (by show 3 < 1000; decide), ?_⟩
    have F7 : Frame H (upd H6 p (.ins C dx (putF "rode" (.ref lb) (putF "drove" (.ref la) (putF "days" (.ref ld) (putF "people" (.int 0) [])))))) [p] := st_put F6
    have p7 : (upd H6 p (.ins C dx (putF "rode" (.ref lb) (putF "drove" (.ref la) (putF "days" (.ref ld) (putF "people" (.int 0) [])))))) p = some (.ins C dx (putF "rode" (.ref lb) (putF "drove" (.ref la) (putF "days" (.ref ld) (putF "people" (.int 0) []))))) := upd_same
    have g7_ld : (upd H6 p (.ins C dx (putF "rode" (.ref lb) (putF "drove" (.ref la) (putF "days" (.ref ld) (putF "people" (.int 0) [])))))) ld = some (.lst []) := by rw [upd_ne e_ld]; exact g6_ld
    have g7_la : (upd H6 p (.ins C dx (putF "rode" (.ref lb) (putF "drove" (.ref la) (putF "days" (.ref ld) (putF "people" (.int 0) [])))))) la = some (.lst []) := by rw [upd_ne e_la]; exact g6_la
    have g7_lb : (upd H6 p (.ins C dx (putF "rode" (.ref lb) (putF "drove" (.ref la) (putF "days" (.ref ld) (putF "people" (.int 0) [])))))) lb = some (.lst []) := by rw [upd_ne e_lb]; exact g6_lb
    generalize upd H6 p (.ins C dx (putF "rode" (.ref lb) (putF "drove" (.ref la) (putF "days" (.ref ld) (putF "people" (.int 0) []))))) = H7 at F7 p7 g7_ld g7_la g7_lb ⊢
    refine ⟨Nat.zero_le _, fun lc hlc => ?_⟩
    obtain ⟨F8, p8, n_lc, e_lc⟩ := st_new (o := .lst []) F7 p7 hlc
    have g8_lc : (upd H7 lc (.lst [])) lc = some (.lst []) := upd_same
    have g8_ld : (upd H7 lc (.lst [])) ld = some (.lst []) := by rw [upd_ne (ne_of_none g7_ld hlc)]; exact g7_ld
    have d_ld_lc : ld ≠ lc := ne_of_none g7_ld hlc
    have g8_la : (upd H7 lc (.lst [])) la = some (.lst []) := by rw [upd_ne (ne_of_none g7_la hlc)]; exact g7_la
    have d_la_lc : la ≠ lc := ne_of_none g7_la hlc
    have g8_lb : (upd H7 lc (.lst [])) lb = some (.lst []) := by rw [upd_ne (ne_of_none g7_lb hlc)]; exact g7_lb
    have d_lb_lc : lb ≠ lc := ne_of_none g7_lb hlc
    generalize upd H7 lc (.lst []) = H8 at F8 p8 g8_ld g8_la g8_lb g8_lc ⊢
    refine ⟨_, rfl, p, C, dx, _, rfl, p8, T.cl, T.nC, (by show 4 < 1000; decide), ?_⟩
    have F9 : Frame H (upd H8 p (.ins C dx (putF "ought" (.ref lc) (putF "rode" (.ref lb) (putF "drove" (.ref la) (putF "days" (.ref ld) (putF "people" (.int 0) []))))))) [p] := st_put F8
    have p9 : (upd H8 p (.ins C dx (putF "ought" (.ref lc) (putF "rode" (.ref lb) (putF "drove" (.ref la) (putF "days" (.ref ld) (putF "people" (.int 0) []))))))) p = some (.ins C dx (putF "ought" (.ref lc) (putF "rode" (.ref lb) (putF "drove" (.ref la) (putF "days" (.ref ld) (putF "people" (.int 0) [])))))) := upd_same
    have g9_ld : (upd H8 p (.ins C dx (putF "ought" (.ref lc) (putF "rode" (.ref lb) (putF "drove" (.ref la) (putF "days" (.ref ld) (putF "people" (.int 0) []))))))) ld = some (.lst []) := by rw [upd_ne e_ld]; exact g8_ld
    have g9_la : (upd H8 p (.ins C dx (putF "ought" (.ref lc) (putF "rode" (.ref lb) (putF "drove" (.ref la) (putF "days" (.ref ld) (putF "people" (.int 0) []))))))) la = some (.lst []) := by rw [upd_ne e_la]; exact g8_la
    have g9_lb : (upd H8 p (.ins C dx (putF "ought" (.ref lc) (putF "rode" (.ref lb) (putF "drove" (.ref la) (putF "days" (.ref ld) (putF "people" (.int 0) []))))))) lb = some (.lst []) := by rw [upd_ne e_lb]; exact g8_lb
    have g9_lc : (upd H8 p (.ins C dx (putF "ought" (.ref lc) (putF "rode" (.ref lb) (putF "drove" (.ref la) (putF "days" (.ref ld) (putF "people" (.int 0) []))))))) lc = some (.lst []) := by rw [upd_ne e_lc]; exact g8_lc
    generalize upd H8 p (.ins C dx (putF "ought" (.ref lc) (putF "rode" (.ref lb) (putF "drove" (.ref la) (putF "days" (.ref ld) (putF "people" (.int 0) [])))))) = H9 at F9 p9 g9_ld g9_la g9_lb g9_lc ⊢
    refine k _ ⟨ld, la, lb, lc⟩ ⟨⟨⟨dx, p9⟩, g9_la, g9_lb, g9_lc, ⟨d_ld_la, d_ld_lb, d_ld_lc, d_la_lb, d_la_lc, d_lb_lc⟩⟩, [], g9_ld, .nil⟩ F9 ?_
    intro x hx
    simp only [Ads.l, List.mem_cons, List.not_mem_nil, or_false] at hx
    rcases hx with rfl | rfl | rfl | rfl
    · exact n_ld
    · exact n_la
    · exact n_lb
    · exact n_lc

def spStart (C : Addr) : Sp := fun vs H Q _ => ∃ (p : Addr) (A : Ads) (q : Kyd.Pool) (n : Nat), vs = [.ref p, nv n] ∧ CarAt C H p A q ∧
  if n < 2 ∨ 10 < n then Q (.int (-22)) H else Goes C H p A ⟨n, []⟩ (Q (.int 0))
theorem scStart : FnScope ["self", "n"] ["self", "n"] (defScope sStart) := ⟨rfl, rfl, rfl, by decide +kernel, rfl, by decide +kernel, by decide +kernel⟩
theorem ok_start {f C : Addr} {fd : FuncData} (F : Fun K "start" "Car.start" sStart f fd) (T : Txt K mg C) : FnOk P w K mg base CX0 1 f fd ["self", "n"] (spStart C) := by
  refine F.ok scStart (fun vs H Q E h => ?_) (fun cdv A outer s H vs Q E hr h => ?_)
  · obtain ⟨p, A, q, n, rfl, _⟩ := h
    rfl
  · obtain ⟨p, A, q, n, rfl, ct, k⟩ := h
    obtain ⟨dx, hp⟩ := ct.car
    obtain ⟨u1, hu1, r1⟩ := T.few
    obtain ⟨u2, hu2, r2⟩ := T.mostP
    obtain ⟨u3, hu3, r3⟩ := T.told
    refine ⟨_, pss_cons (ps_if (PW.pt (pw_or (pt_cmpR op_lt (pv 1) (pe_glob rfl hu1 r1) (nomark _)) (pw_or1 (pt_cmpR op_gt (pv 1) (pe_glob rfl hu2 r2) (nomark _))))) (pss_one (ps_ret (pe_glob rfl hu3 r3))) pss_nil)
      (pss_cons (ps_fld (pv 0) (pv 1) rfl) (pss_cons (ps_fld (pv 0) (pe_lst pa_nil) rfl) (pss_cons (ps_fld (pv 0) (pe_op op_rep (pe_lst (pa_cons pe_int pa_nil)) (pv 1)) rfl) (pss_cons (ps_fld (pv 0) (pe_op op_rep (pe_lst (pa_cons pe_int pa_nil)) (pv 1)) rfl) (pss_cons (ps_fld (pv 0) (pe_op op_rep (pe_lst (pa_cons pe_int pa_nil)) (pv 1)) rfl) (pss_one (ps_ret pe_int))))))), ?_⟩
    refine ⟨_, rfl, _, _, rfl, rfl, _, rfl, ite2 (fun h => ?_) (fun h => ?_)⟩
    · refine iteT ?_
      rw [if_pos (.inl (by have := of_decide_eq_true h; omega))] at k
      exact k
    refine ⟨_, rfl, _, _, rfl, rfl, _, rfl, ite2 (fun h' => ?_) (fun h' => ?_)⟩
    · rw [if_pos (.inr (by have := of_decide_eq_true h'; omega))] at k
      exact k
    have hn : 2 ≤ n ∧ n ≤ 10 := by
      have := of_decide_eq_false (Bool.eq_false_iff.mpr h)
      have := of_decide_eq_false (Bool.eq_false_iff.mpr h')
      omega
    rw [if_neg (by omega)] at k
    refine ⟨_, rfl, _, rfl, p, C, dx, _, rfl, hp, T.cl, T.nP, cf_len _ _, ?_⟩
    rw [cf_setP]
    have F1 : Frame H (upd H p (.ins C dx (cf n A))) [p] := st_put Frame.refl
    have p1 : (upd H p (.ins C dx (cf n A))) p = some (.ins C dx (cf n A)) := upd_same
    generalize upd H p (.ins C dx (cf n A)) = H1 at F1 p1 ⊢
    refine ⟨Nat.zero_le _, fun ld hld => ?_⟩
    obtain ⟨F2, p2, n_ld, e_ld⟩ := st_new (o := .lst []) F1 p1 hld
    have g2_ld : (upd H1 ld (.lst [])) ld = some (.lst []) := upd_same
    generalize upd H1 ld (.lst []) = H2 at F2 p2 g2_ld ⊢
    refine ⟨_, rfl, p, C, dx, _, rfl, p2, T.cl, T.nD, cf_len _ _, ?_⟩
    rw [cf_setD]
    have F3 : Frame H (upd H2 p (.ins C dx (cf n { A with ld := ld }))) [p] := st_put F2
    have p3 : (upd H2 p (.ins C dx (cf n { A with ld := ld }))) p = some (.ins C dx (cf n { A with ld := ld })) := upd_same
    have g3_ld : (upd H2 p (.ins C dx (cf n { A with ld := ld }))) ld = some (.lst []) := by rw [upd_ne e_ld]; exact g2_ld
    generalize upd H2 p (.ins C dx (cf n { A with ld := ld })) = H3 at F3 p3 g3_ld ⊢
    refine ⟨(by show 1 ≤ sizeLine; decide), fun t1 ht1 => ?_⟩
    obtain ⟨F4, p4, n_t1, e_t1⟩ := st_new (o := .lst [.int 0]) F3 p3 ht1
    have q1 : (upd H3 t1 (.lst [.int 0])) t1 = some (.lst [.int 0]) := upd_same
    have g4_ld : (upd H3 t1 (.lst [.int 0])) ld = some (.lst []) := by rw [upd_ne (ne_of_none g3_ld ht1)]; exact g3_ld
    generalize upd H3 t1 (.lst [.int 0]) = H4 at F4 p4 q1 g4_ld ⊢
    refine ⟨_, rfl, t1, _, _, rfl, rfl, q1, (by omega), (by omega), (by show 1 * (n : Int).toNat ≤ sizeLine; exact Nat.le_of_lt (small1000 (by omega))), fun la hla => ?_⟩
    rw [rep_int]
    obtain ⟨F5, p5, n_la, e_la⟩ := st_new (o := .lst ((List.range n).map fun _ => V.int 0)) F4 p4 hla
    have g5_la : (upd H4 la (.lst ((List.range n).map fun _ => V.int 0))) la = some (rl n fun _ => 0) := upd_same
    have g5_ld : (upd H4 la (.lst ((List.range n).map fun _ => V.int 0))) ld = some (.lst []) := by rw [upd_ne (ne_of_none g4_ld hla)]; exact g4_ld
    have d_ld_la : ld ≠ la := ne_of_none g4_ld hla
    generalize upd H4 la (.lst ((List.range n).map fun _ => V.int 0)) = H5 at F5 p5 g5_ld g5_la ⊢
    refine ⟨_, rfl, p, C, dx, _, rfl, p5, T.cl, T.nA, cf_len _ _, ?_⟩
    rw [cf_setA]
    have F6 : Frame H (upd H5 p (.ins C dx (cf n { { A with ld := ld } with la := la }))) [p] := st_put F5
    have p6 : (upd H5 p (.ins C dx (cf n { { A with ld := ld } with la := la }))) p = some (.ins C dx (cf n { { A with ld := ld } with la := la })) := upd_same
    have g6_ld : (upd H5 p (.ins C dx (cf n { { A with ld := ld } with la := la }))) ld = some (.lst []) := by rw [upd_ne e_ld]; exact g5_ld
    have g6_la : (upd H5 p (.ins C dx (cf n { { A with ld := ld } with la := la }))) la = some (rl n fun _ => 0) := by rw [upd_ne e_la]; exact g5_la
    generalize upd H5 p (.ins C dx (cf n { { A with ld := ld } with la := la })) = H6 at F6 p6 g6_ld g6_la ⊢
    refine ⟨(by show 1 ≤ sizeLine; decide), fun t2 ht2 => ?_⟩
    obtain ⟨F7, p7, n_t2, e_t2⟩ := st_new (o := .lst [.int 0]) F6 p6 ht2
    have q2 : (upd H6 t2 (.lst [.int 0])) t2 = some (.lst [.int 0]) := upd_same
    have g7_ld : (upd H6 t2 (.lst [.int 0])) ld = some (.lst []) := by rw [upd_ne (ne_of_none g6_ld ht2)]; exact g6_ld
    have g7_la : (upd H6 t2 (.lst [.int 0])) la = some (rl n fun _ => 0) := by rw [upd_ne (ne_of_none g6_la ht2)]; exact g6_la
    generalize upd H6 t2 (.lst [.int 0]) = H7 at F7 p7 q2 g7_ld g7_la ⊢
    refine ⟨_, rfl, t2, _, _, rfl, rfl, q2, (by omega), (by omega), (by show 1 * (n : Int).toNat ≤ sizeLine; exact Nat.le_of_lt (small1000 (by omega))), fun lb hlb => ?_⟩
    rw [rep_int]
    obtain ⟨F8, p8, n_lb, e_lb⟩ := st_new (o := .lst ((List.range n).map fun _ => V.int 0)) F7 p7 hlb
    have g8_lb : (upd H7 lb (.lst ((List.range n).map fun _ => V.int 0))) lb = some (rl n fun _ => 0) := upd_same
    have g8_ld : (upd H7 lb (.lst ((List.range n).map fun _ => V.int 0))) ld = some (.lst []) := by rw [upd_ne (ne_of_none g7_ld hlb)]; exact g7_ld
    have d_ld_lb : ld ≠ lb := ne_of_none g7_ld hlb
    have g8_la : (upd H7 lb (.lst ((List.range n).map fun _ => V.int 0))) la = some (rl n fun _ => 0) := by rw [upd_ne (ne_of_none g7_la hlb)]; exact g7_la
    have d_la_lb : la ≠ lb := ne_of_none g7_la hlb
    generalize upd H7 lb (.lst ((List.range n).map fun _ => V.int 0)) = H8 at F8 p8 g8_ld g8_la g8_lb ⊢
    refine ⟨_, rfl, p, C, dx, _, rfl, p8, T.cl, T.nB, cf_len _ _, ?_⟩
    rw [cf_setB]
    have F9 : Frame H (upd H8 p (.ins C dx (cf n { { { A with ld := ld } with la := la } with lb := lb }))) [p] := st_put F8
    have p9 : (upd H8 p (.ins C dx (cf n { { { A with ld := ld } with la := la } with lb := lb }))) p = some (.ins C dx (cf n { { { A with ld := ld } with la := la } with lb := lb })) := upd_same
    have g9_ld : (upd H8 p (.ins C dx (cf n { { { A with ld := ld } with la := la } with lb := lb }))) ld = some (.lst []) := by rw [upd_ne e_ld]; exact g8_ld
    have g9_la : (upd H8 p (.ins C dx (cf n { { { A with ld := ld } with la := la } with lb := lb }))) la = some (rl n fun _ => 0) := by rw [upd_ne e_la]; exact g8_la
    have g9_lb : (upd H8 p (.ins C dx (cf n { { { A with ld := ld } with la := la } with lb := lb }))) lb = some (rl n fun _ => 0) := by rw [upd_ne e_lb]; exact g8_lb
    generalize upd H8 p (.ins C dx (cf n { { { A with ld := ld } with la := la } with lb := lb })) = H9 at F9 p9 g9_ld g9_la g9_lb ⊢
    refine ⟨(by show 1 ≤ sizeLine; decide), fun t3 ht3 => ?_⟩
    obtain ⟨F10, p10, n_t3, e_t3⟩ := st_new (o := .lst [.int 0]) F9 p9 ht3
    have q3 : (upd H9 t3 (.lst [.int 0])) t3 = some (.lst [.int 0]) := upd_same
    have g10_ld : (upd H9 t3 (.lst [.int 0])) ld = some (.lst []) := by rw [upd_ne (ne_of_none g9_ld ht3)]; exact g9_ld
    have g10_la : (upd H9 t3 (.lst [.int 0])) la = some (rl n fun _ => 0) := by rw [upd_ne (ne_of_none g9_la ht3)]; exact g9_la
    have g10_lb : (upd H9 t3 (.lst [.int 0])) lb = some (rl n fun _ => 0) := by rw [upd_ne (ne_of_none g9_lb ht3)]; exact g9_lb
    generalize upd H9 t3 (.lst [.int 0]) = H10 at F10 p10 q3 g10_ld g10_la g10_lb ⊢
    refine ⟨_, rfl, t3, _, _, rfl, rfl, q3, (by omega), (by omega), (by show 1 * (n : Int).toNat ≤ sizeLine; exact Nat.le_of_lt (small1000 (by omega))), fun lc hlc => ?_⟩
    rw [rep_int]
    obtain ⟨F11, p11, n_lc, e_lc⟩ := st_new (o := .lst ((List.range n).map fun _ => V.int 0)) F10 p10 hlc
    have g11_lc : (upd H10 lc (.lst ((List.range n).map fun _ => V.int 0))) lc = some (rl n fun _ => 0) := upd_same
    have g11_ld : (upd H10 lc (.lst ((List.range n).map fun _ => V.int 0))) ld = some (.lst []) := by rw [upd_ne (ne_of_none g10_ld hlc)]; exact g10_ld
    have d_ld_lc : ld ≠ lc := ne_of_none g10_ld hlc
    have g11_la : (upd H10 lc (.lst ((List.range n).map fun _ => V.int 0))) la = some (rl n fun _ => 0) := by rw [upd_ne (ne_of_none g10_la hlc)]; exact g10_la
    have d_la_lc : la ≠ lc := ne_of_none g10_la hlc
    have g11_lb : (upd H10 lc (.lst ((List.range n).map fun _ => V.int 0))) lb = some (rl n fun _ => 0) := by rw [upd_ne (ne_of_none g10_lb hlc)]; exact g10_lb
    have d_lb_lc : lb ≠ lc := ne_of_none g10_lb hlc
    generalize upd H10 lc (.lst ((List.range n).map fun _ => V.int 0)) = H11 at F11 p11 g11_ld g11_la g11_lb g11_lc ⊢
    refine ⟨_, rfl, p, C, dx, _, rfl, p11, T.cl, T.nC, cf_len _ _, ?_⟩
    rw [cf_setC]
    have F12 : Frame H (upd H11 p (.ins C dx (cf n { { { { A with ld := ld } with la := la } with lb := lb } with lc := lc }))) [p] := st_put F11
    have p12 : (upd H11 p (.ins C dx (cf n { { { { A with ld := ld } with la := la } with lb := lb } with lc := lc }))) p = some (.ins C dx (cf n { { { { A with ld := ld } with la := la } with lb := lb } with lc := lc })) := upd_same
    have g12_ld : (upd H11 p (.ins C dx (cf n { { { { A with ld := ld } with la := la } with lb := lb } with lc := lc }))) ld = some (.lst []) := by rw [upd_ne e_ld]; exact g11_ld
    have g12_la : (upd H11 p (.ins C dx (cf n { { { { A with ld := ld } with la := la } with lb := lb } with lc := lc }))) la = some (rl n fun _ => 0) := by rw [upd_ne e_la]; exact g11_la
    have g12_lb : (upd H11 p (.ins C dx (cf n { { { { A with ld := ld } with la := la } with lb := lb } with lc := lc }))) lb = some (rl n fun _ => 0) := by rw [upd_ne e_lb]; exact g11_lb
    have g12_lc : (upd H11 p (.ins C dx (cf n { { { { A with ld := ld } with la := la } with lb := lb } with lc := lc }))) lc = some (rl n fun _ => 0) := by rw [upd_ne e_lc]; exact g11_lc
    generalize upd H11 p (.ins C dx (cf n { { { { A with ld := ld } with la := la } with lb := lb } with lc := lc })) = H12 at F12 p12 g12_ld g12_la g12_lb g12_lc ⊢
    refine k _ ⟨ld, la, lb, lc⟩ ⟨⟨⟨dx, p12⟩, g12_la, g12_lb, g12_lc, ⟨d_ld_la, d_ld_lb, d_ld_lc, d_la_lb, d_la_lc, d_lb_lc⟩⟩, [], g12_ld, .nil⟩ (F12.weak (fun x hx => by simp at hx; simp [hx])) ?_
    intro x hx
    simp only [Ads.l, List.mem_cons, List.not_mem_nil, or_false] at hx
    rcases hx with rfl | rfl | rfl | rfl
    · exact .inr n_ld
    · exact .inr n_la
    · exact .inr n_lb
    · exact .inr n_lc
end
end Df

namespace Df
open PySem PySem.Spec PyProof.Rows L2
open PySem.W (Codec)
section
variable {P : Program} {w : World} {K : PySem.W.Frag} {mg : Str → Option Value} {base : Heap}
theorem CarAt.out {C : Addr} {H : Hp} {p : Addr} {A : Ads} {q : Kyd.Pool} (c : CarAt C H p A q) {l : Addr} (h : H l = none) : l ∉ A.l := fun z => by
  obtain ⟨ts, hts, _⟩ := c.days
  simp only [Ads.l, List.mem_cons, List.not_mem_nil, or_false] at z
  rcases z with rfl | rfl | rfl | rfl
  · rw [h] at hts; cases hts
  · have := c.tot.dr; rw [h] at this; cases this
  · have := c.tot.ro; rw [h] at this; cases this
  · have := c.tot.ou; rw [h] at this; cases this

def spWho (C : Addr) : Sp := fun vs H Q _ => ∃ (p : Addr) (A : Ads) (q : Kyd.Pool) (m : Nat), vs = [.ref p, nv m] ∧ CarAt C H p A q ∧ q.n ≤ 10 ∧
  if Kyd.okRide q.n m = false then Q (.int (-22)) H else Goes C H p A q (Q (nv (Kyd.driver q m)))
theorem scWho : FnScope ["self", "m"] ["self", "m"] (defScope sWho) := ⟨rfl, rfl, rfl, by decide +kernel, rfl, by decide +kernel, by decide +kernel⟩
theorem ok_who {f C : Addr} {fd : FuncData} (F : Fun K "who" "Car.who" sWho f fd) (T : Txt K mg C) (M1 : Mth P w K mg base C "can_ride" 1 ["self", "m"] (spCan C)) (M2 : Mth P w K mg base C "riders" 1 ["self", "m"] (spRiders C)) (M3 : Mth P w K mg base C "whose_turn" 2 ["self", "riding"] (spTurn K C)) :
    FnOk P w K mg base CX0 3 f fd ["self", "m"] (spWho C) := by
  obtain ⟨f1, fd1, G1, b1, m1⟩ := M1
  obtain ⟨f2, fd2, G2, b2, m2⟩ := M2
  obtain ⟨f3, fd3, G3, b3, m3⟩ := M3
  refine F.ok scWho (fun vs H Q E h => ?_) (fun cdv A outer s H vs Q E hr h => ?_)
  · obtain ⟨p, A, q, n, rfl, _⟩ := h
    rfl
  · obtain ⟨p, A, q, m, rfl, ct, hn, k⟩ := h
    have hr1 := hr.mono (j := 1) (by decide)
    obtain ⟨dx, hp⟩ := ct.car
    obtain ⟨u3, hu3, r3⟩ := T.told
    refine ⟨_, pss_cons (ps_if (pt_not (pt_val (pe_meth (pv 0) T.cl m1 G1 hr1 b1 .nil pass0 (pa_cons (pv 1) pa_nil)))) (pss_one (ps_ret (pe_glob rfl hu3 r3))) pss_nil)
      (pss_one (ps_ret (pe_meth (pv 0) T.cl m3 G3 hr b3 .nil pass0 (pa_cons (pe_meth (pv 0) T.cl m2 G2 hr1 b2 .nil pass0 (pa_cons (pv 1) pa_nil)) pa_nil)))), ?_⟩
    refine ⟨_, rfl, p, dx, _, rfl, hp, cf_no _ _ (by decide +kernel), _, rfl, p, q.n, m, A, rfl, ⟨dx, hp⟩, hn, _, rfl, ?_⟩
    cases hok : Kyd.okRide q.n m with
    | false =>
      rw [if_pos hok] at k
      exact iteT k
    | true =>
      rw [if_neg (by rw [hok]; decide)] at k
      refine iteF ?_
      refine ⟨_, rfl, p, dx, _, rfl, hp, cf_no _ _ (by decide +kernel), _, rfl, p, dx, _, rfl, hp, cf_no _ _ (by decide +kernel), _, rfl, p, q.n, m, A, rfl, ⟨dx, hp⟩, hn, fun l hl => ?_⟩
      have e1 := Ext.new hl (.lst ((Kyd.riders q.n m).map nv))
      exact ⟨p, l, A, q, m, rfl, ct.ext e1, SqL.of upd_same, hok, k.ext ct e1⟩

def spRide (C : Addr) : Sp := fun vs H Q _ => ∃ (p : Addr) (A : Ads) (q : Kyd.Pool) (m : Nat), vs = [.ref p, nv m] ∧ CarAt C H p A q ∧ q.n ≤ 10 ∧ q.days.length ≤ 1000 ∧
  if Kyd.okRide q.n m = false then Q (.int (-22)) H else if q.days.length = 1000 then Q (.int (-28)) H else Goes C H p A (Kyd.add q m (Kyd.driver q m)) (Q (nv (Kyd.driver q m)))
theorem scRide : FnScope ["self", "m", "riding", "driver"] ["self", "m"] (defScope sRide) := ⟨rfl, rfl, rfl, by decide +kernel, rfl, by decide +kernel, by decide +kernel⟩
theorem ok_ride {f C : Addr} {fd : FuncData} (F : Fun K "ride" "Car.ride" sRide f fd) (T : Txt K mg C) (M1 : Mth P w K mg base C "can_ride" 1 ["self", "m"] (spCan C)) (M2 : Mth P w K mg base C "riders" 1 ["self", "m"] (spRiders C)) (M3 : Mth P w K mg base C "whose_turn" 2 ["self", "riding"] (spTurn K C))
    (M4 : Mth P w K mg base C "is_full" 1 ["self"] (spFull C)) (M5 : Mth P w K mg base C "add_day" 3 ["self", "riding", "driver"] (spAdd C)) :
    FnOk P w K mg base CX0 4 f fd ["self", "m"] (spRide C) := by
  obtain ⟨f1, fd1, G1, b1, m1⟩ := M1
  obtain ⟨f2, fd2, G2, b2, m2⟩ := M2
  obtain ⟨f3, fd3, G3, b3, m3⟩ := M3
  obtain ⟨f4, fd4, G4, b4, m4⟩ := M4
  obtain ⟨f5, fd5, G5, b5, m5⟩ := M5
  refine F.ok scRide (fun vs H Q E h => ?_) (fun cdv A outer s H vs Q E hr h => ?_)
  · obtain ⟨p, A, q, n, rfl, _⟩ := h
    rfl
  · obtain ⟨p, A, q, m, rfl, ct, hn, hlen, k⟩ := h
    have hr1 := hr.mono (j := 1) (by decide)
    have hr2 := hr.mono (j := 2) (by decide)
    obtain ⟨dx, hp⟩ := ct.car
    obtain ⟨u3, hu3, r3⟩ := T.told
    obtain ⟨u4, hu4, r4⟩ := T.room
    refine ⟨_, pss_cons (ps_if (pt_not (pt_val (pe_meth (pv 0) T.cl m1 G1 hr1 b1 .nil pass0 (pa_cons (pv 1) pa_nil)))) (pss_one (ps_ret (pe_glob rfl hu3 r3))) pss_nil)
      (pss_cons (ps_if (pt_val (pe_meth0 (pv 0) T.cl m4 G4 hr1 b4 .nil pass0)) (pss_one (ps_ret (pe_glob rfl hu4 r4))) pss_nil)
      (pss_cons (ps_set (i := 2) scRide.nd rfl (Or.inl rfl) (pe_meth (pv 0) T.cl m2 G2 hr1 b2 .nil pass0 (pa_cons (pv 1) pa_nil)))
      (pss_cons (ps_set (i := 3) scRide.nd rfl (Or.inl rfl) (pe_meth (pv 0) T.cl m3 G3 hr2 b3 .nil pass0 (pa_cons (pv 2) pa_nil)))
      (pss_cons (ps_expr (pe_meth (pv 0) T.cl m5 G5 hr b5 .nil pass0 (pa_cons (pv 2) (pa_cons (pv 3) pa_nil))))
      (pss_one (ps_ret (pv 3))))))), ?_⟩
    refine ⟨_, rfl, p, dx, _, rfl, hp, cf_no _ _ (by decide +kernel), _, rfl, p, q.n, m, A, rfl, ⟨dx, hp⟩, hn, _, rfl, ?_⟩
    cases hok : Kyd.okRide q.n m with
    | false =>
      rw [if_pos hok] at k
      exact iteT k
    | true =>
      rw [if_neg (by rw [hok]; decide)] at k
      refine iteF ?_
      refine ⟨_, rfl, p, dx, _, rfl, hp, cf_no _ _ (by decide +kernel), p, A, q, rfl, ct, _, rfl, ite2 (fun hf => ?_) (fun hf => ?_)⟩
      · rw [if_pos (by have := of_decide_eq_true hf; omega)] at k
        exact k
      have hl2 : q.days.length < 1000 := by
        have := of_decide_eq_false (Bool.eq_false_iff.mpr hf); omega
      rw [if_neg (by omega)] at k
      refine ⟨_, rfl, p, dx, _, rfl, hp, cf_no _ _ (by decide +kernel), _, rfl, p, q.n, m, A, rfl, ⟨dx, hp⟩, hn, fun l hl => ?_⟩
      have e1 := Ext.new hl (.lst ((Kyd.riders q.n m).map nv))
      have c1 := ct.ext e1
      obtain ⟨dx1, hp1⟩ := c1.car
      refine ⟨_, rfl, p, dx1, _, rfl, hp1, cf_no _ _ (by decide +kernel), _, rfl, p, l, A, q, m, rfl, c1, SqL.of upd_same, hok, ?_⟩
      refine ⟨_, rfl, p, dx1, _, rfl, hp1, cf_no _ _ (by decide +kernel), _, rfl, _, rfl, p, l, A, q, m, Kyd.driver q m, rfl, c1, hn, hl2, upd_same, ct.out hl, hok, driver_mem hok, fun H' c2 fr => ?_⟩
      exact ⟨_, rfl, k H' A c2 (((e1.frame _).trans fr).weak fun x hx => List.mem_cons_of_mem _ hx) Anew.refl⟩

def spRideBy (C : Addr) : Sp := fun vs H Q _ => ∃ (p : Addr) (A : Ads) (q : Kyd.Pool) (m j : Nat), vs = [.ref p, nv m, nv j] ∧ CarAt C H p A q ∧ q.n ≤ 10 ∧ q.days.length ≤ 1000 ∧
  if Kyd.okRide q.n m = false then Q (.int (-22)) H else if Kyd.has m j = false then Goes C H p A q (Q (.int (-2))) else if q.days.length = 1000 then Goes C H p A q (Q (.int (-28))) else Goes C H p A (Kyd.add q m j) (Q (nv q.days.length))
theorem scRideBy : FnScope ["self", "m", "k", "riding", "before"] ["self", "m", "k"] (defScope sRideBy) := ⟨rfl, rfl, rfl, by decide +kernel, rfl, by decide +kernel, by decide +kernel⟩
theorem ok_rideBy {f C : Addr} {fd : FuncData} (F : Fun K "ride_by" "Car.ride_by" sRideBy f fd) (T : Txt K mg C) (M1 : Mth P w K mg base C "can_ride" 1 ["self", "m"] (spCan C)) (M2 : Mth P w K mg base C "riders" 1 ["self", "m"] (spRiders C))
    (M4 : Mth P w K mg base C "is_full" 1 ["self"] (spFull C)) (M5 : Mth P w K mg base C "add_day" 3 ["self", "riding", "driver"] (spAdd C)) :
    FnOk P w K mg base CX0 4 f fd ["self", "m", "k"] (spRideBy C) := by
  obtain ⟨f1, fd1, G1, b1, m1⟩ := M1
  obtain ⟨f2, fd2, G2, b2, m2⟩ := M2
  obtain ⟨f4, fd4, G4, b4, m4⟩ := M4
  obtain ⟨f5, fd5, G5, b5, m5⟩ := M5
  refine F.ok scRideBy (fun vs H Q E h => ?_) (fun cdv A outer s H vs Q E hr h => ?_)
  · obtain ⟨p, A, q, n, j, rfl, _⟩ := h
    rfl
  · obtain ⟨p, A, q, m, j, rfl, ct, hn, hlen, k⟩ := h
    have hr1 := hr.mono (j := 1) (by decide)
    obtain ⟨dx, hp⟩ := ct.car
    obtain ⟨u3, hu3, r3⟩ := T.told
    obtain ⟨u4, hu4, r4⟩ := T.room
    obtain ⟨u5, hu5, r5⟩ := T.there
    refine ⟨_, pss_cons (ps_if (pt_not (pt_val (pe_meth (pv 0) T.cl m1 G1 hr1 b1 .nil pass0 (pa_cons (pv 1) pa_nil)))) (pss_one (ps_ret (pe_glob rfl hu3 r3))) pss_nil)
      (pss_cons (ps_set (i := 3) scRideBy.nd rfl (Or.inl rfl) (pe_meth (pv 0) T.cl m2 G2 hr1 b2 .nil pass0 (pa_cons (pv 1) pa_nil)))
      (pss_cons (ps_if (pt_cmpR op_notIn_seq (pv 2) (pv 3) rfl) (pss_one (ps_ret (pe_glob rfl hu5 r5))) pss_nil)
      (pss_cons (ps_if (pt_val (pe_meth0 (pv 0) T.cl m4 G4 hr1 b4 .nil pass0)) (pss_one (ps_ret (pe_glob rfl hu4 r4))) pss_nil)
      (pss_cons (ps_set (i := 4) scRideBy.nd rfl (Or.inl rfl) (pe_callB call_len_seq (by rfl) T.len PySem.boot_len (pa_cons (pe_fld (pv 0) rfl) pa_nil)))
      (pss_cons (ps_expr (pe_meth (pv 0) T.cl m5 G5 hr b5 .nil pass0 (pa_cons (pv 3) (pa_cons (pv 2) pa_nil))))
      (pss_one (ps_ret (pv 4)))))))), ?_⟩
    refine ⟨_, rfl, p, dx, _, rfl, hp, cf_no _ _ (by decide +kernel), _, rfl, p, q.n, m, A, rfl, ⟨dx, hp⟩, hn, _, rfl, ?_⟩
    cases hok : Kyd.okRide q.n m with
    | false =>
      rw [if_pos hok] at k
      exact iteT k
    | true =>
      rw [if_neg (by rw [hok]; decide)] at k
      refine iteF ?_
      refine ⟨_, rfl, p, dx, _, rfl, hp, cf_no _ _ (by decide +kernel), _, rfl, p, q.n, m, A, rfl, ⟨dx, hp⟩, hn, fun l hl => ?_⟩
      have e1 := Ext.new hl (.lst ((Kyd.riders q.n m).map nv))
      have c1 := ct.ext e1
      obtain ⟨dx1, hp1⟩ := c1.car
      obtain ⟨ts1, hts1, hlen1⟩ := c1.len
      refine ⟨_, rfl, _, rfl, l, _, rfl, .inl (SqL.of upd_same), rfl, flat_nv _, _, rfl, ?_⟩
      rw [if_pos rfl, in_riders]
      by_cases hj : j ∈ Kyd.riders q.n m
      · have hb : Kyd.has m j = true := (KPlan.mem_riders.mp hj).2
        rw [if_neg (by rw [hb]; decide)] at k
        rw [decide_eq_true hj]
        refine iteF ?_
        refine ⟨_, rfl, p, dx1, _, rfl, hp1, cf_no _ _ (by decide +kernel), p, A, q, rfl, c1, _, rfl, ite2 (fun hf => ?_) (fun hf => ?_)⟩
        · rw [if_pos (by have := of_decide_eq_true hf; omega)] at k
          exact k.ext ct e1
        have hl2 : q.days.length < 1000 := by
          have := of_decide_eq_false (Bool.eq_false_iff.mpr hf); omega
        rw [if_neg (by omega)] at k
        refine ⟨_, rfl, p, C, dx1, _, _, rfl, hp1, T.cl, T.nD, cf_days _ _, A.ld, _, rfl, .inl (SqL.of hts1), ?_⟩
        refine ⟨_, rfl, p, dx1, _, rfl, hp1, cf_no _ _ (by decide +kernel), _, rfl, _, rfl, p, l, A, q, m, j, rfl, c1, hn, hl2, upd_same, ct.out hl, hok, hj, fun H' c2 fr => ?_⟩
        refine ⟨_, rfl, ?_⟩
        rw [List.length_map, hlen1]
        exact k H' A c2 (((e1.frame _).trans fr).weak fun x hx => List.mem_cons_of_mem _ hx) Anew.refl
      · have hb : Kyd.has m j = false := by
          cases e : Kyd.has m j with
          | false => rfl
          | true => exact absurd (KPlan.mem_riders.mpr ⟨bit_lt (KPlan.ok_iff.mp hok).1 e, e⟩) hj
        rw [if_pos hb] at k
        rw [decide_eq_false hj]
        exact iteT (k.ext ct e1)

def spBack (C : Addr) : Sp := fun vs H Q _ => ∃ (p : Addr) (A : Ads) (q : Kyd.Pool), vs = [.ref p] ∧ CarAt C H p A q ∧ Good q ∧
  match q.days with
  | [] => Q (.int (-6)) H
  | d :: l => Goes C H p A ⟨q.n, l⟩ (Q (nv d.2))
theorem scBack : FnScope ["self", "last"] ["self"] (defScope sBack) := ⟨rfl, rfl, rfl, by decide +kernel, rfl, by decide +kernel, by decide +kernel⟩
theorem ok_back {f C : Addr} {fd : FuncData} (F : Fun K "back" "Car.back" sBack f fd) (T : Txt K mg C) (M1 : Mth P w K mg base C "reckon" 2 ["self", "riding", "driver", "times"] (spReckT K C)) : FnOk P w K mg base CX0 3 f fd ["self"] (spBack C) := by
  obtain ⟨f1, fd1, G1, b1, m1⟩ := M1
  refine F.ok scBack (fun vs H Q E h => ?_) (fun cdv A outer s H vs Q E hr h => ?_)
  · obtain ⟨p, A, q, rfl, _⟩ := h
    rfl
  · obtain ⟨p, A, ⟨n, ds⟩, rfl, ct, gd, k⟩ := h
    have ap := ct.tot.ap
    obtain ⟨dx, hp⟩ := ct.car
    obtain ⟨u3, hu3, r3⟩ := T.noDays
    obtain ⟨ts, hts, pts⟩ := ct.days
    have tlen : ts.length = ds.length := by rw [Paired.length pts, List.length_reverse]
    refine ⟨_, pss_cons (ps_if (pt_cmpR op_eq (pe_callB call_len_seq (by rfl) T.len PySem.boot_len (pa_cons (pe_fld (pv 0) rfl) pa_nil)) pe_int (nomark _)) (pss_one (ps_ret (pe_glob rfl hu3 r3))) pss_nil)
      (pss_cons (ps_set (i := 1) scBack.nd rfl (Or.inl rfl) (pe_bm0 PySem.F.plainAttrs_list PySem.F.slot_list_pop PySem.F.type_list_pop mt_pop (pe_fld (pv 0) rfl)))
      (pss_cons (ps_expr (pe_meth (pv 0) T.cl m1 G1 hr b1 .nil pass0 (pa_cons (pe_ix ix_tup (pv 1) pe_int (fun _ _ => rfl)) (pa_cons (pe_ix ix_tup (pv 1) pe_int (fun _ _ => rfl)) (pa_cons (pe_un un_neg pe_int) pa_nil)))))
      (pss_one (ps_ret (pe_ix ix_tup (pv 1) pe_int (fun _ _ => rfl)))))), ?_⟩
    refine ⟨_, rfl, p, C, dx, _, _, rfl, hp, T.cl, T.nD, cf_days _ _, A.ld, _, rfl, .inl (SqL.of hts), rfl, _, rfl, ?_⟩
    cases ds with
    | nil =>
      have e : ts = [] := List.length_eq_zero_iff.mp tlen
      subst e
      exact iteT k
    | cons d l =>
      obtain ⟨m, dr⟩ := d
      have pts' : Paired (DayAt H n) ts (l.reverse ++ [(m, dr)]) := by
        have := pts
        rwa [show ((m, dr) :: l).reverse = l.reverse ++ [(m, dr)] from List.reverse_cons] at this
      obtain ⟨ts', t0, rfl, pt1, r0, ht0, hr0⟩ := Paired.unsnoc pts'
      have hne : ¬ decide (V.int (((ts' ++ [t0]).map V.ref).length : Int) = V.int 0) = true := by
        intro z
        have z := of_decide_eq_true z
        injection z with z
        rw [List.length_map, List.length_append] at z
        simp at z
        omega
      rw [if_neg hne]
      refine ⟨_, rfl, p, C, dx, _, _, rfl, hp, T.cl, T.nD, cf_days _ _, .inl ⟨rfl, _, SqL.of hts⟩, A.ld, _, .ref t0, rfl, rfl, hts, (by simp), ?_⟩
      have edl : ((ts' ++ [t0]).map V.ref).dropLast = ts'.map V.ref := by rw [List.map_append]; simp
      rw [edl]
      have kp : ∀ {b : Addr} {o : HO}, H b = some o → b ≠ A.ld → (upd H A.ld (.lst (ts'.map V.ref))) b = some o := fun {b o} e hb => by rw [upd_ne hb]; exact e
      have h3p := kp hp (ne_of hp hts (by intro z; cases z))
      have tot3 : Tot C (upd H A.ld (.lst (ts'.map V.ref))) p n A (fun k => (Kyd.drove ((m, dr) :: l) k : Int)) (fun k => (Kyd.rode ((m, dr) :: l) k : Int)) (fun k => (Kyd.due n ((m, dr) :: l) k : Int)) :=
        ⟨⟨dx, h3p⟩, kp ct.tot.dr ap.da.symm, kp ct.tot.ro ap.db.symm, kp ct.tot.ou ap.dc.symm, ap⟩
      have h3ld : (upd H A.ld (.lst (ts'.map V.ref))) A.ld = some (.lst (ts'.map V.ref)) := upd_same
      have tups : ∀ b xs, H b = some (.tup xs) → (upd H A.ld (.lst (ts'.map V.ref))) b = some (.tup xs) := fun b xs e => kp e (ne_of e hts (by intro z; cases z))
      have days3 := DayAt.stay tups pt1
      have h3t := tups _ _ ht0
      have h3r := tups _ _ hr0
      have fr3 : Frame H (upd H A.ld (.lst (ts'.map V.ref))) (p :: A.l) := fun b o e hb => kp e (fun z => hb (by simp [Ads.l, z]))
      generalize upd H A.ld (.lst (ts'.map V.ref)) = H3 at h3p tot3 h3ld days3 h3t h3r fr3 ⊢
      obtain ⟨hok, hdr⟩ := gd.ok (m, dr) List.mem_cons_self
      have hpos := KPlan.riders_pos hok
      have hle := KPlan.riders_le n m
      have hn : n ≤ 10 := gd.n
      refine ⟨_, rfl, p, dx, _, rfl, h3p, cf_no _ _ (by decide +kernel), _, rfl, t0, _, 0, .ref r0, rfl, rfl, SqT.of h3t, rfl, _, rfl, t0, _, 1, nv dr, rfl, rfl, SqT.of h3t, rfl, 1, rfl, p, r0, n, dr, A, _, _, _, Kyd.riders n m, -1, rfl, tot3, SqT.of h3r,
        ne_of h3r tot3.dr (by intro z; cases z), ne_of h3r tot3.ro (by intro z; cases z), ne_of h3r tot3.ou (by intro z; cases z), riders_nodup _ _, fun x hx => riders_lt hx, hpos, by omega, riders_lt hdr, .inr rfl, fun H' t' hb => ?_⟩
      have tk : ∀ b xs, H3 b = some (.tup xs) → H' b = some (.tup xs) := fun b xs e => by
        rw [hb b (ne_of e tot3.dr (by intro z; cases z)) (ne_of e tot3.ro (by intro z; cases z)) (ne_of e tot3.ou (by intro z; cases z))]; exact e
      refine ⟨_, rfl, t0, _, 1, nv dr, rfl, rfl, SqT.of (tk _ _ h3t), rfl, ?_⟩
      refine k H' A ⟨tot_back t', ts', ?_, DayAt.stay tk days3⟩ ?_ Anew.refl
      · rw [hb A.ld ap.da ap.db ap.dc]; exact h3ld
      · intro b o e hb'
        rw [hb b (fun z => hb' (by simp [Ads.l, z])) (fun z => hb' (by simp [Ads.l, z])) (fun z => hb' (by simp [Ads.l, z]))]
        exact fr3 b o e hb'

/-- what a call answers as a list, the car as it was -/
def Tells (H : Hp) (xs : List Int) (Q : VK) : Prop := ∀ r, H r = none → Q (.ref r) (upd H r (.lst (xs.map V.int)))
def spOwes (C : Addr) : Sp := fun vs H Q _ => ∃ (p : Addr) (A : Ads) (q : Kyd.Pool) (j : Nat), vs = [.ref p, nv j] ∧ CarAt C H p A q ∧
  if q.n ≤ j then Tells H [-2] Q else Tells H [if Kyd.owes q j < 0 then 1 else 0, ((Kyd.owes q j).natAbs : Int)] Q
theorem scOwes : FnScope ["self", "k", "parts"] ["self", "k"] (defScope sOwes) := ⟨rfl, rfl, rfl, by decide +kernel, rfl, by decide +kernel, by decide +kernel⟩
theorem ok_owes {f C : Addr} {fd : FuncData} (F : Fun K "owes" "Car.owes" sOwes f fd) (T : Txt K mg C) (M1 : Mth P w K mg base C "is_there" 1 ["self", "k"] (spThere C)) (M2 : Mth P w K mg base C "owed_by" 1 ["self", "person"] (spOwedBy C)) : FnOk P w K mg base CX0 2 f fd ["self", "k"] (spOwes C) := by
  obtain ⟨f1, fd1, G1, b1, m1⟩ := M1
  obtain ⟨f2, fd2, G2, b2, m2⟩ := M2
  refine F.ok scOwes (fun vs H Q E h => ?_) (fun cdv A outer s H vs Q E hr h => ?_)
  · obtain ⟨p, A, q, j, rfl, _⟩ := h
    rfl
  · obtain ⟨p, A, q, j, rfl, ct, k⟩ := h
    obtain ⟨dx, hp⟩ := ct.car
    obtain ⟨u3, hu3, r3⟩ := T.there
    refine ⟨_, pss_cons (ps_if (pt_not (pt_val (pe_meth (pv 0) T.cl m1 G1 hr b1 .nil pass0 (pa_cons (pv 1) pa_nil)))) (pss_one (ps_ret (pe_lst (pa_cons (pe_glob rfl hu3 r3) pa_nil)))) pss_nil)
      (pss_cons (ps_set (i := 2) scOwes.nd rfl (Or.inl rfl) (pe_meth (pv 0) T.cl m2 G2 hr b2 .nil pass0 (pa_cons (pv 1) pa_nil)))
      (pss_one (ps_ret (pe_lst (pa_cons (pe_ifExp (pt_cmpR op_lt (pv 2) pe_int (nomark _)) pe_int pe_int) (pa_cons (pe_callB call_abs (by rfl) T.ab boot_abs (pa_cons (pv 2) pa_nil)) pa_nil)))))), ?_⟩
    refine ⟨_, rfl, p, dx, _, rfl, hp, cf_no _ _ (by decide +kernel), _, rfl, p, q.n, j, A, rfl, ⟨dx, hp⟩, _, rfl, ?_⟩
    by_cases hj : q.n ≤ j
    · rw [if_pos hj] at k
      rw [decide_eq_false (by omega)]
      exact iteT ⟨(by show 1 ≤ sizeLine; decide), fun r hr' => k r hr'⟩
    · rw [if_neg hj] at k
      rw [decide_eq_true (by omega)]
      refine iteF ?_
      refine ⟨_, rfl, p, dx, _, rfl, hp, cf_no _ _ (by decide +kernel), _, rfl, p, q.n, j, A, _, _, _, rfl, ct.tot, by omega, ?_⟩
      refine ⟨_, rfl, _, _, rfl, rfl, _, rfl, ?_⟩
      have ea : ((Kyd.owes q j).natAbs : Int) = if Kyd.owes q j < 0 then -Kyd.owes q j else Kyd.owes q j := by
        by_cases c : Kyd.owes q j < 0
        · rw [if_pos c]; omega
        · rw [if_neg c]; omega
      rw [ea] at k
      refine ite2 (fun c => ?_) (fun c => ?_)
      · have c' : Kyd.owes q j < 0 := of_decide_eq_true c
        rw [if_pos c'] at k
        refine ⟨_, rfl, _, rfl, (by show 2 ≤ sizeLine; decide), fun r hr' => ?_⟩
        exact k r hr'
      · have c' : ¬ Kyd.owes q j < 0 := of_decide_eq_false (Bool.eq_false_iff.mpr c)
        rw [if_neg c'] at k
        refine ⟨_, rfl, _, rfl, (by show 2 ≤ sizeLine; decide), fun r hr' => ?_⟩
        exact k r hr'

def spCount (C : Addr) : Sp := fun vs H Q _ => ∃ (p : Addr) (A : Ads) (q : Kyd.Pool) (j : Nat), vs = [.ref p, nv j] ∧ CarAt C H p A q ∧
  if q.n ≤ j then Tells H [-2] Q else Tells H [(Kyd.drove q.days j : Int), (Kyd.rode q.days j : Int), (Kyd.due q.n q.days j : Int)] Q
theorem scCount : FnScope ["self", "k"] ["self", "k"] (defScope sCount) := ⟨rfl, rfl, rfl, by decide +kernel, rfl, by decide +kernel, by decide +kernel⟩
theorem ok_count {f C : Addr} {fd : FuncData} (F : Fun K "count" "Car.count" sCount f fd) (T : Txt K mg C) (M1 : Mth P w K mg base C "is_there" 1 ["self", "k"] (spThere C)) : FnOk P w K mg base CX0 2 f fd ["self", "k"] (spCount C) := by
  obtain ⟨f1, fd1, G1, b1, m1⟩ := M1
  refine F.ok scCount (fun vs H Q E h => ?_) (fun cdv A outer s H vs Q E hr h => ?_)
  · obtain ⟨p, A, q, j, rfl, _⟩ := h
    rfl
  · obtain ⟨p, A, q, j, rfl, ct, k⟩ := h
    obtain ⟨dx, hp⟩ := ct.car
    obtain ⟨u3, hu3, r3⟩ := T.there
    refine ⟨_, pss_cons (ps_if (pt_not (pt_val (pe_meth (pv 0) T.cl m1 G1 hr b1 .nil pass0 (pa_cons (pv 1) pa_nil)))) (pss_one (ps_ret (pe_lst (pa_cons (pe_glob rfl hu3 r3) pa_nil)))) pss_nil)
      (pss_one (ps_ret (pe_lst (pa_cons (pe_ix ix_list (pe_fld (pv 0) rfl) (pv 1) (fun _ _ => rfl)) (pa_cons (pe_ix ix_list (pe_fld (pv 0) rfl) (pv 1) (fun _ _ => rfl)) (pa_cons (pe_ix ix_list (pe_fld (pv 0) rfl) (pv 1) (fun _ _ => rfl)) pa_nil)))))), ?_⟩
    refine ⟨_, rfl, p, dx, _, rfl, hp, cf_no _ _ (by decide +kernel), _, rfl, p, q.n, j, A, rfl, ⟨dx, hp⟩, _, rfl, ?_⟩
    by_cases hj : q.n ≤ j
    · rw [if_pos hj] at k
      rw [decide_eq_false (by omega)]
      exact iteT ⟨(by show 1 ≤ sizeLine; decide), fun r hr' => k r hr'⟩
    · rw [if_neg hj] at k
      rw [decide_eq_true (by omega)]
      refine iteF ?_
      have hj' : j < q.n := by omega
      exact ⟨_, rfl, p, C, dx, _, _, rfl, hp, T.cl, T.nA, cf_drove _ _, _, rfl, A.la, _, _, _, rfl, rfl, SqL.of ct.tot.dr, range_at _ hj',
        _, rfl, p, C, dx, _, _, rfl, hp, T.cl, T.nB, cf_rode _ _, _, rfl, A.lb, _, _, _, rfl, rfl, SqL.of ct.tot.ro, range_at _ hj',
        _, rfl, p, C, dx, _, _, rfl, hp, T.cl, T.nC, cf_ought _ _, _, rfl, A.lc, _, _, _, rfl, rfl, SqL.of ct.tot.ou, range_at _ hj', (by show 3 ≤ sizeLine; decide), fun r hr' => k r hr'⟩
end
end Df

namespace Df
open PySem PySem.Spec PyProof.Rows L2
open PySem.W (Codec)
open KMatch
open KPlan (S C)

/-! ### finding a driver: the lists -/
def rsOf (n : Nat) (l : List Nat) (j : Nat) : List Nat := Kyd.riders n (l.getD j 0)
theorem rs_lt (n : Nat) (l : List Nat) (L : Nat) : ∀ j, j < L → ∀ q, q ∈ rsOf n l j → q < n := fun j _ q h => riders_lt h
def encD : Option Nat → Int
  | none => -1
  | some p => (p : Int)
def dl (L : Nat) (g : Nat → Option Nat) : HO := .lst ((List.range L).map fun j => V.int (encD (g j)))
def nl (n : Nat) (f : Nat → Nat) : HO := .lst ((List.range n).map fun k => nv (f k))
def bll (n : Nat) (a : Nat → Bool) : HO := .lst ((List.range n).map fun k => V.bl (a k))
/-- the lists of those who ride, day by day -/
def DaysAt (H : Hp) (n : Nat) (la : Addr) (l : List Nat) : Prop := ∃ as : List Addr, H la = some (.lst (as.map V.ref)) ∧ Paired (fun a m => H a = some (.lst ((Kyd.riders n m).map nv))) as l
/-- the days, apart from what is written -/
def DaysOk (H : Hp) (n : Nat) (la : Addr) (l : List Nat) (ex : List Addr) : Prop := ∃ as : List Addr, (H la = some (.lst (as.map V.ref)) ∧ la ∉ ex) ∧ Paired (fun a m => H a = some (.lst ((Kyd.riders n m).map nv)) ∧ a ∉ ex) as l
theorem DaysOk.at {H H' : Hp} {n : Nat} {la : Addr} {l : List Nat} {ex : List Addr} (d : DaysOk H n la l ex) (e : ∀ x, x ∉ ex → H' x = H x) : DaysOk H' n la l ex := by
  obtain ⟨as, ⟨h1, h2⟩, h3⟩ := d
  exact ⟨as, ⟨(e _ h2).trans h1, h2⟩, Paired.mapP h3 fun a m ⟨x, y⟩ => ⟨(e _ y).trans x, y⟩⟩
theorem Paired.get {α β : Type} {F : α → β → Prop} : ∀ {l₁ : List α} {l₂ : List β}, Paired F l₁ l₂ → ∀ (i : Nat) (b : β), l₂[i]? = some b → ∃ a, l₁[i]? = some a ∧ F a b
  | _, _, .nil, i, b, h => by simp at h
  | x :: _, y :: _, .cons r t, 0, b, h => by
    have e : y = b := by simpa using h
    subst e
    exact ⟨x, rfl, r⟩
  | _, _, .cons r t, i + 1, b, h => by
    obtain ⟨a, h1, h2⟩ := Paired.get t i b (by simpa using h)
    exact ⟨a, by simpa using h1, h2⟩
theorem Paired.drop {α β : Type} {F : α → β → Prop} : ∀ {l₁ : List α} {l₂ : List β} (i : Nat), Paired F l₁ l₂ → Paired F (l₁.drop i) (l₂.drop i)
  | _, _, 0, h => h
  | _, _, i + 1, .nil => by simp; exact .nil
  | _, _, i + 1, .cons r t => by simpa using Paired.drop i t
theorem getD_get {l : List Nat} {j : Nat} (h : j < l.length) : l[j]? = some (l.getD j 0) := by
  rw [List.getD_eq_getElem?_getD, List.getElem?_eq_getElem h]; rfl
theorem DaysOk.day {H : Hp} {n : Nat} {la : Addr} {l : List Nat} {ex : List Addr} (d : DaysOk H n la l ex) {j : Nat} (hj : j < l.length) :
    ∃ (as : List Addr) (a : Addr), H la = some (.lst (as.map V.ref)) ∧ as.length = l.length ∧ (as.map V.ref)[j]? = some (.ref a) ∧ H a = some (.lst ((rsOf n l j).map nv)) ∧ a ∉ ex := by
  obtain ⟨as, ⟨h1, h2⟩, h3⟩ := d
  obtain ⟨a, e, h4, h5⟩ := Paired.get h3 j _ (getD_get hj)
  exact ⟨as, a, h1, Paired.length h3, by rw [List.getElem?_map, e]; rfl, h4, h5⟩
theorem DaysOk.len {H : Hp} {n : Nat} {la : Addr} {l : List Nat} {ex : List Addr} (d : DaysOk H n la l ex) : ∃ (as : List Addr), H la = some (.lst (as.map V.ref)) ∧ as.length = l.length := by
  obtain ⟨as, ⟨h1, h2⟩, h3⟩ := d
  exact ⟨as, h1, Paired.length h3⟩
structure Sep (ad al aa : Addr) : Prop where
  dl : ad ≠ al
  da : ad ≠ aa
  la : al ≠ aa
structure Mat (H : Hp) (n L : Nat) (ad al aa : Addr) (g : Nat → Option Nat) (left : Nat → Nat) (a : Nat → Bool) : Prop where
  d : H ad = some (dl L g)
  l : H al = some (nl n left)
  a : H aa = some (bll n a)
theorem Mat.setA {H : Hp} {n L : Nat} {ad al aa : Addr} {g : Nat → Option Nat} {left : Nat → Nat} {a : Nat → Bool} {q : Nat} (m : Mat H n L ad al aa g left a) (s : Sep ad al aa) (hq : q < n) :
    Mat (upd H aa (.lst (((List.range n).map fun k => V.bl (a k)).set q (.bl true)))) n L ad al aa g left (fupd a q true) := by
  refine ⟨by rw [upd_ne s.da]; exact m.d, by rw [upd_ne s.la]; exact m.l, ?_⟩
  rw [upd_same, range_set _ _ hq]
  refine congrArg (fun x => some (HO.lst x)) (List.map_congr_left fun k hk => ?_)
  unfold fupd
  by_cases c : k = q <;> simp [c]
theorem Mat.setD {H : Hp} {n L : Nat} {ad al aa : Addr} {g : Nat → Option Nat} {left : Nat → Nat} {a : Nat → Bool} {q j : Nat} (m : Mat H n L ad al aa g left a) (s : Sep ad al aa) (hj : j < L) :
    Mat (upd H ad (.lst (((List.range L).map fun j => V.int (encD (g j))).set j (nv q)))) n L ad al aa (fupd g j (some q)) left a := by
  refine ⟨?_, by rw [upd_ne s.dl.symm]; exact m.l, by rw [upd_ne s.da.symm]; exact m.a⟩
  rw [upd_same, range_set _ _ hj]
  refine congrArg (fun x => some (HO.lst x)) (List.map_congr_left fun k hk => ?_)
  unfold fupd
  by_cases c : k = j <;> simp [c, encD, nv]
theorem Mat.setL {H : Hp} {n L : Nat} {ad al aa : Addr} {g : Nat → Option Nat} {left : Nat → Nat} {a : Nat → Bool} {q : Nat} (m : Mat H n L ad al aa g left a) (s : Sep ad al aa) (hq : q < n) (h : 0 < left q) :
    Mat (upd H al (.lst (((List.range n).map fun k => nv (left k)).set q (.int ((left q : Int) - 1))))) n L ad al aa g (fupd left q (left q - 1)) a := by
  refine ⟨by rw [upd_ne s.dl]; exact m.d, ?_, by rw [upd_ne s.la.symm]; exact m.a⟩
  rw [upd_same, range_set _ _ hq]
  refine congrArg (fun x => some (HO.lst x)) (List.map_congr_left fun k hk => ?_)
  unfold fupd
  by_cases c : k = q
  · subst c
    rw [if_pos rfl, if_pos rfl]
    show V.int _ = V.int _
    congr 1; omega
  · rw [if_neg c, if_neg c]
/-- how many were not asked yet -/
def un (n : Nat) (a : Nat → Bool) : Nat := S (fun p => if a p = true then 0 else 1) n
theorem un_grow {n : Nat} {a a' : Nat → Bool} (h : Grow n a a') : un n a' ≤ un n a := KPlan.S_mono fun p hp => by
  by_cases c : a p = true
  · rw [if_pos c, if_pos (h p hp c)]; exact Nat.le_refl _
  · rw [if_neg c]; split <;> omega
theorem un_mark {n : Nat} {a : Nat → Bool} {q : Nat} (hq : q < n) (h : a q = false) : un n (fupd a q true) < un n a := by
  refine KPlan.S_lt (i := q) (fun p hp => ?_) hq ?_
  · by_cases c : p = q
    · subst c; rw [fupd_same]; simp
    · rw [fupd_ne c]; exact Nat.le_refl _
  · rw [fupd_same, h]; simp
theorem mem3 {x a b c : Addr} (h : x ∉ [a, b, c]) : x ≠ a ∧ x ≠ b ∧ x ≠ c := by
  simp only [List.mem_cons, List.not_mem_nil, or_false, not_or] at h
  exact h

section
variable {P : Program} {w : World} {K : PySem.W.Frag} {mg : Str → Option Value} {base : Heap}

def spFind (u : Nat) : Sp := fun vs H Q _ => ∃ (n day : Nat) (l : List Nat) (la ad al aa : Addr) (g : Nat → Option Nat) (left : Nat → Nat) (a : Nat → Bool),
  vs = [nv day, .ref la, .ref ad, .ref al, .ref aa] ∧ day < l.length ∧ l.length ≤ 1000 ∧ DaysOk H n la l [ad, al, aa] ∧ Sep ad al aa ∧ Mat H n l.length ad al aa g left a ∧ PV l.length (rsOf n l) g ∧ FixAt g a day ∧ un n a ≤ u ∧
  (∀ a' H', Mat H' n l.length ad al aa g left a' → (∀ x, x ∉ [ad, al, aa] → H' x = H x) → FindNo n l.length (rsOf n l) day g left a a' → Q (.bl false) H') ∧
  (∀ g' left' a' H', Mat H' n l.length ad al aa g' left' a' → (∀ x, x ∉ [ad, al, aa] → H' x = H x) → FindYes n l.length (rsOf n l) day g left a g' left' → Q (.bl true) H')
def spTake (u : Nat) : Sp := fun vs H Q _ => ∃ (n q : Nat) (l : List Nat) (la ad al aa : Addr) (g : Nat → Option Nat) (left : Nat → Nat) (a : Nat → Bool),
  vs = [nv q, .ref la, .ref ad, .ref al, .ref aa] ∧ q < n ∧ l.length ≤ 1000 ∧ a q = true ∧ DaysOk H n la l [ad, al, aa] ∧ Sep ad al aa ∧ Mat H n l.length ad al aa g left a ∧ PV l.length (rsOf n l) g ∧ un n a < u ∧
  (∀ a' H', Mat H' n l.length ad al aa g left a' → (∀ x, x ∉ [ad, al, aa] → H' x = H x) → TakeNo n l.length (rsOf n l) q g left a a' → Q (.bl false) H') ∧
  (∀ g' left' a' H', Mat H' n l.length ad al aa g' left' a' → (∀ x, x ∉ [ad, al, aa] → H' x = H x) → TakeYes n l.length (rsOf n l) q g left a g' left' → Q (.bl true) H')
theorem scFind : FnScope ["day", "days", "drivers", "left", "asked", "person"] ["day", "days", "drivers", "left", "asked"] (defScope sFind) := ⟨rfl, rfl, rfl, by decide +kernel, rfl, by decide +kernel, by decide +kernel⟩
theorem scTake : FnScope ["person", "days", "drivers", "left", "asked", "day"] ["person", "days", "drivers", "left", "asked"] (defScope sTake) := ⟨rfl, rfl, rfl, by decide +kernel, rfl, by decide +kernel, by decide +kernel⟩
theorem ok_find {u : Nat} {f t : Addr} {fd td : FuncData} (F : Fun K "find_driver" "find_driver" sFind f fd) (G : FnOk P w K mg base CX0 (2 * u) t td ["person", "days", "drivers", "left", "asked"] (spTake u)) (bG : Binds K td ["person", "days", "drivers", "left", "asked"] [])
    (mG : mg "can_take" = some (.ref t)) (kG : PySem.W.keepIn K (.ref t) = true) : FnOk P w K mg base CX0 (2 * u + 1) f fd ["day", "days", "drivers", "left", "asked"] (spFind u) := by
  refine F.ok scFind (fun vs H Q E h => ?_) (fun cdv A outer s H vs Q E hr h => ?_)
  · obtain ⟨n, day, l, la, ad, al, aa, g, left, a, rfl, _⟩ := h
    rfl
  obtain ⟨n, day, l, la, ad, al, aa, g, left, a, rfl, hday, hlen, dok, sp, mt, pv', fx, hun, kNo, kYes⟩ := h
  refine ⟨_, pss_cons (ps_for PassesOwn.never rfl (pi_list (pe_ix ix_list (pv 1) (pv 0) (fun _ _ => rfl))) (pg_name (i := 5) scFind.nd rfl (Or.inl rfl))
      (pss_one (ps_if (pt_not (pt_val (pe_ix ix_list (pv 4) (pv 5) (fun _ _ => rfl))))
        (pss_cons (ps_asg pe_bl (pg_sub (pv 4) (pv 5) set_list))
        (pss_one (ps_if (pt_val (pe_call G hr rfl mG kG bG .nil pass0 (pa_cons (pv 5) (pa_cons (pv 1) (pa_cons (pv 2) (pa_cons (pv 3) (pa_cons (pv 4) pa_nil)))))))
          (pss_cons (ps_asg (pv 5) (pg_sub (pv 2) (pv 0) set_list)) (pss_one (ps_ret pe_bl))) pss_nil))) pss_nil)))
    (pss_one (ps_ret pe_bl)), ?_⟩
  obtain ⟨as, ar, hla, hasl, har, hr1, hr2⟩ := dok.day hday
  have hrs := rs_lt n l l.length
  refine ⟨_, rfl, _, rfl, la, _, _, .ref ar, rfl, rfl, SqL.of hla, atI_nat har, ar, rfl, ⟨_, SqL.of hr1⟩, for_list (K := K) (a := ar) (xs := (rsOf n l day).map nv)
    (fun i σ H' => ∃ (v : Option V) (a' : Nat → Bool), σ = [some (nv day), some (.ref la), some (.ref ad), some (.ref al), some (.ref aa), v] ∧ Mat H' n l.length ad al aa g left a' ∧ (∀ x, x ∉ [ad, al, aa] → H' x = H x) ∧ FindUp n l.length (rsOf n l) day i g left a a')
    ⟨none, a, rfl, mt, fun _ _ => rfl, FindUp.zero⟩ (fun i σ H' _ ⟨_, _, _, _, e, _⟩ => SqL.of (by rw [e ar hr2]; exact hr1)) ?_ ?_⟩
  · rintro i y σ H' hi ⟨v, a1, rfl, m1, e1, up⟩
    obtain ⟨q, hq, rfl⟩ := map_get hi
    have hqm : q ∈ rsOf n l day := List.mem_of_getElem? hq
    have hqn : q < n := riders_lt hqm
    refine ⟨_, rfl, _, rfl, aa, _, _, _, rfl, rfl, SqL.of m1.a, range_at _ hqn, _, rfl, ?_⟩
    cases ha : a1 q with
    | true =>
      refine iteF ?_
      exact ⟨some (nv q), a1, rfl, m1, e1, up.skip hq ha⟩
    | false =>
      refine iteT ?_
      refine ⟨_, rfl, _, rfl, aa, _, _, q, rfl, rfl, m1.a, range_ix _ hqn, ?_⟩
      have m2 := m1.setA sp hqn
      have e2 : ∀ x, x ∉ [ad, al, aa] → (upd H' aa (.lst (((List.range n).map fun k => V.bl (a1 k)).set q (.bl true)))) x = H x := fun x hx => by rw [upd_ne (mem3 hx).2.2]; exact e1 x hx
      generalize upd H' aa (.lst (((List.range n).map fun k => V.bl (a1 k)).set q (.bl true))) = H2 at m2 e2 ⊢
      have hu : un n (fupd a1 q true) < u := by
        have h1 := un_mark hqn ha
        have h2 := un_grow up.grow
        omega
      refine ⟨_, rfl, _, rfl, _, rfl, _, rfl, _, rfl, n, q, l, la, ad, al, aa, g, left, fupd a1 q true, rfl, hqn, hlen, fupd_same, dok.at e2, sp, m2, pv', hu, fun a3 H3 m3 e3 no => ?_, fun g3 left3 a3 H3 m3 e3 yes => ?_⟩
      · refine ⟨_, rfl, iteF ?_⟩
        exact ⟨some (nv q), a3, rfl, m3, fun x hx => (e3 x hx).trans (e2 x hx), up.no hrs hday hq ha no⟩
      · refine ⟨_, rfl, iteT ?_⟩
        refine ⟨_, rfl, _, rfl, _, rfl, ad, _, _, day, rfl, rfl, m3.d, range_ix _ hday, ?_⟩
        have m4 := m3.setD (q := q) sp hday
        exact kYes _ _ _ _ m4 (fun x hx => by rw [upd_ne (mem3 hx).1]; exact (e3 x hx).trans (e2 x hx)) (up.yes hrs hday pv' fx hqm ha yes)
  · rintro σ H' ⟨v, a1, rfl, m1, e1, up⟩
    rw [List.length_map] at up
    exact kNo a1 H' m1 e1 up.fin

theorem enc_eq {g : Option Nat} {q : Nat} : decide (V.int (encD g) = nv q) = decide (g = some q) := by
  cases g with
  | none =>
    refine decide_eq_decide.mpr ⟨fun z => ?_, fun z => by cases z⟩
    injection z with z
    have z : (-1 : Int) = (q : Int) := z
    omega
  | some p =>
    refine decide_eq_decide.mpr ⟨fun z => ?_, fun z => by cases z; rfl⟩
    injection z with z
    have z : (p : Int) = (q : Int) := z
    rw [show p = q by omega]
theorem ok_take {u : Nat} {f t C : Addr} {fd td : FuncData} (T : Txt K mg C) (F : Fun K "can_take" "can_take" sTake f fd) (G : FnOk P w K mg base CX0 (2 * u + 1) t td ["day", "days", "drivers", "left", "asked"] (spFind u)) (bG : Binds K td ["day", "days", "drivers", "left", "asked"] [])
    (mG : mg "find_driver" = some (.ref t)) (kG : PySem.W.keepIn K (.ref t) = true) : FnOk P w K mg base CX0 (2 * u + 1 + 1) f fd ["person", "days", "drivers", "left", "asked"] (spTake (u + 1)) := by
  refine F.ok scTake (fun vs H Q E h => ?_) (fun cdv A outer s H vs Q E hr h => ?_)
  · obtain ⟨n, q, l, la, ad, al, aa, g, left, a, rfl, _⟩ := h
    rfl
  obtain ⟨n, q, l, la, ad, al, aa, g, left, a, rfl, hq, hlen, haq, dok, sp, mt, pv', hun, kNo, kYes⟩ := h
  refine ⟨_, pss_cons (ps_if (pt_cmpR op_gt (pe_ix ix_list (pv 3) (pv 0) (fun _ _ => rfl)) pe_int (nomark _)) (pss_cons (ps_augS (pv 3) (pv 0) get_list pe_int ip_sub set_list) (pss_one (ps_ret pe_bl))) pss_nil)
    (pss_cons (ps_for PassesOwn.never rfl (pi_range1 rfl T.rng (pa_cons (pe_callB call_len_seq (by rfl) T.len PySem.boot_len (pa_cons (pv 1) pa_nil)) pa_nil)) (pg_name (i := 5) scTake.nd rfl (Or.inl rfl))
      (pss_one (ps_if (PW.pt (pw_and (pt_cmpR op_eq (pe_ix ix_list (pv 2) (pv 5) (fun _ _ => rfl)) (pv 0) (nomark _)) (pw_and1 (pt_val (pe_call G hr rfl mG kG bG .nil pass0 (pa_cons (pv 5) (pa_cons (pv 1) (pa_cons (pv 2) (pa_cons (pv 3) (pa_cons (pv 4) pa_nil)))))))))) (pss_one (ps_ret pe_bl)) pss_nil)))
    (pss_one (ps_ret pe_bl))), ?_⟩
  have hrs := rs_lt n l l.length
  refine ⟨_, rfl, _, rfl, al, _, _, _, rfl, rfl, SqL.of mt.l, range_at _ hq, _, _, rfl, rfl, _, rfl, ite2 (fun c => ?_) (fun c => ?_)⟩
  · have hpos : 0 < left q := by have := of_decide_eq_true c; omega
    refine ⟨_, rfl, _, rfl, al, _, _, _, rfl, rfl, SqL.of mt.l, range_at _ hq, _, _, rfl, rfl, al, _, _, q, rfl, rfl, mt.l, range_ix _ hq, ?_⟩
    exact kYes g (fupd left q (left q - 1)) a _ (mt.setL sp hq hpos) (fun x hx => by rw [upd_ne (mem3 hx).2.1]) (take_left hq pv' hpos)
  · have hz : left q = 0 := by have := of_decide_eq_false (Bool.eq_false_iff.mpr c); omega
    obtain ⟨as, hla, hasl⟩ := dok.len
    refine ⟨_, rfl, la, _, rfl, .inl (SqL.of hla), (l.length : Int), (by rw [List.length_map, hasl]), by omega, by omega, ?_⟩
    refine for_range (lo := 0) (n := ((l.length : Nat) : Int).toNat) (fun i σ H' => ∃ (v : Option V) (a' : Nat → Bool), σ = [some (nv q), some (.ref la), some (.ref ad), some (.ref al), some (.ref aa), v] ∧ Mat H' n l.length ad al aa g left a' ∧ (∀ x, x ∉ [ad, al, aa] → H' x = H x) ∧ TakeUp n l.length (rsOf n l) q i g left a a')
      ⟨none, a, rfl, mt, fun _ _ => rfl, TakeUp.zero⟩ ?_ ?_
    · rintro i σ H' hi ⟨v, a1, rfl, m1, e1, up⟩
      rw [Int.toNat_natCast] at hi
      have e0 : ((0 : Int) + (i : Int)) = (i : Int) := Int.zero_add _
      rw [e0]
      refine ⟨_, rfl, _, rfl, ad, _, _, _, rfl, rfl, SqL.of m1.d, range_at _ hi, _, rfl, rfl, _, rfl, ?_⟩
      rw [enc_eq]
      by_cases hg : g i = some q
      · rw [decide_eq_true hg]
        refine iteT ?_
        have hu : un n a1 ≤ u := by have := un_grow up.grow; omega
        refine ⟨_, rfl, _, rfl, _, rfl, _, rfl, _, rfl, n, i, l, la, ad, al, aa, g, left, a1, rfl, hi, hlen, dok.at e1, sp, m1, pv', .inr ⟨q, hg, up.grow q hq haq⟩, hu, fun a3 H3 m3 e3 no => ?_, fun g3 left3 a3 H3 m3 e3 yes => ?_⟩
        · refine ⟨_, rfl, iteF ?_⟩
          exact ⟨some (nv i), a3, rfl, m3, fun x hx => (e3 x hx).trans (e1 x hx), up.no hrs hi no⟩
        · refine ⟨_, rfl, iteT ?_⟩
          exact kYes g3 left3 a3 H3 m3 (fun x hx => (e3 x hx).trans (e1 x hx)) (take_find hrs pv' hq hi hg up.grow yes)
      · rw [decide_eq_false hg]
        refine iteF (iteF ?_)
        exact ⟨some (nv i), a1, rfl, m1, e1, up.skip hg⟩
    · rintro σ H' ⟨v, a1, rfl, m1, e1, up⟩
      rw [Int.toNat_natCast] at up
      exact kNo a1 H' m1 e1 (up.fin hz)
theorem none_take {f : Addr} {fd : FuncData} : FnOk P w K mg base CX0 0 f fd ["person", "days", "drivers", "left", "asked"] (spTake 0) := by
  have no : ∀ vs H Q E, ¬ spTake 0 vs H Q E := fun vs H Q E h => by
    obtain ⟨n, q, l, la, ad, al, aa, g, left, a, _, _, _, _, _, _, _, _, h, _⟩ := h
    omega
  exact ⟨fun vs H Q E h => absurd h (no vs H Q E), fun A outer s H args us vs Q E _ _ _ _ h => absurd h (no vs H Q E)⟩
theorem ok_both {f t C : Addr} {fd td : FuncData} (T : Txt K mg C) (F : Fun K "find_driver" "find_driver" sFind f fd) (bF : Binds K fd ["day", "days", "drivers", "left", "asked"] []) (mF : mg "find_driver" = some (.ref f)) (kF : PySem.W.keepIn K (.ref f) = true)
    (G : Fun K "can_take" "can_take" sTake t td) (bG : Binds K td ["person", "days", "drivers", "left", "asked"] []) (mG : mg "can_take" = some (.ref t)) (kG : PySem.W.keepIn K (.ref t) = true) :
    ∀ u : Nat, FnOk P w K mg base CX0 (2 * u) t td ["person", "days", "drivers", "left", "asked"] (spTake u) ∧ FnOk P w K mg base CX0 (2 * u + 1) f fd ["day", "days", "drivers", "left", "asked"] (spFind u)
  | 0 => ⟨none_take, ok_find F none_take bG mG kG⟩
  | u + 1 => by
    have ih := ok_both T F bF mF kF G bG mG kG u
    have h1 := ok_take T G ih.2 bF mF kF
    exact ⟨h1, ok_find F h1 bG mG kG⟩
end
end Df

namespace Df
open PySem PySem.Spec PyProof.Rows L2
open PySem.W (Codec)
open KMatch
open KPlan (S C)

theorem nl_congr {n : Nat} {f g : Nat → Nat} (h : ∀ k, k < n → f k = g k) : nl n f = nl n g :=
  congrArg HO.lst (List.map_congr_left fun k hk => congrArg nv (h k (List.mem_range.mp hk)))
theorem sum_range (f : Nat → Nat) : ∀ n : Nat, ((List.range n).map fun k => ((f k : Nat) : Int)).sum = ((S f n : Nat) : Int)
  | 0 => rfl
  | n + 1 => by
    rw [List.range_succ, List.map_append, List.sum_append, sum_range f n]
    show _ = ((S f n + f n : Nat) : Int)
    simp
theorem DaysAt.ok {H H' : Hp} {n : Nat} {la : Addr} {l : List Nat} {ex : List Addr} (d : DaysAt H n la l) (e : Ext H H') (hx : ∀ x, x ∈ ex → H x = none) : DaysOk H' n la l ex := by
  obtain ⟨as, h1, h2⟩ := d
  have out : ∀ {b : Addr} {o : HO}, H b = some o → b ∉ ex := fun {b o} h z => by rw [hx b z] at h; cases h
  exact ⟨as, ⟨e _ _ h1, out h1⟩, Paired.mapP h2 fun a m h => ⟨e _ _ h, out h⟩⟩
theorem DaysAt.ext {H H' : Hp} {n : Nat} {la : Addr} {l : List Nat} (d : DaysAt H n la l) (e : Ext H H') : DaysAt H' n la l := by
  obtain ⟨as, h1, h2⟩ := d
  exact ⟨as, e _ _ h1, Paired.mapP h2 fun a m h => e _ _ h⟩
theorem DaysAt.len {H : Hp} {n : Nat} {la : Addr} {l : List Nat} (d : DaysAt H n la l) : ∃ (as : List Addr), H la = some (.lst (as.map V.ref)) ∧ as.length = l.length := by
  obtain ⟨as, h1, h2⟩ := d
  exact ⟨as, h1, Paired.length h2⟩

section
variable {P : Program} {w : World} {K : PySem.W.Frag} {mg : Str → Option Value} {base : Heap}

def spOneLess : Sp := fun vs H Q _ => ∃ (n p : Nat) (ax : Addr) (f : Nat → Nat), vs = [.ref ax, nv p] ∧ H ax = some (nl n f) ∧ p < n ∧ ∀ r, H r = none → Q (.ref r) (upd H r (nl n (fupd f p (f p - 1))))
theorem scOneLess : FnScope ["drives", "person", "left"] ["drives", "person"] (defScope sOneLess) := ⟨rfl, rfl, rfl, by decide +kernel, rfl, by decide +kernel, by decide +kernel⟩
theorem ok_oneLess {f C : Addr} {fd : FuncData} (F : Fun K "one_less" "one_less" sOneLess f fd) (T : Txt K mg C) : FnOk P w K mg base CX0 1 f fd ["drives", "person"] spOneLess := by
  refine F.ok scOneLess (fun vs H Q E h => ?_) (fun cdv A outer s H vs Q E hr h => ?_)
  · obtain ⟨n, p, ax, f, rfl, _⟩ := h
    rfl
  obtain ⟨n, p, ax, f, rfl, hx, hp, k⟩ := h
  refine ⟨_, pss_cons (ps_set (i := 2) scOneLess.nd rfl (Or.inl rfl) (pe_callTy call_list_of (by rfl) T.lst boot_lst (pa_cons (pv 0) pa_nil)))
    (pss_cons (ps_asg (pe_callB (call_max2 rfl) (by rfl) T.mx boot_max (pa_cons (pe_op op_sub (pe_ix ix_list (pv 2) (pv 1) (fun _ _ => rfl)) pe_int) (pa_cons pe_int pa_nil))) (pg_sub (pv 2) (pv 1) set_list))
    (pss_one (ps_ret (pv 2)))), ?_⟩
  refine ⟨_, rfl, ax, _, rfl, .inl (SqL.of hx), fun r hr' => ?_⟩
  refine ⟨_, rfl, _, rfl, r, _, _, _, rfl, rfl, SqL.of upd_same, range_at _ hp, _, _, rfl, rfl, _, _, rfl, _, rfl, _, rfl, r, _, _, p, rfl, rfl, upd_same, range_ix _ hp, _, rfl, ?_⟩
  rw [upd_upd, range_set _ _ hp]
  have e : HO.lst ((List.range n).map fun k => if k = p then V.int (if (0 : Int) > ((f p : Nat) : Int) - 1 then 0 else ((f p : Nat) : Int) - 1) else nv (f k)) = nl n (fupd f p (f p - 1)) := by
    refine congrArg HO.lst (List.map_congr_left fun k hk => ?_)
    unfold fupd
    by_cases c : k = p
    · subst c
      rw [if_pos rfl, if_pos rfl]
      show V.int _ = V.int _
      congr 1
      split <;> omega
    · rw [if_neg c, if_neg c]
  have := k r hr'
  rw [← e] at this
  exact this

def spDriven : Sp := fun vs H Q _ => ∃ (n : Nat) (l : List Nat) (la lc : Addr) (cap : Nat → Nat), vs = [.ref la, .ref lc] ∧ DaysAt H n la l ∧ H lc = some (nl n cap) ∧ n ≤ 10 ∧ l.length ≤ 7 ∧
  ∀ r H', Best n l.length (rsOf n l) cap r → Ext H H' → Q (nv r) H'
theorem scDriven : FnScope ["days", "drives", "drivers", "left", "driven", "day"] ["days", "drives"] (defScope sDaysDriven) := ⟨rfl, rfl, rfl, by decide +kernel, rfl, by decide +kernel, by decide +kernel⟩
theorem un_all (n : Nat) : un n (fun _ => false) = n := by
  unfold un
  have ones : ∀ M : Nat, S (fun _ => if false = true then 0 else 1) M = M := fun M => by
    induction M with
    | zero => rfl
    | succ M ih => show S _ M + 1 = _; rw [ih]
  exact ones n
theorem as_none (L : Nat) : As L (fun _ => none) = 0 := by
  unfold As
  rw [KPlan.S_congr (g := fun _ => 0) fun i _ => if_neg (by simp), KPlan.S_zero]
theorem ok_driven {f C : Addr} {fd : FuncData} (F : Fun K "days_driven" "days_driven" sDaysDriven f fd) (T : Txt K mg C) (M1 : Fnc P w K mg base "find_driver" 21 ["day", "days", "drivers", "left", "asked"] (spFind 10)) : FnOk P w K mg base CX0 22 f fd ["days", "drives"] spDriven := by
  obtain ⟨f1, fd1, G1, b1, m1, k1⟩ := M1
  refine F.ok scDriven (fun vs H Q E h => ?_) (fun cdv A outer s H vs Q E hr h => ?_)
  · obtain ⟨n, l, la, lc, cap, rfl, _⟩ := h
    rfl
  obtain ⟨n, l, la, lc, cap, rfl, dat, hc, hn, hlen, k⟩ := h
  obtain ⟨u, hu, r⟩ := T.nobody
  refine ⟨_, pss_cons (ps_set (i := 2) scDriven.nd rfl (Or.inl rfl) (pe_op op_rep (pe_lst (pa_cons (pe_glob rfl hu r) pa_nil)) (pe_callB call_len_seq (by rfl) T.len PySem.boot_len (pa_cons (pv 0) pa_nil))))
    (pss_cons (ps_set (i := 3) scDriven.nd rfl (Or.inl rfl) (pe_callTy call_list_of (by rfl) T.lst boot_lst (pa_cons (pv 1) pa_nil)))
    (pss_cons (ps_set (i := 4) scDriven.nd rfl (Or.inl rfl) pe_int)
    (pss_cons (ps_for PassesOwn.never rfl (pi_range1 rfl T.rng (pa_cons (pe_callB call_len_seq (by rfl) T.len PySem.boot_len (pa_cons (pv 0) pa_nil)) pa_nil)) (pg_name (i := 5) scDriven.nd rfl (Or.inl rfl))
      (pss_one (ps_if (pt_val (pe_call G1 hr rfl m1 k1 b1 .nil pass0 (pa_cons (pv 5) (pa_cons (pv 0) (pa_cons (pv 2) (pa_cons (pv 3) (pa_cons (pe_op op_rep (pe_lst (pa_cons pe_bl pa_nil)) (pe_callB call_len_seq (by rfl) T.len PySem.boot_len (pa_cons (pv 3) pa_nil))) pa_nil)))))))
        (pss_one (ps_aug (i := 4) scDriven.nd rfl (Or.inl rfl) pe_int ip_add)) pss_nil)))
    (pss_one (ps_ret (pv 4)))))), ?_⟩
  obtain ⟨as, hla, hasl⟩ := dat.len
  refine ⟨(by show 1 ≤ sizeLine; decide), fun t1 ht1 => ?_⟩
  have x1 : Ext H (upd H t1 (.lst [.int (-1)])) := Ext.new ht1 _
  have q1 : (upd H t1 (.lst [.int (-1)])) t1 = some (.lst [.int (-1)]) := upd_same
  generalize upd H t1 (.lst [.int (-1)]) = H1 at x1 q1 ⊢
  refine ⟨_, rfl, la, _, rfl, .inl (SqL.of (x1 _ _ hla)), t1, _, _, rfl, rfl, q1, ?_, ?_, ?_, fun ad had => ?_⟩
  · rw [List.length_map]; omega
  · rw [List.length_map]; omega
  · rw [List.length_map, hasl]
    show 1 * (l.length : Int).toNat ≤ sizeLine
    exact Nat.le_of_lt (small1000 (by omega))
  rw [List.length_map, hasl, rep_int]
  have nad : H ad = none := x1.none had
  have x2 : Ext H (upd H1 ad (.lst ((List.range l.length).map fun _ => V.int (-1)))) := x1.trans (Ext.new had _)
  have d2 : (upd H1 ad (.lst ((List.range l.length).map fun _ => V.int (-1)))) ad = some (dl l.length fun _ => none) := upd_same
  generalize upd H1 ad (.lst ((List.range l.length).map fun _ => V.int (-1))) = H2 at x2 d2 ⊢
  refine ⟨_, rfl, lc, _, rfl, .inl (SqL.of (x2 _ _ hc)), fun al hal => ?_⟩
  have nal : H al = none := x2.none hal
  have dal : ad ≠ al := ne_of_none d2 hal
  have x3 : Ext H (upd H2 al (.lst ((List.range n).map fun k => nv (cap k)))) := x2.trans (Ext.new hal _)
  have d3 : (upd H2 al (.lst ((List.range n).map fun k => nv (cap k)))) ad = some (dl l.length fun _ => none) := by rw [upd_ne dal]; exact d2
  have l3 : (upd H2 al (.lst ((List.range n).map fun k => nv (cap k)))) al = some (nl n cap) := upd_same
  generalize upd H2 al (.lst ((List.range n).map fun k => nv (cap k))) = H3 at x3 d3 l3 ⊢
  have hrs := rs_lt n l l.length
  refine ⟨_, rfl, la, _, rfl, .inl (SqL.of (x3 _ _ hla)), (l.length : Int), (by rw [List.length_map, hasl]), by omega, by omega, ?_⟩
  refine for_range (lo := 0) (n := ((l.length : Nat) : Int).toNat) (fun i σ H' => ∃ (v : Option V) (g : Nat → Option Nat) (left : Nat → Nat), σ = [some (.ref la), some (.ref lc), some (.ref ad), some (.ref al), some (nv (As l.length g)), v] ∧
      H' ad = some (dl l.length g) ∧ H' al = some (nl n left) ∧ Ext H H' ∧ Days n l.length (rsOf n l) cap i g left)
    ⟨none, fun _ => none, cap, (by rw [as_none]; rfl), d3, l3, x3, Days.zero⟩ ?_ ?_
  · rintro i σ H' hi ⟨v, g, left, rfl, hd, hl, xe, dd⟩
    rw [Int.toNat_natCast] at hi
    have e0 : ((0 : Int) + (i : Int)) = (i : Int) := Int.zero_add _
    rw [e0]
    refine ⟨_, rfl, _, rfl, _, rfl, _, rfl, (by show 1 ≤ sizeLine; decide), fun t2 ht2 => ?_⟩
    have x4 : Ext H' (upd H' t2 (.lst [.bl false])) := Ext.new ht2 _
    have q4 : (upd H' t2 (.lst [.bl false])) t2 = some (.lst [.bl false]) := upd_same
    generalize upd H' t2 (.lst [.bl false]) = H4 at x4 q4 ⊢
    refine ⟨_, rfl, al, _, rfl, .inl (SqL.of (x4 _ _ hl)), t2, _, _, rfl, rfl, q4, ?_, ?_, ?_, fun aa haa => ?_⟩
    · rw [List.length_map, List.length_range]; omega
    · rw [List.length_map, List.length_range]; omega
    · rw [List.length_map, List.length_range]
      show 1 * (n : Int).toNat ≤ sizeLine
      exact Nat.le_of_lt (small1000 (by omega))
    rw [List.length_map, List.length_range, rep_int]
    have naa' : H' aa = none := x4.none haa
    have naa : H aa = none := xe.none naa'
    have x5 : Ext H' (upd H4 aa (.lst ((List.range n).map fun _ => V.bl false))) := x4.trans (Ext.new haa _)
    have a5 : (upd H4 aa (.lst ((List.range n).map fun _ => V.bl false))) aa = some (bll n fun _ => false) := upd_same
    generalize upd H4 aa (.lst ((List.range n).map fun _ => V.bl false)) = H5 at x5 a5 ⊢
    have sp : Sep ad al aa := ⟨dal, ne_of_none hd naa', ne_of_none hl naa'⟩
    have fresh : ∀ x, x ∈ [ad, al, aa] → H x = none := fun x hx => by
      simp only [List.mem_cons, List.not_mem_nil, or_false] at hx
      rcases hx with rfl | rfl | rfl
      · exact nad
      · exact nal
      · exact naa
    have xf : ∀ {H6 : Hp}, (∀ x, x ∉ [ad, al, aa] → H6 x = H5 x) → Ext H H6 := fun {H6} e b o hb => by
      rw [e b (fun z => by rw [fresh b z] at hb; cases hb)]
      exact x5 _ _ (xe _ _ hb)
    have eday := dd.more i hi (Nat.le_refl _)
    refine ⟨n, i, l, la, ad, al, aa, g, left, fun _ => false, rfl, hi, by omega, dat.ok (xe.trans x5) fresh, sp, ⟨x5 _ _ hd, x5 _ _ hl, a5⟩, dd.pv, .inl eday, (by rw [un_all]; exact hn), fun a' H6 m6 e6 no => ?_, fun g' left' a' H6 m6 e6 yes => ?_⟩
    · refine ⟨_, rfl, iteF ?_⟩
      exact ⟨some (nv i), g, left, rfl, m6.d, m6.l, xf e6, dd.no hi no⟩
    · refine ⟨_, rfl, iteT ?_⟩
      obtain ⟨dy, ey⟩ := dd.yes hi yes
      refine ⟨_, rfl, _, _, rfl, rfl, some (nv i), g', left', ?_, m6.d, m6.l, xf e6, dy⟩
      rw [ey]; rfl
  · rintro σ H' ⟨v, g, left, rfl, hd, hl, xe, dd⟩
    rw [Int.toNat_natCast] at dd
    exact ⟨_, rfl, k _ H' (dd.best hrs) xe⟩

def PkOf (n : Nat) (l : List Nat) (lo hi : Nat → Nat) (k : Nat) : Prop := 0 < hi k ∧ Fit n l.length (rsOf n l) (fupd lo k (lo k - 1)) (fupd hi k (hi k - 1))
def spCanDrive : Sp := fun vs H Q _ => ∃ (n p : Nat) (l : List Nat) (lr ll lm : Addr) (lo hi : Nat → Nat), vs = [nv p, .ref lr, .ref ll, .ref lm] ∧ DaysAt H n lr l ∧ H ll = some (nl n lo) ∧ H lm = some (nl n hi) ∧ (∀ j, lo j ≤ hi j) ∧ p < n ∧ n ≤ 10 ∧ l.length ≤ 7 ∧
  ∀ b H', (b = true ↔ PkOf n l lo hi p) → Ext H H' → Q (.bl b) H'
theorem scCanDrive : FnScope ["person", "rest", "least", "most", "still_least", "still_most"] ["person", "rest", "least", "most"] (defScope sCanDrive) := ⟨rfl, rfl, rfl, by decide +kernel, rfl, by decide +kernel, by decide +kernel⟩
theorem ok_canDrive {f C : Addr} {fd : FuncData} (F : Fun K "can_drive" "can_drive" sCanDrive f fd) (T : Txt K mg C) (M1 : Fnc P w K mg base "one_less" 1 ["drives", "person"] spOneLess) (M2 : Fnc P w K mg base "days_driven" 22 ["days", "drives"] spDriven) : FnOk P w K mg base CX0 23 f fd ["person", "rest", "least", "most"] spCanDrive := by
  obtain ⟨f1, fd1, G1, b1, m1, k1⟩ := M1
  obtain ⟨f2, fd2, G2, b2, m2, k2⟩ := M2
  refine F.ok scCanDrive (fun vs H Q E h => ?_) (fun cdv A outer s H vs Q E hr h => ?_)
  · obtain ⟨n, p, l, lr, ll, lm, lo, hi, rfl, _⟩ := h
    rfl
  obtain ⟨n, p, l, lr, ll, lm, lo, hi, rfl, dat, hll, hlm, hle, hp, hn, hlen, k⟩ := h
  have hr1 := hr.mono (j := 1) (by decide)
  refine ⟨_, pss_cons (ps_if (pt_cmpR op_eq (pe_ix ix_list (pv 3) (pv 0) (fun _ _ => rfl)) pe_int (nomark _)) (pss_one (ps_ret pe_bl)) pss_nil)
    (pss_cons (ps_set (i := 4) scCanDrive.nd rfl (Or.inl rfl) (pe_call G1 hr1 rfl m1 k1 b1 .nil pass0 (pa_cons (pv 2) (pa_cons (pv 0) pa_nil))))
    (pss_cons (ps_set (i := 5) scCanDrive.nd rfl (Or.inl rfl) (pe_call G1 hr1 rfl m1 k1 b1 .nil pass0 (pa_cons (pv 3) (pa_cons (pv 0) pa_nil))))
    (pss_one (ps_ret (pe_and (pe_cmpR op_eq (pe_call G2 hr rfl m2 k2 b2 .nil pass0 (pa_cons (pv 1) (pa_cons (pv 5) pa_nil))) (pe_callB call_len_seq (by rfl) T.len PySem.boot_len (pa_cons (pv 1) pa_nil)) (nomark _))
      (pe_one (pe_cmpR op_eq (pe_call G2 hr rfl m2 k2 b2 .nil pass0 (pa_cons (pv 1) (pa_cons (pv 4) pa_nil))) (pe_callB (cr_sum rfl) (by rfl) T.sm boot_sum (pa_cons (pv 4) pa_nil)) (nomark _)))))))), ?_⟩
  have hrs := rs_lt n l l.length
  refine ⟨_, rfl, _, rfl, lm, _, _, _, rfl, rfl, SqL.of hlm, range_at _ hp, rfl, _, rfl, ite2 (fun c => ?_) (fun c => ?_)⟩
  · have hz : hi p = 0 := by
      have z := of_decide_eq_true c
      injection z with z
      omega
    refine k false H ⟨fun z => (nomatch z), fun z => ?_⟩ Ext.refl
    have := z.1
    omega
  have hpos : 0 < hi p := by
    refine Nat.pos_of_ne_zero fun z => c ?_
    rw [z]; rfl
  refine ⟨_, rfl, _, rfl, n, p, ll, lo, rfl, hll, hp, fun sl hsl => ?_⟩
  have x1 := Ext.new hsl (nl n (fupd lo p (lo p - 1)))
  have s1 : (upd H sl (nl n (fupd lo p (lo p - 1)))) sl = some (nl n (fupd lo p (lo p - 1))) := upd_same
  generalize upd H sl (nl n (fupd lo p (lo p - 1))) = H1 at x1 s1 ⊢
  refine ⟨_, rfl, _, rfl, n, p, lm, hi, rfl, x1 _ _ hlm, hp, fun sm hsm => ?_⟩
  have x2 := Ext.new hsm (nl n (fupd hi p (hi p - 1)))
  have s2 : (upd H1 sm (nl n (fupd hi p (hi p - 1)))) sm = some (nl n (fupd hi p (hi p - 1))) := upd_same
  generalize upd H1 sm (nl n (fupd hi p (hi p - 1))) = H2 at x2 s2 ⊢
  refine ⟨_, rfl, _, rfl, n, l, lr, sm, fupd hi p (hi p - 1), rfl, dat.ext (x1.trans x2), s2, hn, hlen, fun r1 H3 best1 x3 => ?_⟩
  obtain ⟨as, hla, hasl⟩ := dat.len
  have x13 := (x1.trans x2).trans x3
  refine ⟨_, rfl, lr, _, rfl, .inl (SqL.of (x13 _ _ hla)), rfl, _, rfl, ?_⟩
  have e1 : decide (nv r1 = V.int (((as.map V.ref).length : Nat) : Int)) = decide (r1 = l.length) := by
    rw [List.length_map, hasl]
    exact decide_eq_decide.mpr ⟨fun z => by injection z with z; omega, fun z => by rw [z]; rfl⟩
  rw [e1]
  by_cases c1 : r1 = l.length
  · rw [decide_eq_true c1]
    refine iteT ?_
    refine ⟨_, rfl, _, rfl, n, l, lr, sl, fupd lo p (lo p - 1), rfl, dat.ext x13, x3 _ _ (x2 _ _ s1), hn, hlen, fun r2 H4 best2 x4 => ?_⟩
    have s4 : H4 sl = some (.lst (((List.range n).map fun k => ((fupd lo p (lo p - 1) k : Nat) : Int)).map V.int)) := by
      rw [x4 _ _ (x3 _ _ (x2 _ _ s1)), List.map_map]; rfl
    refine ⟨_, rfl, sl, (List.range n).map fun k => ((fupd lo p (lo p - 1) k : Nat) : Int), rfl, SqL.of s4, rfl, ?_⟩
    rw [sum_range]
    refine k _ H4 ?_ (x13.trans x4)
    have two := asked_two hrs (fun j _ => dec_le p hle) best1 best2
    rw [decide_eq_true_eq]
    refine ⟨fun z => ⟨hpos, two.mp ⟨c1, by injection z with z; exact Int.ofNat.inj z⟩⟩, fun z => ?_⟩
    rw [(two.mpr z.2).2]; rfl
  · rw [decide_eq_false c1]
    refine iteF ?_
    exact k false H3 ⟨fun z => (nomatch z), fun z => absurd (fit_all best1 z.2) c1⟩ x13

def spFirst : Sp := fun vs H Q _ => ∃ (n : Nat) (rs l : List Nat) (lg lr ll lm : Addr) (lo hi : Nat → Nat), vs = [.ref lg, .ref lr, .ref ll, .ref lm] ∧ H lg = some (.lst (rs.map nv)) ∧ (∀ x, x ∈ rs → x < n) ∧ DaysAt H n lr l ∧ H ll = some (nl n lo) ∧ H lm = some (nl n hi) ∧
  (∀ j, lo j ≤ hi j) ∧ n ≤ 10 ∧ l.length ≤ 7 ∧ (∃ k, k ∈ rs ∧ PkOf n l lo hi k) ∧
  ∀ (i k : Nat) (H' : Hp), rs[i]? = some k → PkOf n l lo hi k → (∀ (j y : Nat), j < i → rs[j]? = some y → ¬ PkOf n l lo hi y) → Ext H H' → Q (nv k) H'
theorem scFirst : FnScope ["riding", "rest", "least", "most", "place"] ["riding", "rest", "least", "most"] (defScope sFirstDriver) := ⟨rfl, rfl, rfl, by decide +kernel, rfl, by decide +kernel, by decide +kernel⟩
theorem ok_first {f C : Addr} {fd : FuncData} (F : Fun K "first_driver" "first_driver" sFirstDriver f fd) (T : Txt K mg C) (M1 : Fnc P w K mg base "can_drive" 23 ["person", "rest", "least", "most"] spCanDrive) : FnOk P w K mg base CX0 24 f fd ["riding", "rest", "least", "most"] spFirst := by
  obtain ⟨f1, fd1, G1, b1, m1, k1⟩ := M1
  refine F.ok scFirst (fun vs H Q E h => ?_) (fun cdv A outer s H vs Q E hr h => ?_)
  · obtain ⟨n, rs, l, lg, lr, ll, lm, lo, hi, rfl, _⟩ := h
    rfl
  obtain ⟨n, rs, l, lg, lr, ll, lm, lo, hi, rfl, hlg, hlt, dat, hll, hlm, hle, hn, hlen, ⟨k0, hk0, pk0⟩, k⟩ := h
  refine ⟨_, pss_cons (ps_set (i := 4) scFirst.nd rfl (Or.inl rfl) pe_int)
    (pss_cons (ps_while PassesOwn.never (pt_not (pt_val (pe_call G1 hr rfl m1 k1 b1 .nil pass0 (pa_cons (pe_ix ix_list (pv 0) (pv 4) (fun _ _ => rfl)) (pa_cons (pv 1) (pa_cons (pv 2) (pa_cons (pv 3) pa_nil)))))))
      (pss_one (ps_aug (i := 4) scFirst.nd rfl (Or.inl rfl) pe_int ip_add)))
    (pss_one (ps_ret (pe_ix ix_list (pv 0) (pv 4) (fun _ _ => rfl))))), ?_⟩
  refine ⟨fun m σ H' => ∃ i : Nat, m = rs.length - i ∧ σ = [some (.ref lg), some (.ref lr), some (.ref ll), some (.ref lm), some (nv i)] ∧ (∀ (j y : Nat), j < i → rs[j]? = some y → ¬ PkOf n l lo hi y) ∧ Ext H H', ⟨rs.length - 0, 0, rfl, rfl, fun j y h => absurd h (Nat.not_lt_zero _), Ext.refl⟩, ?_⟩
  rintro m σ H' ⟨i, rfl, rfl, hbf, xe⟩
  obtain ⟨i0, hi0⟩ := List.getElem?_of_mem hk0
  have hil : i < rs.length := by
    refine Nat.lt_of_not_le fun z => ?_
    have h1 : i0 < rs.length := (List.getElem?_eq_some_iff.mp hi0).1
    exact hbf i0 k0 (by omega) hi0 pk0
  obtain ⟨z, hz⟩ : ∃ z, rs[i]? = some z := ⟨_, List.getElem?_eq_getElem hil⟩
  have hzm : (rs.map nv)[i]? = some (nv z) := by rw [List.getElem?_map, hz]; rfl
  refine ⟨_, rfl, _, rfl, lg, _, _, _, rfl, rfl, SqL.of (xe _ _ hlg), atI_nat hzm, _, rfl, _, rfl, _, rfl, n, z, l, lr, ll, lm, lo, hi, rfl, dat.ext xe, xe _ _ hll, xe _ _ hlm, hle, hlt z (List.mem_of_getElem? hz), hn, hlen, fun b H2 hb x2 => ?_⟩
  refine ⟨_, rfl, ?_⟩
  cases b with
  | false =>
    refine iteT ⟨fun σ' H3 => σ' = [some (.ref lg), some (.ref lr), some (.ref ll), some (.ref lm), some (nv (i + 1))] ∧ Ext H H3, fun σ' H3 ⟨e, x3⟩ => ⟨rs.length - (i + 1), by omega, i + 1, rfl, e, fun j y hj hy => ?_, x3⟩, ?_⟩
    · by_cases c : j = i
      · subst c
        rw [hz] at hy
        cases hy
        exact fun q => by have := hb.mpr q; cases this
      · exact hbf j y (by omega) hy
    · exact ⟨_, rfl, _, _, rfl, rfl, rfl, xe.trans x2⟩
  | true =>
    refine iteF ?_
    refine ⟨_, rfl, _, rfl, lg, _, _, _, rfl, rfl, SqL.of (x2 _ _ (xe _ _ hlg)), atI_nat hzm, ?_⟩
    exact k i z H2 hz (hb.mp rfl) hbf (xe.trans x2)
end
end Df

namespace Df
open PySem PySem.Spec PyProof.Rows L2
open PySem.W (Codec)
open KMatch
open KPlan (S C)

/-- what somebody ought to drive of days told ahead -/
def dueP (n : Nat) (l : List Nat) (k : Nat) : Nat := Kyd.due n (l.map fun m => (m, 0)) k
theorem dueP_snoc (n m : Nat) (l : List Nat) (k : Nat) : dueP n (l ++ [m]) k = dueP n l k + (if Kyd.has m k then Kyd.part n m else 0) := by
  unfold dueP Kyd.due
  rw [List.map_append, List.map_append]
  exact KPlan.sum_snoc _ _

section
variable {P : Program} {w : World} {K : PySem.W.Frag} {mg : Str → Option Value} {base : Heap}

def spOught : Sp := fun vs H Q _ => ∃ (n : Nat) (l : List Nat) (la : Addr), vs = [.ref la, nv n] ∧ DaysAt H n la l ∧ n ≤ 10 ∧ (∀ m, m ∈ l → Kyd.okRide n m = true) ∧
  ∀ r H', H r = none → H' r = some (nl n (dueP n l)) → Ext H H' → Q (.ref r) H'
theorem scOught : FnScope ["days", "people", "ought", "riding", "person"] ["days", "people"] (defScope sOught) := ⟨rfl, rfl, rfl, by decide +kernel, rfl, by decide +kernel, by decide +kernel⟩
theorem ok_ought {f C : Addr} {fd : FuncData} (F : Fun K "ought_of" "ought_of" sOught f fd) (T : Txt K mg C) (M1 : Fnc P w K mg base "share_of" 1 ["riding"] (spShare K)) : FnOk P w K mg base CX0 2 f fd ["days", "people"] spOught := by
  obtain ⟨f1, fd1, G1, b1, m1, k1⟩ := M1
  refine F.ok scOught (fun vs H Q E h => ?_) (fun cdv A outer s H vs Q E hr h => ?_)
  · obtain ⟨n, l, la, rfl, _⟩ := h
    rfl
  obtain ⟨n, l, la, rfl, dat, hn, hok, k⟩ := h
  refine ⟨_, pss_cons (ps_set (i := 2) scOught.nd rfl (Or.inl rfl) (pe_op op_rep (pe_lst (pa_cons pe_int pa_nil)) (pv 1)))
    (pss_cons (ps_for PassesOwn.never rfl (pi_list (pv 0)) (pg_name (i := 3) scOught.nd rfl (Or.inl rfl))
      (pss_one (ps_for PassesOwn.never rfl (pi_list (pv 3)) (pg_name (i := 4) scOught.nd rfl (Or.inl rfl))
        (pss_one (ps_augS (pv 2) (pv 4) get_list (pe_call G1 hr rfl m1 k1 b1 .nil pass0 (pa_cons (pv 3) pa_nil)) ip_add set_list)))))
    (pss_one (ps_ret (pv 2)))), ?_⟩
  refine ⟨(by show 1 ≤ sizeLine; decide), fun t1 ht1 => ?_⟩
  have x1 : Ext H (upd H t1 (.lst [.int 0])) := Ext.new ht1 _
  have q1 : (upd H t1 (.lst [.int 0])) t1 = some (.lst [.int 0]) := upd_same
  generalize upd H t1 (.lst [.int 0]) = H1 at x1 q1 ⊢
  refine ⟨_, rfl, t1, _, _, rfl, rfl, q1, (by omega), (by omega), (by show 1 * (n : Int).toNat ≤ sizeLine; exact Nat.le_of_lt (small1000 (by omega))), fun ao hao => ?_⟩
  rw [rep_int]
  have nao : H ao = none := x1.none hao
  have x2 : Ext H (upd H1 ao (.lst ((List.range n).map fun _ => V.int 0))) := x1.trans (Ext.new hao _)
  have q2 : (upd H1 ao (.lst ((List.range n).map fun _ => V.int 0))) ao = some (nl n (dueP n (l.take 0))) := upd_same
  generalize upd H1 ao (.lst ((List.range n).map fun _ => V.int 0)) = H2 at x2 q2 ⊢
  have dok : DaysOk H2 n la l [ao] := dat.ok x2 fun x hx => by
    have : x = ao := by simpa using hx
    rw [this]; exact nao
  obtain ⟨as, ⟨hla, nla⟩, hps⟩ := dok
  have nla : la ≠ ao := by simpa using nla
  refine ⟨_, rfl, la, rfl, ⟨_, SqL.of hla⟩, for_list (K := K) (a := la) (xs := as.map V.ref) (fun i σ H' => ∃ v3 v4 : Option V, σ = [some (.ref la), some (nv n), some (.ref ao), v3, v4] ∧ H' ao = some (nl n (dueP n (l.take i))) ∧ ∀ b, b ≠ ao → H' b = H2 b)
    ⟨none, none, rfl, q2, fun _ _ => rfl⟩ (fun i σ H' _ ⟨_, _, _, _, e⟩ => SqL.of (by rw [e la nla]; exact hla)) ?_ ?_⟩
  · rintro i y σ H' hi ⟨v3, v4, rfl, ho, hb⟩
    obtain ⟨ar, har, rfl⟩ := map_get hi
    have hil : i < l.length := by
      have := (List.getElem?_eq_some_iff.mp har).1
      rw [Paired.length hps] at this
      exact this
    obtain ⟨ar', har', h4, h5⟩ := Paired.get hps i _ (getD_get hil)
    rw [har] at har'
    cases har'
    have h5 : ar ≠ ao := by simpa using h5
    have hm : l[i]? = some (l.getD i 0) := getD_get hil
    generalize l.getD i 0 = m at h4 hm
    have hmk := hok m (List.mem_of_getElem? hm)
    have hpos := KPlan.riders_pos hmk
    have hle := KPlan.riders_le n m
    refine ⟨_, rfl, ar, rfl, ⟨_, SqL.of (by rw [hb ar h5]; exact h4)⟩, for_list (K := K) (a := ar) (xs := (Kyd.riders n m).map nv) (fun j σ H' => ∃ v4 : Option V, σ = [some (.ref la), some (nv n), some (.ref ao), some (.ref ar), v4] ∧
        H' ao = some (nl n fun k => dueP n (l.take i) k + if k ∈ (Kyd.riders n m).take j then Kyd.part n m else 0) ∧ ∀ b, b ≠ ao → H' b = H2 b)
      ⟨v4, rfl, ?_, hb⟩ (fun j σ H' _ ⟨_, _, _, e⟩ => SqL.of (by rw [e ar h5]; exact h4)) ?_ ?_⟩
    · rw [ho]; simp
    · rintro j y σ H3 hj ⟨v4, rfl, ho3, hb3⟩
      obtain ⟨z, hz, rfl⟩ := map_get hj
      have hzn : z < n := riders_lt (List.mem_of_getElem? hz)
      have nin := not_in_take (riders_nodup n m) hz
      refine ⟨_, rfl, _, rfl, ao, _, _, _, rfl, rfl, SqL.of ho3, range_at _ hzn, _, rfl, ar, _, rfl, .inl (SqL.of (by rw [hb3 ar h5]; exact h4)), (by rw [List.length_map]; exact hpos), (by rw [List.length_map]; omega), _, _, rfl, rfl, ao, _, _, z, rfl, rfl, ho3, range_ix _ hzn, ?_⟩
      refine ⟨some (nv z), rfl, ?_, fun b hb' => by rw [upd_ne hb']; exact hb3 b hb'⟩
      rw [upd_same, range_set _ _ hzn]
      refine congrArg (fun x => some (HO.lst x)) (List.map_congr_left fun k hk => ?_)
      rw [take_snoc hz]
      by_cases c : k = z
      · rw [if_pos c]
        show V.int (((dueP n (l.take i) z + (if z ∈ (Kyd.riders n m).take j then Kyd.part n m else 0) : Nat) : Int) + 2520 / ((((Kyd.riders n m).map nv).length : Nat) : Int)) = V.int ((dueP n (l.take i) k + (if k ∈ (Kyd.riders n m).take j ++ [z] then Kyd.part n m else 0) : Nat) : Int)
        rw [c, if_neg nin, if_pos (by simp), List.length_map, part_eq]
        congr 1
      · rw [if_neg c]
        simp [c]
    · rintro σ H3 ⟨v4, rfl, ho3, hb3⟩
      rw [List.length_map, List.take_length] at ho3
      refine ⟨some (.ref ar), v4, rfl, ?_, hb3⟩
      rw [ho3, take_snoc hm]
      refine congrArg some (nl_congr fun k hk => ?_)
      rw [dueP_snoc]
      have e := in_riders_iff (m := m) hk
      by_cases c : Kyd.has m k = true
      · rw [if_pos (e.mpr c), if_pos c]
      · rw [if_neg fun z => c (e.mp z), if_neg c]
  · rintro σ H' ⟨v3, v4, rfl, ho, hb⟩
    rw [List.length_map, Paired.length hps, List.take_length] at ho
    refine ⟨_, rfl, k ao H' nao ho fun b o e => ?_⟩
    rw [hb b (ne_of_none e nao)]
    exact x2 _ _ e

def spPlans : Sp := fun vs H Q _ => ∃ (n : Nat) (l d : List Nat) (la : Addr), vs = [.ref la, nv n] ∧ DaysAt H n la l ∧ n ≤ 10 ∧ l.length ≤ 7 ∧ (∀ m, m ∈ l → Kyd.okRide n m = true) ∧ Kyd.planned n l = some d ∧
  ∀ r H', H r = none → H' r = some (.lst (d.map nv)) → Ext H H' → Q (.ref r) H'
theorem scPlans : FnScope ["days", "people", "ought", "least", "most", "drivers", "day", "driver", "parts"] ["days", "people"] (defScope sFirstPlan) := ⟨rfl, rfl, rfl, by decide +kernel, rfl, by decide +kernel, by decide +kernel⟩
theorem lo_nil (n : Nat) (l : List Nat) (k : Nat) : loOf n l [] k = dueP n l k / 2520 := by
  unfold loOf Kyd.atLeast dueP Kyd.whole Kyd.times
  simp
theorem hi_nil (n : Nat) (l : List Nat) (k : Nat) : hiOf n l [] k = (dueP n l k + (2520 - 1)) / 2520 := by
  unfold hiOf Kyd.atMost dueP Kyd.whole Kyd.times
  simp
theorem range_map_get {α : Type} {n i : Nat} {f : Nat → α} {y : α} (h : ((List.range n).map f)[i]? = some y) : i < n ∧ f i = y := by
  obtain ⟨z, hz, rfl⟩ := map_get h
  have hi : i < n := by
    have := (List.getElem?_eq_some_iff.mp hz).1
    simpa using this
  rw [List.getElem?_range hi] at hz
  cases hz
  exact ⟨hi, rfl⟩
theorem ok_plans {f C : Addr} {fd : FuncData} (F : Fun K "first_plan" "first_plan" sFirstPlan f fd) (T : Txt K mg C) (M1 : Fnc P w K mg base "ought_of" 2 ["days", "people"] spOught) (M2 : Fnc P w K mg base "first_driver" 24 ["riding", "rest", "least", "most"] spFirst)
    (M3 : Fnc P w K mg base "one_less" 1 ["drives", "person"] spOneLess) : FnOk P w K mg base CX0 25 f fd ["days", "people"] spPlans := by
  obtain ⟨f1, fd1, G1, b1, m1, k1⟩ := M1
  obtain ⟨f2, fd2, G2, b2, m2, k2⟩ := M2
  obtain ⟨f3, fd3, G3, b3, m3, k3⟩ := M3
  refine F.ok scPlans (fun vs H Q E h => ?_) (fun cdv A outer s H vs Q E hr h => ?_)
  · obtain ⟨n, l, d, la, rfl, _⟩ := h
    rfl
  obtain ⟨n, l, d, la, rfl, dat, hn, hlen, hok, hpl, k⟩ := h
  have hr1 := hr.mono (j := 1) (by decide)
  have hr2 := hr.mono (j := 2) (by decide)
  obtain ⟨u, hu, r⟩ := T.parts
  refine ⟨_, pss_cons (ps_set (i := 2) scPlans.nd rfl (Or.inl rfl) (pe_call G1 hr2 rfl m1 k1 b1 .nil pass0 (pa_cons (pv 0) (pa_cons (pv 1) pa_nil))))
    (pss_cons (ps_setLc (i := 3) (own := [("parts", 8)]) rfl scPlans.nd rfl rfl (sw_true rfl rfl rfl (by decide +kernel)) (pi_list (pv 2)) (blkOk_by (N := ["days", "people", "ought", "least", "most", "drivers", "day", "driver", "parts"]) (sc := defScope sFirstPlan) (by decide +kernel))
      (fun s H C cl fp => pg_name (i := 8) scPlans.nd rfl (Or.inl rfl)) (fun s H C cl fp => pts_nil) (fun s H C cl fp => pe_op op_fdiv (pv 8) (pe_glob rfl hu r)))
    (pss_cons (ps_setLc (i := 4) (own := [("parts", 8)]) rfl scPlans.nd rfl rfl (sw_true rfl rfl rfl (by decide +kernel)) (pi_list (pv 2)) (blkOk_by (N := ["days", "people", "ought", "least", "most", "drivers", "day", "driver", "parts"]) (sc := defScope sFirstPlan) (by decide +kernel))
      (fun s H C cl fp => pg_name (i := 8) scPlans.nd rfl (Or.inl rfl)) (fun s H C cl fp => pts_nil) (fun s H C cl fp => pe_op op_fdiv (pe_op op_sub (pe_op op_add (pv 8) (pe_glob rfl hu r)) pe_int) (pe_glob rfl hu r)))
    (pss_cons (ps_set (i := 5) scPlans.nd rfl (Or.inl rfl) (pe_lst pa_nil))
    (pss_cons (ps_for PassesOwn.never rfl (pi_range1 rfl T.rng (pa_cons (pe_callB call_len_seq (by rfl) T.len PySem.boot_len (pa_cons (pv 0) pa_nil)) pa_nil)) (pg_name (i := 6) scPlans.nd rfl (Or.inl rfl))
      (pss_cons (ps_set (i := 7) scPlans.nd rfl (Or.inl rfl) (pe_call G2 hr rfl m2 k2 b2 .nil pass0 (pa_cons (pe_ix ix_list (pv 0) (pv 6) (fun _ _ => rfl)) (pa_cons (pe_slice sl_list (pv 0) (po_some (pe_op op_add (pv 6) pe_int)) po_none) (pa_cons (pv 3) (pa_cons (pv 4) pa_nil))))))
      (pss_cons (ps_set (i := 3) scPlans.nd rfl (Or.inl rfl) (pe_call G3 hr1 rfl m3 k3 b3 .nil pass0 (pa_cons (pv 3) (pa_cons (pv 7) pa_nil))))
      (pss_cons (ps_set (i := 4) scPlans.nd rfl (Or.inl rfl) (pe_call G3 hr1 rfl m3 k3 b3 .nil pass0 (pa_cons (pv 4) (pa_cons (pv 7) pa_nil))))
      (pss_one (ps_expr (pe_bm PySem.F.plainAttrs_list PySem.F.slot_list_append PySem.F.type_list_append mt_append (pv 5) (pa_cons (pv 7) pa_nil))))))))
    (pss_one (ps_ret (pv 5))))))), ?_⟩
  refine ⟨_, rfl, _, rfl, n, l, la, rfl, dat, hn, hok, fun ao H1 nao ho x1 => ?_⟩
  -- least
  refine ⟨_, rfl, ao, rfl, ⟨_, SqL.of ho⟩, fun ll hll => ?_⟩
  refine lc_list (K := K) (a := ao) (xs := (List.range n).map fun k => nv (dueP n l k)) (fun i H' => H' = upd H1 ll (.lst ((List.range i).map fun k => nv (dueP n l k / 2520)))) rfl (fun i H' _ e => by rw [e]; exact SqL.of (by rw [upd_ne (ne_of_none ho hll)]; exact ho)) ?_ ?_
  · rintro i y H' hi rfl
    obtain ⟨hin, rfl⟩ := range_map_get hi
    refine ⟨rfl, yes_i ?_⟩
    refine iteT ⟨_, rfl, _, _, rfl, rfl, ⟨by decide, by decide⟩, _, upd_same, ?_, ?_⟩
    · rw [List.length_map, List.length_range]; exact small1000 (by omega)
    · rw [upd_upd, List.range_succ, List.map_append]
      congr 1
  rintro H' rfl
  rw [List.length_map, List.length_range]
  have x2 : Ext H1 (upd H1 ll (.lst ((List.range n).map fun k => nv (dueP n l k / 2520)))) := Ext.new hll _
  have l2 : (upd H1 ll (.lst ((List.range n).map fun k => nv (dueP n l k / 2520)))) ll = some (nl n (loOf n l [])) := by
    rw [upd_same]; exact congrArg some (nl_congr fun k _ => (lo_nil n l k).symm)
  generalize upd H1 ll (.lst ((List.range n).map fun k => nv (dueP n l k / 2520))) = H2 at x2 l2 ⊢
  -- most
  refine ⟨_, rfl, ao, rfl, ⟨_, SqL.of (x2 _ _ ho)⟩, fun lm hlm => ?_⟩
  refine lc_list (K := K) (a := ao) (xs := (List.range n).map fun k => nv (dueP n l k)) (fun i H' => H' = upd H2 lm (.lst ((List.range i).map fun k => nv ((dueP n l k + (2520 - 1)) / 2520)))) rfl (fun i H' _ e => by rw [e]; exact SqL.of (by rw [upd_ne (ne_of_none (x2 _ _ ho) hlm)]; exact x2 _ _ ho)) ?_ ?_
  · rintro i y H' hi rfl
    obtain ⟨hin, rfl⟩ := range_map_get hi
    refine ⟨rfl, yes_i ?_⟩
    refine iteT ⟨_, rfl, _, _, rfl, rfl, _, _, rfl, rfl, _, _, rfl, rfl, ⟨by decide, by decide⟩, _, upd_same, ?_, ?_⟩
    · rw [List.length_map, List.length_range]; exact small1000 (by omega)
    · rw [upd_upd, List.range_succ, List.map_append]
      congr 3
      show [V.int _] = [V.int _]
      congr 2
      simp
      omega
  rintro H' rfl
  rw [List.length_map, List.length_range]
  have x3 : Ext H2 (upd H2 lm (.lst ((List.range n).map fun k => nv ((dueP n l k + (2520 - 1)) / 2520)))) := Ext.new hlm _
  have m3' : (upd H2 lm (.lst ((List.range n).map fun k => nv ((dueP n l k + (2520 - 1)) / 2520)))) lm = some (nl n (hiOf n l [])) := by
    rw [upd_same]; exact congrArg some (nl_congr fun k _ => (hi_nil n l k).symm)
  generalize upd H2 lm (.lst ((List.range n).map fun k => nv ((dueP n l k + (2520 - 1)) / 2520))) = H3 at x3 m3' ⊢
  have l3 := x3 _ _ l2
  have x13 : Ext H H3 := (x1.trans x2).trans x3
  refine ⟨Nat.zero_le _, fun dr hdr => ?_⟩
  have ndr : H dr = none := x13.none hdr
  have x4 : Ext H3 (upd H3 dr (.lst [])) := Ext.new hdr _
  have d4 : (upd H3 dr (.lst [])) dr = some (.lst (([] : List Nat).map nv)) := upd_same
  generalize upd H3 dr (.lst []) = H4 at x4 d4 ⊢
  have x14 := x13.trans x4
  obtain ⟨as, hla, hps⟩ := dat
  have hasl := Paired.length hps
  have dat : DaysAt H n la l := ⟨as, hla, hps⟩
  refine ⟨_, rfl, la, _, rfl, .inl (SqL.of (x14 _ _ hla)), (l.length : Int), (by rw [List.length_map, hasl]), by omega, by omega, ?_⟩
  refine for_range (lo := 0) (n := ((l.length : Nat) : Int).toNat) (fun i σ H' => ∃ (v6 v7 : Option V) (ll lm : Addr) (ds : List Nat), σ = [some (.ref la), some (nv n), some (.ref ao), some (.ref ll), some (.ref lm), some (.ref dr), v6, v7, none] ∧
      ds.length = i ∧ H' ll = some (nl n (loOf n l ds.reverse)) ∧ H' lm = some (nl n (hiOf n l ds.reverse)) ∧ H' dr = some (.lst (ds.map nv)) ∧ ll ≠ dr ∧ lm ≠ dr ∧ Ext H H' ∧ (∀ k, k < n → Kyd.times ds.reverse k ≤ Kyd.atMost n l k) ∧ Kyd.wayOn n l (l.drop i) ds.reverse = some d)
    ⟨none, none, ll, lm, [], rfl, rfl, x4 _ _ l3, x4 _ _ m3', d4, ne_of_none l3 hdr, ne_of_none m3' hdr, x14, fun k _ => Nat.zero_le _, hpl⟩ ?_ ?_
  · rintro i σ H' hi ⟨v6, v7, ll, lm, ds, rfl, hds, h1, h2, h3, n1, n2, xe, ht, hw⟩
    rw [Int.toNat_natCast] at hi
    have e0 : ((0 : Int) + (i : Int)) = (i : Int) := Int.zero_add _
    rw [e0]
    obtain ⟨ar, har, h4⟩ := Paired.get hps i _ (getD_get hi)
    have har' : (as.map V.ref)[i]? = some (.ref ar) := by rw [List.getElem?_map, har]; rfl
    have hdrop : l.drop i = l.getD i 0 :: l.drop (i + 1) := by
      rw [List.drop_eq_getElem_cons hi, List.getD_eq_getElem?_getD, List.getElem?_eq_getElem hi]; rfl
    generalize hm : l.getD i 0 = m at h4 hdrop
    refine ⟨_, rfl, _, rfl, la, _, _, _, rfl, rfl, SqL.of (xe _ _ hla), atI_nat har', _, rfl, _, rfl, _, _, rfl, rfl, _, rfl, la, _, rfl, SqL.of (xe _ _ hla), fun lr hlr => ?_⟩
    have ec : cutV (as.map V.ref) (some ((i : Int) + 1)) none = (as.drop (i + 1)).map V.ref := by
      have := cut_drop (as.map V.ref) (i + 1) (by rw [List.length_map, hasl]; omega)
      rw [List.map_drop, ← this]
      rfl
    rw [ec]
    have x5 : Ext H' (upd H' lr (.lst ((as.drop (i + 1)).map V.ref))) := Ext.new hlr _
    have r5 : (upd H' lr (.lst ((as.drop (i + 1)).map V.ref))) lr = some (.lst ((as.drop (i + 1)).map V.ref)) := upd_same
    generalize upd H' lr (.lst ((as.drop (i + 1)).map V.ref)) = H5 at x5 r5 ⊢
    have xe5 := xe.trans x5
    have dat5 : DaysAt H5 n lr (l.drop (i + 1)) := ⟨as.drop (i + 1), r5, Paired.drop (i + 1) (Paired.mapP hps fun a m h => xe5 _ _ h)⟩
    have pk : ∀ k, PkOf n (l.drop (i + 1)) (loOf n l ds.reverse) (hiOf n l ds.reverse) k ↔ mayDrive n l (l.drop (i + 1)) ds.reverse k ≠ none := fun k => by
      rw [← may_iff ht]
      unfold PkOf
      rw [← funext (dec_lo n l ds.reverse k), ← funext (dec_hi n l ds.reverse k)]
      exact Iff.rfl
    rw [hdrop, wayOn_cons] at hw
    have hex : ∃ k, k ∈ Kyd.riders n m ∧ PkOf n (l.drop (i + 1)) (loOf n l ds.reverse) (hiOf n l ds.reverse) k := by
      obtain ⟨k, hk, e⟩ := first_mem hw
      exact ⟨k, hk, (pk k).mpr (by rw [e]; simp)⟩
    refine ⟨_, rfl, _, rfl, n, Kyd.riders n m, l.drop (i + 1), ar, lr, ll, lm, loOf n l ds.reverse, hiOf n l ds.reverse, rfl, xe5 _ _ h4, fun x hx => riders_lt hx, dat5, x5 _ _ h1, x5 _ _ h2, lo_hi n l ds.reverse, hn, (by rw [List.length_drop]; omega), hex, fun j p H6 hj hp hbf x6 => ?_⟩
    have hpn : p < n := riders_lt (List.mem_of_getElem? hj)
    have hmay := (pk p).mp hp
    have hw2 : mayDrive n l (l.drop (i + 1)) ds.reverse p = some d := by
      rw [← hw]
      refine (first_at hj (fun j' y hj' hy => ?_) hmay).symm
      refine Classical.byContradiction fun z => hbf j' y hj' hy ((pk y).mpr z)
    have hlt : Kyd.times ds.reverse p < Kyd.atMost n l p := by
      refine Classical.byContradiction fun z => hmay ?_
      unfold mayDrive
      rw [if_neg z]
    unfold mayDrive at hw2
    rw [if_pos hlt] at hw2
    have x56 := x5.trans x6
    refine ⟨_, rfl, _, rfl, n, p, ll, _, rfl, x56 _ _ h1, hpn, fun ll' hll' => ?_⟩
    have x7 := Ext.new hll' (nl n (fupd (loOf n l ds.reverse) p (loOf n l ds.reverse p - 1)))
    have l7 : (upd H6 ll' (nl n (fupd (loOf n l ds.reverse) p (loOf n l ds.reverse p - 1)))) ll' = some (nl n (loOf n l (p :: ds.reverse))) := by
      rw [upd_same]; exact congrArg some (nl_congr fun k _ => (dec_lo n l ds.reverse p k).symm)
    generalize upd H6 ll' (nl n (fupd (loOf n l ds.reverse) p (loOf n l ds.reverse p - 1))) = H7 at x7 l7 ⊢
    refine ⟨_, rfl, _, rfl, n, p, lm, _, rfl, x7 _ _ (x56 _ _ h2), hpn, fun lm' hlm' => ?_⟩
    have x8 := Ext.new hlm' (nl n (fupd (hiOf n l ds.reverse) p (hiOf n l ds.reverse p - 1)))
    have m8 : (upd H7 lm' (nl n (fupd (hiOf n l ds.reverse) p (hiOf n l ds.reverse p - 1)))) lm' = some (nl n (hiOf n l (p :: ds.reverse))) := by
      rw [upd_same]; exact congrArg some (nl_congr fun k _ => (dec_hi n l ds.reverse p k).symm)
    generalize upd H7 lm' (nl n (fupd (hiOf n l ds.reverse) p (hiOf n l ds.reverse p - 1))) = H8 at x8 m8 ⊢
    have x58 := (x56.trans x7).trans x8
    have d8 := x58 _ _ h3
    have nll : ll' ≠ dr := (ne_of_none (x56 _ _ h3) hll').symm
    have nlm : lm' ≠ dr := (ne_of_none ((x56.trans x7) _ _ h3) hlm').symm
    refine ⟨_, rfl, .inl ⟨rfl, _, SqL.of d8⟩, _, rfl, dr, _, _, rfl, rfl, d8, (by rw [List.length_map]; exact small1000 (by omega)), ?_⟩
    refine ⟨some (nv i), some (nv p), ll', lm', ds ++ [p], rfl, (by simp [hds]), ?_, ?_, ?_, nll, nlm, ?_, ?_, ?_⟩
    · rw [upd_ne nll, List.reverse_append]; exact x8 _ _ l7
    · rw [upd_ne nlm, List.reverse_append]; exact m8
    · rw [upd_same, List.map_append]; rfl
    · intro b o e
      rw [upd_ne (ne_of_none e ndr)]
      exact x58 _ _ (xe _ _ e)
    · intro k hk
      rw [List.reverse_append]
      show Kyd.times (p :: ds.reverse) k ≤ _
      rw [KPlan.times_cons]
      have := ht k hk
      by_cases c : p = k
      · subst c; rw [if_pos rfl]; omega
      · rw [if_neg c]; omega
    · rw [List.reverse_append]
      exact hw2
  · rintro σ H' ⟨v6, v7, ll, lm, ds, rfl, hds, h1, h2, h3, n1, n2, xe, ht, hw⟩
    rw [Int.toNat_natCast] at hw
    rw [List.drop_length] at hw
    refine ⟨_, rfl, k dr H' ndr ?_ xe⟩
    rw [h3]
    have : ds = d := by
      unfold Kyd.wayOn at hw
      split at hw
      · have := Option.some.inj hw
        rw [List.reverse_reverse] at this
        exact this
      · cases hw
    rw [this]
end
end Df

namespace Df
open PySem PySem.Spec PyProof.Rows L2
open PySem.W (Codec)

theorem wayOn_len {n : Nat} {all : List Nat} : ∀ (l d x : List Nat), Kyd.wayOn n all l d = some x → x.length = l.length + d.length
  | [], d, x, h => by
    unfold Kyd.wayOn at h
    split at h
    · cases h; simp
    · cases h
  | m :: l, d, x, h => by
    unfold Kyd.wayOn at h
    obtain ⟨k, hk, e⟩ := KMatch.first_mem h
    split at e
    · have := wayOn_len l (k :: d) x e
      simp at this ⊢
      omega
    · cases e
theorem planned_len {n : Nat} {l d : List Nat} (h : Kyd.planned n l = some d) : d.length = l.length := by
  have := wayOn_len l [] d h
  simpa using this

section
variable {P : Program} {w : World} {K : PySem.W.Frag} {mg : Str → Option Value} {base : Heap}

/-- an answer as a new list, what was there as it was -/
def TellsX (H : Hp) (xs : List Int) (Q : VK) : Prop := ∀ r H', H r = none → Ext H H' → H' r = some (.lst (xs.map V.int)) → Q (.ref r) H'
def spPlan (C : Addr) : Sp := fun vs H Q _ => ∃ (p a : Addr) (A : Ads) (q : Kyd.Pool) (l : List Nat), vs = [.ref p, .ref a] ∧ CarAt C H p A q ∧ H a = some (.lst (l.map nv)) ∧ l.length ≤ 20 ∧ q.n ≤ 10 ∧
  if 7 < l.length ∨ l.any (fun m => !(Kyd.okRide q.n m)) = true then TellsX H [-22] Q else ∀ d, Kyd.planned q.n l = some d → TellsX H ((d.length : Int) :: d.map fun (x : Nat) => (x : Int)) Q
theorem scPlan : FnScope ["self", "days", "m"] ["self", "days"] (defScope sPlan) := ⟨rfl, rfl, rfl, by decide +kernel, rfl, by decide +kernel, by decide +kernel⟩
theorem ok_plan {f C : Addr} {fd : FuncData} (F : Fun K "plan" "Car.plan" sPlan f fd) (T : Txt K mg C) (M1 : Mth P w K mg base C "can_ride" 1 ["self", "m"] (spCan C)) (M2 : Mth P w K mg base C "riders" 1 ["self", "m"] (spRiders C))
    (M3 : Fnc P w K mg base "first_plan" 25 ["days", "people"] spPlans) : FnOk P w K mg base CX0 26 f fd ["self", "days"] (spPlan C) := by
  obtain ⟨f1, fd1, G1, b1, m1⟩ := M1
  obtain ⟨f2, fd2, G2, b2, m2⟩ := M2
  obtain ⟨f3, fd3, G3, b3, m3, k3⟩ := M3
  refine F.ok scPlan (fun vs H Q E h => ?_) (fun cdv A outer s H vs Q E hr h => ?_)
  · obtain ⟨p, a, A, q, l, rfl, _⟩ := h
    rfl
  obtain ⟨p, a, A, q, l, rfl, ct, ha, hlen, hn, k⟩ := h
  have hr1 := hr.mono (j := 1) (by decide)
  obtain ⟨dx, hp⟩ := ct.car
  obtain ⟨u1, hu1, r1⟩ := T.mostPl
  obtain ⟨u3, hu3, r3⟩ := T.told
  refine ⟨_, pss_cons (ps_if (PW.pt (pw_or (pt_cmpR op_gt (pe_callB call_len_seq (by rfl) T.len PySem.boot_len (pa_cons (pv 1) pa_nil)) (pe_glob rfl hu1 r1) (nomark _))
      (pw_or1 (pt_not (pt_val (pe_callB (cr_all rfl) (by rfl) T.al boot_all (pa_cons (pe_lc (own := [("m", 2)]) rfl scPlan.nd (pi_list (pv 1)) (blkOk_by (N := ["self", "days", "m"]) (sc := defScope sPlan) (by decide +kernel))
        (fun s H C cl fp => pg_name (i := 2) scPlan.nd rfl (Or.inl rfl)) (fun s H C cl fp => pts_nil) (fun s H C cl fp => pe_meth (pv 0) T.cl m1 G1 hr1 b1 .nil pass0 (pa_cons (pv 2) pa_nil))) pa_nil)))))))
      (pss_one (ps_ret (pe_lst (pa_cons (pe_glob rfl hu3 r3) pa_nil)))) pss_nil)
    (pss_one (ps_ret (pe_op op_cat (pe_lst (pa_cons (pe_callB call_len_seq (by rfl) T.len PySem.boot_len (pa_cons (pv 1) pa_nil)) pa_nil))
      (pe_call G3 hr rfl m3 k3 b3 .nil pass0 (pa_cons (pe_lc (own := [("m", 2)]) rfl scPlan.nd (pi_list (pv 1)) (blkOk_by (N := ["self", "days", "m"]) (sc := defScope sPlan) (by decide +kernel))
        (fun s H C cl fp => pg_name (i := 2) scPlan.nd rfl (Or.inl rfl)) (fun s H C cl fp => pts_nil) (fun s H C cl fp => pe_meth (pv 0) T.cl m2 G2 hr1 b2 .nil pass0 (pa_cons (pv 2) pa_nil))) (pa_cons (pe_fld (pv 0) rfl) pa_nil)))))), ?_⟩
  refine ⟨_, rfl, a, _, rfl, .inl (SqL.of ha), _, _, rfl, rfl, _, rfl, ite2 (fun c => ?_) (fun c => ?_)⟩
  · have c' := of_decide_eq_true c
    rw [List.length_map] at c'
    rw [if_pos (.inl (by omega))] at k
    refine iteT ⟨(by show 1 ≤ sizeLine; decide), fun r hr' => ?_⟩
    exact k r _ hr' (Ext.new hr' _) upd_same
  have h7 : l.length ≤ 7 := by
    have c' := of_decide_eq_false (Bool.eq_false_iff.mpr c)
    rw [List.length_map] at c'
    omega
  refine ⟨_, rfl, a, rfl, ⟨_, SqL.of ha⟩, fun D hD => ?_⟩
  refine lc_list (K := K) (a := a) (xs := l.map nv) (fun i H' => H' = upd H D (.lst (((l.take i).map (Kyd.okRide q.n)).map V.bl))) (by simp) (fun i H' _ e => by rw [e]; exact SqL.of (by rw [upd_ne (ne_of_none ha hD)]; exact ha)) ?_ ?_
  · rintro i y H' hi rfl
    obtain ⟨m, hm, rfl⟩ := map_get hi
    have hp' : (upd H D (.lst (((l.take i).map (Kyd.okRide q.n)).map V.bl))) p = some (.ins C dx (cf q.n A)) := by rw [upd_ne (ne_of_none hp hD)]; exact hp
    refine ⟨rfl, yes_i ?_⟩
    refine iteT ⟨_, rfl, p, dx, _, rfl, hp', cf_no _ _ (by decide +kernel), _, rfl, p, q.n, m, A, rfl, ⟨dx, hp'⟩, hn, _, upd_same, ?_, ?_⟩
    · rw [List.length_map, List.length_map, List.length_take]; exact small1000 (by omega)
    · rw [upd_upd, take_snoc hm, List.map_append, List.map_append]; rfl
  rintro H' rfl
  rw [List.length_map, List.take_length]
  have x1 : Ext H (upd H D (.lst ((l.map (Kyd.okRide q.n)).map V.bl))) := Ext.new hD _
  have q1 : (upd H D (.lst ((l.map (Kyd.okRide q.n)).map V.bl))) D = some (.lst ((l.map (Kyd.okRide q.n)).map V.bl)) := upd_same
  generalize upd H D (.lst ((l.map (Kyd.okRide q.n)).map V.bl)) = H1 at x1 q1 ⊢
  refine ⟨D, l.map (Kyd.okRide q.n), rfl, SqL.of q1, _, rfl, ?_⟩
  have eall : (l.map (Kyd.okRide q.n)).all id = !(l.any (fun m => !(Kyd.okRide q.n m))) := by
    rw [List.all_map, ← List.not_all_eq_any_not, Bool.not_not]; rfl
  rw [eall]
  cases hany : l.any (fun m => !(Kyd.okRide q.n m)) with
  | true =>
    rw [if_pos (.inr hany)] at k
    refine iteT ⟨(by show 1 ≤ sizeLine; decide), fun r hr' => ?_⟩
    exact k r _ (x1.none hr') (x1.trans (Ext.new hr' _)) upd_same
  | false =>
    rw [if_neg (by rw [hany]; simp; omega)] at k
    refine iteF ?_
    have hok : ∀ m, m ∈ l → Kyd.okRide q.n m = true := fun m hm => by
      rw [List.any_eq_false] at hany
      have := hany m hm
      simpa using this
    obtain ⟨d, hd⟩ : ∃ d, Kyd.planned q.n l = some d := by
      cases e : Kyd.planned q.n l with
      | none => exact absurd e (KPlan.planned_some hn hok)
      | some d => exact ⟨d, rfl⟩
    have hdl := planned_len hd
    refine ⟨_, rfl, a, _, rfl, .inl (SqL.of (x1 _ _ ha)), (by show 1 ≤ sizeLine; decide), fun o1 ho1 => ?_⟩
    rw [List.length_map]
    have x2 : Ext H (upd H1 o1 (.lst [.int (l.length : Int)])) := x1.trans (Ext.new ho1 _)
    have q2 : (upd H1 o1 (.lst [.int (l.length : Int)])) o1 = some (.lst [.int (l.length : Int)]) := upd_same
    generalize upd H1 o1 (.lst [.int (l.length : Int)]) = H2 at x2 q2 ⊢
    refine ⟨_, rfl, a, rfl, ⟨_, SqL.of (x2 _ _ ha)⟩, fun D2 hD2 => ?_⟩
    refine lc_list (K := K) (a := a) (xs := l.map nv) (fun i H' => ∃ as : List Addr, H' D2 = some (.lst (as.map V.ref)) ∧ Paired (fun b m => H' b = some (.lst ((Kyd.riders q.n m).map nv)) ∧ b ≠ D2) as (l.take i) ∧ Ext H2 H')
      ⟨[], upd_same, (by rw [List.take_zero]; exact .nil), Ext.new hD2 _⟩ (fun i H' _ ⟨_, _, _, e⟩ => SqL.of (e _ _ (x2 _ _ ha))) ?_ ?_
    · rintro i y H' hi ⟨as, h1, h2, xe⟩
      obtain ⟨m, hm, rfl⟩ := map_get hi
      have hp' := xe _ _ (x2 _ _ hp)
      refine ⟨rfl, yes_i ?_⟩
      refine iteT ⟨_, rfl, p, dx, _, rfl, hp', cf_no _ _ (by decide +kernel), _, rfl, p, q.n, m, A, rfl, ⟨dx, hp'⟩, hn, fun rr hrr => ?_⟩
      have x3 : Ext H' (upd H' rr (.lst ((Kyd.riders q.n m).map nv))) := Ext.new hrr _
      have nrr : rr ≠ D2 := (ne_of_none h1 hrr).symm
      have asl : as.length ≤ 20 := by
        rw [Paired.length h2, List.length_take]; omega
      refine ⟨_, x3 _ _ h1, (by rw [List.length_map]; exact small1000 (by omega)), as ++ [rr], ?_, ?_, ?_⟩
      · rw [upd_same, List.map_append]; rfl
      · rw [take_snoc hm]
        refine Paired.snoc (Paired.mapP h2 fun b m' ⟨u, v⟩ => ⟨?_, v⟩) ⟨?_, nrr⟩
        · rw [upd_ne v]; exact x3 _ _ u
        · rw [upd_ne nrr]; exact upd_same
      · intro b o e
        rw [upd_ne (ne_of_none e hD2)]
        exact x3 _ _ (xe _ _ e)
    rintro H' ⟨as, h1, h2, xe⟩
    rw [List.length_map, List.take_length] at h2
    have dat : DaysAt H' q.n D2 l := ⟨as, h1, Paired.mapP h2 fun b m h => h.1⟩
    refine ⟨_, rfl, p, C, dx, _, _, rfl, xe _ _ (x2 _ _ hp), T.cl, T.nP, cf_people _ _, q.n, l, d, D2, rfl, dat, hn, h7, hok, hd, fun rp H3 nrp hrp x3 => ?_⟩
    refine ⟨o1, rp, _, _, rfl, rfl, x3 _ _ (xe _ _ q2), hrp, ?_, fun t ht => ?_⟩
    · rw [List.length_map, hdl]
      show 1 + l.length ≤ sizeLine
      exact Nat.le_of_lt (small1000 (by omega))
    have xf := (x2.trans xe).trans x3
    refine k d hd t _ (xf.none ht) (xf.trans (Ext.new ht _)) ?_
    rw [upd_same, hdl, List.map_cons, List.map_map]
    rfl

def spEnd (K : PySem.W.Frag) : Sp := fun vs H Q _ => ∃ (a : Addr) (ns t : List Int) (i : Nat) (c : Kyd.Call), vs = [.ref a, nv i] ∧ SqL K H a (ns.map V.int) ∧ ns.drop i = KLine.enc c ++ t ∧ KLine.Small c ∧ Q (nv (i + (KLine.enc c).length)) H
theorem scEnd : FnScope ["calls", "place"] ["calls", "place"] (defScope sEnd) := ⟨rfl, rfl, rfl, by decide +kernel, rfl, by decide +kernel, by decide +kernel⟩
theorem drop_get {α : Type} {l : List α} {i : Nat} {e t : List α} (h : l.drop i = e ++ t) {j : Nat} {x : α} (hj : e[j]? = some x) : l[i + j]? = some x := by
  have h1 : (l.drop i)[j]? = some x := by
    rw [h, List.getElem?_append_left (List.getElem?_eq_some_iff.mp hj).1]; exact hj
  rwa [List.getElem?_drop] at h1
theorem ifY {i j : Int} {A B : Prop} (h : i = j) (x : A) : if decide (V.int i = V.int j) = true then A else B := by
  rw [if_pos (decide_eq_true (by rw [h]))]; exact x
theorem ifN {i j : Int} {A B : Prop} (h : i ≠ j) (x : B) : if decide (V.int i = V.int j) = true then A else B := by
  rw [if_neg]; · exact x
  intro z
  have := of_decide_eq_true z
  injection this with z
  exact h z
theorem int_at {ns : List Int} {i : Nat} {x : Int} (h : ns[i]? = some x) : atI (ns.map V.int) (i : Int) = some (V.int x) := atI_nat (by rw [List.getElem?_map, h]; rfl)
/-- a call's number, and how many numbers stand behind it -/
def codeOf : Kyd.Call → Nat
  | .start _ => 0
  | .who _ => 1
  | .ride _ => 2
  | .rideBy _ _ => 3
  | .back => 4
  | .owes _ => 5
  | .count _ => 6
  | .plan _ => 7
theorem enc_code (c : Kyd.Call) : (KLine.enc c)[0]? = some ((codeOf c : Nat) : Int) := by cases c <;> rfl
theorem ok_end {f C : Addr} {fd : FuncData} (F : Fun K "end_of_call" "end_of_call" sEnd f fd) (T : Txt K mg C) : FnOk P w K mg base CX0 1 f fd ["calls", "place"] (spEnd K) := by
  refine F.ok scEnd (fun vs H Q E h => ?_) (fun cdv A outer s H vs Q E hr h => ?_)
  · obtain ⟨a, ns, t, i, c, rfl, _⟩ := h
    rfl
  obtain ⟨a, ns, t, i, c, rfl, ha, hd, hs, k⟩ := h
  obtain ⟨u1, hu1, r1⟩ := T.kPlan
  obtain ⟨tp, hu2, htp⟩ := T.behind
  refine ⟨_, pss_cons (ps_if (pt_cmpR op_eq (pe_ix ix_list (pv 0) (pv 1) (fun _ _ => rfl)) (pe_glob rfl hu1 r1) (nomark _))
      (pss_one (ps_ret (pe_op op_add (pe_op op_add (pv 1) pe_int) (pe_ix ix_list (pv 0) (pe_op op_add (pv 1) pe_int) (fun _ _ => rfl))))) pss_nil)
    (pss_one (ps_ret (pe_op op_add (pe_op op_add (pv 1) pe_int) (pe_ix ix_tup (pe_glob rfl hu2 (v := .ref tp) rfl) (pe_ix ix_list (pv 0) (pv 1) (fun _ _ => rfl)) (fun _ _ => rfl))))), ?_⟩
  have h0 : ns[i]? = some ((codeOf c : Nat) : Int) := drop_get hd (j := 0) (enc_code c)
  refine ⟨_, rfl, _, rfl, a, _, _, _, rfl, rfl, ha, int_at h0, rfl, _, rfl, ?_⟩
  by_cases hp : codeOf c = 7
  · refine ifY (by rw [hp]; rfl) ?_
    cases c with
    | plan l =>
      have h1 : ns[i + 1]? = some ((l.length : Nat) : Int) := drop_get hd (j := 1) rfl
      refine ⟨_, rfl, _, _, rfl, rfl, _, rfl, _, rfl, _, _, rfl, rfl, a, _, _, _, rfl, rfl, ha, int_at (i := i + 1) h1, _, _, rfl, rfl, ?_⟩
      have e : ((i : Int) + 2 + (l.length : Int)) = ((i + (KLine.enc (.plan l)).length : Nat) : Int) := by
        have : (KLine.enc (.plan l)).length = l.length + 2 := by simp [KLine.enc]
        rw [this]; omega
      have k' : Q (.int ((i + (KLine.enc (.plan l)).length : Nat) : Int)) H := k
      rw [← e] at k'
      exact k'
    | _ => cases hp
  · refine ifN (by omega) ?_
    have hx : ∃ b : Nat, atI ([1, 1, 1, 2, 0, 1, 1].map nv) ((codeOf c : Nat) : Int) = some (nv b) ∧ (KLine.enc c).length = 1 + b := by
      cases c with
      | start n => exact ⟨1, rfl, rfl⟩
      | who n => exact ⟨1, rfl, rfl⟩
      | ride n => exact ⟨1, rfl, rfl⟩
      | rideBy m n => exact ⟨2, rfl, rfl⟩
      | back => exact ⟨0, rfl, rfl⟩
      | owes n => exact ⟨1, rfl, rfl⟩
      | count n => exact ⟨1, rfl, rfl⟩
      | plan l => exact absurd rfl hp
    obtain ⟨b, hb, hl⟩ := hx
    refine ⟨_, rfl, _, _, rfl, rfl, _, rfl, _, rfl, a, _, _, _, rfl, rfl, ha, int_at h0, tp, _, _, _, rfl, rfl, htp H, hb, _, _, rfl, rfl, ?_⟩
    have e : ((i : Int) + 1 + (b : Int)) = ((i + (KLine.enc c).length : Nat) : Int) := by rw [hl]; omega
    have k' : Q (.int ((i + (KLine.enc c).length : Nat) : Int)) H := k
    rw [← e] at k'
    exact k'

def spAnswer (C : Addr) : Sp := fun vs H Q _ => ∃ (p a : Addr) (A : Ads) (s s' : Option Kyd.Pool) (c : Kyd.Call) (an : Kyd.Ans) (xs : List Int), vs = [.ref p, nv (codeOf c), .ref a] ∧ KLine.enc c = ((codeOf c : Nat) : Int) :: xs ∧ KLine.Small c ∧ H a = some (.lst (xs.map V.int)) ∧
  Kyd.acts s c = some (s', an) ∧ CarAt C H p A (KLine.poolOf s) ∧ Good (KLine.poolOf s) ∧
  ∀ H' A' r, CarAt C H' p A' (KLine.poolOf s') → Frame H H' (p :: A.l) → Anew H A A' → H' r = some (.lst ((an.value :: an.out.map fun (x : Nat) => (x : Int)).map V.int)) → (∀ b o, H b = some o → b ∉ p :: A.l → b ≠ r) → Q (.ref r) H'
theorem scAnswer : FnScope ["car", "call", "numbers"] ["car", "call", "numbers"] (defScope sAnswer) := ⟨rfl, rfl, rfl, by decide +kernel, rfl, by decide +kernel, by decide +kernel⟩
end
end Df

namespace Df
open PySem PySem.Spec PyProof.Rows L2
open PySem.W (Codec)
section
variable {P : Program} {w : World} {K : PySem.W.Frag} {mg : Str → Option Value} {base : Heap}

/-- what is wanted behind a call -/
def Wants (C : Addr) (H : Hp) (p : Addr) (A : Ads) (q' : Kyd.Pool) (an : Kyd.Ans) (Q : VK) : Prop :=
  ∀ H' A' r, CarAt C H' p A' q' → Frame H H' (p :: A.l) → Anew H A A' → H' r = some (.lst ((an.value :: an.out.map fun (x : Nat) => (x : Int)).map V.int)) → (∀ b o, H b = some o → b ∉ p :: A.l → b ≠ r) → Q (.ref r) H'
theorem Wants.one {C : Addr} {H H1 : Hp} {p : Addr} {A A1 : Ads} {q' : Kyd.Pool} {v : Int} {Q : VK} (k : Wants C H p A q' (Kyd.say v) Q) (c : CarAt C H1 p A1 q') (fr : Frame H H1 (p :: A.l)) (an : Anew H A A1) :
    ([V.int v] : List V).length ≤ sizeLine ∧ ∀ r, H1 r = none → Q (.ref r) (upd H1 r (.lst [.int v])) := by
  refine ⟨(by show 1 ≤ sizeLine; decide), fun r hr => ?_⟩
  refine k _ A1 r (c.ext (Ext.new hr _)) (fr.trans (Frame.new hr _ _)) an upd_same fun b o e hb z => ?_
  subst z
  have := fr b o e hb
  rw [hr] at this; cases this
theorem Wants.same {C : Addr} {H : Hp} {p : Addr} {A : Ads} {q' : Kyd.Pool} {v : Int} {Q : VK} (k : Wants C H p A q' (Kyd.say v) Q) (c : CarAt C H p A q') :
    ([V.int v] : List V).length ≤ sizeLine ∧ ∀ r, H r = none → Q (.ref r) (upd H r (.lst [.int v])) := k.one c Frame.refl Anew.refl
theorem Wants.goes {C : Addr} {H : Hp} {p : Addr} {A : Ads} {q' : Kyd.Pool} {v : Int} {Q : VK} (k : Wants C H p A q' (Kyd.say v) Q) :
    Goes C H p A q' fun H1 => ([V.int v] : List V).length ≤ sizeLine ∧ ∀ r, H1 r = none → Q (.ref r) (upd H1 r (.lst [.int v])) := fun H' A' c fr an => k.one c fr an
theorem Wants.tells {C : Addr} {H : Hp} {p : Addr} {A : Ads} {q' : Kyd.Pool} {an : Kyd.Ans} {Q : VK} (k : Wants C H p A q' an Q) (c : CarAt C H p A q') {H1 : Hp} (x : Ext H H1) : TellsX H1 (an.value :: an.out.map fun (x : Nat) => (x : Int)) Q := fun r H' hr x' h =>
  k H' A r (c.ext (x.trans x')) ((x.trans x').frame _) Anew.refl h fun b o e _ => ne_of_none e (x.none hr)
theorem tells_of {H : Hp} {xs : List Int} {Q : VK} (k : TellsX H xs Q) : Tells H xs Q := fun r hr => k r _ hr (Ext.new hr _) upd_same

theorem ok_answer {f C : Addr} {fd : FuncData} (F : Fun K "answer" "answer" sAnswer f fd) (T : Txt K mg C)
    (M0 : Mth P w K mg base C "start" 1 ["self", "n"] (spStart C))
    (M1 : Mth P w K mg base C "who" 3 ["self", "m"] (spWho C))
    (M2 : Mth P w K mg base C "ride" 4 ["self", "m"] (spRide C))
    (M3 : Mth P w K mg base C "ride_by" 4 ["self", "m", "k"] (spRideBy C))
    (M4 : Mth P w K mg base C "back" 3 ["self"] (spBack C))
    (M5 : Mth P w K mg base C "owes" 2 ["self", "k"] (spOwes C))
    (M6 : Mth P w K mg base C "count" 2 ["self", "k"] (spCount C))
    (M7 : Mth P w K mg base C "plan" 26 ["self", "days"] (spPlan C))
    : FnOk P w K mg base CX0 27 f fd ["car", "call", "numbers"] (spAnswer C) := by
  obtain ⟨f0, fd0, G0, b0, m0⟩ := M0
  obtain ⟨f1, fd1, G1, b1, m1⟩ := M1
  obtain ⟨f2, fd2, G2, b2, m2⟩ := M2
  obtain ⟨f3, fd3, G3, b3, m3⟩ := M3
  obtain ⟨f4, fd4, G4, b4, m4⟩ := M4
  obtain ⟨f5, fd5, G5, b5, m5⟩ := M5
  obtain ⟨f6, fd6, G6, b6, m6⟩ := M6
  obtain ⟨f7, fd7, G7, b7, m7⟩ := M7
  refine F.ok scAnswer (fun vs H Q E h => ?_) (fun cdv A0 outer sh H vs Q E hr h => ?_)
  · obtain ⟨p, a, A, s, s', c, an, xs, rfl, _⟩ := h
    rfl
  obtain ⟨p, a, A, s, s', c, an, xs, rfl, henc, hsm, ha, hact, ct, gd, k⟩ := h
  have k : Wants C H p A (KLine.poolOf s') an Q := k
  obtain ⟨dx, hp⟩ := ct.car
  obtain ⟨u0, hu0, r0⟩ := T.kStart
  have hr0 := hr.mono (j := 1) (by decide)
  obtain ⟨u1, hu1, r1⟩ := T.kWho
  have hr1 := hr.mono (j := 3) (by decide)
  obtain ⟨u2, hu2, r2⟩ := T.kRide
  have hr2 := hr.mono (j := 4) (by decide)
  obtain ⟨u3, hu3, r3⟩ := T.kRideBy
  have hr3 := hr.mono (j := 4) (by decide)
  obtain ⟨u4, hu4, r4⟩ := T.kBack
  have hr4 := hr.mono (j := 3) (by decide)
  obtain ⟨u5, hu5, r5⟩ := T.kOwes
  have hr5 := hr.mono (j := 2) (by decide)
  obtain ⟨u6, hu6, r6⟩ := T.kCount
  have hr6 := hr.mono (j := 2) (by decide)
  have hr7 := hr.mono (j := 26) (by decide)
  refine ⟨_, pss_cons (ps_if (pt_cmpR op_eq (pv 1) (pe_glob rfl hu0 r0) (nomark _)) (pss_one (ps_ret (pe_lst (pa_cons (pe_meth (pv 0) T.cl m0 G0 hr0 b0 .nil pass0 (pa_cons (pe_ix ix_list (pv 2) pe_int (fun _ _ => rfl)) pa_nil)) pa_nil)))) pss_nil)
    (pss_cons (ps_if (pt_cmpR op_eq (pv 1) (pe_glob rfl hu1 r1) (nomark _)) (pss_one (ps_ret (pe_lst (pa_cons (pe_meth (pv 0) T.cl m1 G1 hr1 b1 .nil pass0 (pa_cons (pe_ix ix_list (pv 2) pe_int (fun _ _ => rfl)) pa_nil)) pa_nil)))) pss_nil)
    (pss_cons (ps_if (pt_cmpR op_eq (pv 1) (pe_glob rfl hu2 r2) (nomark _)) (pss_one (ps_ret (pe_lst (pa_cons (pe_meth (pv 0) T.cl m2 G2 hr2 b2 .nil pass0 (pa_cons (pe_ix ix_list (pv 2) pe_int (fun _ _ => rfl)) pa_nil)) pa_nil)))) pss_nil)
    (pss_cons (ps_if (pt_cmpR op_eq (pv 1) (pe_glob rfl hu3 r3) (nomark _)) (pss_one (ps_ret (pe_lst (pa_cons (pe_meth (pv 0) T.cl m3 G3 hr3 b3 .nil pass0 (pa_cons (pe_ix ix_list (pv 2) pe_int (fun _ _ => rfl)) (pa_cons (pe_ix ix_list (pv 2) pe_int (fun _ _ => rfl)) pa_nil))) pa_nil)))) pss_nil)
    (pss_cons (ps_if (pt_cmpR op_eq (pv 1) (pe_glob rfl hu4 r4) (nomark _)) (pss_one (ps_ret (pe_lst (pa_cons (pe_meth0 (pv 0) T.cl m4 G4 hr4 b4 .nil pass0) pa_nil)))) pss_nil)
    (pss_cons (ps_if (pt_cmpR op_eq (pv 1) (pe_glob rfl hu5 r5) (nomark _)) (pss_one (ps_ret (pe_meth (pv 0) T.cl m5 G5 hr5 b5 .nil pass0 (pa_cons (pe_ix ix_list (pv 2) pe_int (fun _ _ => rfl)) pa_nil)))) pss_nil)
    (pss_cons (ps_if (pt_cmpR op_eq (pv 1) (pe_glob rfl hu6 r6) (nomark _)) (pss_one (ps_ret (pe_meth (pv 0) T.cl m6 G6 hr6 b6 .nil pass0 (pa_cons (pe_ix ix_list (pv 2) pe_int (fun _ _ => rfl)) pa_nil)))) pss_nil)
    (pss_one (ps_ret (pe_meth (pv 0) T.cl m7 G7 hr7 b7 .nil pass0 (pa_cons (pe_slice sl_list (pv 2) (po_some pe_int) po_none) pa_nil)))))))))), ?_⟩
  cases c with
  | start n =>
    cases henc
    refine ⟨_, rfl, rfl, _, rfl, ifY rfl ?_⟩
    refine ⟨_, rfl, p, dx, _, rfl, hp, cf_no _ _ (by decide +kernel), _, rfl, a, _, _, _, rfl, rfl, SqL.of ha, rfl, p, A, KLine.poolOf s, n, rfl, ct, ?_⟩
    have hact : some (if n < 2 ∨ 10 < n then (s, Kyd.say (-22)) else (some ⟨n, []⟩, Kyd.say 0)) = some (s', an) := hact
    by_cases hn : n < 2 ∨ 10 < n
    · rw [if_pos hn] at hact ⊢
      cases hact
      exact k.same ct
    · rw [if_neg hn] at hact ⊢
      cases hact
      exact k.goes
  | who m =>
    cases s with
    | none => cases hact
    | some q =>
    cases henc
    refine ⟨_, rfl, rfl, _, rfl, ifN (by show ((1 : Nat) : Int) ≠ 0; decide) ⟨_, rfl, rfl, _, rfl, ifY rfl ?_⟩⟩
    have hact : some (some q, if Kyd.okRide q.n m = false then Kyd.say (-22) else Kyd.say (Kyd.driver q m : Nat)) = some (s', an) := hact
    refine ⟨_, rfl, p, dx, _, rfl, hp, cf_no _ _ (by decide +kernel), _, rfl, a, _, _, _, rfl, rfl, SqL.of ha, rfl, p, A, q, m, rfl, ct, gd.n, ?_⟩
    by_cases hn : Kyd.okRide q.n m = false
    · rw [if_pos hn] at hact ⊢
      cases hact
      exact k.same ct
    · rw [if_neg hn] at hact ⊢
      cases hact
      exact k.goes
  | ride m =>
    cases s with
    | none => cases hact
    | some q =>
    cases henc
    refine ⟨_, rfl, rfl, _, rfl, ifN (by show ((2 : Nat) : Int) ≠ 0; decide) ⟨_, rfl, rfl, _, rfl, ifN (by show ((2 : Nat) : Int) ≠ 1; decide) ⟨_, rfl, rfl, _, rfl, ifY rfl ?_⟩⟩⟩
    have hact : some (if Kyd.okRide q.n m = false then (some q, Kyd.say (-22)) else if q.days.length = 1000 then (some q, Kyd.say (-28)) else (some (Kyd.add q m (Kyd.driver q m)), Kyd.say (Kyd.driver q m : Nat))) = some (s', an) := hact
    refine ⟨_, rfl, p, dx, _, rfl, hp, cf_no _ _ (by decide +kernel), _, rfl, a, _, _, _, rfl, rfl, SqL.of ha, rfl, p, A, q, m, rfl, ct, gd.n, gd.len, ?_⟩
    by_cases hn : Kyd.okRide q.n m = false
    · rw [if_pos hn] at hact ⊢
      cases hact
      exact k.same ct
    · rw [if_neg hn] at hact ⊢
      by_cases hl : q.days.length = 1000
      · rw [if_pos hl] at hact ⊢
        cases hact
        exact k.same ct
      · rw [if_neg hl] at hact ⊢
        cases hact
        exact k.goes
  | rideBy m j =>
    cases s with
    | none => cases hact
    | some q =>
    cases henc
    refine ⟨_, rfl, rfl, _, rfl, ifN (by show ((3 : Nat) : Int) ≠ 0; decide) ⟨_, rfl, rfl, _, rfl, ifN (by show ((3 : Nat) : Int) ≠ 1; decide) ⟨_, rfl, rfl, _, rfl, ifN (by show ((3 : Nat) : Int) ≠ 2; decide) ⟨_, rfl, rfl, _, rfl, ifY rfl ?_⟩⟩⟩⟩
    have hact : some (if Kyd.okRide q.n m = false then (some q, Kyd.say (-22)) else if Kyd.has m j = false then (some q, Kyd.say (-2)) else if q.days.length = 1000 then (some q, Kyd.say (-28)) else (some (Kyd.add q m j), Kyd.say (q.days.length : Nat))) = some (s', an) := hact
    refine ⟨_, rfl, p, dx, _, rfl, hp, cf_no _ _ (by decide +kernel), _, rfl, a, _, _, _, rfl, rfl, SqL.of ha, rfl, _, rfl, a, _, _, _, rfl, rfl, SqL.of ha, rfl, p, A, q, m, j, rfl, ct, gd.n, gd.len, ?_⟩
    by_cases hn : Kyd.okRide q.n m = false
    · rw [if_pos hn] at hact ⊢
      cases hact
      exact k.same ct
    · rw [if_neg hn] at hact ⊢
      by_cases hj : Kyd.has m j = false
      · rw [if_pos hj] at hact ⊢
        cases hact
        exact k.goes
      · rw [if_neg hj] at hact ⊢
        by_cases hl : q.days.length = 1000
        · rw [if_pos hl] at hact ⊢
          cases hact
          exact k.goes
        · rw [if_neg hl] at hact ⊢
          cases hact
          exact k.goes
  | back =>
    cases s with
    | none => cases hact
    | some q =>
    cases henc
    refine ⟨_, rfl, rfl, _, rfl, ifN (by show ((4 : Nat) : Int) ≠ 0; decide) ⟨_, rfl, rfl, _, rfl, ifN (by show ((4 : Nat) : Int) ≠ 1; decide) ⟨_, rfl, rfl, _, rfl, ifN (by show ((4 : Nat) : Int) ≠ 2; decide) ⟨_, rfl, rfl, _, rfl, ifN (by show ((4 : Nat) : Int) ≠ 3; decide) ⟨_, rfl, rfl, _, rfl, ifY rfl ?_⟩⟩⟩⟩⟩
    refine ⟨_, rfl, p, dx, _, rfl, hp, cf_no _ _ (by decide +kernel), p, A, q, rfl, ct, gd, ?_⟩
    obtain ⟨n, ds⟩ := q
    cases ds with
    | nil =>
      cases hact
      exact k.same ct
    | cons d l =>
      cases hact
      exact k.goes
  | owes j =>
    cases s with
    | none => cases hact
    | some q =>
    cases henc
    refine ⟨_, rfl, rfl, _, rfl, ifN (by show ((5 : Nat) : Int) ≠ 0; decide) ⟨_, rfl, rfl, _, rfl, ifN (by show ((5 : Nat) : Int) ≠ 1; decide) ⟨_, rfl, rfl, _, rfl, ifN (by show ((5 : Nat) : Int) ≠ 2; decide) ⟨_, rfl, rfl, _, rfl, ifN (by show ((5 : Nat) : Int) ≠ 3; decide) ⟨_, rfl, rfl, _, rfl, ifN (by show ((5 : Nat) : Int) ≠ 4; decide) ⟨_, rfl, rfl, _, rfl, ifY rfl ?_⟩⟩⟩⟩⟩⟩
    have hact : some (some q, if q.n ≤ j then Kyd.say (-2) else ⟨if Kyd.owes q j < 0 then 1 else 0, [(Kyd.owes q j).natAbs]⟩) = some (s', an) := hact
    refine ⟨_, rfl, p, dx, _, rfl, hp, cf_no _ _ (by decide +kernel), _, rfl, a, _, _, _, rfl, rfl, SqL.of ha, rfl, p, A, q, j, rfl, ct, ?_⟩
    by_cases hn : q.n ≤ j
    · rw [if_pos hn] at hact ⊢
      cases hact
      exact tells_of (k.tells ct Ext.refl)
    · rw [if_neg hn] at hact ⊢
      cases hact
      exact tells_of (k.tells ct Ext.refl)
  | count j =>
    cases s with
    | none => cases hact
    | some q =>
    cases henc
    refine ⟨_, rfl, rfl, _, rfl, ifN (by show ((6 : Nat) : Int) ≠ 0; decide) ⟨_, rfl, rfl, _, rfl, ifN (by show ((6 : Nat) : Int) ≠ 1; decide) ⟨_, rfl, rfl, _, rfl, ifN (by show ((6 : Nat) : Int) ≠ 2; decide) ⟨_, rfl, rfl, _, rfl, ifN (by show ((6 : Nat) : Int) ≠ 3; decide) ⟨_, rfl, rfl, _, rfl, ifN (by show ((6 : Nat) : Int) ≠ 4; decide) ⟨_, rfl, rfl, _, rfl, ifN (by show ((6 : Nat) : Int) ≠ 5; decide) ⟨_, rfl, rfl, _, rfl, ifY rfl ?_⟩⟩⟩⟩⟩⟩⟩
    have hact : some (some q, if q.n ≤ j then Kyd.say (-2) else ⟨(Kyd.drove q.days j : Nat), [Kyd.rode q.days j, Kyd.due q.n q.days j]⟩) = some (s', an) := hact
    refine ⟨_, rfl, p, dx, _, rfl, hp, cf_no _ _ (by decide +kernel), _, rfl, a, _, _, _, rfl, rfl, SqL.of ha, rfl, p, A, q, j, rfl, ct, ?_⟩
    by_cases hn : q.n ≤ j
    · rw [if_pos hn] at hact ⊢
      cases hact
      exact tells_of (k.tells ct Ext.refl)
    · rw [if_neg hn] at hact ⊢
      cases hact
      exact tells_of (k.tells ct Ext.refl)
  | plan l =>
    cases s with
    | none => cases hact
    | some q =>
    have hxs : xs = (l.length : Int) :: l.map fun (x : Nat) => (x : Int) := (List.cons.inj henc).2.symm
    subst hxs
    refine ⟨_, rfl, rfl, _, rfl, ifN (by show ((7 : Nat) : Int) ≠ 0; decide) ⟨_, rfl, rfl, _, rfl, ifN (by show ((7 : Nat) : Int) ≠ 1; decide) ⟨_, rfl, rfl, _, rfl, ifN (by show ((7 : Nat) : Int) ≠ 2; decide) ⟨_, rfl, rfl, _, rfl, ifN (by show ((7 : Nat) : Int) ≠ 3; decide) ⟨_, rfl, rfl, _, rfl, ifN (by show ((7 : Nat) : Int) ≠ 4; decide) ⟨_, rfl, rfl, _, rfl, ifN (by show ((7 : Nat) : Int) ≠ 5; decide) ⟨_, rfl, rfl, _, rfl, ifN (by show ((7 : Nat) : Int) ≠ 6; decide) ?_⟩⟩⟩⟩⟩⟩⟩
    have hact : some (some q, if 7 < l.length ∨ l.any (fun m => !(Kyd.okRide q.n m)) = true then Kyd.say (-22) else match Kyd.planned q.n l with
      | none => Kyd.say (-33)
      | some d => ⟨(d.length : Nat), d⟩) = some (s', an) := hact
    refine ⟨_, rfl, p, dx, _, rfl, hp, cf_no _ _ (by decide +kernel), _, rfl, _, rfl, a, _, rfl, SqL.of ha, fun ln hln => ?_⟩
    have ec : cutV (((l.length : Int) :: l.map fun (x : Nat) => (x : Int)).map V.int) (some 1) none = l.map nv := by
      have := cut_drop (((l.length : Int) :: l.map fun (x : Nat) => (x : Int)).map V.int) 1 (by simp)
      refine this.trans ?_
      rw [List.map_cons, List.drop_succ_cons, List.drop_zero, List.map_map]
      rfl
    rw [ec]
    have x1 : Ext H (upd H ln (.lst (l.map nv))) := Ext.new hln _
    have q1 : (upd H ln (.lst (l.map nv))) ln = some (.lst (l.map nv)) := upd_same
    generalize upd H ln (.lst (l.map nv)) = H1 at x1 q1 ⊢
    refine ⟨p, ln, A, q, l, rfl, ct.ext x1, q1, hsm.1, gd.n, ?_⟩
    by_cases hn : 7 < l.length ∨ l.any (fun m => !(Kyd.okRide q.n m)) = true
    · rw [if_pos hn] at hact ⊢
      cases hact
      exact k.tells ct x1
    · rw [if_neg hn] at hact ⊢
      intro d hd
      rw [hd] at hact
      cases hact
      exact k.tells ct x1
end
end Df

namespace Df
open PySem PySem.Spec PyProof.Rows L2
open PySem.W (Codec)

theorem good_zero : Good ⟨0, []⟩ := ⟨by decide, by decide, fun d h => by cases h⟩
theorem good_add {q : Kyd.Pool} {m d : Nat} (g : Good q) (hl : ¬ q.days.length = 1000) (ho : Kyd.okRide q.n m = true) (hd : d ∈ Kyd.riders q.n m) : Good (Kyd.add q m d) := by
  have h1 := g.len
  refine ⟨g.n, ?_, fun e he => ?_⟩
  · show q.days.length + 1 ≤ 1000
    omega
  · rcases List.mem_cons.mp he with rfl | he
    · exact ⟨ho, hd⟩
    · exact g.ok e he
/-- a call leaves a pool that is in order, and tells few numbers -/
theorem good_acts {s s' : Option Kyd.Pool} {c : Kyd.Call} {an : Kyd.Ans} (h : Kyd.acts s c = some (s', an)) (g : Good (KLine.poolOf s)) : Good (KLine.poolOf s') ∧ an.out.length ≤ 20 := by
  cases c with
  | start n =>
    have h : some (if n < 2 ∨ 10 < n then (s, Kyd.say (-22)) else (some ⟨n, []⟩, Kyd.say 0)) = some (s', an) := h
    by_cases hn : n < 2 ∨ 10 < n
    · rw [if_pos hn] at h; cases h; exact ⟨g, by decide⟩
    · rw [if_neg hn] at h; cases h
      exact ⟨⟨by show n ≤ 10; omega, by show 0 ≤ 1000; decide, fun d h => by cases h⟩, by decide⟩
  | who m =>
    cases s with
    | none => cases h
    | some q =>
    have h : some (some q, if Kyd.okRide q.n m = false then Kyd.say (-22) else Kyd.say (Kyd.driver q m : Nat)) = some (s', an) := h
    by_cases hn : Kyd.okRide q.n m = false
    · rw [if_pos hn] at h; cases h; exact ⟨g, by decide⟩
    · rw [if_neg hn] at h; cases h; exact ⟨g, by show 0 ≤ 20; decide⟩
  | ride m =>
    cases s with
    | none => cases h
    | some q =>
    have h : some (if Kyd.okRide q.n m = false then (some q, Kyd.say (-22)) else if q.days.length = 1000 then (some q, Kyd.say (-28)) else (some (Kyd.add q m (Kyd.driver q m)), Kyd.say (Kyd.driver q m : Nat))) = some (s', an) := h
    by_cases hn : Kyd.okRide q.n m = false
    · rw [if_pos hn] at h; cases h; exact ⟨g, by decide⟩
    · rw [if_neg hn] at h
      by_cases hl : q.days.length = 1000
      · rw [if_pos hl] at h; cases h; exact ⟨g, by decide⟩
      · rw [if_neg hl] at h; cases h
        have ho : Kyd.okRide q.n m = true := by simpa using hn
        exact ⟨good_add g hl ho (driver_mem ho), by show 0 ≤ 20; decide⟩
  | rideBy m j =>
    cases s with
    | none => cases h
    | some q =>
    have h : some (if Kyd.okRide q.n m = false then (some q, Kyd.say (-22)) else if Kyd.has m j = false then (some q, Kyd.say (-2)) else if q.days.length = 1000 then (some q, Kyd.say (-28)) else (some (Kyd.add q m j), Kyd.say (q.days.length : Nat))) = some (s', an) := h
    by_cases hn : Kyd.okRide q.n m = false
    · rw [if_pos hn] at h; cases h; exact ⟨g, by decide⟩
    · rw [if_neg hn] at h
      by_cases hj : Kyd.has m j = false
      · rw [if_pos hj] at h; cases h; exact ⟨g, by decide⟩
      · rw [if_neg hj] at h
        by_cases hl : q.days.length = 1000
        · rw [if_pos hl] at h; cases h; exact ⟨g, by decide⟩
        · rw [if_neg hl] at h; cases h
          have ho : Kyd.okRide q.n m = true := by simpa using hn
          have hb : Kyd.has m j = true := by simpa using hj
          exact ⟨good_add g hl ho (KPlan.mem_riders.mpr ⟨bit_lt (KPlan.ok_iff.mp ho).1 hb, hb⟩), by show 0 ≤ 20; decide⟩
  | back =>
    cases s with
    | none => cases h
    | some q =>
    obtain ⟨n, ds⟩ := q
    cases ds with
    | nil => cases h; exact ⟨g, by decide⟩
    | cons d l =>
      cases h
      refine ⟨⟨g.n, ?_, fun e he => g.ok e (List.mem_cons_of_mem _ he)⟩, by show 0 ≤ 20; decide⟩
      have := g.len
      show l.length ≤ 1000
      have : l.length + 1 ≤ 1000 := this
      omega
  | owes j =>
    cases s with
    | none => cases h
    | some q =>
    have h : some (some q, if q.n ≤ j then Kyd.say (-2) else ⟨if Kyd.owes q j < 0 then 1 else 0, [(Kyd.owes q j).natAbs]⟩) = some (s', an) := h
    by_cases hn : q.n ≤ j
    · rw [if_pos hn] at h; cases h; exact ⟨g, by decide⟩
    · rw [if_neg hn] at h; cases h; exact ⟨g, by show 1 ≤ 20; decide⟩
  | count j =>
    cases s with
    | none => cases h
    | some q =>
    have h : some (some q, if q.n ≤ j then Kyd.say (-2) else ⟨(Kyd.drove q.days j : Nat), [Kyd.rode q.days j, Kyd.due q.n q.days j]⟩) = some (s', an) := h
    by_cases hn : q.n ≤ j
    · rw [if_pos hn] at h; cases h; exact ⟨g, by decide⟩
    · rw [if_neg hn] at h; cases h; exact ⟨g, by show 2 ≤ 20; decide⟩
  | plan l =>
    cases s with
    | none => cases h
    | some q =>
    have h : some (some q, if 7 < l.length ∨ l.any (fun m => !(Kyd.okRide q.n m)) = true then Kyd.say (-22) else match Kyd.planned q.n l with
      | none => Kyd.say (-33)
      | some d => ⟨(d.length : Nat), d⟩) = some (s', an) := h
    by_cases hn : 7 < l.length ∨ l.any (fun m => !(Kyd.okRide q.n m)) = true
    · rw [if_pos hn] at h; cases h; exact ⟨g, by decide⟩
    · rw [if_neg hn] at h
      cases hd : Kyd.planned q.n l with
      | none => rw [hd] at h; cases h; exact ⟨g, by decide⟩
      | some d =>
        rw [hd] at h; cases h
        refine ⟨g, ?_⟩
        have := planned_len hd
        show d.length ≤ 20
        omega
theorem enc_pos (c : Kyd.Call) : ∃ xs, KLine.enc c = ((codeOf c : Nat) : Int) :: xs := by cases c <;> exact ⟨_, rfl⟩
theorem big {n : Nat} (h : n ≤ 1000000) : n < sizeLine := Nat.lt_of_le_of_lt h (by decide)

section
variable {P : Program} {w : World} {K : PySem.W.Frag} {mg : Str → Option Value} {base : Heap}
def spAnswers (K : PySem.W.Frag) : Sp := fun vs H Q _ => ∃ (a : Addr) (ns : List Int), vs = [.ref a] ∧ SqL K H a (ns.map V.int) ∧ ns.length ≤ 30000 ∧ PyKyd.answers_asked ns = true ∧ ∀ (H' : Hp) (p : Addr), H' p = some (.lst ((PyKyd.answers ns).map V.int)) → Q (.ref p) H'
theorem scAnswers : FnScope ["calls", "car", "given", "place", "behind", "answered"] ["calls"] (defScope sAnswers) := ⟨rfl, rfl, rfl, by decide +kernel, rfl, by decide +kernel, by decide +kernel⟩
theorem ok_answers {f C fi : Addr} {fd fdi : FuncData} (F : Fun K "answers" "answers" sAnswers f fd) (T : Txt K mg C) (Mi : Mk K C fi) (Gi : FnOk P w K mg base CX0 1 fi fdi ["self"] (spInit C)) (bi : Binds K fdi ["self"] [])
    (M1 : Fnc P w K mg base "end_of_call" 1 ["calls", "place"] (spEnd K)) (M2 : Fnc P w K mg base "answer" 27 ["car", "call", "numbers"] (spAnswer C)) : FnOk P w K mg base CX0 28 f fd ["calls"] (spAnswers K) := by
  obtain ⟨f1, fd1, G1, b1, m1, k1⟩ := M1
  obtain ⟨f2, fd2, G2, b2, m2, k2⟩ := M2
  refine F.ok scAnswers (fun vs H Q E h => ?_) (fun cdv A0 outer sh H vs Q E hr h => ?_)
  · obtain ⟨a, ns, rfl, _⟩ := h
    rfl
  obtain ⟨a, ns, rfl, ha, hlen, hask, k⟩ := h
  have hr1 := hr.mono (j := 1) (by decide)
  have hr2 := hr.mono (j := 2) (by decide)
  refine ⟨_, pss_cons (ps_set (i := 1) scAnswers.nd rfl (Or.inl rfl) (pe_make0 Mi Gi hr2 rfl T.mgC bi .nil pass0))
    (pss_cons (ps_set (i := 2) scAnswers.nd rfl (Or.inl rfl) (pe_lst pa_nil))
    (pss_cons (ps_set (i := 3) scAnswers.nd rfl (Or.inl rfl) pe_int)
    (pss_cons (ps_while PassesOwn.never (pt_cmpR op_lt (pv 3) (pe_callB call_len_seq (by rfl) T.len PySem.boot_len (pa_cons (pv 0) pa_nil)) (nomark _))
      (pss_cons (ps_set (i := 4) scAnswers.nd rfl (Or.inl rfl) (pe_call G1 hr1 rfl m1 k1 b1 .nil pass0 (pa_cons (pv 0) (pa_cons (pv 3) pa_nil))))
      (pss_cons (ps_set (i := 5) scAnswers.nd rfl (Or.inl rfl) (pe_call G2 hr rfl m2 k2 b2 .nil pass0 (pa_cons (pv 1) (pa_cons (pe_ix ix_list (pv 0) (pv 3) (fun _ _ => rfl)) (pa_cons (pe_slice sl_list (pv 0) (po_some (pe_op op_add (pv 3) pe_int)) (po_some (pv 4))) pa_nil)))))
      (pss_cons (ps_expr (pe_bm PySem.F.plainAttrs_list PySem.F.slot_list_append PySem.F.type_list_append mt_append (pv 2) (pa_cons (pe_callB call_len_seq (by rfl) T.len PySem.boot_len (pa_cons (pv 5) pa_nil)) pa_nil)))
      (pss_cons (ps_expr (pe_bm PySem.F.plainAttrs_list PySem.F.slot_list_extend PySem.F.type_list_extend mt_extend (pv 2) (pa_cons (pv 5) pa_nil)))
      (pss_one (ps_set (i := 3) scAnswers.nd rfl (Or.inl rfl) (pv 4))))))))
    (pss_one (ps_ret (pv 2)))))), ?_⟩
  intro p dx np ndx nex
  refine ⟨p, dx, rfl, upd_same, fun H1 A c1 fr1 fresh1 => ?_⟩
  refine ⟨rfl, ?_⟩
  have x1 : Ext H H1 := fun b o e => by
    have n1 := ne_of_none e np
    have n2 := ne_of_none e ndx
    refine fr1 b o ?_ (by simpa using n1)
    rw [upd_ne n1, upd_ne n2]; exact e
  have fA : ∀ x, x ∈ A.l → H x = none := fun x hx => (upd_none (upd_none (fresh1 x hx)).2).2
  have pA : p ∉ A.l := fun hx => (upd_none (fresh1 p hx)).1 rfl
  refine ⟨Nat.zero_le _, fun g hg => ?_⟩
  have ng : H g = none := x1.none hg
  have x2 : Ext H1 (upd H1 g (.lst [])) := Ext.new hg _
  have q2 : (upd H1 g (.lst [])) g = some (.lst (([] : List Int).map V.int)) := upd_same
  have gA : g ∉ p :: A.l := fun z => by
    rcases List.mem_cons.mp z with z | z
    · subst z
      obtain ⟨dx', hp'⟩ := c1.car
      rw [hg] at hp'; cases hp'
    · exact c1.out hg z
  generalize upd H1 g (.lst []) = H2 at x2 q2 ⊢
  refine ⟨fun m σ H' => ∃ (i : Nat) (v4 v5 : Option V) (A : Ads) (s : KydNeutral.S) (out rest : List Int), m = ns.length - i ∧ i ≤ ns.length ∧ σ = [some (.ref a), some (.ref p), some (.ref g), some (nv i), v4, v5] ∧ Ext H H' ∧ CarAt C H' p A (KLine.poolOf s) ∧ Good (KLine.poolOf s) ∧
      H' g = some (.lst (out.map V.int)) ∧ g ∉ p :: A.l ∧ (∀ x, x ∈ A.l → H x = none) ∧ out.length ≤ 22 * i ∧ KLine.Line s (ns.drop i) rest ∧ PyKyd.answers ns = out ++ rest,
    ⟨ns.length - 0, 0, none, none, A, none, [], PyKyd.answers ns, rfl, Nat.zero_le _, rfl, x1.trans x2, c1.ext x2, good_zero, q2, gA, fA, Nat.zero_le _, KLine.line_of hask, rfl⟩, ?_⟩
  rintro m σ H' ⟨i, v4, v5, A, s, out, rest, rfl, hi, rfl, xe, ct, gd, hg', gA, fA, hol, line, eout⟩
  refine ⟨_, rfl, _, rfl, a, _, rfl, .inl (xe.seq ha), _, _, rfl, rfl, _, rfl, ?_⟩
  rw [List.length_map]
  by_cases hlt : i < ns.length
  · rw [decide_eq_true (by omega)]
    refine iteT ?_
    have hne : ns.drop i ≠ [] := fun z => by
      have := congrArg List.length z
      rw [List.length_drop] at this
      simp at this
      omega
    obtain ⟨c, t, out', s', an, ed, hsm, hact, er, line'⟩ := KLine.line_cons line hne
    obtain ⟨xs, exs⟩ := enc_pos c
    obtain ⟨gd', hol'⟩ := good_acts hact gd
    have hend : i + (KLine.enc c).length ≤ ns.length := by
      have := congrArg List.length ed
      rw [List.length_drop, List.length_append] at this
      omega
    have hxl : (KLine.enc c).length = xs.length + 1 := by rw [exs]; rfl
    refine ⟨fun σ' H'' => ∃ (v4 v5 : Option V) (A : Ads) (out1 : List Int), σ' = [some (.ref a), some (.ref p), some (.ref g), some (nv (i + (KLine.enc c).length)), v4, v5] ∧ Ext H H'' ∧ CarAt C H'' p A (KLine.poolOf s') ∧
      H'' g = some (.lst (out1.map V.int)) ∧ g ∉ p :: A.l ∧ (∀ x, x ∈ A.l → H x = none) ∧ out1 = out ++ (((an.out.length + 1 : Nat) : Int) :: an.value :: KydNeutral.ints an.out), ?_, ?_⟩
    · rintro σ' H'' ⟨v4, v5, A, out1, rfl, xe', ct', hg'', gA', fA', rfl⟩
      refine ⟨ns.length - (i + (KLine.enc c).length), by omega, i + (KLine.enc c).length, v4, v5, A, s', _, out', rfl, hend, rfl, xe', ct', gd', hg'', gA', fA', ?_, ?_, ?_⟩
      · rw [List.length_append, List.length_cons, List.length_cons]
        unfold KydNeutral.ints
        rw [List.length_map]
        omega
      · have : ns.drop (i + (KLine.enc c).length) = t := by
          rw [← List.drop_drop, ed, List.drop_left]
        rw [this]; exact line'
      · rw [eout, er, List.append_assoc]
    refine ⟨_, rfl, _, rfl, a, ns, t, i, c, rfl, xe.seq ha, ed, hsm, ?_⟩
    have h0 : ns[i]? = some ((codeOf c : Nat) : Int) := drop_get ed (j := 0) (enc_code c)
    refine ⟨_, rfl, _, rfl, _, rfl, a, _, _, _, rfl, rfl, xe.seq ha, int_at h0, _, rfl, _, rfl, _, _, rfl, rfl, _, rfl, _, rfl, _, rfl, a, _, rfl, xe.seq ha, fun ln hln => ?_⟩
    have ec : cutV (ns.map V.int) (some ((i : Int) + 1)) (some ((i + (KLine.enc c).length : Nat) : Int)) = xs.map V.int := by
      have := cut_mid (ns.map V.int) (i + 1) (i + (KLine.enc c).length) (by omega) (by rw [List.length_map]; exact hend)
      refine Eq.trans (b := cutV (ns.map V.int) (some ((i + 1 : Nat) : Int)) (some ((i + (KLine.enc c).length : Nat) : Int))) rfl (this.trans ?_)
      rw [← List.map_drop, ← List.drop_drop, ed, exs, List.cons_append, List.drop_succ_cons, List.drop_zero, ← List.map_take]
      congr 1
      have e2 : i + (xs.length + 1) - (i + 1) = xs.length := by omega
      rw [List.length_cons, e2, List.take_left]
    rw [ec]
    have x3 : Ext H' (upd H' ln (.lst (xs.map V.int))) := Ext.new hln _
    have q3 : (upd H' ln (.lst (xs.map V.int))) ln = some (.lst (xs.map V.int)) := upd_same
    generalize upd H' ln (.lst (xs.map V.int)) = H3 at x3 q3 ⊢
    refine ⟨p, ln, A, s, s', c, an, xs, rfl, exs, hsm, q3, hact, ct.ext x3, gd, fun H4 A4 r ct4 fr4 an4 hr4 nr4 => ?_⟩
    have g3 : H3 g = some (.lst (out.map V.int)) := x3 _ _ hg'
    have g4 : H4 g = some (.lst (out.map V.int)) := fr4 _ _ g3 gA
    have gr : g ≠ r := nr4 g _ g3 gA
    have gA4 : g ∉ p :: A4.l := fun z => by
      rcases List.mem_cons.mp z with z | z
      · exact gA (by rw [z]; exact List.mem_cons_self)
      · rcases an4 g z with z | z
        · exact gA (List.mem_cons_of_mem _ z)
        · rw [g3] at z; cases z
    have nP : H p = none := np
    have fA4 : ∀ x, x ∈ A4.l → H x = none := fun x hx => by
      rcases an4 x hx with z | z
      · exact fA x z
      · exact (xe.trans x3).none z
    have x4 : Ext H H4 := fun b o e => by
      refine fr4 b o ((xe.trans x3) _ _ e) fun z => ?_
      rcases List.mem_cons.mp z with z | z
      · rw [z, nP] at e; cases e
      · rw [fA b z] at e; cases e
    have hl1 : (((an.value :: an.out.map fun (x : Nat) => (x : Int)).map V.int).length) = an.out.length + 1 := by simp
    -- given.append(len(answered))
    refine ⟨_, rfl, .inl ⟨rfl, _, SqL.of g4⟩, _, rfl, r, _, rfl, .inl (SqL.of hr4), g, _, _, rfl, rfl, g4, (by rw [List.length_map]; exact big (by omega)), ?_⟩
    rw [hl1]
    have kp : ∀ {b : Addr} {o : HO} {o' : HO}, H4 b = some o → b ≠ g → (upd H4 g o') b = some o := fun {b o o'} e hb => by rw [upd_ne hb]; exact e
    have g5 : (upd H4 g (.lst (out.map V.int ++ [V.int ((an.out.length + 1 : Nat) : Int)]))) g = some (.lst (out.map V.int ++ [V.int ((an.out.length + 1 : Nat) : Int)])) := upd_same
    have r5 : (upd H4 g (.lst (out.map V.int ++ [V.int ((an.out.length + 1 : Nat) : Int)]))) r = some (.lst ((an.value :: an.out.map fun (x : Nat) => (x : Int)).map V.int)) := kp hr4 gr.symm
    have o5 : ∀ b, b ≠ g → (upd H4 g (.lst (out.map V.int ++ [V.int ((an.out.length + 1 : Nat) : Int)]))) b = H4 b := fun b hb => upd_ne hb
    generalize upd H4 g (.lst (out.map V.int ++ [V.int ((an.out.length + 1 : Nat) : Int)])) = H5 at g5 r5 o5 ⊢
    refine ⟨_, rfl, .inl ⟨rfl, _, SqL.of g5⟩, _, rfl, g, r, _, _, rfl, rfl, g5, r5, ?_, ?_⟩
    · rw [hl1, List.length_append, List.length_map]
      exact Nat.le_of_lt (big (by simp; omega))
    have o6 : ∀ b, b ≠ g → (upd H5 g (.lst (out.map V.int ++ [V.int ((an.out.length + 1 : Nat) : Int)] ++ (an.value :: an.out.map fun (x : Nat) => (x : Int)).map V.int))) b = H4 b := fun b hb => by rw [upd_ne hb]; exact o5 b hb
    refine ⟨_, rfl, some (nv (i + (KLine.enc c).length)), some (.ref r), A4, _, rfl, ?_, ?_, ?_, gA4, fA4, rfl⟩
    · intro b o e
      rw [o6 b (ne_of_none e ng)]
      exact x4 _ _ e
    · obtain ⟨dx4, hp4⟩ := ct4.car
      obtain ⟨ts4, hts4, pts4⟩ := ct4.days
      have ng4 : ∀ x, x ∈ p :: A4.l → x ≠ g := fun x hx z => gA4 (z ▸ hx)
      have ap := ct4.tot.ap
      refine ⟨⟨⟨dx4, (o6 p (ng4 p (by simp))).trans hp4⟩, (o6 _ (ng4 _ (by simp [Ads.l]))).trans ct4.tot.dr, (o6 _ (ng4 _ (by simp [Ads.l]))).trans ct4.tot.ro, (o6 _ (ng4 _ (by simp [Ads.l]))).trans ct4.tot.ou, ap⟩, ts4, (o6 _ (ng4 _ (by simp [Ads.l]))).trans hts4, ?_⟩
      exact DayAt.stay (fun b ys e => (o6 b (ne_of e g4 (by intro z; cases z))).trans e) pts4
    · rw [upd_same, List.map_append]
      simp [KydNeutral.ints]
  · rw [decide_eq_false (by omega)]
    refine iteF ⟨_, rfl, ?_⟩
    have ei : i = ns.length := by omega
    subst ei
    rw [List.drop_length] at line
    have := KLine.line_nil line
    subst this
    rw [List.append_nil] at eout
    rw [← eout] at hg'
    exact k H' g hg'
end
end Df

namespace Df
open PySem PySem.Spec PyProof.Rows L2
open PySem.W (Codec)
theorem all_mk {P : Program} {w : World} {K : PySem.W.Frag} {h : Heap} {mg : Str → Option Value} {fa C f1 f2 f3 f4 f5 f6 f7 f8 f9 f10 f11 f12 f13 f14 f15 f16 f17 f18 f19 f20 f21 f22 f23 f24 f25 f26 f27 f28 f29 tp_NUMBERS_BEHIND : Addr} (X : K.In h) (G : h.Ns mainGlobals mg) (hfa : mg "answers" = some (.ref fa))
    {od1 an1 : Option Addr} {sl1 : Array (Option Value)} {oc1 kV1 dc1 pm1 cd1 ct1 : Value}
    {od2 an2 : Option Addr} {sl2 : Array (Option Value)} {oc2 kV2 dc2 pm2 cd2 ct2 : Value}
    {od3 an3 : Option Addr} {sl3 : Array (Option Value)} {oc3 kV3 dc3 pm3 cd3 ct3 : Value}
    {od4 an4 : Option Addr} {sl4 : Array (Option Value)} {oc4 kV4 dc4 pm4 cd4 ct4 : Value}
    {od5 an5 : Option Addr} {sl5 : Array (Option Value)} {oc5 kV5 dc5 pm5 cd5 ct5 : Value}
    {od6 an6 : Option Addr} {sl6 : Array (Option Value)} {oc6 kV6 dc6 pm6 cd6 ct6 : Value}
    {od7 an7 : Option Addr} {sl7 : Array (Option Value)} {oc7 kV7 dc7 pm7 cd7 ct7 : Value}
    {od8 an8 : Option Addr} {sl8 : Array (Option Value)} {oc8 kV8 dc8 pm8 cd8 ct8 : Value}
    {od9 an9 : Option Addr} {sl9 : Array (Option Value)} {oc9 kV9 dc9 pm9 cd9 ct9 : Value}
    {od10 an10 : Option Addr} {sl10 : Array (Option Value)} {oc10 kV10 dc10 pm10 cd10 ct10 : Value}
    {od11 an11 : Option Addr} {sl11 : Array (Option Value)} {oc11 kV11 dc11 pm11 cd11 ct11 : Value}
    {od12 an12 : Option Addr} {sl12 : Array (Option Value)} {oc12 kV12 dc12 pm12 cd12 ct12 : Value}
    {od13 an13 : Option Addr} {sl13 : Array (Option Value)} {oc13 kV13 dc13 pm13 cd13 ct13 : Value}
    {od14 an14 : Option Addr} {sl14 : Array (Option Value)} {oc14 kV14 dc14 pm14 cd14 ct14 : Value}
    {od15 an15 : Option Addr} {sl15 : Array (Option Value)} {oc15 kV15 dc15 pm15 cd15 ct15 : Value}
    {od16 an16 : Option Addr} {sl16 : Array (Option Value)} {oc16 kV16 dc16 pm16 cd16 ct16 : Value}
    {od17 an17 : Option Addr} {sl17 : Array (Option Value)} {oc17 kV17 dc17 pm17 cd17 ct17 : Value}
    {od18 an18 : Option Addr} {sl18 : Array (Option Value)} {oc18 kV18 dc18 pm18 cd18 ct18 : Value}
    {od19 an19 : Option Addr} {sl19 : Array (Option Value)} {oc19 kV19 dc19 pm19 cd19 ct19 : Value}
    {od20 an20 : Option Addr} {sl20 : Array (Option Value)} {oc20 kV20 dc20 pm20 cd20 ct20 : Value}
    {od21 an21 : Option Addr} {sl21 : Array (Option Value)} {oc21 kV21 dc21 pm21 cd21 ct21 : Value}
    {od22 an22 : Option Addr} {sl22 : Array (Option Value)} {oc22 kV22 dc22 pm22 cd22 ct22 : Value}
    {od23 an23 : Option Addr} {sl23 : Array (Option Value)} {oc23 kV23 dc23 pm23 cd23 ct23 : Value}
    {od24 an24 : Option Addr} {sl24 : Array (Option Value)} {oc24 kV24 dc24 pm24 cd24 ct24 : Value}
    {od25 an25 : Option Addr} {sl25 : Array (Option Value)} {oc25 kV25 dc25 pm25 cd25 ct25 : Value}
    {od26 an26 : Option Addr} {sl26 : Array (Option Value)} {oc26 kV26 dc26 pm26 cd26 ct26 : Value}
    {od27 an27 : Option Addr} {sl27 : Array (Option Value)} {oc27 kV27 dc27 pm27 cd27 ct27 : Value}
    {od28 an28 : Option Addr} {sl28 : Array (Option Value)} {oc28 kV28 dc28 pm28 cd28 ct28 : Value}
    {od29 an29 : Option Addr} {sl29 : Array (Option Value)} {oc29 kV29 dc29 pm29 cd29 ct29 : Value}
    {tn_NUMBERS_BEHIND : Nat} {td_NUMBERS_BEHIND : Option Addr} {ts_NUMBERS_BEHIND : Array (Option Value)}
    {t_FEWEST_PEOPLE t_MOST_PEOPLE t_MOST_DAYS t_MOST_DAYS_OF_A_PLAN t_PARTS_OF_A_DRIVE t_NOBODY t_NOT_AS_TOLD t_NOT_THERE t_NO_ROOM t_NO_DAYS t_START t_WHO t_RIDE t_RIDE_BY t_BACK t_OWES t_COUNT t_PLAN tt_NUMBERS_BEHIND_0 tt_NUMBERS_BEHIND_1 tt_NUMBERS_BEHIND_2 tt_NUMBERS_BEHIND_3 tt_NUMBERS_BEHIND_4 tt_NUMBERS_BEHIND_5 tt_NUMBERS_BEHIND_6 : Tok}
    (aC : PySem.W.nsIn K mainGlobals "Car" = some (some (.ref C)))
    (a1 : PySem.W.findIn K (.ref C) "__init__" = some (some (.ref f1)))
    (i1 : PySem.W.isFn K (.ref f1) = true)
    (l1 : K.lookup f1 = some ⟨oc1, od1, .func (PySem.W.fnOf "__init__" "Car.__init__" (defArgs sInit) (defBody sInit) (defScope sInit) .none kV1 dc1 pm1 an1 cd1 ct1), sl1⟩)
    (c1 : PySem.W.codeIn K cd1 "Car.__init__" = true)
    (k1 : PySem.W.keepIn K (.ref f1) = true)
    (a2 : PySem.W.findIn K (.ref C) "start" = some (some (.ref f2)))
    (i2 : PySem.W.isFn K (.ref f2) = true)
    (l2 : K.lookup f2 = some ⟨oc2, od2, .func (PySem.W.fnOf "start" "Car.start" (defArgs sStart) (defBody sStart) (defScope sStart) .none kV2 dc2 pm2 an2 cd2 ct2), sl2⟩)
    (c2 : PySem.W.codeIn K cd2 "Car.start" = true)
    (k2 : PySem.W.keepIn K (.ref f2) = true)
    (a3 : PySem.W.findIn K (.ref C) "who" = some (some (.ref f3)))
    (i3 : PySem.W.isFn K (.ref f3) = true)
    (l3 : K.lookup f3 = some ⟨oc3, od3, .func (PySem.W.fnOf "who" "Car.who" (defArgs sWho) (defBody sWho) (defScope sWho) .none kV3 dc3 pm3 an3 cd3 ct3), sl3⟩)
    (c3 : PySem.W.codeIn K cd3 "Car.who" = true)
    (k3 : PySem.W.keepIn K (.ref f3) = true)
    (a4 : PySem.W.findIn K (.ref C) "ride" = some (some (.ref f4)))
    (i4 : PySem.W.isFn K (.ref f4) = true)
    (l4 : K.lookup f4 = some ⟨oc4, od4, .func (PySem.W.fnOf "ride" "Car.ride" (defArgs sRide) (defBody sRide) (defScope sRide) .none kV4 dc4 pm4 an4 cd4 ct4), sl4⟩)
    (c4 : PySem.W.codeIn K cd4 "Car.ride" = true)
    (k4 : PySem.W.keepIn K (.ref f4) = true)
    (a5 : PySem.W.findIn K (.ref C) "ride_by" = some (some (.ref f5)))
    (i5 : PySem.W.isFn K (.ref f5) = true)
    (l5 : K.lookup f5 = some ⟨oc5, od5, .func (PySem.W.fnOf "ride_by" "Car.ride_by" (defArgs sRideBy) (defBody sRideBy) (defScope sRideBy) .none kV5 dc5 pm5 an5 cd5 ct5), sl5⟩)
    (c5 : PySem.W.codeIn K cd5 "Car.ride_by" = true)
    (k5 : PySem.W.keepIn K (.ref f5) = true)
    (a6 : PySem.W.findIn K (.ref C) "back" = some (some (.ref f6)))
    (i6 : PySem.W.isFn K (.ref f6) = true)
    (l6 : K.lookup f6 = some ⟨oc6, od6, .func (PySem.W.fnOf "back" "Car.back" (defArgs sBack) (defBody sBack) (defScope sBack) .none kV6 dc6 pm6 an6 cd6 ct6), sl6⟩)
    (c6 : PySem.W.codeIn K cd6 "Car.back" = true)
    (k6 : PySem.W.keepIn K (.ref f6) = true)
    (a7 : PySem.W.findIn K (.ref C) "owes" = some (some (.ref f7)))
    (i7 : PySem.W.isFn K (.ref f7) = true)
    (l7 : K.lookup f7 = some ⟨oc7, od7, .func (PySem.W.fnOf "owes" "Car.owes" (defArgs sOwes) (defBody sOwes) (defScope sOwes) .none kV7 dc7 pm7 an7 cd7 ct7), sl7⟩)
    (c7 : PySem.W.codeIn K cd7 "Car.owes" = true)
    (k7 : PySem.W.keepIn K (.ref f7) = true)
    (a8 : PySem.W.findIn K (.ref C) "count" = some (some (.ref f8)))
    (i8 : PySem.W.isFn K (.ref f8) = true)
    (l8 : K.lookup f8 = some ⟨oc8, od8, .func (PySem.W.fnOf "count" "Car.count" (defArgs sCount) (defBody sCount) (defScope sCount) .none kV8 dc8 pm8 an8 cd8 ct8), sl8⟩)
    (c8 : PySem.W.codeIn K cd8 "Car.count" = true)
    (k8 : PySem.W.keepIn K (.ref f8) = true)
    (a9 : PySem.W.findIn K (.ref C) "plan" = some (some (.ref f9)))
    (i9 : PySem.W.isFn K (.ref f9) = true)
    (l9 : K.lookup f9 = some ⟨oc9, od9, .func (PySem.W.fnOf "plan" "Car.plan" (defArgs sPlan) (defBody sPlan) (defScope sPlan) .none kV9 dc9 pm9 an9 cd9 ct9), sl9⟩)
    (c9 : PySem.W.codeIn K cd9 "Car.plan" = true)
    (k9 : PySem.W.keepIn K (.ref f9) = true)
    (a10 : PySem.W.findIn K (.ref C) "is_there" = some (some (.ref f10)))
    (i10 : PySem.W.isFn K (.ref f10) = true)
    (l10 : K.lookup f10 = some ⟨oc10, od10, .func (PySem.W.fnOf "is_there" "Car.is_there" (defArgs sThere) (defBody sThere) (defScope sThere) .none kV10 dc10 pm10 an10 cd10 ct10), sl10⟩)
    (c10 : PySem.W.codeIn K cd10 "Car.is_there" = true)
    (k10 : PySem.W.keepIn K (.ref f10) = true)
    (a11 : PySem.W.findIn K (.ref C) "can_ride" = some (some (.ref f11)))
    (i11 : PySem.W.isFn K (.ref f11) = true)
    (l11 : K.lookup f11 = some ⟨oc11, od11, .func (PySem.W.fnOf "can_ride" "Car.can_ride" (defArgs sCan) (defBody sCan) (defScope sCan) .none kV11 dc11 pm11 an11 cd11 ct11), sl11⟩)
    (c11 : PySem.W.codeIn K cd11 "Car.can_ride" = true)
    (k11 : PySem.W.keepIn K (.ref f11) = true)
    (a12 : PySem.W.findIn K (.ref C) "riders" = some (some (.ref f12)))
    (i12 : PySem.W.isFn K (.ref f12) = true)
    (l12 : K.lookup f12 = some ⟨oc12, od12, .func (PySem.W.fnOf "riders" "Car.riders" (defArgs sRiders) (defBody sRiders) (defScope sRiders) .none kV12 dc12 pm12 an12 cd12 ct12), sl12⟩)
    (c12 : PySem.W.codeIn K cd12 "Car.riders" = true)
    (k12 : PySem.W.keepIn K (.ref f12) = true)
    (a13 : PySem.W.findIn K (.ref C) "whose_turn" = some (some (.ref f13)))
    (i13 : PySem.W.isFn K (.ref f13) = true)
    (l13 : K.lookup f13 = some ⟨oc13, od13, .func (PySem.W.fnOf "whose_turn" "Car.whose_turn" (defArgs sTurn) (defBody sTurn) (defScope sTurn) .none kV13 dc13 pm13 an13 cd13 ct13), sl13⟩)
    (c13 : PySem.W.codeIn K cd13 "Car.whose_turn" = true)
    (k13 : PySem.W.keepIn K (.ref f13) = true)
    (a14 : PySem.W.findIn K (.ref C) "owed_by" = some (some (.ref f14)))
    (i14 : PySem.W.isFn K (.ref f14) = true)
    (l14 : K.lookup f14 = some ⟨oc14, od14, .func (PySem.W.fnOf "owed_by" "Car.owed_by" (defArgs sOwedBy) (defBody sOwedBy) (defScope sOwedBy) .none kV14 dc14 pm14 an14 cd14 ct14), sl14⟩)
    (c14 : PySem.W.codeIn K cd14 "Car.owed_by" = true)
    (k14 : PySem.W.keepIn K (.ref f14) = true)
    (a15 : PySem.W.findIn K (.ref C) "is_full" = some (some (.ref f15)))
    (i15 : PySem.W.isFn K (.ref f15) = true)
    (l15 : K.lookup f15 = some ⟨oc15, od15, .func (PySem.W.fnOf "is_full" "Car.is_full" (defArgs sFull) (defBody sFull) (defScope sFull) .none kV15 dc15 pm15 an15 cd15 ct15), sl15⟩)
    (c15 : PySem.W.codeIn K cd15 "Car.is_full" = true)
    (k15 : PySem.W.keepIn K (.ref f15) = true)
    (a16 : PySem.W.findIn K (.ref C) "add_day" = some (some (.ref f16)))
    (i16 : PySem.W.isFn K (.ref f16) = true)
    (l16 : K.lookup f16 = some ⟨oc16, od16, .func (PySem.W.fnOf "add_day" "Car.add_day" (defArgs sAdd) (defBody sAdd) (defScope sAdd) .none kV16 dc16 pm16 an16 cd16 ct16), sl16⟩)
    (c16 : PySem.W.codeIn K cd16 "Car.add_day" = true)
    (k16 : PySem.W.keepIn K (.ref f16) = true)
    (a17 : PySem.W.findIn K (.ref C) "reckon" = some (some (.ref f17)))
    (i17 : PySem.W.isFn K (.ref f17) = true)
    (l17 : K.lookup f17 = some ⟨oc17, od17, .func (PySem.W.fnOf "reckon" "Car.reckon" (defArgs sReckon) (defBody sReckon) (defScope sReckon) .none kV17 dc17 pm17 an17 cd17 ct17), sl17⟩)
    (c17 : PySem.W.codeIn K cd17 "Car.reckon" = true)
    (k17 : PySem.W.keepIn K (.ref f17) = true)
    (a18 : PySem.W.nsIn K mainGlobals "share_of" = some (some (.ref f18)))
    (l18 : K.lookup f18 = some ⟨oc18, od18, .func (PySem.W.fnOf "share_of" "share_of" (defArgs sShare) (defBody sShare) (defScope sShare) .none kV18 dc18 pm18 an18 cd18 ct18), sl18⟩)
    (c18 : PySem.W.codeIn K cd18 "share_of" = true)
    (k18 : PySem.W.keepIn K (.ref f18) = true)
    (a19 : PySem.W.nsIn K mainGlobals "first_plan" = some (some (.ref f19)))
    (l19 : K.lookup f19 = some ⟨oc19, od19, .func (PySem.W.fnOf "first_plan" "first_plan" (defArgs sFirstPlan) (defBody sFirstPlan) (defScope sFirstPlan) .none kV19 dc19 pm19 an19 cd19 ct19), sl19⟩)
    (c19 : PySem.W.codeIn K cd19 "first_plan" = true)
    (k19 : PySem.W.keepIn K (.ref f19) = true)
    (a20 : PySem.W.nsIn K mainGlobals "ought_of" = some (some (.ref f20)))
    (l20 : K.lookup f20 = some ⟨oc20, od20, .func (PySem.W.fnOf "ought_of" "ought_of" (defArgs sOught) (defBody sOught) (defScope sOught) .none kV20 dc20 pm20 an20 cd20 ct20), sl20⟩)
    (c20 : PySem.W.codeIn K cd20 "ought_of" = true)
    (k20 : PySem.W.keepIn K (.ref f20) = true)
    (a21 : PySem.W.nsIn K mainGlobals "first_driver" = some (some (.ref f21)))
    (l21 : K.lookup f21 = some ⟨oc21, od21, .func (PySem.W.fnOf "first_driver" "first_driver" (defArgs sFirstDriver) (defBody sFirstDriver) (defScope sFirstDriver) .none kV21 dc21 pm21 an21 cd21 ct21), sl21⟩)
    (c21 : PySem.W.codeIn K cd21 "first_driver" = true)
    (k21 : PySem.W.keepIn K (.ref f21) = true)
    (a22 : PySem.W.nsIn K mainGlobals "can_drive" = some (some (.ref f22)))
    (l22 : K.lookup f22 = some ⟨oc22, od22, .func (PySem.W.fnOf "can_drive" "can_drive" (defArgs sCanDrive) (defBody sCanDrive) (defScope sCanDrive) .none kV22 dc22 pm22 an22 cd22 ct22), sl22⟩)
    (c22 : PySem.W.codeIn K cd22 "can_drive" = true)
    (k22 : PySem.W.keepIn K (.ref f22) = true)
    (a23 : PySem.W.nsIn K mainGlobals "one_less" = some (some (.ref f23)))
    (l23 : K.lookup f23 = some ⟨oc23, od23, .func (PySem.W.fnOf "one_less" "one_less" (defArgs sOneLess) (defBody sOneLess) (defScope sOneLess) .none kV23 dc23 pm23 an23 cd23 ct23), sl23⟩)
    (c23 : PySem.W.codeIn K cd23 "one_less" = true)
    (k23 : PySem.W.keepIn K (.ref f23) = true)
    (a24 : PySem.W.nsIn K mainGlobals "days_driven" = some (some (.ref f24)))
    (l24 : K.lookup f24 = some ⟨oc24, od24, .func (PySem.W.fnOf "days_driven" "days_driven" (defArgs sDaysDriven) (defBody sDaysDriven) (defScope sDaysDriven) .none kV24 dc24 pm24 an24 cd24 ct24), sl24⟩)
    (c24 : PySem.W.codeIn K cd24 "days_driven" = true)
    (k24 : PySem.W.keepIn K (.ref f24) = true)
    (a25 : PySem.W.nsIn K mainGlobals "find_driver" = some (some (.ref f25)))
    (l25 : K.lookup f25 = some ⟨oc25, od25, .func (PySem.W.fnOf "find_driver" "find_driver" (defArgs sFind) (defBody sFind) (defScope sFind) .none kV25 dc25 pm25 an25 cd25 ct25), sl25⟩)
    (c25 : PySem.W.codeIn K cd25 "find_driver" = true)
    (k25 : PySem.W.keepIn K (.ref f25) = true)
    (a26 : PySem.W.nsIn K mainGlobals "can_take" = some (some (.ref f26)))
    (l26 : K.lookup f26 = some ⟨oc26, od26, .func (PySem.W.fnOf "can_take" "can_take" (defArgs sTake) (defBody sTake) (defScope sTake) .none kV26 dc26 pm26 an26 cd26 ct26), sl26⟩)
    (c26 : PySem.W.codeIn K cd26 "can_take" = true)
    (k26 : PySem.W.keepIn K (.ref f26) = true)
    (a27 : PySem.W.nsIn K mainGlobals "answers" = some (some (.ref f27)))
    (l27 : K.lookup f27 = some ⟨oc27, od27, .func (PySem.W.fnOf "answers" "answers" (defArgs sAnswers) (defBody sAnswers) (defScope sAnswers) .none kV27 dc27 pm27 an27 cd27 ct27), sl27⟩)
    (c27 : PySem.W.codeIn K cd27 "answers" = true)
    (k27 : PySem.W.keepIn K (.ref f27) = true)
    (a28 : PySem.W.nsIn K mainGlobals "end_of_call" = some (some (.ref f28)))
    (l28 : K.lookup f28 = some ⟨oc28, od28, .func (PySem.W.fnOf "end_of_call" "end_of_call" (defArgs sEnd) (defBody sEnd) (defScope sEnd) .none kV28 dc28 pm28 an28 cd28 ct28), sl28⟩)
    (c28 : PySem.W.codeIn K cd28 "end_of_call" = true)
    (k28 : PySem.W.keepIn K (.ref f28) = true)
    (a29 : PySem.W.nsIn K mainGlobals "answer" = some (some (.ref f29)))
    (l29 : K.lookup f29 = some ⟨oc29, od29, .func (PySem.W.fnOf "answer" "answer" (defArgs sAnswer) (defBody sAnswer) (defScope sAnswer) .none kV29 dc29 pm29 an29 cd29 ct29), sl29⟩)
    (c29 : PySem.W.codeIn K cd29 "answer" = true)
    (k29 : PySem.W.keepIn K (.ref f29) = true)
    (pg : PySem.W.plainGet K C Str.empty = true)
    (hd : PySem.W.hasDictIn K C = true)
    (po : PySem.W.plainOver K C = true)
    (sa : PySem.W.findIn K (.ref C) "__setattr__" = some (some (.builtin "object.__setattr__")))
    (mk : PySem.W.makesIn K C = true)
    (kc : PySem.W.keepIn K (.ref C) = true)
    (nf_people : PySem.W.findIn K (.ref C) "people" = some none)
    (nf_days : PySem.W.findIn K (.ref C) "days" = some none)
    (nf_drove : PySem.W.findIn K (.ref C) "drove" = some none)
    (nf_rode : PySem.W.findIn K (.ref C) "rode" = some none)
    (nf_ought : PySem.W.findIn K (.ref C) "ought" = some none)
    (z_len : PySem.W.nsIn K mainGlobals "len" = some none)
    (z_range : PySem.W.nsIn K mainGlobals "range" = some none)
    (z_tuple : PySem.W.nsIn K mainGlobals "tuple" = some none)
    (z_list : PySem.W.nsIn K mainGlobals "list" = some none)
    (z_max : PySem.W.nsIn K mainGlobals "max" = some none)
    (z_sum : PySem.W.nsIn K mainGlobals "sum" = some none)
    (z_abs : PySem.W.nsIn K mainGlobals "abs" = some none)
    (z_all : PySem.W.nsIn K mainGlobals "all" = some none)
    (g_FEWEST_PEOPLE : PySem.W.nsIn K mainGlobals "FEWEST_PEOPLE" = some (some (.int (2) t_FEWEST_PEOPLE)))
    (g_MOST_PEOPLE : PySem.W.nsIn K mainGlobals "MOST_PEOPLE" = some (some (.int (10) t_MOST_PEOPLE)))
    (g_MOST_DAYS : PySem.W.nsIn K mainGlobals "MOST_DAYS" = some (some (.int (1000) t_MOST_DAYS)))
    (g_MOST_DAYS_OF_A_PLAN : PySem.W.nsIn K mainGlobals "MOST_DAYS_OF_A_PLAN" = some (some (.int (7) t_MOST_DAYS_OF_A_PLAN)))
    (g_PARTS_OF_A_DRIVE : PySem.W.nsIn K mainGlobals "PARTS_OF_A_DRIVE" = some (some (.int (2520) t_PARTS_OF_A_DRIVE)))
    (g_NOBODY : PySem.W.nsIn K mainGlobals "NOBODY" = some (some (.int (-1) t_NOBODY)))
    (g_NOT_AS_TOLD : PySem.W.nsIn K mainGlobals "NOT_AS_TOLD" = some (some (.int (-22) t_NOT_AS_TOLD)))
    (g_NOT_THERE : PySem.W.nsIn K mainGlobals "NOT_THERE" = some (some (.int (-2) t_NOT_THERE)))
    (g_NO_ROOM : PySem.W.nsIn K mainGlobals "NO_ROOM" = some (some (.int (-28) t_NO_ROOM)))
    (g_NO_DAYS : PySem.W.nsIn K mainGlobals "NO_DAYS" = some (some (.int (-6) t_NO_DAYS)))
    (g_START : PySem.W.nsIn K mainGlobals "START" = some (some (.int (0) t_START)))
    (g_WHO : PySem.W.nsIn K mainGlobals "WHO" = some (some (.int (1) t_WHO)))
    (g_RIDE : PySem.W.nsIn K mainGlobals "RIDE" = some (some (.int (2) t_RIDE)))
    (g_RIDE_BY : PySem.W.nsIn K mainGlobals "RIDE_BY" = some (some (.int (3) t_RIDE_BY)))
    (g_BACK : PySem.W.nsIn K mainGlobals "BACK" = some (some (.int (4) t_BACK)))
    (g_OWES : PySem.W.nsIn K mainGlobals "OWES" = some (some (.int (5) t_OWES)))
    (g_COUNT : PySem.W.nsIn K mainGlobals "COUNT" = some (some (.int (6) t_COUNT)))
    (g_PLAN : PySem.W.nsIn K mainGlobals "PLAN" = some (some (.int (7) t_PLAN)))
    (a_NUMBERS_BEHIND : PySem.W.nsIn K mainGlobals "NUMBERS_BEHIND" = some (some (.ref tp_NUMBERS_BEHIND)))
    (l_NUMBERS_BEHIND : K.lookup tp_NUMBERS_BEHIND = some ⟨.type "tuple", td_NUMBERS_BEHIND, .seq #[.int (1) tt_NUMBERS_BEHIND_0, .int (1) tt_NUMBERS_BEHIND_1, .int (1) tt_NUMBERS_BEHIND_2, .int (2) tt_NUMBERS_BEHIND_3, .int (0) tt_NUMBERS_BEHIND_4, .int (1) tt_NUMBERS_BEHIND_5, .int (1) tt_NUMBERS_BEHIND_6] tn_NUMBERS_BEHIND, ts_NUMBERS_BEHIND⟩) :
    ∃ fd : FuncData, (∀ (s : Shared) (us : List Value), us.length = (["calls"] : List Str).length → BindsTo s fd ⟨us, []⟩ ((["calls"] : List Str).zip us)) ∧ ∀ base : Heap, K.In base → base.Ns mainGlobals mg → FnOk P w K mg base CX0 28 fa fd ["calls"] (spAnswers K) := by
  have e := hfa.symm.trans (PySem.W.mg_of X G a27)
  cases e
  have hb : ∀ H, SqT K H tp_NUMBERS_BEHIND ([1, 1, 1, 2, 0, 1, 1].map nv) := fun H => .inr ⟨_, _, _, l_NUMBERS_BEHIND, rfl, rfl, (by show 7 ≤ sizeLine; decide), .cons ⟨_, rfl⟩ (.cons ⟨_, rfl⟩ (.cons ⟨_, rfl⟩ (.cons ⟨_, rfl⟩ (.cons ⟨_, rfl⟩ (.cons ⟨_, rfl⟩ (.cons ⟨_, rfl⟩ (.nil)))))))⟩
  have T : Txt K mg C := ⟨⟨pg, hd, po, sa⟩, nf_people, nf_days, nf_drove, nf_rode, nf_ought, PySem.W.mg_of X G aC, PySem.W.mg_none_of X G z_len, PySem.W.mg_none_of X G z_range, PySem.W.mg_none_of X G z_tuple, PySem.W.mg_none_of X G z_list, PySem.W.mg_none_of X G z_max, PySem.W.mg_none_of X G z_sum, PySem.W.mg_none_of X G z_abs, PySem.W.mg_none_of X G z_all, ⟨_, PySem.W.mg_of X G g_FEWEST_PEOPLE, ⟨_, rfl⟩⟩, ⟨_, PySem.W.mg_of X G g_MOST_PEOPLE, ⟨_, rfl⟩⟩, ⟨_, PySem.W.mg_of X G g_MOST_DAYS, ⟨_, rfl⟩⟩, ⟨_, PySem.W.mg_of X G g_MOST_DAYS_OF_A_PLAN, ⟨_, rfl⟩⟩, ⟨_, PySem.W.mg_of X G g_PARTS_OF_A_DRIVE, ⟨_, rfl⟩⟩, ⟨_, PySem.W.mg_of X G g_NOBODY, ⟨_, rfl⟩⟩, ⟨_, PySem.W.mg_of X G g_NOT_AS_TOLD, ⟨_, rfl⟩⟩, ⟨_, PySem.W.mg_of X G g_NOT_THERE, ⟨_, rfl⟩⟩, ⟨_, PySem.W.mg_of X G g_NO_ROOM, ⟨_, rfl⟩⟩, ⟨_, PySem.W.mg_of X G g_NO_DAYS, ⟨_, rfl⟩⟩, ⟨_, PySem.W.mg_of X G g_START, ⟨_, rfl⟩⟩, ⟨_, PySem.W.mg_of X G g_WHO, ⟨_, rfl⟩⟩, ⟨_, PySem.W.mg_of X G g_RIDE, ⟨_, rfl⟩⟩, ⟨_, PySem.W.mg_of X G g_RIDE_BY, ⟨_, rfl⟩⟩, ⟨_, PySem.W.mg_of X G g_BACK, ⟨_, rfl⟩⟩, ⟨_, PySem.W.mg_of X G g_OWES, ⟨_, rfl⟩⟩, ⟨_, PySem.W.mg_of X G g_COUNT, ⟨_, rfl⟩⟩, ⟨_, PySem.W.mg_of X G g_PLAN, ⟨_, rfl⟩⟩, ⟨_, PySem.W.mg_of X G a_NUMBERS_BEHIND, hb⟩⟩
  have F1 := fun_mk (st := sInit) l1 c1 k1
  have b1 := F1.binds (ps := ["self"]) fun _ _ _ _ _ _ us hl => match us, hl with | [_], _ => rfl
  have F2 := fun_mk (st := sStart) l2 c2 k2
  have b2 := F2.binds (ps := ["self", "n"]) fun _ _ _ _ _ _ us hl => match us, hl with | [_, _], _ => rfl
  have F3 := fun_mk (st := sWho) l3 c3 k3
  have b3 := F3.binds (ps := ["self", "m"]) fun _ _ _ _ _ _ us hl => match us, hl with | [_, _], _ => rfl
  have F4 := fun_mk (st := sRide) l4 c4 k4
  have b4 := F4.binds (ps := ["self", "m"]) fun _ _ _ _ _ _ us hl => match us, hl with | [_, _], _ => rfl
  have F5 := fun_mk (st := sRideBy) l5 c5 k5
  have b5 := F5.binds (ps := ["self", "m", "k"]) fun _ _ _ _ _ _ us hl => match us, hl with | [_, _, _], _ => rfl
  have F6 := fun_mk (st := sBack) l6 c6 k6
  have b6 := F6.binds (ps := ["self"]) fun _ _ _ _ _ _ us hl => match us, hl with | [_], _ => rfl
  have F7 := fun_mk (st := sOwes) l7 c7 k7
  have b7 := F7.binds (ps := ["self", "k"]) fun _ _ _ _ _ _ us hl => match us, hl with | [_, _], _ => rfl
  have F8 := fun_mk (st := sCount) l8 c8 k8
  have b8 := F8.binds (ps := ["self", "k"]) fun _ _ _ _ _ _ us hl => match us, hl with | [_, _], _ => rfl
  have F9 := fun_mk (st := sPlan) l9 c9 k9
  have b9 := F9.binds (ps := ["self", "days"]) fun _ _ _ _ _ _ us hl => match us, hl with | [_, _], _ => rfl
  have F10 := fun_mk (st := sThere) l10 c10 k10
  have b10 := F10.binds (ps := ["self", "k"]) fun _ _ _ _ _ _ us hl => match us, hl with | [_, _], _ => rfl
  have F11 := fun_mk (st := sCan) l11 c11 k11
  have b11 := F11.binds (ps := ["self", "m"]) fun _ _ _ _ _ _ us hl => match us, hl with | [_, _], _ => rfl
  have F12 := fun_mk (st := sRiders) l12 c12 k12
  have b12 := F12.binds (ps := ["self", "m"]) fun _ _ _ _ _ _ us hl => match us, hl with | [_, _], _ => rfl
  have F13 := fun_mk (st := sTurn) l13 c13 k13
  have b13 := F13.binds (ps := ["self", "riding"]) fun _ _ _ _ _ _ us hl => match us, hl with | [_, _], _ => rfl
  have F14 := fun_mk (st := sOwedBy) l14 c14 k14
  have b14 := F14.binds (ps := ["self", "person"]) fun _ _ _ _ _ _ us hl => match us, hl with | [_, _], _ => rfl
  have F15 := fun_mk (st := sFull) l15 c15 k15
  have b15 := F15.binds (ps := ["self"]) fun _ _ _ _ _ _ us hl => match us, hl with | [_], _ => rfl
  have F16 := fun_mk (st := sAdd) l16 c16 k16
  have b16 := F16.binds (ps := ["self", "riding", "driver"]) fun _ _ _ _ _ _ us hl => match us, hl with | [_, _, _], _ => rfl
  have F17 := fun_mk (st := sReckon) l17 c17 k17
  have b17 := F17.binds (ps := ["self", "riding", "driver", "times"]) fun _ _ _ _ _ _ us hl => match us, hl with | [_, _, _, _], _ => rfl
  have F18 := fun_mk (st := sShare) l18 c18 k18
  have b18 := F18.binds (ps := ["riding"]) fun _ _ _ _ _ _ us hl => match us, hl with | [_], _ => rfl
  have F19 := fun_mk (st := sFirstPlan) l19 c19 k19
  have b19 := F19.binds (ps := ["days", "people"]) fun _ _ _ _ _ _ us hl => match us, hl with | [_, _], _ => rfl
  have F20 := fun_mk (st := sOught) l20 c20 k20
  have b20 := F20.binds (ps := ["days", "people"]) fun _ _ _ _ _ _ us hl => match us, hl with | [_, _], _ => rfl
  have F21 := fun_mk (st := sFirstDriver) l21 c21 k21
  have b21 := F21.binds (ps := ["riding", "rest", "least", "most"]) fun _ _ _ _ _ _ us hl => match us, hl with | [_, _, _, _], _ => rfl
  have F22 := fun_mk (st := sCanDrive) l22 c22 k22
  have b22 := F22.binds (ps := ["person", "rest", "least", "most"]) fun _ _ _ _ _ _ us hl => match us, hl with | [_, _, _, _], _ => rfl
  have F23 := fun_mk (st := sOneLess) l23 c23 k23
  have b23 := F23.binds (ps := ["drives", "person"]) fun _ _ _ _ _ _ us hl => match us, hl with | [_, _], _ => rfl
  have F24 := fun_mk (st := sDaysDriven) l24 c24 k24
  have b24 := F24.binds (ps := ["days", "drives"]) fun _ _ _ _ _ _ us hl => match us, hl with | [_, _], _ => rfl
  have F25 := fun_mk (st := sFind) l25 c25 k25
  have b25 := F25.binds (ps := ["day", "days", "drivers", "left", "asked"]) fun _ _ _ _ _ _ us hl => match us, hl with | [_, _, _, _, _], _ => rfl
  have F26 := fun_mk (st := sTake) l26 c26 k26
  have b26 := F26.binds (ps := ["person", "days", "drivers", "left", "asked"]) fun _ _ _ _ _ _ us hl => match us, hl with | [_, _, _, _, _], _ => rfl
  have F27 := fun_mk (st := sAnswers) l27 c27 k27
  have b27 := F27.binds (ps := ["calls"]) fun _ _ _ _ _ _ us hl => match us, hl with | [_], _ => rfl
  have F28 := fun_mk (st := sEnd) l28 c28 k28
  have b28 := F28.binds (ps := ["calls", "place"]) fun _ _ _ _ _ _ us hl => match us, hl with | [_, _], _ => rfl
  have F29 := fun_mk (st := sAnswer) l29 c29 k29
  have b29 := F29.binds (ps := ["car", "call", "numbers"]) fun _ _ _ _ _ _ us hl => match us, hl with | [_, _, _], _ => rfl
  refine ⟨PySem.W.fnOf "answers" "answers" (defArgs sAnswers) (defBody sAnswers) (defScope sAnswers) .none kV27 dc27 pm27 an27 cd27 ct27, fun s us hu => match us, hu with | [_], _ => .of_eq rfl, fun base _ _ => ?_⟩
  have M_share : Fnc P w K mg base "share_of" 1 ["riding"] (spShare K) := ⟨_, _, ok_share F18 T, b18, PySem.W.mg_of X G a18, k18⟩
  have M_can : Mth P w K mg base C "can_ride" 1 ["self", "m"] (spCan C) := ⟨_, _, ok_can F11 T, b11, ⟨a11, i11, k11⟩⟩
  have M_riders : Mth P w K mg base C "riders" 1 ["self", "m"] (spRiders C) := ⟨_, _, ok_riders F12 T, b12, ⟨a12, i12, k12⟩⟩
  have M_there : Mth P w K mg base C "is_there" 1 ["self", "k"] (spThere C) := ⟨_, _, ok_there F10 T, b10, ⟨a10, i10, k10⟩⟩
  have M_owedBy : Mth P w K mg base C "owed_by" 1 ["self", "person"] (spOwedBy C) := ⟨_, _, ok_owedBy F14 T, b14, ⟨a14, i14, k14⟩⟩
  have M_turn : Mth P w K mg base C "whose_turn" 2 ["self", "riding"] (spTurn K C) := ⟨_, _, ok_turn F13 T M_owedBy, b13, ⟨a13, i13, k13⟩⟩
  have M_full : Mth P w K mg base C "is_full" 1 ["self"] (spFull C) := ⟨_, _, ok_full F15 T, b15, ⟨a15, i15, k15⟩⟩
  have M_reckL : Mth P w K mg base C "reckon" 2 ["self", "riding", "driver", "times"] (spReckL K C) := ⟨_, _, ok_reckL F17 T M_share, b17, ⟨a17, i17, k17⟩⟩
  have M_reckT : Mth P w K mg base C "reckon" 2 ["self", "riding", "driver", "times"] (spReckT K C) := ⟨_, _, ok_reckT F17 T M_share, b17, ⟨a17, i17, k17⟩⟩
  have M_add : Mth P w K mg base C "add_day" 3 ["self", "riding", "driver"] (spAdd C) := ⟨_, _, ok_add F16 T M_reckL, b16, ⟨a16, i16, k16⟩⟩
  have M_start : Mth P w K mg base C "start" 1 ["self", "n"] (spStart C) := ⟨_, _, ok_start F2 T, b2, ⟨a2, i2, k2⟩⟩
  have M_who : Mth P w K mg base C "who" 3 ["self", "m"] (spWho C) := ⟨_, _, ok_who F3 T M_can M_riders M_turn, b3, ⟨a3, i3, k3⟩⟩
  have M_ride : Mth P w K mg base C "ride" 4 ["self", "m"] (spRide C) := ⟨_, _, ok_ride F4 T M_can M_riders M_turn M_full M_add, b4, ⟨a4, i4, k4⟩⟩
  have M_rideBy : Mth P w K mg base C "ride_by" 4 ["self", "m", "k"] (spRideBy C) := ⟨_, _, ok_rideBy F5 T M_can M_riders M_full M_add, b5, ⟨a5, i5, k5⟩⟩
  have M_back : Mth P w K mg base C "back" 3 ["self"] (spBack C) := ⟨_, _, ok_back F6 T M_reckT, b6, ⟨a6, i6, k6⟩⟩
  have M_owes : Mth P w K mg base C "owes" 2 ["self", "k"] (spOwes C) := ⟨_, _, ok_owes F7 T M_there M_owedBy, b7, ⟨a7, i7, k7⟩⟩
  have M_count : Mth P w K mg base C "count" 2 ["self", "k"] (spCount C) := ⟨_, _, ok_count F8 T M_there, b8, ⟨a8, i8, k8⟩⟩
  have B := ok_both (P := P) (w := w) (base := base) T F25 b25 (PySem.W.mg_of X G a25) k25 F26 b26 (PySem.W.mg_of X G a26) k26 10
  have M_find : Fnc P w K mg base "find_driver" 21 ["day", "days", "drivers", "left", "asked"] (spFind 10) := ⟨_, _, B.2, b25, PySem.W.mg_of X G a25, k25⟩
  have M_oneLess : Fnc P w K mg base "one_less" 1 ["drives", "person"] spOneLess := ⟨_, _, ok_oneLess F23 T, b23, PySem.W.mg_of X G a23, k23⟩
  have M_driven : Fnc P w K mg base "days_driven" 22 ["days", "drives"] spDriven := ⟨_, _, ok_driven F24 T M_find, b24, PySem.W.mg_of X G a24, k24⟩
  have M_canDrive : Fnc P w K mg base "can_drive" 23 ["person", "rest", "least", "most"] spCanDrive := ⟨_, _, ok_canDrive F22 T M_oneLess M_driven, b22, PySem.W.mg_of X G a22, k22⟩
  have M_first : Fnc P w K mg base "first_driver" 24 ["riding", "rest", "least", "most"] spFirst := ⟨_, _, ok_first F21 T M_canDrive, b21, PySem.W.mg_of X G a21, k21⟩
  have M_ought : Fnc P w K mg base "ought_of" 2 ["days", "people"] spOught := ⟨_, _, ok_ought F20 T M_share, b20, PySem.W.mg_of X G a20, k20⟩
  have M_plans : Fnc P w K mg base "first_plan" 25 ["days", "people"] spPlans := ⟨_, _, ok_plans F19 T M_ought M_first M_oneLess, b19, PySem.W.mg_of X G a19, k19⟩
  have M_plan : Mth P w K mg base C "plan" 26 ["self", "days"] (spPlan C) := ⟨_, _, ok_plan F9 T M_can M_riders M_plans, b9, ⟨a9, i9, k9⟩⟩
  have M_end : Fnc P w K mg base "end_of_call" 1 ["calls", "place"] (spEnd K) := ⟨_, _, ok_end F28 T, b28, PySem.W.mg_of X G a28, k28⟩
  have M_answer : Fnc P w K mg base "answer" 27 ["car", "call", "numbers"] (spAnswer C) := ⟨_, _, ok_answer F29 T M_start M_who M_ride M_rideBy M_back M_owes M_count M_plan, b29, PySem.W.mg_of X G a29, k29⟩
  exact ok_answers F27 T ⟨mk, a1, i1, kc⟩ (ok_init F1 T) b1 M_end M_answer
end Df
open PySem PySem.W PyProof.Rows
set_option maxRecDepth 100000 in
set_option maxHeartbeats 0 in
theorem PySem.Challenge.cw_drivesfair_s01_answers_holds : PySem.Challenge.rw_drivesfair_s01_answers.Holds := by
  w_on; k_headS; (case hw => exact ⟨[.list [.int 0, .int 2]], by decide +kernel, by decide +kernel⟩)
  k_fillS
  refine L2.walk_specK (r := PySem.Challenge.rw_drivesfair_s01_answers) (k := 28) (CX := L2.CX0) (ps := ["calls"]) (sp := Df.spAnswers) (by decide +kernel) rfl rfl ⟨rfl, by decide, by decide⟩ (fun w h Y => PySem.W.kIn_of Y) ?F ?S (fun _ _ _ _ z => z)
  case F =>
    intro w mg fa h Y KX G hmg
    refine' Df.all_mk KX G hmg ?aC ?a1 ?i1 ?l1 ?c1 ?k1 ?a2 ?i2 ?l2 ?c2 ?k2 ?a3 ?i3 ?l3 ?c3 ?k3 ?a4 ?i4 ?l4 ?c4 ?k4 ?a5 ?i5 ?l5 ?c5 ?k5 ?a6 ?i6 ?l6 ?c6 ?k6 ?a7 ?i7 ?l7 ?c7 ?k7 ?a8 ?i8 ?l8 ?c8 ?k8 ?a9 ?i9 ?l9 ?c9 ?k9 ?a10 ?i10 ?l10 ?c10 ?k10 ?a11 ?i11 ?l11 ?c11 ?k11 ?a12 ?i12 ?l12 ?c12 ?k12 ?a13 ?i13 ?l13 ?c13 ?k13 ?a14 ?i14 ?l14 ?c14 ?k14 ?a15 ?i15 ?l15 ?c15 ?k15 ?a16 ?i16 ?l16 ?c16 ?k16 ?a17 ?i17 ?l17 ?c17 ?k17 ?a18 ?l18 ?c18 ?k18 ?a19 ?l19 ?c19 ?k19 ?a20 ?l20 ?c20 ?k20 ?a21 ?l21 ?c21 ?k21 ?a22 ?l22 ?c22 ?k22 ?a23 ?l23 ?c23 ?k23 ?a24 ?l24 ?c24 ?k24 ?a25 ?l25 ?c25 ?k25 ?a26 ?l26 ?c26 ?k26 ?a27 ?l27 ?c27 ?k27 ?a28 ?l28 ?c28 ?k28 ?a29 ?l29 ?c29 ?k29 ?pg ?hd ?po ?sa ?mk ?kc ?nf_people ?nf_days ?nf_drove ?nf_rode ?nf_ought ?z_len ?z_range ?z_tuple ?z_list ?z_max ?z_sum ?z_abs ?z_all ?g_FEWEST_PEOPLE ?g_MOST_PEOPLE ?g_MOST_DAYS ?g_MOST_DAYS_OF_A_PLAN ?g_PARTS_OF_A_DRIVE ?g_NOBODY ?g_NOT_AS_TOLD ?g_NOT_THERE ?g_NO_ROOM ?g_NO_DAYS ?g_START ?g_WHO ?g_RIDE ?g_RIDE_BY ?g_BACK ?g_OWES ?g_COUNT ?g_PLAN ?a_NUMBERS_BEHIND ?l_NUMBERS_BEHIND
    (case aC => k_is)
    (case a1 => k_is)
    (case i1 => k_is)
    (case l1 => k_is)
    (case c1 => k_is)
    (case k1 => k_is)
    (case a2 => k_is)
    (case i2 => k_is)
    (case l2 => k_is)
    (case c2 => k_is)
    (case k2 => k_is)
    (case a3 => k_is)
    (case i3 => k_is)
    (case l3 => k_is)
    (case c3 => k_is)
    (case k3 => k_is)
    (case a4 => k_is)
    (case i4 => k_is)
    (case l4 => k_is)
    (case c4 => k_is)
    (case k4 => k_is)
    (case a5 => k_is)
    (case i5 => k_is)
    (case l5 => k_is)
    (case c5 => k_is)
    (case k5 => k_is)
    (case a6 => k_is)
    (case i6 => k_is)
    (case l6 => k_is)
    (case c6 => k_is)
    (case k6 => k_is)
    (case a7 => k_is)
    (case i7 => k_is)
    (case l7 => k_is)
    (case c7 => k_is)
    (case k7 => k_is)
    (case a8 => k_is)
    (case i8 => k_is)
    (case l8 => k_is)
    (case c8 => k_is)
    (case k8 => k_is)
    (case a9 => k_is)
    (case i9 => k_is)
    (case l9 => k_is)
    (case c9 => k_is)
    (case k9 => k_is)
    (case a10 => k_is)
    (case i10 => k_is)
    (case l10 => k_is)
    (case c10 => k_is)
    (case k10 => k_is)
    (case a11 => k_is)
    (case i11 => k_is)
    (case l11 => k_is)
    (case c11 => k_is)
    (case k11 => k_is)
    (case a12 => k_is)
    (case i12 => k_is)
    (case l12 => k_is)
    (case c12 => k_is)
    (case k12 => k_is)
    (case a13 => k_is)
    (case i13 => k_is)
    (case l13 => k_is)
    (case c13 => k_is)
    (case k13 => k_is)
    (case a14 => k_is)
    (case i14 => k_is)
    (case l14 => k_is)
    (case c14 => k_is)
    (case k14 => k_is)
    (case a15 => k_is)
    (case i15 => k_is)
    (case l15 => k_is)
    (case c15 => k_is)
    (case k15 => k_is)
    (case a16 => k_is)
    (case i16 => k_is)
    (case l16 => k_is)
    (case c16 => k_is)
    (case k16 => k_is)
    (case a17 => k_is)
    (case i17 => k_is)
    (case l17 => k_is)
    (case c17 => k_is)
    (case k17 => k_is)
    (case a18 => k_is)
    (case l18 => k_is)
    (case c18 => k_is)
    (case k18 => k_is)
    (case a19 => k_is)
    (case l19 => k_is)
    (case c19 => k_is)
    (case k19 => k_is)
    (case a20 => k_is)
    (case l20 => k_is)
    (case c20 => k_is)
    (case k20 => k_is)
    (case a21 => k_is)
    (case l21 => k_is)
    (case c21 => k_is)
    (case k21 => k_is)
    (case a22 => k_is)
    (case l22 => k_is)
    (case c22 => k_is)
    (case k22 => k_is)
    (case a23 => k_is)
    (case l23 => k_is)
    (case c23 => k_is)
    (case k23 => k_is)
    (case a24 => k_is)
    (case l24 => k_is)
    (case c24 => k_is)
    (case k24 => k_is)
    (case a25 => k_is)
    (case l25 => k_is)
    (case c25 => k_is)
    (case k25 => k_is)
    (case a26 => k_is)
    (case l26 => k_is)
    (case c26 => k_is)
    (case k26 => k_is)
    (case a27 => k_is)
    (case l27 => k_is)
    (case c27 => k_is)
    (case k27 => k_is)
    (case a28 => k_is)
    (case l28 => k_is)
    (case c28 => k_is)
    (case k28 => k_is)
    (case a29 => k_is)
    (case l29 => k_is)
    (case c29 => k_is)
    (case k29 => k_is)
    (case pg => k_is)
    (case hd => k_is)
    (case po => k_is)
    (case sa => k_is)
    (case mk => k_is)
    (case kc => k_is)
    (case nf_people => k_is)
    (case nf_days => k_is)
    (case nf_drove => k_is)
    (case nf_rode => k_is)
    (case nf_ought => k_is)
    (case z_len => k_is)
    (case z_range => k_is)
    (case z_tuple => k_is)
    (case z_list => k_is)
    (case z_max => k_is)
    (case z_sum => k_is)
    (case z_abs => k_is)
    (case z_all => k_is)
    (case g_FEWEST_PEOPLE => k_is)
    (case g_MOST_PEOPLE => k_is)
    (case g_MOST_DAYS => k_is)
    (case g_MOST_DAYS_OF_A_PLAN => k_is)
    (case g_PARTS_OF_A_DRIVE => k_is)
    (case g_NOBODY => k_is)
    (case g_NOT_AS_TOLD => k_is)
    (case g_NOT_THERE => k_is)
    (case g_NO_ROOM => k_is)
    (case g_NO_DAYS => k_is)
    (case g_START => k_is)
    (case g_WHO => k_is)
    (case g_RIDE => k_is)
    (case g_RIDE_BY => k_is)
    (case g_BACK => k_is)
    (case g_OWES => k_is)
    (case g_COUNT => k_is)
    (case g_PLAN => k_is)
    (case a_NUMBERS_BEHIND => k_is)
    (case l_NUMBERS_BEHIND => k_is)
  case S =>
    intro K H xs a hO hwi hask hx
    cases hx with
    | cons h1 h2 =>
      cases h2
      cases h1 with
      | lst hs ha =>
        have e := L2.ints_dw a.1 _ ha
        subst e
        have q : ((Codec.inLen 0 30000 a.1 && a.1.all (Codec.inInt 0 4294967295)) && true) = true := hwi
        rw [Bool.and_eq_true, Bool.and_eq_true] at q
        exact ⟨_, a.1, rfl, hs, (Codec.inNat_iff.mp q.1.1).2, hask, fun H' p hp => .lst (L2.SqL.of hp) (L2.dw_ints _)⟩
#print axioms PySem.Challenge.cw_drivesfair_s01_answers_holds

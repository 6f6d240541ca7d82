import PyProof.Rows.All
import Wide.All
import OpenK.AllK
import Wide.FinOn
import PyProof.EqAt
import PyProof.EqKinds
import PyProof.NeKinds
import PyProof.TupleCall
import KE.BitLaws
import KE.OsGo
import PySem.Challenge.RW_keylogs_s02_make
set_option Elab.async false
set_option linter.all false
set_option maxRecDepth 100000
namespace L2
open PySem PySem.Spec PyProof.Rows
abbrev Key := Sum Int Str
def keyIs : Key → Value → Bool
  | .inl k, v => Value.isInt k v
  | .inr x, v => Value.isStrOf x v
def keyH (w : World) : Key → Int
  | .inl k => hashInt k
  | .inr x => hashStr w x
theorem keyIs_shape : ∀ {k : Key} {v : Value}, keyIs k v = true → (∃ i t, k = Sum.inl i ∧ v = Value.int i t) ∨ (∃ x t, k = Sum.inr x ∧ v = Value.str x t)
  | .inl i, v, h => by
    obtain ⟨t, e⟩ := Value.isInt_shape (k := i) (v := v) h
    exact .inl ⟨i, t, rfl, e⟩
  | .inr x, v, h => by
    obtain ⟨t, e⟩ := Value.isStrOf_shape (x := x) (v := v) h
    exact .inr ⟨x, t, rfl, e⟩
theorem key_ll (a b : Int) : decide ((Sum.inl a : Key) = Sum.inl b) = (a == b) := by
  by_cases e : a = b
  · subst e; simp
  · have h : ¬ (Sum.inl a : Key) = Sum.inl b := fun q => e (Sum.inl.inj q)
    rw [decide_eq_false h]
    exact (beq_eq_false_iff_ne.mpr e).symm
theorem key_rr (a b : Str) : decide ((Sum.inr a : Key) = Sum.inr b) = decide (a = b) := by
  by_cases e : a = b
  · subst e; simp
  · have h : ¬ (Sum.inr a : Key) = Sum.inr b := fun q => e (Sum.inr.inj q)
    rw [decide_eq_false h, decide_eq_false e]
theorem key_lr (a : Int) (b : Str) : decide ((Sum.inl a : Key) = Sum.inr b) = false := decide_eq_false (fun q => nomatch q)
theorem key_rl (a : Str) (b : Int) : decide ((Sum.inr a : Key) = Sum.inl b) = false := decide_eq_false (fun q => nomatch q)
def mixKind (prog : Program) (w : World) : PySem.KeyKind prog w Key where
  is := keyIs
  hash := keyH w
  inj := fun v a b ha hb => by
    rcases keyIs_shape ha with ⟨i, t, rfl, rfl⟩ | ⟨x, t, rfl, rfl⟩
    · rcases keyIs_shape hb with ⟨j, u, rfl, e⟩ | ⟨y, u, rfl, e⟩
      · injection e with e1 _; rw [e1]
      · exact nomatch e
    · rcases keyIs_shape hb with ⟨j, u, rfl, e⟩ | ⟨y, u, rfl, e⟩
      · exact nomatch e
      · injection e with e1 _; rw [e1]
  byValue := fun k v h => by
    rcases keyIs_shape h with ⟨i, t, rfl, rfl⟩ | ⟨x, t, rfl, rfl⟩ <;> rfl
  pyHash := fun hv h => by
    rcases keyIs_shape hv with ⟨i, t, rfl, rfl⟩ | ⟨x, t, rfl, rfl⟩
    · exact wpAny_pyHash_int h
    · exact wpAny_pyHash_str h
  eqBool := fun hu hv h => by
    rcases keyIs_shape hu with ⟨i, t, rfl, rfl⟩ | ⟨x, t, rfl, rfl⟩
    · rcases keyIs_shape hv with ⟨j, u, rfl, rfl⟩ | ⟨y, u, rfl, rfl⟩
      · rw [key_ll] at h; exact wpAny_eqBool_int h
      · rw [key_lr] at h; exact SeqAt.EqAt.int_str i t y u _ _ _ _ h
    · rcases keyIs_shape hv with ⟨j, u, rfl, rfl⟩ | ⟨y, u, rfl, rfl⟩
      · rw [key_rl] at h; exact SeqAt.EqAt.str_int x t j u _ _ _ _ h
      · rw [key_rr] at h; exact wpAny_eqBool_str h
  «strs» := fun k x t v h => by
    rcases keyIs_shape h with ⟨i, u, rfl, e⟩ | ⟨y, u, rfl, e⟩
    · exact nomatch e
    · injection e with e1 _
      subst e1
      cases v <;> rfl
end L2
namespace L2
open PySem PySem.Spec PyProof.Rows
inductive V where
  | non | bl (b : Bool) | int (i : Int) | str (x : Str) | byt (b : Array UInt8) | flt (b : UInt64) | ref (a : Addr) | ty (n : String)
  deriving DecidableEq
def RelV : V → Value → Prop
  | .non, u => u = Value.none
  | .bl b, u => u = Value.bool b
  | .int i, u => ∃ t, u = Value.int i t
  | .str x, u => ∃ t, u = Value.str x t
  | .byt b, u => ∃ t, u = Value.bytes b t
  | .flt b, u => ∃ t, u = Value.float b t
  | .ref a, u => u = Value.ref a
  | .ty n, u => u = Value.type n
abbrev Vals : List V → List Value → Prop := Paired RelV
theorem Vals.length {xs : List V} {us : List Value} (r : Vals xs us) : xs.length = us.length := Paired.length r
theorem Vals.get : ∀ {xs : List V} {us : List Value} {i : Nat} {x : V}, Vals xs us → xs[i]? = some x → ∃ u, us[i]? = some u ∧ RelV x u
  | _, _, _, _, .nil, e => by simp at e
  | _, _, 0, _, .cons r _, e => by simp at e; subst e; exact ⟨_, rfl, r⟩
  | _, _, i + 1, x, .cons _ t, e => by
    obtain ⟨u, h1, h2⟩ := Vals.get (i := i) (x := x) t (by simpa using e)
    exact ⟨u, by simpa using h1, h2⟩
theorem Vals.set {x : V} {u : Value} (r : RelV x u) : ∀ {xs : List V} {us : List Value} (i : Nat), Vals xs us → Vals (xs.set i x) (us.set i u)
  | _, _, _, .nil => .nil
  | _, _, 0, .cons _ t => .cons r t
  | _, _, i + 1, .cons q t => .cons q (Vals.set r i t)
theorem Vals.append : ∀ {xs ys : List V} {us ws : List Value}, Vals xs us → Vals ys ws → Vals (xs ++ ys) (us ++ ws)
  | _, _, _, _, .nil, s => s
  | _, _, _, _, .cons r t, s => .cons r (Vals.append t s)
theorem Vals.take : ∀ {xs : List V} {us : List Value} (n : Nat), Vals xs us → Vals (xs.take n) (us.take n)
  | _, _, 0, _ => .nil
  | _, _, _ + 1, .nil => .nil
  | _, _, n + 1, .cons r t => .cons r (Vals.take n t)
theorem Vals.drop : ∀ {xs : List V} {us : List Value} (n : Nat), Vals xs us → Vals (xs.drop n) (us.drop n)
  | _, _, 0, r => r
  | _, _, _ + 1, .nil => .nil
  | _, _, n + 1, .cons _ t => Vals.drop n t
theorem Vals.none_of : ∀ {xs : List V} {us : List Value} {i : Nat}, Vals xs us → xs[i]? = none → us[i]? = none := fun {xs us i} r e => by
  have h1 := r.length
  have h2 : xs.length ≤ i := List.getElem?_eq_none_iff.mp e
  exact List.getElem?_eq_none_iff.mpr (by omega)
def RelO : Option V → Option Value → Prop
  | some v, some u => RelV v u
  | none, none => True
  | _, _ => False
def KV {κ : Type} : List (κ × V) → List (κ × Value) → Prop := Paired fun (p : κ × V) (q : κ × Value) => p.1 = q.1 ∧ RelV p.2 q.2
def kV : Key → V
  | .inl i => .int i
  | .inr x => .str x
inductive HO where
  /-- a list -/
  | lst (xs : List V)
  /-- a tuple (never changes) -/
  | tup (xs : List V)
  /-- a dict whose keys are ints and texts; one whose keys are tuples of ints and texts (the empty one is both) -/
  | dK (kvs : List (Key × V)) | dT (kvs : List (List Key × V))
  /-- a set of ints: its members, its size -/
  | set (S : Int → Bool) (n : Nat)
  /-- an instance of the class at C, its dict at dx, its attributes -/
  | ins (C dx : Addr) (fs : List (Str × V))
  /-- the dict of the instance at x -/
  | own (x : Addr)
  /-- the dict of an exception -/
  | xd (fs : List (Str × V))
  /-- a bound method, f of x -/
  | met (f x : Addr)
  /-- a range object lo, lo + 1, .. below hi -/
  | rng (lo hi : Int)
  /-- a thing that is known to the object (the script; a dict while a loop walks it): read, never written while it is so -/
  | frz (o : Obj) (u : HO)
  /-- a code object's table -/
  | tbl (ps : Array Value)
  /-- any other thing, by what is true of its one object (a def of one's own: SetO a S n := HO.ext fun h => ..) -/
  | ext (φ : Heap → Prop)
abbrev Hp := Addr → Option HO
def upd (H : Hp) (a : Addr) (o : HO) : Hp := fun b => if b = a then some o else H b
theorem upd_same {H : Hp} {a : Addr} {o : HO} : upd H a o a = some o := by unfold upd; rw [if_pos rfl]
theorem upd_ne {H : Hp} {a b : Addr} {o : HO} (h : b ≠ a) : upd H a o b = H b := by unfold upd; rw [if_neg h]
theorem ne_of {H : Hp} {a b : Addr} {o u : HO} (h : H a = some o) (h' : H b = some u) (d : o ≠ u) : a ≠ b := by
  intro e; subst e; rw [h] at h'; exact d (Option.some.inj h')
theorem ne_of_none {H : Hp} {a b : Addr} {o : HO} (h : H a = some o) (h' : H b = none) : a ≠ b := by
  intro e; subst e; rw [h] at h'; cases h'
section
variable (P : Program) (w : World)
def ObjOk (H : Hp) (h : Heap) (a : Addr) : HO → Prop
  | .lst xs => xs.length ≤ sizeLine ∧ ∃ (its : List Value) (n : Nat), Vals xs its ∧ h.get? a = some { cls := .type "list", data := .seq its.toArray n }
  | .tup xs => xs.length ≤ sizeLine ∧ ∃ its : List Value, Vals xs its ∧ IsTup h a its.toArray
  | .dK kvs => kvs.length ≤ sizeLine ∧ (a == sysModules) = false ∧ ∃ vs, KV kvs vs ∧ h.DictOf (mixKind P w) a vs
  | .dT kvs => kvs.length ≤ sizeLine ∧ (a == sysModules) = false ∧ ∃ xs : List (List Key × Addr × Value),
      Paired (fun (p : List Key × V) (q : List Key × Addr × Value) => p.1 = q.1 ∧ H q.2.1 = some (.tup (p.1.map kV)) ∧ RelV p.2 q.2.2) kvs xs ∧
      ∃ o es ep, h.get? a = some o ∧ o.ExactDict ∧ o.data = .dict es ep ∧ es.toList = xs.map (entryOfKey (tupleKind (mixKind P w))) ∧ (xs.map (·.1)).Nodup
  | .set S n => h.SetOf (intKind P w) a S n
  | .ins C dx fs => H dx = some (.own a) ∧ fs.length ≤ 1000 ∧ dx ≠ a ∧ h.get? a = some (PySem.W.instObj C dx) ∧
      ∃ mA, h.Ns1 dx mA ∧ (∀ f, RelO (fs.lookup f) (mA f)) ∧ PySem.Within mA (fs.map (·.1))
  | .own _ => ∃ o, h.get? a = some o
  | .xd fs => ∃ mA, h.Ns1 a mA ∧ ∀ f, RelO (fs.lookup f) (mA f)
  | .rng lo hi => ∃ t u v, h.get? a = some { cls := .type "range", data := .fields #[.int lo t, .int hi u, .int 1 v] }
  | .frz o u => h.get? a = some o ∧ ObjOk H h a u
  | .tbl ps => h.get? a = some { cls := .none, data := .fields ps }
  | .met f x => h.get? a = some (PySem.W.methodObj (.ref f) (.ref x))
  | .ext φ => φ h ∧ (∃ o, h.get? a = some o) ∧ ∀ h1 h2 : Heap, φ h1 → (∀ o, h1.get? a = some o → h2.get? a = some o) → φ h2
def HOk (H : Hp) (h : Heap) : Prop := ∀ a o, H a = some o → ObjOk P w H h a o
end
section
variable {P : Program} {w : World} {H H' : Hp} {h h' : Heap} {a : Addr} {o : HO}
theorem ObjOk.lt (x : ObjOk P w H h a o) : a < h.objs.size := by
  cases o with
  | lst xs => obtain ⟨_, _, _, _, e⟩ := x; exact Heap.lt_size e
  | tup xs => obtain ⟨_, _, _, p⟩ := x; exact p.lt
  | dK kvs => obtain ⟨_, _, _, _, o, _, _, e, _⟩ := x; exact Heap.lt_size e
  | dT kvs => obtain ⟨_, _, _, _, o, _, _, e, _⟩ := x; exact Heap.lt_size e
  | set S n => obtain ⟨o, _, _, _, e, _⟩ := x; exact Heap.lt_size e
  | ins C dx fs => obtain ⟨_, _, _, e, _⟩ := x; exact Heap.lt_size e
  | own y => obtain ⟨_, e⟩ := x; exact Heap.lt_size e
  | xd fs => obtain ⟨_, ⟨_, _, _, e, _⟩, _⟩ := x; exact Heap.lt_size e
  | rng lo hi => obtain ⟨_, _, _, e⟩ := x; exact Heap.lt_size e
  | frz ob u => obtain ⟨e, _⟩ := x; exact Heap.lt_size e
  | tbl ps => exact Heap.lt_size (show h.get? a = some _ from x)
  | met f y => exact Heap.lt_size (show h.get? a = some _ from x)
  | ext φ => obtain ⟨_, ⟨_, e⟩, _⟩ := x; exact Heap.lt_size e
theorem Paired.mapP {α β : Type} {F G : α → β → Prop} : ∀ {l₁ : List α} {l₂ : List β}, Paired F l₁ l₂ → (∀ a b, F a b → G a b) → Paired G l₁ l₂
  | _, _, .nil, _ => .nil
  | _, _, .cons r t, f => .cons (f _ _ r) (Paired.mapP t f)
theorem ObjOk.stay (x : ObjOk P w H h a o) (k : ∀ b u, (b = a ∨ H b = some (.own a)) → h.get? b = some u → h'.get? b = some u)
    (ho : ∀ b, H b = some (.own a) → H' b = some (.own a)) (ht : ∀ b xs, H b = some (.tup xs) → H' b = some (.tup xs)) : ObjOk P w H' h' a o := by
  induction o with
  | lst xs => obtain ⟨z, its, n, r, e⟩ := x; exact ⟨z, its, n, r, k _ _ (.inl rfl) e⟩
  | tup xs => obtain ⟨z, its, r, ob, e, c⟩ := x; exact ⟨z, its, r, ob, k _ _ (.inl rfl) e, c⟩
  | dK kvs => obtain ⟨z, y, vs, r, ob, es, ep, e, c⟩ := x; exact ⟨z, y, vs, r, ob, es, ep, k _ _ (.inl rfl) e, c⟩
  | dT kvs =>
    obtain ⟨z, y, xs, r, ob, es, ep, e, c⟩ := x
    exact ⟨z, y, xs, Paired.mapP r fun p q z => ⟨z.1, ht _ _ z.2.1, z.2.2⟩, ob, es, ep, k _ _ (.inl rfl) e, c⟩
  | set S n => obtain ⟨ob, es, ep, t, e, c⟩ := x; exact ⟨ob, es, ep, t, k _ _ (.inl rfl) e, c⟩
  | ins C dx fs =>
    obtain ⟨d, z, ne, e, mA, ⟨od, es, ep, e2, c⟩, r⟩ := x
    exact ⟨ho _ d, z, ne, k _ _ (.inl rfl) e, mA, ⟨od, es, ep, k _ _ (.inr d) e2, c⟩, r⟩
  | own y => obtain ⟨ob, e⟩ := x; exact ⟨ob, k _ _ (.inl rfl) e⟩
  | xd fs => obtain ⟨mA, ⟨od, es, ep, e, c⟩, r⟩ := x; exact ⟨mA, ⟨od, es, ep, k _ _ (.inl rfl) e, c⟩, r⟩
  | rng lo hi => obtain ⟨t, u, v, e⟩ := x; exact ⟨t, u, v, k _ _ (.inl rfl) e⟩
  | frz ob u ih => obtain ⟨e, q⟩ := x; exact ⟨k _ _ (.inl rfl) e, ih q⟩
  | tbl ps =>
    have e : h.get? a = some { cls := .none, data := .fields ps } := x
    show h'.get? a = some { cls := .none, data := .fields ps }
    exact k a _ (.inl rfl) e
  | met f y =>
    have e : h.get? a = some (PySem.W.methodObj (.ref f) (.ref y)) := x
    show h'.get? a = some (PySem.W.methodObj (.ref f) (.ref y))
    exact k a _ (.inl rfl) e
  | ext φ => obtain ⟨p, ⟨o, e⟩, st⟩ := x; exact ⟨st _ _ p fun o q => k _ _ (.inl rfl) q, ⟨o, k _ _ (.inl rfl) e⟩, st⟩
theorem HOk.lt (x : HOk P w H h) (e : H a = some o) : a < h.objs.size := (x a o e).lt
theorem HOk.fresh (x : HOk P w H h) (e : h.objs.size ≤ a) : H a = none := by
  cases q : H a with
  | none => rfl
  | some u => exact absurd (Nat.lt_of_lt_of_le (x.lt q) e) (Nat.lt_irrefl _)
theorem HOk.kept (x : HOk P w H h) (k : ∀ b u, h.get? b = some u → h'.get? b = some u) : HOk P w H h' := fun a o e =>
  (x a o e).stay (fun b u _ q => k b u q) (fun _ q => q) fun _ _ q => q
theorem HOk.laid (x : HOk P w H h) (k : ∀ b u, h.get? b = some u → h'.get? b = some u) (hp : h.objs.size ≤ a) (new : ObjOk P w (upd H a o) h' a o) : HOk P w (upd H a o) h' := fun b u e => by
  have hn := x.fresh hp
  by_cases hb : b = a
  · subst hb; rw [upd_same] at e; cases e; exact new
  · rw [upd_ne hb] at e
    exact (x b u e).stay (fun c v _ q => k c v q) (fun c q => by rw [upd_ne (ne_of_none q hn)]; exact q) fun c xs q => by rw [upd_ne (ne_of_none q hn)]; exact q
end
def Rd (H : Hp) (a : Addr) (u : HO) : Prop := H a = some u ∨ ∃ o, H a = some (.frz o u)
theorem Rd.of {H : Hp} {a : Addr} {u : HO} (h : H a = some u) : Rd H a u := .inl h
theorem Rd.ok {P : Program} {w : World} {H : Hp} {h : Heap} {a : Addr} {u : HO} (r : Rd H a u) (x : HOk P w H h) : ObjOk P w H h a u := by
  rcases r with r | ⟨o, r⟩
  · exact x a u r
  · obtain ⟨_, q⟩ := x a _ r
    exact q
def Mut : Option HO → Prop
  | some (.lst _) => True
  | some (.dK _) => True
  | some (.dT _) => True
  | some (.set _ _) => True
  | some (.ins _ _ _) => True
  | some (.ext _) => True
  | _ => False
section
variable {P : Program} {w : World} {H : Hp} {h h' : Heap} {x e : Addr} {o' : HO}
theorem HOk.write (ok : HOk P w H h) (mu : Mut (H x)) (he : e = x ∨ H e = some (.own x)) (k : ∀ b u, b ≠ e → h.get? b = some u → h'.get? b = some u) (heo : ∃ u, h'.get? e = some u)
    (new : ObjOk P w (upd H x o') h' x o') : HOk P w (upd H x o') h' := fun b u q => by
  have nown : ∀ c y, H c = some (.own y) → c ≠ x := fun c y r z => by subst z; rw [r] at mu; exact mu
  have ntup : ∀ c xs, H c = some (.tup xs) → c ≠ x := fun c xs r z => by subst z; rw [r] at mu; exact mu
  by_cases hb : b = x
  · subst hb; rw [upd_same] at q; cases q; exact new
  · rw [upd_ne hb] at q
    by_cases hbe : b = e
    · have q' : H b = some (.own x) := by
        rcases he with z | z
        · exact absurd (hbe.trans z) hb
        · rw [hbe]; exact z
      rw [q] at q'; cases q'
      obtain ⟨v, hv⟩ := heo
      exact ⟨v, by rw [hbe]; exact hv⟩
    · refine (ok b u q).stay (fun c v hc r => k c v ?_ r) (fun c r => by rw [upd_ne (nown c b r)]; exact r) fun c xs r => by rw [upd_ne (ntup c xs r)]; exact r
      rcases hc with rfl | hc
      · exact hbe
      · rintro rfl
        rcases he with z | z
        · exact nown c b hc z
        · rw [hc] at z; cases z; exact hb rfl
end
structure Un (fs ex : List Addr) (H H' : Hp) (h h' : Heap) : Prop where
  keep : ∀ b o, h.get? b = some o → H b = none → b ∉ fs → b ∉ ex → h'.get? b = some o
  slot : ∀ b o, h.get? b = some o → H b = none → b ∈ fs → b ∉ ex → ∃ sl, h'.get? b = some { o with slots := sl }
  free : ∀ b o, h.get? b = some o → H b = none → b ∉ ex → H' b = none
  there : ∀ b o, h.get? b = some o → b ∉ ex → ∃ o', h'.get? b = some o'
  tups : ∀ b xs, H b = some (.tup xs) → H' b = some (.tup xs)
  frzs : ∀ b o u, H b = some (.frz o u) → H' b = some (.frz o u)
  tbls : ∀ b ps, H b = some (.tbl ps) → ∃ more, H' b = some (.tbl (ps ++ more))
section
variable {fs fs' ex ex' : List Addr} {H H1 H2 : Hp} {h h1 h2 h' : Heap} {a x e : Addr} {o : HO}
theorem Un.any (u : Un fs ex H H1 h h1) {b : Addr} {ob : Obj} (q : h.get? b = some ob) (n : H b = none) (hx : b ∉ ex) : ∃ sl, h1.get? b = some { ob with slots := sl } := by
  by_cases hb : b ∈ fs
  · exact u.slot b ob q n hb hx
  · exact ⟨ob.slots, u.keep b ob q n hb hx⟩
theorem Un.trans (a : Un fs ex H H1 h h1) (b : Un fs ex H1 H2 h1 h2) : Un fs ex H H2 h h2 where
  keep := fun c ob q n hc hx => b.keep c ob (a.keep c ob q n hc hx) (a.free c ob q n hx) hc hx
  slot := fun c ob q n hc hx => by
    obtain ⟨sl, e1⟩ := a.slot c ob q n hc hx
    obtain ⟨sl', e2⟩ := b.slot c _ e1 (a.free c ob q n hx) hc hx
    exact ⟨sl', e2⟩
  free := fun c ob q n hx => by
    obtain ⟨o', e1⟩ := a.there c ob q hx
    exact b.free c o' e1 (a.free c ob q n hx) hx
  there := fun c ob q hx => by
    obtain ⟨o', e1⟩ := a.there c ob q hx
    exact b.there c o' e1 hx
  tups := fun c xs q => b.tups c xs (a.tups c xs q)
  frzs := fun c ob xs q => b.frzs c ob xs (a.frzs c ob xs q)
  tbls := fun c ps q => by
    obtain ⟨m1, e1⟩ := a.tbls c ps q
    obtain ⟨m2, e2⟩ := b.tbls c _ e1
    exact ⟨m1 ++ m2, by rw [e2, Array.append_assoc]⟩
theorem Un.kept (k : ∀ b u, h.get? b = some u → h'.get? b = some u) : Un fs ex H H h h' :=
  ⟨fun b ob q _ _ _ => k b ob q, fun b ob q _ _ _ => ⟨ob.slots, k b ob q⟩, fun _ _ _ n _ => n, fun b ob q _ => ⟨ob, k b ob q⟩, fun _ _ q => q, fun _ _ _ q => q, fun _ ps q => ⟨#[], by rw [q]; simp⟩⟩
theorem Un.refl : Un fs ex H H h h := Un.kept fun _ _ q => q
theorem Un.laid (k : ∀ b u, h.get? b = some u → h'.get? b = some u) (hp : h.objs.size ≤ a) (hn : H a = none) : Un fs ex H (upd H a o) h h' where
  keep := fun b u q _ _ _ => k b u q
  slot := fun b u q _ _ _ => ⟨u.slots, k b u q⟩
  free := fun b u q n _ => by rw [upd_ne (Nat.ne_of_lt (Nat.lt_of_lt_of_le (Heap.lt_size q) hp))]; exact n
  there := fun b u q _ => ⟨u, k b u q⟩
  tups := fun b xs q => by rw [upd_ne (ne_of_none q hn)]; exact q
  frzs := fun b u xs q => by rw [upd_ne (ne_of_none q hn)]; exact q
  tbls := fun b ps q => ⟨#[], by rw [upd_ne (ne_of_none q hn), q]; simp⟩
theorem Un.write (mu : Mut (H x)) (he : e = x ∨ H e = some (.own x)) (k : ∀ b u, b ≠ e → h.get? b = some u → h'.get? b = some u) (heo : ∃ u, h'.get? e = some u) : Un fs ex H (upd H x o) h h' := by
  have hx : ∀ b, H b = none → b ≠ x := fun b n z => by subst z; rw [n] at mu; exact mu
  have hb : ∀ b, H b = none → b ≠ e := fun b n z => by
    subst z
    rcases he with r | r
    · exact hx b n r
    · rw [n] at r; cases r
  have hm : ∀ b u, H b = some u → ¬ Mut (some u) → b ≠ x := fun b u q nm z => by subst z; rw [q] at mu; exact nm mu
  refine ⟨fun b u q n _ _ => k b u (hb b n) q, fun b u q n _ _ => ⟨u.slots, k b u (hb b n) q⟩, fun b u q n _ => by rw [upd_ne (hx b n)]; exact n, fun b u q _ => ?_,
    fun b xs q => by rw [upd_ne (hm b _ q fun z => z)]; exact q, fun b u xs q => by rw [upd_ne (hm b _ q fun z => z)]; exact q, fun b ps q => ⟨#[], by rw [upd_ne (hm b _ q fun z => z), q]; simp⟩⟩
  by_cases hbe : b = e
  · subst hbe; exact heo
  · exact ⟨u, k b u hbe q⟩
theorem Un.mono (u : Un fs ex H H1 h h1) (hs : ∀ b ∈ fs, b ∈ fs') (hx : ∀ b ∈ ex, b ∈ ex') : Un fs' ex' H H1 h h1 :=
  ⟨fun b ob q n hb he => u.keep b ob q n (fun z => hb (hs b z)) fun z => he (hx b z), fun _ _ q n _ he => u.any q n fun z => he (hx _ z), fun b ob q n he => u.free b ob q n fun z => he (hx b z), fun b ob q he => u.there b ob q fun z => he (hx b z), u.tups, u.frzs, u.tbls⟩
end
def trk (h : Heap) (H : Hp) : List Addr := (List.range h.objs.size).filter fun a => (H a).isSome
def hidT (h : Heap) (H : Hp) : Heap := PySem.W.hideAll h (trk h H)
theorem hidT_size (h : Heap) (H : Hp) : (hidT h H).objs.size = h.objs.size := PySem.W.hideAll_size _ _
theorem hidT_get {h : Heap} {H : Hp} {b : Addr} {o : Obj} (e : h.get? b = some o) (n : H b = none) : (hidT h H).get? b = some o :=
  PySem.W.hideAll_get _ e fun hm => by
    have q : (H b).isSome = true := (List.mem_filter.mp hm).2
    rw [n] at q; simp at q
theorem of_hidT {h : Heap} {H : Hp} {b : Addr} {o : Obj} (e : (hidT h H).get? b = some o) : h.get? b = some o ∧ H b = none := by
  have e' : h.get? b = some o := PySem.W.of_hideAll (trk h H) e
  refine ⟨e', ?_⟩
  cases q : H b with
  | none => rfl
  | some x =>
    have hm : b ∈ trk h H := List.mem_filter.mpr ⟨List.mem_range.mpr (Heap.lt_size e'), by simp [q]⟩
    have z : (hidT h H).get? b = none := PySem.W.hideAll_none (trk h H) hm
    rw [z] at e; cases e
def allNews (g h : Heap) (L : Addr) : List (Addr × Obj) := (List.range h.objs.size).filterMap fun a => if a = L ∨ (g.get? a).isSome = true then none else (h.get? a).map fun o => (a, o)
def rest (g h : Heap) (L d : Addr) : List (Addr × Obj) := (allNews g h L).filter fun p => decide (p.1 ≠ d)
end L2
namespace L2
open PySem PySem.Spec PyProof.Rows
structure Mod (K : PySem.W.Frag) (mg : Str → Option Value) (base : Heap) : Prop where
  kin : K.In base
  glob : base.Ns mainGlobals mg
  blt : ∃ mb, base.Ns builtinsNs mb ∧ ∀ x : Str, x ≠ "__name__" → mb x = bootBuiltins x
  nolimit : base.NoLimit
structure Cx where
  prog : Program
  w : World
  K : PySem.W.Frag
  mg : Str → Option Value
  base : Heap
  A : Around
  N : List Str
  s₀ : Shared
  H₀ : Hp
  env : Env
  outer : List Env
  stack : List Env
  ex : List Addr
  fn : Str → Bool
  calm : Bool
  pn : List (Addr × Obj)
  xe : Value → Shared → Prop
def frs (l : List Env) : List Addr := l.filterMap (·.frame)
abbrev Cx.fs (X : Cx) : List Addr := frs X.outer
def Vis (sc : Scope) (x : Str) : Prop := sc.names.lookup x = some .local ∨ sc.names.lookup x = some .cell ∨ sc.names.lookup x = some .free
def Loc (sc : Scope) (x : Str) : Prop := sc.names.lookup x = some .local ∨ sc.names.lookup x = some .cell
def Look (env : Env) (h : Heap) (m : Str → Option Value) (x : Str) (u : Value) : Prop :=
  (env.kindOf x = some .local ∧ m x = some u) ∨ ((env.kindOf x = some .cell ∨ env.kindOf x = some .free) ∧ ∃ c, env.cells.lookup x = some c ∧ h.IsCell c (some u))
structure Cx.Ok (X : Cx) : Prop where
  mod : Mod X.K X.mg X.base
  kind : X.env.scope.kind = .function
  glob : X.env.globals = mainGlobals
  blt : X.env.builtins = builtinsNs
  above : X.s₀.heap.objs.size ≤ X.env.locals
  inj : ∀ x y c, X.env.cells.lookup x = some c → X.env.cells.lookup y = some c → x = y
  has : ∀ x, (X.env.kindOf x = some .cell ∨ X.env.kindOf x = some .free) → ∃ c, X.env.cells.lookup x = some c
  cab : ∀ x c, X.fn x = true → X.env.cells.lookup x = some c → X.s₀.heap.objs.size ≤ c
  hd : X.calm = true → X.A.handled = none
  frames : X.A.frames = some X.stack
  stk : X.stack = X.outer ∨ (X.stack = X.env :: X.outer ∧ X.env.frame = some X.env.locals)
  exf : ∀ b ∈ X.ex, b ≠ X.env.locals ∧ ∀ x c, X.env.cells.lookup x = some c → c ≠ b
  bs : ∀ b o, X.base.get? b = some o → X.s₀.heap.get? b = some o ∧ X.H₀ b = none
  bsz : X.base.objs.size ≤ X.s₀.heap.objs.size
  noex : ∀ b o, X.base.get? b = some o → b ∉ X.ex
  exfs : ∀ b ∈ X.ex, b ∉ X.fs
  funs : X.s₀.heap.FunFrames X.base X.outer
  frf : ∀ b ∈ X.fs, X.H₀ b = none
structure Inv (X : Cx) (pins : List (Addr × Obj)) (σ : List (Option V)) (H : Hp) (s : Shared) : Prop where
  ok : X.Ok
  os : s.os = X.s₀.os
  bare : AllBare s.gens
  base : Un X.fs X.ex X.H₀ H X.s₀.heap s.heap
  loc : ∃ m, s.heap.Ns X.env.locals m ∧ ∀ (i : Nat) (x : Str) (v : V), X.N[i]? = some x → σ[i]? = some (some v) → Vis X.env.scope x → ∃ u, RelV v u ∧ Look X.env s.heap m x u
  cell : ∀ x c, X.env.cells.lookup x = some c → ∃ v, s.heap.IsCell c v
  free : H X.env.locals = none
  freeC : ∀ x c, X.env.cells.lookup x = some c → H c = none
  pin : ∀ p ∈ X.pn ++ pins, s.heap.get? p.1 = some p.2 ∧ H p.1 = none ∧ p.1 ≠ X.env.locals ∧ p.1 ∉ X.fs ∧ ∀ v, p.2.data ≠ .cell v
  hok : HOk X.prog X.w H s.heap
  len : σ.length = X.N.length
section
variable {X : Cx} {pins : List (Addr × Obj)} {σ : List (Option V)} {H H' : Hp} {s : Shared} {h' : Heap}
theorem Cx.Ok.nofr (ok : X.Ok) {b : Addr} {o : Obj} (e : X.base.get? b = some o) : b ∉ X.fs := fun hb => by
  have := (ok.funs.mem hb).1
  rw [e] at this; cases this
theorem Inv.bs (I : Inv X pins σ H s) : ∀ b o, X.base.get? b = some o → s.heap.get? b = some o ∧ H b = none := fun b o e =>
  ⟨I.base.keep b o (I.ok.bs b o e).1 (I.ok.bs b o e).2 (I.ok.nofr e) (I.ok.noex b o e), I.base.free b o (I.ok.bs b o e).1 (I.ok.bs b o e).2 (I.ok.noex b o e)⟩
theorem Inv.bk (I : Inv X pins σ H s) : ∀ b o, X.base.get? b = some o → s.heap.get? b = some o := fun b o e => (I.bs b o e).1
theorem Inv.mod (I : Inv X pins σ H s) : Mod X.K X.mg X.base := I.ok.mod
theorem Inv.kIn (I : Inv X pins σ H s) : X.K.In s.heap := I.ok.mod.kin.keeps I.bk
theorem Inv.nolimit (I : Inv X pins σ H s) : s.heap.NoLimit := I.ok.mod.nolimit.keeps I.bk
theorem Inv.lt (I : Inv X pins σ H s) : X.env.locals < s.heap.objs.size := let ⟨_, hn, _⟩ := I.loc; hn.lt
theorem Inv.sz (I : Inv X pins σ H s) : X.s₀.heap.objs.size ≤ s.heap.objs.size := Nat.le_trans I.ok.above (Nat.le_of_lt I.lt)
theorem Inv.nofs (I : Inv X pins σ H s) {a : Addr} (h : s.heap.objs.size ≤ a) : a ∉ X.fs := fun hb => by
  obtain ⟨_, o, ho, _⟩ := I.ok.funs.mem hb
  exact absurd (Nat.lt_of_lt_of_le (Heap.lt_size ho) (Nat.le_trans I.sz h)) (Nat.lt_irrefl _)
theorem Inv.cne (I : Inv X pins σ H s) : ∀ x c, X.env.cells.lookup x = some c → c ≠ X.env.locals := fun x c e z => by
  obtain ⟨v, o, ho, hd⟩ := I.cell x c e
  obtain ⟨m, ⟨o', es, ep, ho', hd', _⟩, _⟩ := I.loc
  rw [z, ho'] at ho; cases ho; rw [hd'] at hd; cases hd
theorem Inv.funs (I : Inv X pins σ H s) : s.heap.FunFrames X.base X.outer := by
  have all : ∀ (l : List Env), (∀ b ∈ frs l, b ∈ X.fs) → X.s₀.heap.FunFrames X.base l → s.heap.FunFrames X.base l := by
    intro l
    induction l with
    | nil => intro _ _; trivial
    | cons env r ih =>
      intro hs hl
      obtain ⟨hk, ⟨L, o, hf, hn, ho, hd⟩, hr⟩ := hl
      have hL : L ∈ X.fs := hs L (by unfold frs; rw [List.filterMap_cons, hf]; exact List.mem_cons_self)
      obtain ⟨sl, e⟩ := I.base.slot L o ho (I.ok.frf L hL) hL fun z => I.ok.exfs L z hL
      exact ⟨hk, ⟨L, _, hf, hn, e, hd⟩, ih (fun b hb => hs b (by unfold frs; rw [List.filterMap_cons, hf]; exact List.mem_cons_of_mem _ hb)) hr⟩
  exact all X.outer (fun _ hb => hb) I.ok.funs
theorem Inv.stack (I : Inv X pins σ H s) : s.heap.FunFrames X.base X.stack := by
  rcases I.ok.stk with e | ⟨e, hf⟩
  · rw [e]; exact I.funs
  · rw [e]
    obtain ⟨m, hn, _⟩ := I.loc
    refine .cons (by rw [I.ok.kind]; decide) hf hn ?_ I.funs
    exact Heap.get?_none_of_le (Nat.le_trans I.ok.bsz I.ok.above)
theorem Inv.stkSub (I : Inv X pins σ H s) : ∀ b ∈ frs X.stack, b ∈ X.env.locals :: X.fs := fun b hb => by
  rcases I.ok.stk with e | ⟨e, hf⟩
  · rw [e] at hb; exact List.mem_cons_of_mem _ hb
  · rw [e] at hb
    unfold frs at hb
    rw [List.filterMap_cons, hf] at hb
    exact hb
theorem Inv.stkFree (I : Inv X pins σ H s) : ∀ b ∈ frs X.stack, H b = none := fun b hb => by
  rcases List.mem_cons.mp (I.stkSub b hb) with e | hb
  · rw [e]; exact I.free
  · obtain ⟨_, o, ho, _⟩ := I.ok.funs.mem hb
    exact I.base.free b o ho (I.ok.frf b hb) fun z => I.ok.exfs b z hb
theorem Inv.step {g' : Array GenState} {t' : Nat} {d' : Drawn} {ch : List Addr} (I : Inv X pins σ H s)
    (hch : ∀ b ∈ ch, (b ∈ X.ex ∨ X.s₀.heap.objs.size ≤ b) ∧ b ≠ X.env.locals ∧ (∀ x c, X.env.cells.lookup x = some c → c ≠ b) ∧ ∀ p ∈ X.pn ++ pins, p.1 ≠ b)
    (keep : ∀ b o, b ≠ X.env.locals → b ∉ X.fs → b ∉ ch → s.heap.get? b = some o → H b = none → h'.get? b = some o)
    (slot : ∀ b o, b ≠ X.env.locals → b ∈ X.fs → b ∉ ch → s.heap.get? b = some o → H b = none → ∃ sl, h'.get? b = some { o with slots := sl }) (free : ∀ b o, b ∉ ch → s.heap.get? b = some o → H b = none → H' b = none)
    (there : ∀ b o, b ∉ ch → s.heap.get? b = some o → ∃ o', h'.get? b = some o')
    (tups : ∀ b xs, H b = some (.tup xs) → H' b = some (.tup xs)) (frzs : ∀ b o u, H b = some (.frz o u) → H' b = some (.frz o u)) (tbls : ∀ b ps, H b = some (.tbl ps) → ∃ more, H' b = some (.tbl (ps ++ more)))
    (ns : ∀ m, s.heap.Ns X.env.locals m → h'.Ns X.env.locals m) (hok : HOk X.prog X.w H' h') (hg : AllBare g') :
    Inv X pins σ H' { s with heap := h', gens := g', drawn := d', toks := t' } := by
  have neL : ∀ b o, X.s₀.heap.get? b = some o → b ≠ X.env.locals := fun b o e => Nat.ne_of_lt (Nat.lt_of_lt_of_le (Heap.lt_size e) I.ok.above)
  have neC : ∀ b o, X.s₀.heap.get? b = some o → b ∉ X.ex → b ∉ ch := fun b o e hx hb => by
    rcases (hch b hb).1 with z | z
    · exact hx z
    · exact absurd (Nat.lt_of_lt_of_le (Heap.lt_size e) z) (Nat.lt_irrefl _)
  have cellK : ∀ x c, X.env.cells.lookup x = some c → ∀ v, s.heap.IsCell c v → h'.IsCell c v := fun x c e v ⟨o, ho, hd⟩ => by
    have nch : c ∉ ch := fun z => (hch c z).2.2.1 x c e rfl
    by_cases hc : c ∈ X.fs
    · obtain ⟨sl, q⟩ := slot c o (I.cne x c e) hc nch ho (I.freeC x c e)
      exact ⟨_, q, hd⟩
    · exact ⟨o, keep c o (I.cne x c e) hc nch ho (I.freeC x c e), hd⟩
  refine ⟨I.ok, I.os, hg, ⟨fun b o e n hb hx => ?_, fun b o e n hb hx => ?_, fun b o e n hx => ?_, fun b o e hx => ?_, fun b xs e => tups b xs (I.base.tups b xs e), fun b o xs e => frzs b o xs (I.base.frzs b o xs e), fun b ps e => ?_⟩, ?_, fun x c e => ?_, ?_, fun x c e => ?_, fun p hp => ?_, hok, I.len⟩
  · exact keep b o (neL b o e) hb (neC b o e hx) (I.base.keep b o e n hb hx) (I.base.free b o e n hx)
  · obtain ⟨sl, e1⟩ := I.base.slot b o e n hb hx
    obtain ⟨sl', e2⟩ := slot b _ (neL b o e) hb (neC b o e hx) e1 (I.base.free b o e n hx)
    exact ⟨sl', e2⟩
  · obtain ⟨o', e1⟩ := I.base.there b o e hx
    exact free b o' (neC b o e hx) e1 (I.base.free b o e n hx)
  · obtain ⟨o', e1⟩ := I.base.there b o e hx
    exact there b o' (neC b o e hx) e1
  · obtain ⟨m1, e1⟩ := I.base.tbls b ps e
    obtain ⟨m2, e2⟩ := tbls b _ e1
    exact ⟨m1 ++ m2, by rw [e2, Array.append_assoc]⟩
  · obtain ⟨m, hn, hl⟩ := I.loc
    refine ⟨m, ns m hn, fun i x v e1 e2 e3 => ?_⟩
    obtain ⟨u, r, l⟩ := hl i x v e1 e2 e3
    refine ⟨u, r, ?_⟩
    rcases l with l | ⟨k, c, e, z⟩
    · exact .inl l
    · exact .inr ⟨k, c, e, cellK x c e _ z⟩
  · obtain ⟨v, z⟩ := I.cell x c e
    exact ⟨v, cellK x c e v z⟩
  · obtain ⟨m, ⟨o, _, _, ho, _⟩, _⟩ := I.loc
    exact free _ o (fun z => (hch _ z).2.1 rfl) ho I.free
  · obtain ⟨v, o, ho, hd⟩ := I.cell x c e
    exact free c o (fun z => (hch c z).2.2.1 x c e rfl) ho (I.freeC x c e)
  · obtain ⟨e, n, ne, nf, d⟩ := I.pin p hp
    have nch : p.1 ∉ ch := fun z => (hch p.1 z).2.2.2 p hp rfl
    exact ⟨keep p.1 p.2 ne nf nch e n, free p.1 p.2 nch e n, ne, nf, d⟩
theorem Inv.un {t' : Nat} (I : Inv X pins σ H s) (u : Un X.fs [] H H' s.heap h') (hok : HOk X.prog X.w H' h') : Inv X pins σ H' { s with heap := h', toks := t' } := by
  obtain ⟨m, ⟨o, es, ep, ho, r⟩, _⟩ := id I.loc
  obtain ⟨sl, hL⟩ := u.any ho I.free (by simp)
  exact I.step (g' := s.gens) (d' := s.drawn) (ch := []) (fun _ z => nomatch z) (fun b o _ hb _ e n => u.keep b o e n hb (by simp)) (fun b o _ hb _ e n => u.slot b o e n hb (by simp)) (fun b o _ e n => u.free b o e n (by simp)) (fun b o _ e => u.there b o e (by simp)) u.tups u.frzs u.tbls (fun m' hm => by
    obtain ⟨o', es', ep', ho', r'⟩ := hm
    rw [ho] at ho'; cases ho'
    exact ⟨_, es', ep', hL, r'⟩) hok I.bare
theorem Inv.call {g' : Array GenState} {t' : Nat} {d' : Drawn} {ch : List Addr} (I : Inv X pins σ H s) (u : Un (frs X.stack) ch H H' s.heap h') (hok : HOk X.prog X.w H' h') (hg : AllBare g')
    (hch : ∀ b ∈ ch, (b ∈ X.ex ∨ X.s₀.heap.objs.size ≤ b) ∧ b ≠ X.env.locals ∧ (∀ x c, X.env.cells.lookup x = some c → c ≠ b) ∧ ∀ p ∈ X.pn ++ pins, p.1 ≠ b) :
    Inv X pins σ H' { s with heap := h', gens := g', drawn := d', toks := t' } := by
  obtain ⟨m, ⟨o, es, ep, ho, r⟩, _⟩ := id I.loc
  obtain ⟨sl, hL⟩ := u.any ho I.free fun z => (hch _ z).2.1 rfl
  exact I.step (ch := ch) hch (fun b o hL hb hc e n => u.keep b o e n (fun z => (List.mem_cons.mp (I.stkSub b z)).elim hL hb) hc) (fun b o _ _ hc e n => u.any e n hc) (fun b o hc e n => u.free b o e n hc) (fun b o hc e => u.there b o e hc) u.tups u.frzs u.tbls (fun m' hm => by
    obtain ⟨o', es', ep', ho', r'⟩ := hm
    rw [ho] at ho'; cases ho'
    exact ⟨_, es', ep', hL, r'⟩) hok hg
theorem Inv.turned {t' : Nat} {it : Addr} (I : Inv X pins σ H s) (k : ∀ b o, b ≠ it → s.heap.get? b = some o → h'.get? b = some o) (hn : H it = none) (hL : it ≠ X.env.locals)
    (h1 : it ∈ X.ex ∨ X.s₀.heap.objs.size ≤ it) (h2 : ∀ x c, X.env.cells.lookup x = some c → c ≠ it) (h3 : ∀ p ∈ X.pn ++ pins, p.1 ≠ it) : Inv X pins σ H { s with heap := h', toks := t' } := by
  have nit : ∀ b u, H b = some u → b ≠ it := fun b u e z => by rw [z, hn] at e; cases e
  refine I.step (g' := s.gens) (d' := s.drawn) (ch := [it]) (fun b hb => ?_) (fun b o _ _ hc e _ => k b o (fun z => hc (by simp [z])) e) (fun b o _ _ hc e _ => ⟨o.slots, k b o (fun z => hc (by simp [z])) e⟩) (fun _ _ _ _ n => n)
    (fun b o hc e => ⟨o, k b o (fun z => hc (by simp [z])) e⟩) (fun _ _ e => e) (fun _ _ _ e => e) (fun b ps e => ⟨#[], by rw [e]; simp⟩) (fun m hm => ?_) (fun b u e => ?_) I.bare
  · have e : b = it := by simpa using hb
    subst e
    exact ⟨h1, hL, h2, h3⟩
  · obtain ⟨o, es, ep, ho, r⟩ := hm
    exact ⟨o, es, ep, k _ o (Ne.symm hL) ho, r⟩
  · refine (I.hok b u e).stay (fun c v hc q => k c v ?_ q) (fun _ q => q) fun _ _ q => q
    rcases hc with z | z
    · rw [z]; exact nit b u e
    · exact nit c _ z
theorem Inv.tok (I : Inv X pins σ H s) (t : Nat) : Inv X pins σ H { s with toks := t } := I.un (h' := s.heap) (t' := t) Un.refl I.hok
theorem Inv.kept {t' : Nat} (I : Inv X pins σ H s) (k : ∀ b u, s.heap.get? b = some u → h'.get? b = some u) : Inv X pins σ H { s with heap := h', toks := t' } := I.un (Un.kept k) (I.hok.kept k)
theorem Inv.laid {a : Addr} {o : HO} {t' : Nat} (I : Inv X pins σ H s) (k : ∀ b u, s.heap.get? b = some u → h'.get? b = some u) (hp : s.heap.objs.size ≤ a) (new : ObjOk X.prog X.w (upd H a o) h' a o) :
    Inv X pins σ (upd H a o) { s with heap := h', toks := t' } := I.un (Un.laid k hp (I.hok.fresh hp)) (I.hok.laid k hp new)
theorem Inv.write {x e : Addr} {o : HO} {t' : Nat} (I : Inv X pins σ H s) (mu : Mut (H x)) (he : e = x ∨ H e = some (.own x)) (k : ∀ b u, b ≠ e → s.heap.get? b = some u → h'.get? b = some u) (heo : ∃ u, h'.get? e = some u)
    (new : ObjOk X.prog X.w (upd H x o) h' x o) : Inv X pins σ (upd H x o) { s with heap := h', toks := t' } := I.un (Un.write mu he k heo) (I.hok.write mu he k heo new)
theorem Inv.weak {σ' : List (Option V)} (I : Inv X pins σ H s) (hl : σ'.length = σ.length) (w : ∀ (i : Nat) v, σ'[i]? = some (some v) → σ[i]? = some (some v)) : Inv X pins σ' H s :=
  ⟨I.ok, I.os, I.bare, I.base, let ⟨m, hn, hl'⟩ := I.loc; ⟨m, hn, fun i x v e1 e2 e3 => hl' i x v e1 (w i v e2) e3⟩, I.cell, I.free, I.freeC, I.pin, I.hok, hl.trans I.len⟩
theorem Inv.pins_of {pins' : List (Addr × Obj)} (I : Inv X pins σ H s) (h : ∀ p ∈ pins', s.heap.get? p.1 = some p.2 ∧ H p.1 = none ∧ p.1 ≠ X.env.locals ∧ p.1 ∉ X.fs ∧ ∀ v, p.2.data ≠ .cell v) : Inv X pins' σ H s :=
  ⟨I.ok, I.os, I.bare, I.base, I.loc, I.cell, I.free, I.freeC, fun p hp => (List.mem_append.mp hp).elim (fun z => I.pin p (List.mem_append_left _ z)) (h p), I.hok, I.len⟩
theorem nodup_ix {N : List Str} (hN : N.Nodup) {i j : Nat} {x : Str} (a : N[i]? = some x) (b : N[j]? = some x) : i = j := by
  obtain ⟨h1, e1⟩ := List.getElem?_eq_some_iff.mp a
  obtain ⟨h2, e2⟩ := List.getElem?_eq_some_iff.mp b
  exact (List.getElem_inj hN).mp (e1.trans e2.symm)
theorem store_ok2 {M : Model} {A : Around} {E : Value → Shared → Prop} {i : Nat} {x : Str} {v : V} {u : Value} {Q : Unit → Shared → Prop} (I : Inv X pins σ H s) (hN : X.N.Nodup) (hi : X.N[i]? = some x) (hx : Loc X.env.scope x) (r : RelV v u)
    (h : ∀ s', Inv X pins (σ.set i (some v)) H s' → (∃ a, Heap.SameBut a s.heap s'.heap ∧ (a = X.env.locals ∨ X.env.cells.lookup x = some a)) → Q () s') (hf : X.fn x = true ∨ X.env.scope.names.lookup x = some .local := by first | exact .inl rfl | exact .inr rfl | assumption) : wpAny M A (storeName X.env x u) Q E s := by
  obtain ⟨m, hn, hl⟩ := id I.loc
  have hcls : (X.env.scope.kind == .class || (X.env.scope.kind == .module && X.env.locals != X.env.globals)) = false := by rw [I.ok.kind]; rfl
  have hiσ : i < σ.length := by rw [I.len]; exact (List.getElem?_eq_some_iff.mp hi).1
  have cne := I.cne
  have tracked : ∀ {a : Addr} {h' : Heap}, (∃ o, s.heap.get? a = some o ∧ H a = none) → Heap.SameBut a s.heap h' → HOk X.prog X.w H h' := fun {a h'} ha hs b ob e => by
    obtain ⟨_, _, hfree⟩ := ha
    refine (I.hok b ob e).stay (fun c w' hc q => (hs.2 c ?_).trans q) (fun _ q => q) fun _ _ q => q
    rintro rfl
    rcases hc with rfl | hc
    · rw [hfree] at e; cases e
    · rw [hfree] at hc; cases hc
  rcases hx with hk | hk
  · refine wpAny_storeName_local hk hn (fun h' hn' hs => ?_) hcls
    obtain ⟨oL, _, _, hoL, _⟩ := id hn
    refine h _ ⟨I.ok, I.os, I.bare, ⟨fun b o e n hb hx => ?_, fun b o e n hb hx => ?_, I.base.free, fun b o e hx => ?_, I.base.tups, I.base.frzs, I.base.tbls⟩, ⟨_, hn', fun j y v' e1 e2 e3 => ?_⟩, fun y c e => ?_, I.free, I.freeC, fun p hp => ?_, tracked ⟨oL, hoL, I.free⟩ hs, by simpa using I.len⟩ ⟨_, hs, .inl rfl⟩
    · exact (hs.2 b (Nat.ne_of_lt (Nat.lt_of_lt_of_le (Heap.lt_size e) I.ok.above))).trans (I.base.keep b o e n hb hx)
    · obtain ⟨sl, e1⟩ := I.base.slot b o e n hb hx
      exact ⟨sl, (hs.2 b (Nat.ne_of_lt (Nat.lt_of_lt_of_le (Heap.lt_size e) I.ok.above))).trans e1⟩
    · obtain ⟨o', e1⟩ := I.base.there b o e hx
      exact ⟨o', (hs.2 b (Nat.ne_of_lt (Nat.lt_of_lt_of_le (Heap.lt_size e) I.ok.above))).trans e1⟩
    · by_cases hj : j = i
      · subst hj
        rw [hi] at e1; cases e1
        rw [List.getElem?_set_self hiσ] at e2
        cases e2
        exact ⟨u, r, .inl ⟨hk, by simp⟩⟩
      · rw [List.getElem?_set_ne (Ne.symm hj)] at e2
        obtain ⟨u', r', q⟩ := hl j y v' e1 e2 e3
        refine ⟨u', r', ?_⟩
        rcases q with ⟨k, e⟩ | ⟨k, c, e, z⟩
        · refine .inl ⟨k, ?_⟩
          have : y ≠ x := fun e => hj (nodup_ix hN e1 (e ▸ hi))
          simp [this, e]
        · exact .inr ⟨k, c, e, z.sameBut hs (cne y c e)⟩
    · obtain ⟨w', z⟩ := I.cell y c e
      exact ⟨w', z.sameBut hs (cne y c e)⟩
    · obtain ⟨e, n, ne, nf, d⟩ := I.pin p hp
      exact ⟨(hs.2 p.1 ne).trans e, n, ne, nf, d⟩
  · have hfn : X.fn x = true := by
      rcases hf with z | z
      · exact z
      · rw [z] at hk; cases hk
    obtain ⟨c, hc⟩ := I.ok.has x (.inl hk)
    obtain ⟨w', z⟩ := I.cell x c hc
    refine wpAny_storeName_cell I.ok.kind hk hc z (fun h' hc' hs => ?_)
    obtain ⟨oc, hoc, hocd⟩ := id z
    refine h { s with heap := h' } ⟨I.ok, I.os, I.bare, ⟨fun b o e n hb hx => ?_, fun b o e n hb hx => ?_, I.base.free, fun b o e hx => ?_, I.base.tups, I.base.frzs, I.base.tbls⟩, ⟨m, hn.sameBut hs (Ne.symm (cne x c hc)), fun j y v' e1 e2 e3 => ?_⟩, fun y c' e => ?_, I.free, I.freeC, fun p hp => ?_, tracked ⟨oc, hoc, I.freeC x c hc⟩ hs, by simpa using I.len⟩ ⟨c, hs, .inr hc⟩
    · exact (hs.2 b (Nat.ne_of_lt (Nat.lt_of_lt_of_le (Heap.lt_size e) (I.ok.cab x c hfn hc)))).trans (I.base.keep b o e n hb hx)
    · obtain ⟨sl, e1⟩ := I.base.slot b o e n hb hx
      exact ⟨sl, (hs.2 b (Nat.ne_of_lt (Nat.lt_of_lt_of_le (Heap.lt_size e) (I.ok.cab x c hfn hc)))).trans e1⟩
    · obtain ⟨o', e1⟩ := I.base.there b o e hx
      exact ⟨o', (hs.2 b (Nat.ne_of_lt (Nat.lt_of_lt_of_le (Heap.lt_size e) (I.ok.cab x c hfn hc)))).trans e1⟩
    · by_cases hj : j = i
      · subst hj
        rw [hi] at e1; cases e1
        rw [List.getElem?_set_self hiσ] at e2
        cases e2
        exact ⟨u, r, .inr ⟨.inl hk, c, hc, hc'⟩⟩
      · rw [List.getElem?_set_ne (Ne.symm hj)] at e2
        obtain ⟨u', r', q⟩ := hl j y v' e1 e2 e3
        refine ⟨u', r', ?_⟩
        rcases q with q | ⟨k, c', e, z'⟩
        · exact .inl q
        · refine .inr ⟨k, c', e, z'.sameBut hs ?_⟩
          rintro rfl
          exact hj (nodup_ix hN e1 (I.ok.inj _ _ _ e hc ▸ hi))
    · by_cases hcc : c' = c
      · subst hcc; exact ⟨_, hc'⟩
      · obtain ⟨w2, z2⟩ := I.cell y c' e
        exact ⟨w2, z2.sameBut hs hcc⟩
    · obtain ⟨e, n, ne, nf, d⟩ := I.pin p hp
      refine ⟨(hs.2 p.1 ?_).trans e, n, ne, nf, d⟩
      intro q
      rw [q, hoc] at e
      have q' : oc = p.2 := Option.some.inj e
      exact d w' (by rw [← q']; exact hocd)
theorem store_ok {M : Model} {A : Around} {E : Value → Shared → Prop} {i : Nat} {x : Str} {v : V} {u : Value} {Q : Unit → Shared → Prop} (I : Inv X pins σ H s) (hN : X.N.Nodup) (hi : X.N[i]? = some x) (hx : Loc X.env.scope x) (r : RelV v u)
    (h : ∀ s', Inv X pins (σ.set i (some v)) H s' → Q () s') (hf : X.fn x = true ∨ X.env.scope.names.lookup x = some .local := by first | exact .inl rfl | exact .inr rfl | assumption) : wpAny M A (storeName X.env x u) Q E s :=
  store_ok2 I hN hi hx r (fun s' I' _ => h s' I') hf
theorem Inv.call' {s' : Shared} {ch : List Addr} (I : Inv X pins σ H s) (ho : s'.os = s.os) (u : Un (frs X.stack) ch H H' s.heap s'.heap) (hok : HOk X.prog X.w H' s'.heap) (hg : AllBare s'.gens)
    (hch : ∀ b ∈ ch, (b ∈ X.ex ∨ X.s₀.heap.objs.size ≤ b) ∧ b ≠ X.env.locals ∧ (∀ x c, X.env.cells.lookup x = some c → c ≠ b) ∧ ∀ p ∈ X.pn ++ pins, p.1 ≠ b) : Inv X pins σ H' s' := by
  obtain ⟨h', g', d', t', o'⟩ := s'
  have e : o' = s.os := ho
  subst e
  exact I.call (g' := g') (t' := t') (d' := d') u hok hg hch
end
abbrev XK := Value → Option Addr → Hp → Prop
abbrev St := List (Option V)
abbrev VK := V → Hp → Prop
abbrev TE := St → Hp → VK → Prop
abbrev TT := St → Hp → (Bool → Hp → Prop) → Prop
abbrev TA := St → Hp → (List V → Hp → Prop) → Prop
structure Ends where
  nx : St → Hp → Prop
  rt : VK
  bk : St → Hp → Prop := fun _ _ => False
  ct : St → Hp → Prop := fun _ _ => False
abbrev TS := Ends → St → Hp → Prop
def EP (X : Cx) (pins : List (Addr × Obj)) (σ : St) (Q : VK) (u : Value) (s' : Shared) : Prop := ∃ v H', Inv X pins σ H' s' ∧ RelV v u ∧ Q v H'
def TP (X : Cx) (pins : List (Addr × Obj)) (σ : St) (Q : Bool → Hp → Prop) (b : Bool) (s' : Shared) : Prop := ∃ H', Inv X pins σ H' s' ∧ Q b H'
def AP (X : Cx) (pins : List (Addr × Obj)) (σ : St) (Q : List V → Hp → Prop) (us : List Value) (s' : Shared) : Prop := ∃ vs H', Inv X pins σ H' s' ∧ Vals vs us ∧ Q vs H'
def SP (X : Cx) (pins : List (Addr × Obj)) (D : Ends) (f : Flow) (s' : Shared) : Prop :=
  match f with
  | .next => ∃ σ' H', Inv X pins σ' H' s' ∧ D.nx σ' H'
  | .brk => ∃ σ' H', Inv X pins σ' H' s' ∧ D.bk σ' H'
  | .cont => ∃ σ' H', Inv X pins σ' H' s' ∧ D.ct σ' H'
  | .ret u => ∃ v σ' H', Inv X pins σ' H' s' ∧ RelV v u ∧ D.rt v H'
def PE (X : Cx) (e : Expr) (t : TE) : Prop :=
  ∀ (pins : List (Addr × Obj)) (s : Shared) (σ : St) (H : Hp) (Q : VK), Inv X pins σ H s → t σ H Q → wpAny (model X.prog X.w) X.A (eval e X.env) (EP X pins σ Q) X.xe s
def PT (X : Cx) (e : Expr) (t : TT) : Prop :=
  ∀ (pins : List (Addr × Obj)) (s : Shared) (σ : St) (H : Hp) (Q : Bool → Hp → Prop), Inv X pins σ H s → t σ H Q → wpAny (model X.prog X.w) X.A (isTrue e X.env (eval e X.env)) (TP X pins σ Q) X.xe s
def PW (X : Cx) (e : Expr) (t : TT) : Prop :=
  ∀ (whole : Sem Value) (pins : List (Addr × Obj)) (s : Shared) (σ : St) (H : Hp) (Q : Bool → Hp → Prop), Inv X pins σ H s → t σ H Q → wpAny (model X.prog X.w) X.A (isTrue e X.env whole) (TP X pins σ Q) X.xe s
theorem PW.pt {X : Cx} {e : Expr} {t : TT} (h : PW X e t) : PT X e t := h _
def PA (X : Cx) (es : List Expr) (t : TA) : Prop :=
  ∀ (pos : Pos) (pins : List (Addr × Obj)) (s : Shared) (σ : St) (H : Hp) (Q : List V → Hp → Prop), Inv X pins σ H s → t σ H Q → wpAny (model X.prog X.w) X.A (spliced (backTo pos (starEach es X.env))) (AP X pins σ Q) X.xe s
def PS (X : Cx) (st : Stmt) (t : TS) : Prop :=
  ∀ (pins : List (Addr × Obj)) (s : Shared) (σ : St) (H : Hp) (D : Ends), Inv X pins σ H s → t D σ H → wpAny (model X.prog X.w) X.A (exec st X.env) (SP X pins D) X.xe s
def PSs (X : Cx) (st : List Stmt) (t : TS) : Prop :=
  ∀ (pins : List (Addr × Obj)) (s : Shared) (σ : St) (H : Hp) (D : Ends), Inv X pins σ H s → t D σ H → wpAny (model X.prog X.w) X.A (execs st X.env) (SP X pins D) X.xe s
theorem thn {α : Type} {t : Sem α} {Q Q' : α → Shared → Prop} {M : Model} {A : Around} {E : Value → Shared → Prop} {s : Shared} (h : wpAny M A t Q E s) (hQ : ∀ a s, Q a s → Q' a s) : wpAny M A t Q' E s := wpAny_mono h hQ fun _ _ x => x
end L2
namespace L2
open PySem PySem.Spec PyProof.Rows
section
variable {X : Cx}
def tVar (i : Nat) : TE := fun σ H Q => ∃ v, σ[i]? = some (some v) ∧ Q v H
def tC (v : V) : TE := fun _ H Q => Q v H
theorem pe_var {i : Nat} {x : Str} {pos : Pos} (hN : X.N[i]? = some x) (hv : Vis X.env.scope x) (hd : (x == ("__debug__" : Str)) = false := by decide) (hcd : (x == ("__classdict__" : Str)) = false := by decide) : PE X (.Name x pos) (tVar i) := by
  intro pins s σ H Q I h
  obtain ⟨v, e, h⟩ := h
  obtain ⟨m, hn, hl⟩ := I.loc
  obtain ⟨u, r, l⟩ := hl i x v hN e hv
  have fin : EP X pins σ Q u s := ⟨v, H, I, r, h⟩
  rcases l with ⟨hk, hm⟩ | ⟨hk, c, hc, hcell⟩
  · exact wpAny_Name (wpAny_loadName_local I.ok.kind hk hn hm fin) hd
  · rcases hk with hk | hk
    · exact wpAny_Name (wpAny_loadName_cell I.ok.kind hk hc hcell fin) hd
    · exact wpAny_Name (wpAny_loadName_free I.ok.kind hk hc hcell fin hcd) hd
theorem pe_int {i j pos} : PE X (.Constant (.int i) j pos) (tC (.int i)) := fun _ _ _ H _ I h => wpAny_Constant_int ⟨.int i, H, I.tok _, ⟨_, rfl⟩, h⟩
theorem pe_non {j pos} : PE X (.Constant .none j pos) (tC .non) := fun _ _ _ H _ I h => Constant_none ⟨.non, H, I, rfl, h⟩
def Gl (X : Cx) (x : Str) : Prop := X.env.kindOf x = some .globalImplicit
theorem ld_glob {E : Value → Shared → Prop} {pins : List (Addr × Obj)} {s : Shared} {σ : St} {H : Hp} {x : Str} {u : Value} {pos : Pos} {Q : Value → Shared → Prop} (I : Inv X pins σ H s) (hg : Gl X x) (hm : X.mg x = some u) (h : Q u s)
    (hd : (x == ("__debug__" : Str)) = false := by decide) : wpAny (model X.prog X.w) X.A (eval (.Name x pos) X.env) Q E s :=
  Calls.Name_function_global I.ok.kind hg (Calls.loadGlobal_global (by rw [I.ok.glob]; exact I.mod.glob.keeps I.bk) hm h) hd
theorem ld_blt {E : Value → Shared → Prop} {pins : List (Addr × Obj)} {s : Shared} {σ : St} {H : Hp} {x : Str} {u : Value} {pos : Pos} {Q : Value → Shared → Prop} (I : Inv X pins σ H s) (hg : Gl X x) (hm : X.mg x = none) (hv : bootBuiltins x = some u) (h : Q u s)
    (hn : x ≠ "__name__" := by decide) (hd : (x == ("__debug__" : Str)) = false := by decide) : wpAny (model X.prog X.w) X.A (eval (.Name x pos) X.env) Q E s := by
  obtain ⟨mb, h1, h2⟩ := I.mod.blt
  exact Calls.Name_function_global I.ok.kind hg (Calls.loadGlobal_builtin (by rw [I.ok.glob]; exact I.mod.glob.keeps I.bk) hm (by rw [I.ok.blt]; exact h1.keeps I.bk) ((h2 x hn).trans hv) h) hd
theorem pe_glob {x : Str} {v : V} {u : Value} {pos : Pos} (hg : Gl X x) (hm : X.mg x = some u) (r : RelV v u) (hd : (x == ("__debug__" : Str)) = false := by decide) : PE X (.Name x pos) (tC v) :=
  fun _ _ _ H _ I h => ld_glob I hg hm ⟨v, H, I, r, h⟩ hd
variable {a b : Expr} {ta tb : TE} {pos : Pos}
def tB (t : TE) : TT := fun σ H Q => t σ H fun x H1 => ∃ c, x = .bl c ∧ Q c H1
theorem pt_val {e : Expr} {t : TE} (h : PE X e t) (he : ∀ whole, isTrue e X.env whole = (do let v ← whole; standAt e.pos; holding [v] (truthy v)) := by intro _; rfl) : PT X e (tB t) := by
  intro pins s σ H Q I hw
  refine isTrue_plain (thn (h pins s σ H _ I hw) fun v s1 ⟨x, H1, I1, r1, q1⟩ => ?_) (he _)
  obtain ⟨d, rfl, q⟩ := q1
  cases r1
  exact wpAny_truthy_bool ⟨H1, I1, q⟩
variable {tA tB' : TT} {rest : List Expr}
def tAnd (t u : TT) : TT := fun σ H Q => t σ H fun c H1 => if c = true then u σ H1 Q else Q false H1
def tNot (t : TT) : TT := fun σ H Q => t σ H fun c H1 => Q (!c) H1
theorem pw_and1 (ha : PT X a tA) : PW X (.BoolOp .And [a] pos) tA := by
  intro wh pins s σ H Q I h
  refine isTrue_and (thn (ha pins s σ H Q I h) fun c s1 e => ?_)
  cases c with
  | true => exact isTrue_and_nil e
  | false => exact e
theorem pw_and (ha : PT X a tA) (hb : PW X (.BoolOp .And (b :: rest) pos) tB') : PW X (.BoolOp .And (a :: b :: rest) pos) (tAnd tA tB') := by
  intro wh pins s σ H Q I h
  refine isTrue_and (thn (ha pins s σ H _ I h) fun c s1 ⟨H1, I1, q1⟩ => ?_)
  cases c with
  | true => exact hb wh pins s1 σ H1 Q I1 q1
  | false => exact ⟨H1, I1, q1⟩
theorem pt_not (ha : PT X a tA) : PT X (.UnaryOp .Not a pos) (tNot tA) := by
  intro pins s σ H Q I h
  exact isTrue_not (ha pins s σ H (fun c H1 => Q (!c) H1) I h)
def tAndV (ta tb : TE) : TE := fun σ H Q => ta σ H fun x H1 => ∃ c, x = .bl c ∧ if c = true then tb σ H1 Q else Q (.bl false) H1
def tOrV (ta tb : TE) : TE := fun σ H Q => ta σ H fun x H1 => ∃ c, x = .bl c ∧ if c = true then Q (.bl true) H1 else tb σ H1 Q
theorem pe_one {op} {t : TE} (h : PE X a t) : PE X (.BoolOp op [a] pos) t := fun pins s σ H Q I hw => BoolOp_one (h pins s σ H Q I hw)
theorem pe_and (ha : PE X a ta) (hb : PE X (.BoolOp .And (b :: rest) pos) tb) : PE X (.BoolOp .And (a :: b :: rest) pos) (tAndV ta tb) := by
  intro pins s σ H Q I h
  refine BoolOp_and (thn (ha pins s σ H _ I h) fun v s1 ⟨x, H1, I1, r1, q1⟩ => ?_)
  obtain ⟨c, rfl, q1⟩ := q1
  cases r1
  refine wpAny_truthy_bool ?_
  cases c with
  | true => exact hb pins s1 σ H1 Q I1 q1
  | false => exact ⟨.bl false, H1, I1, rfl, q1⟩
theorem pe_or (ha : PE X a ta) (hb : PE X (.BoolOp .Or (b :: rest) pos) tb) : PE X (.BoolOp .Or (a :: b :: rest) pos) (tOrV ta tb) := by
  intro pins s σ H Q I h
  refine BoolOp_or (thn (ha pins s σ H _ I h) fun v s1 ⟨x, H1, I1, r1, q1⟩ => ?_)
  obtain ⟨c, rfl, q1⟩ := q1
  cases r1
  refine wpAny_truthy_bool ?_
  cases c with
  | false => exact hb pins s1 σ H1 Q I1 q1
  | true => exact ⟨.bl true, H1, I1, rfl, q1⟩
end
end L2
namespace L2
open PySem PySem.Spec PyProof.Rows
def SqL (K : PySem.W.Frag) (H : Hp) (a : Addr) (xs : List V) : Prop :=
  Rd H a (.lst xs) ∨
    ∃ (o : Obj) (its : Array Value) (n : Nat), K.lookup a = some o ∧ o.cls = .type "list" ∧ o.dict = none ∧ o.data = .seq its n ∧ its.size ≤ sizeLine ∧ Vals xs its.toList
def SqT (K : PySem.W.Frag) (H : Hp) (a : Addr) (xs : List V) : Prop :=
  Rd H a (.tup xs) ∨
    ∃ (o : Obj) (its : Array Value) (n : Nat), K.lookup a = some o ∧ o.cls = .type "tuple" ∧ o.data = .seq its n ∧ its.size ≤ sizeLine ∧ Vals xs its.toList
def absV : Value → Option V
  | .none => some .non
  | .bool b => some (.bl b)
  | .int i _ => some (.int i)
  | .str x _ => some (.str x)
  | .bytes b _ => some (.byt b)
  | .float b _ => some (.flt b)
  | .ref a => some (.ref a)
  | .type n => some (.ty n)
  | _ => none
theorem RelV.abs {x : V} {u : Value} (r : RelV x u) : absV u = some x := by
  cases x with
  | non => cases r; rfl
  | bl _ => cases r; rfl
  | int _ => obtain ⟨t, rfl⟩ := r; rfl
  | str _ => obtain ⟨t, rfl⟩ := r; rfl
  | byt _ => obtain ⟨t, rfl⟩ := r; rfl
  | flt _ => obtain ⟨t, rfl⟩ := r; rfl
  | ref _ => cases r; rfl
  | ty _ => cases r; rfl
theorem RelV.inj {x y : V} {u : Value} (r : RelV x u) (q : RelV y u) : x = y := Option.some.inj (r.abs.symm.trans q.abs)
theorem Vals.inj : ∀ {xs ys : List V} {us : List Value}, Vals xs us → Vals ys us → xs = ys
  | _, _, _, .nil, .nil => rfl
  | _, _, _, .cons r t, .cons r' t' => by rw [r.inj r', Vals.inj t t']
section
variable {X : Cx} {pins : List (Addr × Obj)} {σ : St} {H : Hp} {s : Shared} {a : Addr} {xs ys : List V}
theorem SqL.of {K : PySem.W.Frag} (h : H a = some (.lst xs)) : SqL K H a xs := .inl (.inl h)
theorem SqT.of {K : PySem.W.Frag} (h : H a = some (.tup xs)) : SqT K H a xs := .inl (.inl h)
theorem Inv.list (I : Inv X pins σ H s) (h : SqL X.K H a xs) : ∃ its : List Value, Vals xs its ∧ PlainL s.heap a its.toArray ∧ xs.length ≤ sizeLine := by
  rcases h with h | ⟨o, its, n, hk, hc, hd, hs, hz, r⟩
  · obtain ⟨z, its, n, r, e⟩ := h.ok I.hok
    exact ⟨its, r, ⟨_, n, e, rfl, rfl, rfl⟩, z⟩
  · refine ⟨its.toList, r, ⟨o, n, I.kIn a o hk, hc, hd, by simpa using hs⟩, ?_⟩
    have e := r.length
    simp only [Array.length_toList] at e
    omega
theorem Inv.tuple (I : Inv X pins σ H s) (h : SqT X.K H a xs) : ∃ its : List Value, Vals xs its ∧ IsTup s.heap a its.toArray ∧ xs.length ≤ sizeLine := by
  rcases h with h | ⟨o, its, n, hk, hc, hs, hz, r⟩
  · obtain ⟨z, its, r, p⟩ := h.ok I.hok
    exact ⟨its, r, p, z⟩
  · refine ⟨its.toList, r, ⟨o, I.kIn a o hk, hc, n, by simpa using hs⟩, ?_⟩
    have e := r.length
    simp only [Array.length_toList] at e
    omega
theorem Inv.list_inj (I : Inv X pins σ H s) (h : SqL X.K H a xs) (h' : SqL X.K H a ys) : xs = ys := by
  obtain ⟨its, r, ⟨o, n, e, _, _, d⟩, _⟩ := I.list h
  obtain ⟨its', r', ⟨o', n', e', _, _, d'⟩, _⟩ := I.list h'
  rw [e] at e'; cases e'
  rw [d] at d'
  injection d' with d1 _
  have : its = its' := by simpa using congrArg Array.toList d1
  subst this
  exact r.inj r'
end
abbrev Cx.wish (X : Cx) (E : Value → Shared → Prop) : Cx := { X with xe := E }
abbrev Cx.nox (X : Cx) : Cx := X.wish fun _ _ => False
theorem Cx.Ok.wish {X : Cx} (ok : X.Ok) (E : Value → Shared → Prop) : (X.wish E).Ok :=
  ⟨ok.mod, ok.kind, ok.glob, ok.blt, ok.above, ok.inj, ok.has, ok.cab, ok.hd, ok.frames, ok.stk, ok.exf, ok.bs, ok.bsz, ok.noex, ok.exfs, ok.funs, ok.frf⟩
theorem Cx.Ok.unwish {X : Cx} {E : Value → Shared → Prop} (ok : (X.wish E).Ok) : X.Ok :=
  ⟨ok.mod, ok.kind, ok.glob, ok.blt, ok.above, ok.inj, ok.has, ok.cab, ok.hd, ok.frames, ok.stk, ok.exf, ok.bs, ok.bsz, ok.noex, ok.exfs, ok.funs, ok.frf⟩
section
variable {X : Cx} {pins : List (Addr × Obj)} {σ : St} {H : Hp} {s : Shared} {E : Value → Shared → Prop}
theorem Inv.wish (I : Inv X pins σ H s) (E : Value → Shared → Prop) : Inv (X.wish E) pins σ H s := ⟨I.ok.wish E, I.os, I.bare, I.base, I.loc, I.cell, I.free, I.freeC, I.pin, I.hok, I.len⟩
theorem Inv.unwish (I : Inv (X.wish E) pins σ H s) : Inv X pins σ H s := ⟨I.ok.unwish, I.os, I.bare, I.base, I.loc, I.cell, I.free, I.freeC, I.pin, I.hok, I.len⟩
theorem SP.unwish {D : Ends} {f : Flow} {s' : Shared} (h : SP (X.wish E) pins D f s') : SP X pins D f s' := by
  cases f with
  | next => obtain ⟨σ', H', I, q⟩ := h; exact ⟨σ', H', I.unwish, q⟩
  | brk => obtain ⟨σ', H', I, q⟩ := h; exact ⟨σ', H', I.unwish, q⟩
  | cont => obtain ⟨σ', H', I, q⟩ := h; exact ⟨σ', H', I.unwish, q⟩
  | ret u => obtain ⟨v, σ', H', I, r, q⟩ := h; exact ⟨v, σ', H', I.unwish, r, q⟩
theorem PE.nox {e : Expr} {t : TE} (h : PE X.nox e t) : PE X e t := fun pins s σ H Q I hw =>
  wpAny_mono (h pins s σ H Q (I.wish _) hw) (fun _ _ ⟨v, H', I', r, q⟩ => ⟨v, H', I'.unwish, r, q⟩) fun _ _ z => False.elim z
theorem PT.nox {e : Expr} {t : TT} (h : PT X.nox e t) : PT X e t := fun pins s σ H Q I hw =>
  wpAny_mono (h pins s σ H Q (I.wish _) hw) (fun _ _ ⟨H', I', q⟩ => ⟨H', I'.unwish, q⟩) fun _ _ z => False.elim z
theorem PSs.nox {st : List Stmt} {t : TS} (h : PSs X.nox st t) : PSs X st t := fun pins s σ H D I hw =>
  wpAny_mono (h pins s σ H D (I.wish _) hw) (fun _ _ q => q.unwish) fun _ _ z => False.elim z
end
section
variable {X : Cx} {st : Stmt} {rest : List Stmt} {t u : TS} {e : Expr} {te : TE} {pos : Pos}
def tNext : TS := fun D σ H => D.nx σ H
def tSeq (t u : TS) : TS := fun D σ H => t { D with nx := u D } σ H
theorem pss_nil : PSs X [] tNext := fun _ _ σ H _ I h => wpAny_execs_nil ⟨σ, H, I, h⟩
theorem pss_cons (h1 : PS X st t) (h2 : PSs X rest u) : PSs X (st :: rest) (tSeq t u) := by
  intro pins s σ H D I h
  refine wpAny_execs_cons (thn (h1 pins s σ H { D with nx := u D } I h) fun f s1 q => ?_)
  cases f with
  | next =>
    obtain ⟨σ', H', I', q⟩ := q
    exact h2 pins s1 σ' H' D I' q
  | ret v => exact q
  | brk => exact q
  | cont => exact q
theorem pss_one (h1 : PS X st t) : PSs X [st] t := by
  intro pins s σ H D I h
  refine wpAny_execs_cons (thn (h1 pins s σ H D I h) fun f s1 q => ?_)
  cases f with
  | next => exact wpAny_execs_nil q
  | ret v => exact q
  | brk => exact q
  | cont => exact q
def tBreak : TS := fun D σ H => D.bk σ H
theorem ps_break : PS X (.Break pos) tBreak := fun _ _ σ H _ I h => wpAny_Break ⟨σ, H, I, h⟩
theorem Inv.quiet {pins : List (Addr × Obj)} {σ : St} {H : Hp} {s : Shared} (I : Inv X pins σ H s) : interactive X.env = false := by simp [interactive, I.ok.kind]
def tDrop (te : TE) : TS := fun D σ H => te σ H fun _ H1 => D.nx σ H1
theorem ps_expr (he : PE X e te) (hs : swapsWith e none pos.line X.env = pure false := by rfl) : PS X (.Expr e pos) (tDrop te) := by
  intro pins s σ H D I h
  exact wpAny_Expr_any (thn (he pins s σ H _ I h) fun v s1 ⟨x, H1, I1, r1, q1⟩ => ⟨σ, H1, I1, q1⟩) I.quiet hs
def tRet (te : TE) : TS := fun D σ H => te σ H D.rt
theorem ps_ret (he : PE X e te) : PS X (.Return (some e) pos) (tRet te) := by
  intro pins s σ H D I h
  exact wpAny_Return_some (thn (he pins s σ H _ I h) fun v s1 ⟨x, H1, I1, r1, q1⟩ => ⟨x, σ, H1, I1, r1, q1⟩)
def tIfS (c : TT) (t u : TS) : TS := fun D σ H => c σ H fun b H1 => if b = true then t D σ H1 else u D σ H1
theorem ps_if {c : Expr} {a b : List Stmt} {tc : TT} (hc : PT X c tc) (ha : PSs X a t) (hb : PSs X b u) : PS X (.If c a b pos) (tIfS tc t u) := by
  intro pins s σ H D I h
  refine wpAny_If (thn (hc pins s σ H _ I h) fun d s1 ⟨H1, I1, q1⟩ => ?_)
  cases d with
  | true => exact ha pins s1 σ H1 D I1 q1
  | false => exact hb pins s1 σ H1 D I1 q1
end
abbrev TG := V → St → Hp → (St → Hp → Prop) → Prop
abbrev TGs := List V → St → Hp → (St → Hp → Prop) → Prop
def PG (X : Cx) (target : Expr) (t : TG) : Prop :=
  ∀ (pins : List (Addr × Obj)) (s : Shared) (σ : St) (H : Hp) (v : V) (u : Value) (Q : St → Hp → Prop), Inv X pins σ H s → RelV v u → t v σ H Q →
    wpAny (model X.prog X.w) X.A (assign target X.env u) (fun _ s' => ∃ σ' H', Inv X pins σ' H' s' ∧ Q σ' H') X.xe s
def PGs (X : Cx) (ts : List Expr) (t : TGs) : Prop :=
  ∀ (pins : List (Addr × Obj)) (s : Shared) (σ : St) (H : Hp) (vs : List V) (us : List Value) (Q : St → Hp → Prop), Inv X pins σ H s → Vals vs us → t vs σ H Q →
    wpAny (model X.prog X.w) X.A (assignInOrder ((assignEach ts X.env).map (·.2)) us) (fun _ s' => ∃ σ' H', Inv X pins σ' H' s' ∧ Q σ' H') X.xe s
abbrev TSet := V → V → V → Hp → (Hp → Prop) → Prop
def PSet (X : Cx) (t : TSet) : Prop :=
  ∀ (pins : List (Addr × Obj)) (s : Shared) (σ : St) (H : Hp) (o i v : V) (ov iv u : Value) (Q : Hp → Prop), Inv X pins σ H s → RelV o ov → RelV i iv → RelV v u → t o i v H Q →
    wpAny (model X.prog X.w) X.A (setItem ov iv u) (fun _ s' => ∃ H', Inv X pins σ H' s' ∧ Q H') X.xe s
abbrev TIp := V → V → Hp → VK → Prop
def PIp (X : Cx) (op : Operator) (t : TIp) : Prop :=
  ∀ (pins : List (Addr × Obj)) (s : Shared) (σ : St) (H : Hp) (x y : V) (v u : Value) (Q : VK), Inv X pins σ H s → RelV x v → RelV y u → t x y H Q →
    wpAny (model X.prog X.w) X.A (inplaceOp op v u) (EP X pins σ Q) X.xe s
section
variable {X : Cx} {pos : Pos}
def gName (i : Nat) : TG := fun v σ H Q => Q (σ.set i (some v)) H
theorem pg_name {i : Nat} {x : Str} (hN : X.N.Nodup) (hi : X.N[i]? = some x) (hx : Loc X.env.scope x) (hf : X.fn x = true ∨ X.env.scope.names.lookup x = some .local := by first | exact .inl rfl | exact .inr rfl | assumption) : PG X (.Name x pos) (gName i) := by
  intro pins s σ H v u Q I r h
  exact wpAny_assign_Name (store_ok I hN hi hx r (fun s' I' => ⟨_, H, I', h⟩) hf)
def gNil : TGs := fun vs σ H Q => vs = [] ∧ Q σ H
def gCons (t : TG) (u : TGs) : TGs := fun vs σ H Q => ∃ v r, vs = v :: r ∧ t v σ H fun σ' H' => u r σ' H' Q
theorem pgs_nil : PGs X [] gNil := by
  intro pins s σ H vs us Q I r h
  obtain ⟨e, h⟩ := h
  subst e
  cases r
  exact assignInOrder_nil ⟨σ, H, I, h⟩
theorem pgs_cons {e : Expr} {es : List Expr} {t : TG} {u : TGs} (h1 : PG X e t) (h2 : PGs X es u)
    (hs : (assignEach (e :: es) X.env).map (·.2) = assign e X.env :: (assignEach es X.env).map (·.2) := by rfl) : PGs X (e :: es) (gCons t u) := by
  intro pins s σ H vs us Q I r h
  obtain ⟨v, vr, e1, h⟩ := h
  subst e1
  cases r with
  | cons r rr =>
    rw [hs]
    refine assignInOrder_cons (thn (h1 pins s σ H _ _ _ I r h) fun _ s1 ⟨σ1, H1, I1, q1⟩ => ?_)
    exact h2 pins s1 σ1 H1 _ _ Q I1 rr q1
def gTup (K : PySem.W.Frag) (n : Nat) (t : TGs) : TG := fun v σ H Q => ∃ a xs, v = .ref a ∧ SqT K H a xs ∧ xs.length = n ∧ t xs σ H Q
theorem pg_tup {es : List Expr} {k : Nat} {t : TGs} {n : Nat} (hc : X.calm = true) (h : PGs X es t)
    (hn : (assignEach es X.env).length = n := by rfl) (hst : (assignEach es X.env).findIdx? (·.1) = none := by rfl) : PG X (.Tuple es k pos) (gTup X.K n t) := by
  intro pins s σ H v u Q I r hw
  obtain ⟨a, xs, e1, hq, hl, hw⟩ := hw
  subst e1
  cases r
  obtain ⟨its, rv, ht, hz⟩ := I.tuple hq
  refine assign_Tuple_tuple (I.ok.hd hc) ht (by simp [hn, ← hl, rv.length]) hst fun h' hx => ?_
  have I1 : Inv X pins σ H { s with heap := h' } := I.kept (t' := s.toks) fun b o e => hx b o (Nat.ne_of_lt (Heap.lt_size e)) e
  exact h pins _ σ H xs _ Q I1 (by simpa using rv) hw
def gSub (to ti : TE) (t : TSet) : TG := fun v σ H Q => to σ H fun o H1 => ti σ H1 fun i H2 => t o i v H2 fun H3 => Q σ H3
theorem pg_sub {o i : Expr} {to ti : TE} {t : TSet} (ho : PE X o to) (hi : PE X i ti) (hs : PSet X t)
    (ha : ∀ v, assign (.Subscript o i pos) X.env v = (do
      let ov ← holding [v] (eval o X.env)
      let iv ← holding [v, ov] (eval i X.env)
      standAt pos
      holding [v, ov, iv] (setItem ov iv v)
      release [v, ov, iv] []) := by intro _; rfl) : PG X (.Subscript o i pos) (gSub to ti t) := by
  intro pins s σ H v u Q I r h
  rw [ha]
  refine wpAny_bind (wpAny_holding (thn (ho pins s σ H _ I h) fun ov s1 ⟨x, H1, I1, r1, q1⟩ => ?_))
  refine wpAny_bind (wpAny_holding (thn (hi pins s1 σ H1 _ I1 q1) fun iv s2 ⟨y, H2, I2, r2, q2⟩ => ?_))
  refine wpAny_bind (wpAny_standAt (wpAny_bind (wpAny_holding (thn (hs pins s2 σ H2 x y v ov iv u _ I2 r1 r2 r q2) fun _ s3 ⟨H3, I3, q3⟩ => ?_))))
  exact wpAny_release ⟨σ, H3, I3, q3⟩
def tAsg (te : TE) (g : TG) : TS := fun D σ H => te σ H fun x H1 => g x σ H1 D.nx
theorem ps_asg {tg e : Expr} {te : TE} {g : TG} (he : PE X e te) (hg : PG X tg g) (hs : swapsWithSole [tg] e pos.line X.env = pure false := by rfl) (hw : swappedStores [tg] e X.env = pure none := by rfl)
    (h1 : (assignEach [tg] X.env).map (·.2) = [assign tg X.env] := by rfl) : PS X (.Assign [tg] e pos) (tAsg te g) := by
  intro pins s σ H D I h
  refine wpAny_Assign_stores (thn (he pins s σ H _ I h) fun v s1 ⟨x, H1, I1, r1, q1⟩ => ?_) hs hw
  rw [h1]
  exact thn (hg pins s1 σ H1 x v _ I1 r1 q1) fun _ s2 q => q
theorem ps_set {i : Nat} {x : Str} {e : Expr} {te : TE} {pos' : Pos} (hN : X.N.Nodup) (hi : X.N[i]? = some x) (hx : Loc X.env.scope x) (he : PE X e te) (hs : swapsWith e (some (.Name x pos')) pos.line X.env = pure false := by rfl) (hf : X.fn x = true ∨ X.env.scope.names.lookup x = some .local := by first | exact .inl rfl | exact .inr rfl | assumption) :
    PS X (.Assign [.Name x pos'] e pos) (tAsg te (gName i)) := by
  intro pins s σ H D I h
  refine wpAny_Assign_Name (thn (he pins s σ H _ I h) fun v s1 ⟨y, H1, I1, r1, q1⟩ => ?_) hs
  exact store_ok I1 hN hi hx r1 (fun s2 I2 => ⟨_, H1, I2, q1⟩) hf
def tAug (i : Nat) (te : TE) (ti : TIp) : TS := fun D σ H => ∃ x, σ[i]? = some (some x) ∧ te σ H fun y H1 => ti x y H1 fun z H2 => D.nx (σ.set i (some z)) H2
theorem ps_aug {i : Nat} {x : Str} {e : Expr} {te : TE} {op : Operator} {ti : TIp} {pos' : Pos} (hN : X.N.Nodup) (hi : X.N[i]? = some x) (hx : Loc X.env.scope x) (he : PE X e te) (ho : PIp X op ti) (hf : X.fn x = true ∨ X.env.scope.names.lookup x = some .local := by first | exact .inl rfl | exact .inr rfl | assumption) :
    PS X (.AugAssign (.Name x pos') op e pos) (tAug i te ti) := by
  intro pins s σ H D I h
  obtain ⟨v, e1, h⟩ := h
  obtain ⟨m, hn, hl⟩ := I.loc
  have vis : Vis X.env.scope x := by rcases hx with k | k; exact .inl k; exact .inr (.inl k)
  obtain ⟨u, r, l⟩ := hl i x v hi e1 vis
  refine wpAny_AugAssign_Name ?_
  have go : wpAny (model X.prog X.w) X.A (eval e X.env) (fun w s₂ => wpAny (model X.prog X.w) X.A (inplaceOp op u w) (fun r s₃ => wpAny (model X.prog X.w) X.A (storeName X.env x r) (fun _ => SP X pins D .next) X.xe s₃) X.xe s₂) X.xe s := by
    refine thn (he pins s σ H _ I h) fun w s1 ⟨y, H1, I1, r1, q1⟩ => ?_
    refine thn (ho pins s1 σ H1 v y u w _ I1 r r1 q1) fun z s2 ⟨zv, H2, I2, r2, q2⟩ => ?_
    exact store_ok I2 hN hi hx r2 (fun s3 I3 => ⟨_, H2, I3, q2⟩) hf
  rcases l with ⟨hk, hm⟩ | ⟨hk, c, hc, hcell⟩
  · exact wpAny_loadName_local I.ok.kind hk hn hm go
  · rcases hk with hk | hk
    · exact wpAny_loadName_cell I.ok.kind hk hc hcell go
    · rcases hx with k | k
      · have : X.env.scope.names.lookup x = some .free := hk
        rw [k] at this; cases this
      · have : X.env.scope.names.lookup x = some .free := hk
        rw [k] at this; cases this
def ipI (f : Int → Int → Int) : TIp := fun x y H Q => ∃ i j, x = .int i ∧ y = .int j ∧ Q (.int (f i j)) H
theorem ip_add : PIp X .Add (ipI fun i j => i + j) := by
  intro pins s σ H x y v u Q I r1 r2 h
  obtain ⟨i, j, e1, e2, q⟩ := h
  subst e1; subst e2
  obtain ⟨t, rfl⟩ := r1
  obtain ⟨t', rfl⟩ := r2
  exact iadd_int ⟨.int _, H, I.tok _, ⟨_, rfl⟩, q⟩
end
section
variable {X : Cx} {pos : Pos}
def tWhile (c : TT) (tb : TS) : TS := fun D σ H => ∃ W : Nat → St → Hp → Prop, (∃ m, W m σ H) ∧ ∀ m σ H, W m σ H →
  c σ H fun b H1 => if b = true then ∃ N : St → Hp → Prop, (∀ σ' H', N σ' H' → ∃ m', m' < m ∧ W m' σ' H') ∧ tb { D with nx := N, ct := N, bk := D.nx } σ H1 else D.nx σ H1
theorem ps_while {c : Expr} {body : List Stmt} {tc : TT} {tb : TS} (hp : PassesOwn (model X.prog X.w) X.A X.env X.xe) (hc : PT X c tc) (hb : PSs X body tb) : PS X (.While c body [] pos) (tWhile tc tb) := by
  intro pins s σ H D I h
  obtain ⟨W, ⟨m0, w0⟩, turn⟩ := h
  refine wpAny_While (codeAny_whileLoop (fun n s' => ∃ σ' H', Inv X pins σ' H' s' ∧ W n σ' H') ?_ m0 ⟨σ, H, I, w0⟩)
  rintro n s1 ⟨σ1, H1, I1, w1⟩
  refine wpAny_passesOwn hp (thn (hc pins s1 σ1 H1 _ I1 (turn n σ1 H1 w1)) fun b s2 ⟨H2, I2, q2⟩ => ?_)
  cases b with
  | true =>
    obtain ⟨N, hN, q2⟩ := q2
    rw [if_pos rfl]
    refine wpAny_passesOwn hp (thn (hb pins s2 σ1 H2 _ I2 q2) fun f s3 q3 => ?_)
    cases f with
    | next =>
      obtain ⟨σ3, H3, I3, n3⟩ := q3
      obtain ⟨m', hm, w3⟩ := hN σ3 H3 n3
      exact ⟨m', hm, σ3, H3, I3, w3⟩
    | cont =>
      obtain ⟨σ3, H3, I3, n3⟩ := q3
      obtain ⟨m', hm, w3⟩ := hN σ3 H3 n3
      exact ⟨m', hm, σ3, H3, I3, w3⟩
    | brk => exact q3
    | ret v => exact q3
  | false =>
    rw [if_neg Bool.false_ne_true]
    exact wpAny_execs_nil ⟨σ1, H2, I2, q2⟩
end
structure It where
  go : Nat → Hp → Prop
  yld : Nat → Hp → V → Hp → Prop
  stop : Nat → Hp → Prop
def FpOk (X : Cx) (pins : List (Addr × Obj)) (H : Hp) (b : Addr) : Prop :=
  H b = none ∧ b ≠ X.env.locals ∧ b ∉ X.fs ∧ (b ∈ X.ex ∨ X.s₀.heap.objs.size ≤ b) ∧ (∀ x c, X.env.cells.lookup x = some c → c ≠ b) ∧ ∀ p ∈ X.pn ++ pins, p.1 ≠ b
theorem Inv.fpOk {X : Cx} {pins : List (Addr × Obj)} {σ : St} {H H' : Hp} {s : Shared} {b : Addr} (I : Inv X pins σ H s) (hb : s.heap.objs.size ≤ b) (hn : H' b = none) : FpOk X pins H' b := by
  refine ⟨hn, Nat.ne_of_gt (Nat.lt_of_lt_of_le I.lt hb), I.nofs hb, .inr (Nat.le_trans I.sz hb), fun x c e z => ?_, fun p hp z => ?_⟩
  · obtain ⟨v, q⟩ := I.cell x c e
    exact absurd (Nat.lt_of_lt_of_le q.lt (by rw [z]; exact hb)) (Nat.lt_irrefl _)
  · exact absurd (Nat.lt_of_lt_of_le (Heap.lt_size (I.pin p hp).1) (by rw [z]; exact hb)) (Nat.lt_irrefl _)
structure Turn (P : Program) (w : World) (K : PySem.W.Frag) (tg : Expr) (J : It) (fp : List Addr) (it : Addr) (tn : Nat → Heap → Prop) : Prop where
  mem : it ∈ fp
  obj : ∀ i h, tn i h → ∀ b ∈ fp, ∃ o, h.get? b = some o ∧ ∀ v, o.data ≠ .cell v
  keep : ∀ i h h', tn i h → (∀ b ∈ fp, ∀ o, h.get? b = some o → h'.get? b = some o) → tn i h'
  item : ∀ (X : Cx), X.prog = P → X.w = w → X.K = K → X.calm = true → ∀ (i : Nat) (pins : List (Addr × Obj)) (s : Shared) (σ : St) (H : Hp) (E : Value → Shared → Prop), Inv X pins σ H s → (∀ b ∈ fp, FpOk X pins H b) → tn i s.heap → J.go i H →
    wpAny (model P w) X.A (pyNext (.ref it)) (fun r s1 => ∃ u, r = some u ∧
      wpAny (model P w) X.A (letOwnedTupleGo tg (.ref it) u) (fun _ s2 => ∃ x H', Inv X pins σ H' s2 ∧ RelV x u ∧ J.yld i H x H' ∧ tn (i + 1) s2.heap ∧ ∀ b ∈ fp, H' b = none) E s1) E s
  done : ∀ (X : Cx), X.prog = P → X.w = w → X.K = K → X.calm = true → ∀ (i : Nat) (pins : List (Addr × Obj)) (s : Shared) (σ : St) (H : Hp) (E : Value → Shared → Prop), Inv X pins σ H s → (∀ b ∈ fp, FpOk X pins H b) → tn i s.heap → J.stop i H →
    wpAny (model P w) X.A (pyNext (.ref it)) (fun r s1 => r = none ∧ Inv X pins σ H s1) E s
  self : ∀ (A : Around) (i : Nat) (s : Shared) (Q : Value → Shared → Prop) (E : Value → Shared → Prop), tn i s.heap → Q (.ref it) s → wpAny (model P w) A (pyIter (.ref it)) Q E s
abbrev TI := St → Hp → (It → Hp → Prop) → Prop
def PIE (X : Cx) (pins : List (Addr × Obj)) (σ : St) (tg : Expr) (R : It → Hp → Prop) (itv : Value) (s2 : Shared) : Prop :=
  ∃ (it : Addr) (fp : List Addr) (tn : Nat → Heap → Prop) (J : It) (H' : Hp), itv = .ref it ∧ Inv X pins σ H' s2 ∧ Turn X.prog X.w X.K tg J fp it tn ∧ tn 0 s2.heap ∧ (∀ b ∈ fp, FpOk X pins H' b) ∧ R J H'
def PI (X : Cx) (tg iter : Expr) (wi : TI) : Prop :=
  ∀ (pins : List (Addr × Obj)) (s : Shared) (σ : St) (H : Hp) (R : It → Hp → Prop), Inv X pins σ H s → wi σ H R →
    wpAny (model X.prog X.w) X.A (eval iter X.env) (fun v s1 => wpAny (model X.prog X.w) X.A (pyIter v) (PIE X pins σ tg R) X.xe s1) X.xe s
theorem go_of {M : Model} {A : Around} {E : Value → Shared → Prop} {s : Shared} {tg : Expr} {it : Addr} {u : Value} {o : Obj} {n : String} {vs : Array Value} {Q : Unit → Shared → Prop} (ho : s.heap.get? it = some o) (hc : o.cls = .type n) (hd : o.data = .fields vs)
    (hn : ["enumerate", "zip", "dict_itemiterator", "dict_reverseitemiterator", "odict_iterator", "itertools.zip_longest", "itertools.pairwise"].contains n = false) (hQ : Q () s) : wpAny M A (letOwnedTupleGo tg (.ref it) u) Q E s := by
  unfold letOwnedTupleGo
  cases tg <;> first
    | exact wpAny_pure hQ
    | (cases u <;> first
        | exact wpAny_pure hQ
        | (refine wpAny_bind (wpAny_load ho ?_)
           rw [hc, hd]
           show wpAny M A (if (["enumerate", "zip", "dict_itemiterator", "dict_reverseitemiterator", "odict_iterator", "itertools.zip_longest", "itertools.pairwise"].contains n && vs[0]? == some (rawInt _)) = true then _ else _) Q E s
           rw [if_neg (by intro h; rw [hn, Bool.false_and] at h; cases h)]
           exact wpAny_pure hQ))
def Itl (K : PySem.W.Frag) (a : Addr) : It :=
  ⟨fun i H => ∃ xs x, SqL K H a xs ∧ xs[i]? = some x, fun i H x H' => H' = H ∧ ∀ xs, SqL K H a xs → xs[i]? = some x, fun i H => ∃ xs, SqL K H a xs ∧ xs.length ≤ i⟩
def Itr (lo : Int) (n : Nat) : It := ⟨fun i _ => i < n, fun i H x H' => H' = H ∧ x = .int (lo + i), fun i _ => n ≤ i⟩
theorem turn_list {P : Program} {w : World} {K : PySem.W.Frag} {tg : Expr} (a it : Addr) : Turn P w K tg (Itl K a) [it] it (fun i h => h.IsListIter it a i) where
  mem := by simp
  obj := fun i h st b hb => by
    have e : b = it := by simpa using hb
    subst e
    obtain ⟨o, e, c, d⟩ := st
    exact ⟨o, e, fun v z => by rw [d] at z; cases z⟩
  keep := fun i h h' st k => st.at fun o e => k it (by simp) o e
  item := by
    intro X hP hw hK hc i pins s σ H E I hf st hg
    subst hP hw hK
    obtain ⟨xs, x, hq, hx⟩ := hg
    obtain ⟨its, rv, p, hz⟩ := I.list hq
    obtain ⟨u, hu, ru⟩ := rv.get hx
    obtain ⟨f0, f1, f2, f3, f4, f5⟩ := hf it (by simp)
    refine wpAny_pyNext_list_item st p.isList (x := u) (by simpa using hu) fun h' st' sb => ?_
    have I1 : Inv X pins σ H { s with heap := h' } := I.turned (t' := s.toks) (fun b o hb e => (sb.2 b hb).trans e) f0 f1 f3 f4 f5
    obtain ⟨o, e, c, d⟩ := id st'
    exact ⟨u, rfl, go_of (s := { s with heap := h' }) e c d (by decide) ⟨x, H, I1, ru, ⟨rfl, fun ys hy => by rw [I.list_inj hy hq]; exact hx⟩, st', fun b hb => (hf b hb).1⟩⟩
  done := by
    intro X hP hw hK hc i pins s σ H E I hf st hg
    subst hP hw hK
    obtain ⟨xs, hq, hx⟩ := hg
    obtain ⟨its, rv, p, hz⟩ := I.list hq
    obtain ⟨f0, f1, f2, f3, f4, f5⟩ := hf it (by simp)
    have hl := rv.length
    exact wpAny_pyNext_list_end (I.ok.hd hc) st p.isList (by simp; omega) fun h' eb => ⟨rfl, I.turned (t' := s.toks) (fun b o hb e => eb b o hb e) f0 f1 f3 f4 f5⟩
  self := fun _ _ _ _ _ st h => wpAny_pyIter_listiter st h
theorem turn_range {P : Program} {w : World} {K : PySem.W.Frag} {tg : Expr} (it : Addr) (lo : Int) (n : Nat) : Turn P w K tg (Itr lo n) [it] it (fun i h => IsRangeIter h it (lo + (i : Nat) * 1) ((n : Int) - (i : Nat)) 1) where
  mem := by simp
  obj := fun i h st b hb => by
    have e : b = it := by simpa using hb
    subst e
    exact ⟨_, st, fun v z => by
      have z' : Data.fields _ = Data.cell v := z
      cases z'⟩
  keep := fun i h h' st k => k it (by simp) _ st
  item := by
    intro X hP hw hK hc i pins s σ H E I hf st hg
    subst hP hw hK
    obtain ⟨f0, f1, f2, f3, f4, f5⟩ := hf it (by simp)
    have W := Walks.range (prog := X.prog) (w := X.w) (I.ok.hd hc) it lo 1 n
    refine W.item i s _ _ hg st fun v h' tk hv st' kk => ?_
    obtain ⟨t, rfl⟩ := hv
    have I1 : Inv X pins σ H { s with heap := h', toks := tk } := I.turned (fun b o hb e => kk b o (by simpa using hb) e) f0 f1 f3 f4 f5
    refine ⟨_, rfl, go_of (s := { s with heap := h', toks := tk }) (n := "range_iterator") st' rfl rfl (by decide) ⟨.int (lo + i), H, I1, ⟨t, ?_⟩, ⟨rfl, rfl⟩, st', fun b hb => (hf b hb).1⟩⟩
    rw [Int.mul_one]
  done := by
    intro X hP hw hK hc i pins s σ H E I hf st hg
    subst hP hw hK
    obtain ⟨f0, f1, f2, f3, f4, f5⟩ := hf it (by simp)
    exact wpAny_pyNext_range_end (I.ok.hd hc) st (by have : n ≤ i := hg; omega) fun h' eb => ⟨rfl, I.turned (t' := s.toks) (fun b o hb e => eb b o hb e) f0 f1 f3 f4 f5⟩
  self := fun _ _ _ _ _ st h => wpAny_pyIter_rangeiter st h
end L2
namespace L2
open PySem PySem.Spec PyProof.Rows
section
variable {X : Cx} {tg : Expr}
def iList (K : PySem.W.Frag) (tl : TE) : TI := fun σ H R => tl σ H fun x H1 => ∃ a, x = .ref a ∧ (∃ xs, SqL K H1 a xs) ∧ R (Itl K a) H1
theorem pi_list {l : Expr} {tl : TE} (hl : PE X l tl) : PI X tg l (iList X.K tl) := by
  intro pins s σ H R I h
  refine thn (hl pins s σ H _ I h) fun v s1 ⟨x, H1, I1, r1, q1⟩ => ?_
  obtain ⟨a, e, ⟨xs, hq⟩, q⟩ := q1
  subst e
  cases r1
  obtain ⟨its, rv, p, hz⟩ := I1.list hq
  refine wpAny_pyIter_list p.isList ?_
  refine ⟨s1.heap.objs.size, [s1.heap.objs.size], _, _, H1, rfl, I1.kept (t' := s1.toks) fun b o e => Heap.get?_push_of_some _ e, turn_list a _, ⟨_, Heap.get?_push_size _ rfl, rfl, rfl⟩, fun b hb => ?_, q⟩
  have e : b = s1.heap.objs.size := by simpa using hb
  subst e
  exact I1.fpOk (Nat.le_refl _) (I1.hok.fresh (Nat.le_refl _))
theorem range_it {pins : List (Addr × Obj)} {σ : St} {H : Hp} {s : Shared} {R : It → Hp → Prop} {E : Value → Shared → Prop} {lo hi : Int} {t u v : Tok} {tk : Nat} (I : Inv X pins σ H s) (h1 : -(2 ^ 62) ≤ lo) (h2 : lo < 2 ^ 62) (h3 : -(2 ^ 62) ≤ hi) (h4 : hi < 2 ^ 62)
    (q : R (Itr lo (hi - lo).toNat) H) : wpAny (model X.prog X.w) X.A (pyIter (.ref s.heap.objs.size)) (PIE X pins σ tg R) E { s with heap := s.heap.push { cls := .type "range", data := .fields #[.int lo t, .int hi u, .int 1 v] }, toks := tk } := by
  refine wpAny_pyIter_range (IsRange.new ..) (small_one h1 h2 h3 h4) ?_
  have I1 : Inv X pins σ H { s with heap := s.heap.push { cls := .type "range", data := .fields #[.int lo t, .int hi u, .int 1 v] }, toks := tk } := I.kept fun b o e => Heap.get?_push_of_some _ e
  refine ⟨(s.heap.push { cls := .type "range", data := .fields #[.int lo t, .int hi u, .int 1 v] }).objs.size, [(s.heap.push { cls := .type "range", data := .fields #[.int lo t, .int hi u, .int 1 v] }).objs.size], _, _, H, rfl,
    I1.kept (t' := tk) fun b o e => Heap.get?_push_of_some _ e, turn_range _ lo (hi - lo).toNat, ?_, fun b hb => ?_, q⟩
  · have e1 : lo + ((0 : Nat) : Int) * 1 = lo := by simp
    have e2 : (((hi - lo).toNat : Nat) : Int) - ((0 : Nat) : Int) = Builtin.Range.rangeSize lo hi 1 := by rw [rangeSize_one]; split <;> omega
    show IsRangeIter _ _ (lo + ((0 : Nat) : Int) * 1) ((((hi - lo).toNat : Nat) : Int) - ((0 : Nat) : Int)) 1
    rw [e1, e2]
    exact Heap.get?_push_size _ rfl
  · have e : b = (s.heap.push { cls := .type "range", data := .fields #[.int lo t, .int hi u, .int 1 v] }).objs.size := by simpa using hb
    subst e
    exact I1.fpOk (Nat.le_refl _) (I1.hok.fresh (Nat.le_refl _))
def iRng1 (ta : TA) : TI := fun σ H R => ta σ H fun vs H1 => ∃ j : Int, vs = [.int j] ∧ -(2 ^ 62) ≤ j ∧ j < 2 ^ 62 ∧ R (Itr 0 j.toNat) H1
theorem pi_range1 {a : Expr} {ta : TA} {p pos : Pos} (hg : Gl X "range") (hm : X.mg "range" = none) (ha : PA X [a] ta) (hs : starEach [a] X.env = [(false, eval a X.env)] := by rfl) : PI X tg (.Call (.Name "range" p) [a] [] pos) (iRng1 ta) := by
  intro pins s σ H R I h
  refine Call_ (ld_blt I hg hm boot_range (PyProof.Rows.callWith_type1 (thn (ha pos pins s σ H _ I h) fun us s1 ⟨vs, H1, I1, r1, q1⟩ => ?_) hs rfl))
  obtain ⟨j, e, q1, q2, q⟩ := q1
  subst e
  cases r1 with
  | cons r rr =>
    cases rr
    obtain ⟨t, rfl⟩ := r
    exact call_range_1 (range_it I1 (by omega) (by omega) q1 q2 (by simpa using q))
def tFor (wi : TI) (g : TG) (tb : TS) : TS := fun D σ H => wi σ H fun J H1 => ∃ W : Nat → Nat → St → Hp → Prop, (∃ m, W 0 m σ H1) ∧ ∀ i m σ H, W i m σ H →
  (J.stop i H ∧ D.nx σ H) ∨ (J.go i H ∧ ∃ N : St → Hp → Prop, (∀ σ' H', N σ' H' → ∃ m', m' < m ∧ W (i + 1) m' σ' H') ∧ ∀ x H', J.yld i H x H' → g x σ H' fun σ2 H2 => tb { D with nx := N, ct := N, bk := D.nx } σ2 H2)
def pinsAt (fp : List Addr) (h : Heap) : List (Addr × Obj) := fp.filterMap fun b => (h.get? b).map fun o => (b, o)
theorem mem_pinsAt {fp : List Addr} {h : Heap} {b : Addr} {o : Obj} (hb : b ∈ fp) (e : h.get? b = some o) : (b, o) ∈ pinsAt fp h := List.mem_filterMap.mpr ⟨b, hb, by rw [e]; rfl⟩
theorem of_pinsAt {fp : List Addr} {h : Heap} {p : Addr × Obj} (hp : p ∈ pinsAt fp h) : p.1 ∈ fp ∧ h.get? p.1 = some p.2 := by
  obtain ⟨b, hb, e⟩ := List.mem_filterMap.mp hp
  cases q : h.get? b with
  | none => rw [q] at e; cases e
  | some o =>
    rw [q] at e
    have e' : (b, o) = p := Option.some.inj e
    subst e'
    exact ⟨hb, q⟩
theorem Inv.pinned {pins : List (Addr × Obj)} {σ : St} {H : Hp} {s : Shared} {fp : List Addr} (I : Inv X pins σ H s) (hf : ∀ b ∈ fp, FpOk X pins H b) (ho : ∀ b ∈ fp, ∃ o, s.heap.get? b = some o ∧ ∀ v, o.data ≠ .cell v) : Inv X (pins ++ pinsAt fp s.heap) σ H s :=
  I.pins_of fun p hp => (List.mem_append.mp hp).elim (fun z => I.pin p (List.mem_append_right _ z)) fun z => by
    obtain ⟨hb, e⟩ := of_pinsAt z
    obtain ⟨f0, f1, f2, _⟩ := hf p.1 hb
    obtain ⟨o, e', d⟩ := ho p.1 hb
    rw [e] at e'; cases e'
    exact ⟨e, f0, f1, f2, d⟩
theorem Inv.unpinned {pins pl : List (Addr × Obj)} {σ : St} {H : Hp} {s : Shared} (I : Inv X (pins ++ pl) σ H s) : Inv X pins σ H s := I.pins_of fun p hp => I.pin p (List.mem_append_right _ (List.mem_append_left _ hp))
theorem ps_for {iter : Expr} {body : List Stmt} {wi : TI} {g : TG} {tb : TS} {pos : Pos} (hp : PassesOwn (model X.prog X.w) X.A X.env X.xe) (hc : X.calm = true) (hi : PI X tg iter wi) (hg : PG X tg g) (hb : PSs X body tb)
    (hs : ∀ x, foldedSetIterable iter X.env x = pure x := by intro _; rfl) : PS X (.For tg iter body [] pos) (tFor wi g tb) := by
  intro pins s σ H D I h
  refine wpAny_For (thn (hi pins s σ H _ I h) fun v s1 h1 => thn h1 fun itv s2 h2 => ?_) hs
  obtain ⟨it, fp, tn, J, H2, e, I2, T, st2, f2, W, ⟨m0, w0⟩, turn⟩ := h2
  subst e
  -- what stays true of the iterator's objects through the loop
  have stat : ∀ {H' : Hp}, (∀ b ∈ fp, H' b = none) → ∀ b ∈ fp, FpOk X pins H' b := fun hn b hb => ⟨hn b hb, (f2 b hb).2⟩
  refine codeAny_forLoop_any (fun n s' => ∃ i σ' H', Inv X pins σ' H' s' ∧ tn i s'.heap ∧ (∀ b ∈ fp, H' b = none) ∧ W i n σ' H') ?_ m0 ⟨0, σ, H2, I2, st2, fun b hb => (f2 b hb).1, w0⟩
  rintro n s3 ⟨i, σ3, H3, I3, st3, fr3, w3⟩
  rcases turn i n σ3 H3 w3 with ⟨stop, qn⟩ | ⟨go, N, hN, step⟩
  · refine wpAny_passesOwn hp (thn (T.done X rfl rfl rfl hc i pins s3 σ3 H3 X.xe I3 (stat fr3) st3 stop) fun r s4 ⟨hr, I4⟩ => ?_)
    subst hr
    exact wpAny_execs_nil ⟨σ3, H3, I4, qn⟩
  · refine wpAny_passesOwn hp (thn (T.item X rfl rfl rfl hc i pins s3 σ3 H3 X.xe I3 (stat fr3) st3 go) fun r s4 ⟨u, hr, h4⟩ => ?_)
    subst hr
    refine wpAny_passesOwn hp (thn h4 fun _ s5 ⟨x, H5, I5, r5, y5, st5, fr5⟩ => ?_)
    have I5' := I5.pinned (stat fr5) (T.obj _ _ st5)
    refine wpAny_passesOwn hp (thn (hg _ s5 σ3 H5 x u _ I5' r5 (step x H5 y5)) fun _ s6 ⟨σ6, H6, I6, q6⟩ => ?_)
    refine wpAny_passesOwn hp (thn (hb _ s6 σ6 H6 _ I6 q6) fun f s7 q7 => ?_)
    have again : ∀ {σ7 : St} {H7 : Hp}, Inv X (pins ++ pinsAt fp s5.heap) σ7 H7 s7 → N σ7 H7 → ∃ m, m < n ∧ ∃ i σ' H', Inv X pins σ' H' s7 ∧ tn i s7.heap ∧ (∀ b ∈ fp, H' b = none) ∧ W i m σ' H' := fun {σ7 H7} I7 n7 => by
      obtain ⟨m', hm, w7⟩ := hN σ7 H7 n7
      refine ⟨m', hm, i + 1, σ7, H7, I7.unpinned, T.keep _ _ _ st5 fun b hb o e => (I7.pin (b, o) (List.mem_append_right _ (List.mem_append_right _ (mem_pinsAt hb e)))).1, fun b hb => ?_, w7⟩
      obtain ⟨o, e, d⟩ := T.obj _ _ st5 b hb
      exact (I7.pin (b, o) (List.mem_append_right _ (List.mem_append_right _ (mem_pinsAt hb e)))).2.1
    cases f with
    | next => obtain ⟨σ7, H7, I7, n7⟩ := q7; exact again I7 n7
    | cont => obtain ⟨σ7, H7, I7, n7⟩ := q7; exact again I7 n7
    | brk => obtain ⟨σ7, H7, I7, q7⟩ := q7; exact ⟨σ7, H7, I7.unpinned, q7⟩
    | ret v => obtain ⟨x7, σ7, H7, I7, r7, q7⟩ := q7; exact ⟨x7, σ7, H7, I7.unpinned, r7, q7⟩
end
theorem for_list {K : PySem.W.Frag} {a : Addr} {xs : List V} {g : TG} {tb : TS} {D : Ends} {σ : St} {H : Hp} (Pv : Nat → St → Hp → Prop) (h0 : Pv 0 σ H) (hl : ∀ i σ H, i ≤ xs.length → Pv i σ H → SqL K H a xs)
    (hs : ∀ i x σ H, xs[i]? = some x → Pv i σ H → g x σ H fun σ2 H2 => tb { D with nx := Pv (i + 1), ct := Pv (i + 1), bk := D.nx } σ2 H2) (hd : ∀ σ H, Pv xs.length σ H → D.nx σ H) :
    ∃ W : Nat → Nat → St → Hp → Prop, (∃ m, W 0 m σ H) ∧ ∀ i m σ H, W i m σ H →
      ((Itl K a).stop i H ∧ D.nx σ H) ∨ ((Itl K a).go i H ∧ ∃ N : St → Hp → Prop, (∀ σ' H', N σ' H' → ∃ m', m' < m ∧ W (i + 1) m' σ' H') ∧ ∀ x H', (Itl K a).yld i H x H' → g x σ H' fun σ2 H2 => tb { D with nx := N, ct := N, bk := D.nx } σ2 H2) := by
  refine ⟨fun i m σ H => m = xs.length - i ∧ i ≤ xs.length ∧ Pv i σ H, ⟨xs.length, by simp, Nat.zero_le _, h0⟩, ?_⟩
  rintro i m σ H ⟨rfl, hi, p⟩
  have q := hl i σ H hi p
  by_cases hlt : i < xs.length
  · refine .inr ⟨⟨xs, xs[i], q, by simp [hlt]⟩, Pv (i + 1), fun σ' H' p' => ⟨xs.length - (i + 1), by omega, rfl, hlt, p'⟩, fun x H' y => ?_⟩
    obtain ⟨e, y⟩ := y
    subst e
    exact hs i x σ _ (y xs q) p
  · have e : i = xs.length := by omega
    subst e
    exact .inl ⟨⟨xs, q, Nat.le_refl _⟩, hd σ H p⟩
theorem for_range {lo : Int} {n : Nat} {g : TG} {tb : TS} {D : Ends} {σ : St} {H : Hp} (Pv : Nat → St → Hp → Prop) (h0 : Pv 0 σ H)
    (hs : ∀ i σ H, i < n → Pv i σ H → g (.int (lo + i)) σ H fun σ2 H2 => tb { D with nx := Pv (i + 1), ct := Pv (i + 1), bk := D.nx } σ2 H2) (hd : ∀ σ H, Pv n σ H → D.nx σ H) :
    ∃ W : Nat → Nat → St → Hp → Prop, (∃ m, W 0 m σ H) ∧ ∀ i m σ H, W i m σ H →
      ((Itr lo n).stop i H ∧ D.nx σ H) ∨ ((Itr lo n).go i H ∧ ∃ N : St → Hp → Prop, (∀ σ' H', N σ' H' → ∃ m', m' < m ∧ W (i + 1) m' σ' H') ∧ ∀ x H', (Itr lo n).yld i H x H' → g x σ H' fun σ2 H2 => tb { D with nx := N, ct := N, bk := D.nx } σ2 H2) := by
  refine ⟨fun i m σ H => m = n - i ∧ i ≤ n ∧ Pv i σ H, ⟨n, by simp, Nat.zero_le _, h0⟩, ?_⟩
  rintro i m σ H ⟨rfl, hi, p⟩
  by_cases hlt : i < n
  · refine .inr ⟨hlt, Pv (i + 1), fun σ' H' p' => ⟨n - (i + 1), by omega, rfl, hlt, p'⟩, fun x H' y => ?_⟩
    obtain ⟨e, y⟩ := y
    subst e y
    exact hs i σ _ hlt p
  · have e : i = n := by omega
    subst e
    exact .inl ⟨Nat.le_refl _, hd σ H p⟩
end L2
namespace L2
open PySem PySem.Spec PyProof.Rows
abbrev R2 := V → V → Hp → VK → Prop
def OpR (X : Cx) (f : Value → Value → Sem Value) (r : R2) : Prop :=
  ∀ (pins : List (Addr × Obj)) (s : Shared) (σ : St) (H : Hp) (x y : V) (v u : Value) (Q : VK), Inv X pins σ H s → RelV x v → RelV y u → r x y H Q →
    wpAny (model X.prog X.w) X.A (f v u) (EP X pins σ Q) X.xe s
def UnR (X : Cx) (f : Value → Sem Value) (r : V → Hp → VK → Prop) : Prop :=
  ∀ (pins : List (Addr × Obj)) (s : Shared) (σ : St) (H : Hp) (x : V) (v : Value) (Q : VK), Inv X pins σ H s → RelV x v → r x H Q →
    wpAny (model X.prog X.w) X.A (f v) (EP X pins σ Q) X.xe s
def CallR (X : Cx) (f : Value) (r : List V → Hp → VK → Prop) : Prop :=
  ∀ (pins : List (Addr × Obj)) (s : Shared) (σ : St) (H : Hp) (xs : List V) (us : List Value) (Q : VK), Inv X pins σ H s → Vals xs us → r xs H Q →
    wpAny (model X.prog X.w) X.A (call f us) (EP X pins σ Q) X.xe s
def tOp (r : R2) (ta tb : TE) : TE := fun σ H Q => ta σ H fun x H1 => tb σ H1 fun y H2 => r x y H2 Q
def tUn (r : V → Hp → VK → Prop) (ta : TE) : TE := fun σ H Q => ta σ H fun x H1 => r x H1 Q
def rI (C : Int → Int → Prop) (g : Int → Int → V) : R2 := fun x y H Q => ∃ i j, x = .int i ∧ y = .int j ∧ C i j ∧ Q (g i j) H
def rI0 (g : Int → Int → V) : R2 := fun x y H Q => ∃ i j, x = .int i ∧ y = .int j ∧ Q (g i j) H
def rU (g : Int → V) : V → Hp → VK → Prop := fun x H Q => ∃ i, x = .int i ∧ Q (g i) H
section
variable {X : Cx} {a b c : Expr} {ta tb tc : TE} {pos : Pos}
theorem binT (ha : PE X a ta) (hb : PE X b tb) {pins : List (Addr × Obj)} {s : Shared} {σ : St} {H : Hp} {R : V → V → Hp → Prop} (I : Inv X pins σ H s)
    (h : ta σ H fun x H1 => tb σ H1 fun y H2 => R x y H2) {Q : Value → Shared → Prop} {f : Value → Value → Sem Value}
    (hf : ∀ v u s2 x y H2, Inv X pins σ H2 s2 → RelV x v → RelV y u → R x y H2 → wpAny (model X.prog X.w) X.A (f v u) Q X.xe s2) :
    wpAny (model X.prog X.w) X.A (eval a X.env) (fun v s₁ => wpAny (model X.prog X.w) X.A (eval b X.env) (fun u s₂ => wpAny (model X.prog X.w) X.A (f v u) Q X.xe s₂) X.xe s₁) X.xe s := by
  refine thn (ha pins s σ H _ I h) fun v s1 ⟨x, H1, I1, r1, q1⟩ => ?_
  refine thn (hb pins s1 σ H1 _ I1 q1) fun u s2 ⟨y, H2, I2, r2, q2⟩ => ?_
  exact hf v u s2 x y H2 I2 r1 r2 q2
theorem pe_op {op : Operator} {r : R2} (ho : OpR X (binaryOp op) r) (ha : PE X a ta) (hb : PE X b tb) : PE X (.BinOp a op b pos) (tOp r ta tb) := by
  intro pins s σ H Q I h
  exact wpAny_BinOp (binT ha hb I h fun v u s2 x y H2 I2 rx ry q => ho pins s2 σ H2 x y v u Q I2 rx ry q)
theorem pe_un {op : UnaryOp} {r : V → Hp → VK → Prop} (ho : UnR X (unaryOp op) r) (ha : PE X a ta) : PE X (.UnaryOp op a pos) (tUn r ta) := by
  intro pins s σ H Q I h
  exact UnaryOp_ (thn (ha pins s σ H _ I h) fun v s1 ⟨x, H1, I1, r1, q1⟩ => ho pins s1 σ H1 x v Q I1 r1 q1)
theorem opI {f : Value → Value → Sem Value} {C : Int → Int → Prop} {g : Int → Int → Int}
    (rule : ∀ (i j : Int) (t u : Tok) (s : Shared) (Q : Value → Shared → Prop) (E : Value → Shared → Prop), C i j → Q (.int (g i j) s.toks) { s with toks := s.toks + 1 } → wpAny (model X.prog X.w) X.A (f (.int i t) (.int j u)) Q E s) :
    OpR X f (rI C fun i j => .int (g i j)) := by
  intro pins s σ H x y v u Q I rx ry h
  obtain ⟨i, j, rfl, rfl, hc, q⟩ := h
  obtain ⟨t, rfl⟩ := rx
  obtain ⟨t', rfl⟩ := ry
  exact rule i j t t' s _ _ hc ⟨.int (g i j), H, I.tok _, ⟨_, rfl⟩, q⟩
theorem opI0 {f : Value → Value → Sem Value} {g : Int → Int → Int}
    (rule : ∀ (i j : Int) (t u : Tok) (s : Shared) (Q : Value → Shared → Prop) (E : Value → Shared → Prop), Q (.int (g i j) s.toks) { s with toks := s.toks + 1 } → wpAny (model X.prog X.w) X.A (f (.int i t) (.int j u)) Q E s) :
    OpR X f (rI0 fun i j => .int (g i j)) := by
  intro pins s σ H x y v u Q I rx ry h
  obtain ⟨i, j, rfl, rfl, q⟩ := h
  obtain ⟨t, rfl⟩ := rx
  obtain ⟨t', rfl⟩ := ry
  exact rule i j t t' s _ _ ⟨.int (g i j), H, I.tok _, ⟨_, rfl⟩, q⟩
theorem opB0 {f : Value → Value → Sem Value} {g : Int → Int → Bool}
    (rule : ∀ (i j : Int) (t u : Tok) (s : Shared) (Q : Value → Shared → Prop) (E : Value → Shared → Prop), Q (.bool (g i j)) s → wpAny (model X.prog X.w) X.A (f (.int i t) (.int j u)) Q E s) :
    OpR X f (rI0 fun i j => .bl (g i j)) := by
  intro pins s σ H x y v u Q I rx ry h
  obtain ⟨i, j, rfl, rfl, q⟩ := h
  obtain ⟨t, rfl⟩ := rx
  obtain ⟨t', rfl⟩ := ry
  exact rule i j t t' s _ _ ⟨.bl (g i j), H, I, rfl, q⟩
def CDiv (i j : Int) : Prop := 0 < j ∧ j < 1073741824
def CPow (i j : Int) : Prop := 0 ≤ j ∧ j ≤ 1000000 ∧ i.natAbs < 2 ^ 64
def CMul (i j : Int) : Prop := (-(2 ^ 64) < i ∧ i < 2 ^ 64) ∨ (-(2 ^ 64) < j ∧ j < 2 ^ 64)
theorem CMul.ok {i j : Int} (h : CMul i j) : IntMulOk i j := by
  rcases h with ⟨h1, h2⟩ | ⟨h1, h2⟩
  · exact .of_left (intBits_le_64 h1 h2)
  · exact .of_right (intBits_le_64 h1 h2)
theorem two_pow_nn (k : Nat) : (0 : Int) ≤ 2 ^ k := by
  rw [two_pow_cast]
  exact Int.natCast_nonneg _
theorem op_add : OpR X (binaryOp .Add) (rI0 fun i j => .int (i + j)) := opI0 fun _ _ _ _ _ _ _ q => add_int q
theorem op_sub : OpR X (binaryOp .Sub) (rI0 fun i j => .int (i - j)) := opI0 fun _ _ _ _ _ _ _ q => sub_int q
theorem op_mul : OpR X (binaryOp .Mult) (rI CMul fun i j => .int (i * j)) := opI fun _ _ _ _ _ _ _ hc q => mul_int q hc.ok
theorem op_fdiv : OpR X (binaryOp .FloorDiv) (rI CDiv fun i j => .int (i / j)) := opI fun i j _ _ _ _ _ hc q => by
  have h1 : (0 : Int) < j := hc.1
  have h2 : j < 1073741824 := hc.2
  exact floordiv_int (by omega) (by rw [Int.fdiv_eq_ediv_of_nonneg i (by omega)]; exact q) (.inl (PyProof.noPylong_small (by omega)))
theorem op_mod : OpR X (binaryOp .Mod) (rI (fun _ j => 0 < j) fun i j => .int (i % j)) := opI fun i j _ _ _ _ _ hc q => by
  have h1 : (0 : Int) < j := hc
  exact mod_int' (by omega) (by rw [Int.fmod_eq_emod_of_nonneg i (by omega)]; exact q)
theorem op_shl : OpR X (binaryOp .LShift) (rI CPow fun i j => .int (i * 2 ^ j.toNat)) := opI fun _ _ _ _ _ _ _ hc q => lshift_int_small hc.1 hc.2.1 hc.2.2 q
theorem op_shr : OpR X (binaryOp .RShift) (rI (fun _ j => 0 ≤ j) fun i j => .int (i / 2 ^ j.toNat)) := opI fun i j _ _ _ _ _ hc q =>
  rshift_int hc (by rw [Int.fdiv_eq_ediv_of_nonneg i (two_pow_nn _)]; exact q)
theorem op_and : OpR X (binaryOp .BitAnd) (rI0 fun i j => .int (Builtin.bitAnd i j)) := opI0 fun _ _ _ _ _ _ _ q => and_int q
theorem op_or : OpR X (binaryOp .BitOr) (rI0 fun i j => .int (Builtin.bitOr i j)) := opI0 fun _ _ _ _ _ _ _ q => or_int q
theorem op_xor : OpR X (binaryOp .BitXor) (rI0 fun i j => .int (Builtin.bitXor i j)) := opI0 fun _ _ _ _ _ _ _ q => xor_int q
theorem unI {f : Value → Sem Value} {g : Int → Int}
    (rule : ∀ (i : Int) (t : Tok) (s : Shared) (Q : Value → Shared → Prop) (E : Value → Shared → Prop), Q (.int (g i) s.toks) { s with toks := s.toks + 1 } → wpAny (model X.prog X.w) X.A (f (.int i t)) Q E s) :
    UnR X f (rU fun i => .int (g i)) := by
  intro pins s σ H x v Q I rx h
  obtain ⟨i, rfl, q⟩ := h
  obtain ⟨t, rfl⟩ := rx
  exact rule i t s _ _ ⟨.int (g i), H, I.tok _, ⟨_, rfl⟩, q⟩
theorem un_neg : UnR X (unaryOp .USub) (rU fun i => .int (-i)) := unI fun _ _ _ _ _ q => neg_int q
end
def scal : V → V → Bool
  | .non, .non => true | .non, .int _ => true | .int _, .non => true | .non, .bl _ => true | .bl _, .non => true | .non, .str _ => true | .str _, .non => true
  | .int _, .int _ => true | .bl _, .bl _ => true | .str _, .str _ => true | .byt _, .byt _ => true
  | .int _, .str _ => true | .str _, .int _ => true | .bl _, .str _ => true | .str _, .bl _ => true
  | _, _ => false
def rEq : R2 := fun x y H Q => scal x y = true ∧ Q (.bl (decide (x = y))) H
def rNe : R2 := fun x y H Q => scal x y = true ∧ Q (.bl (!decide (x = y))) H
theorem dec_int {i j : Int} : decide (V.int i = V.int j) = (i == j) := by
  rw [Bool.eq_iff_iff]
  simp
theorem dec_bl {i j : Bool} : decide (V.bl i = V.bl j) = (i == j) := by
  rw [Bool.eq_iff_iff]
  simp
theorem dec_str {i j : Str} : decide (V.str i = V.str j) = (i == j) := by
  rw [Bool.eq_iff_iff]
  simp
theorem dec_byt {i j : Array UInt8} : decide (V.byt i = V.byt j) = (i.toList == j.toList) := by
  rw [Bool.eq_iff_iff]
  cases i
  cases j
  simp
section
variable {X : Cx} {a b c : Expr} {ta tb tc : TE} {pos : Pos}
theorem fin_bl {pins : List (Addr × Obj)} {σ : St} {H : Hp} {s : Shared} {Q : VK} {k k' : Bool} (I : Inv X pins σ H s) (q : Q (.bl k) H) (e : k = k') : EP X pins σ Q (.bool k') s := by
  subst e
  exact ⟨.bl k, H, I, rfl, q⟩
theorem op_eq : OpR X (compareOp .Eq) rEq := by
  intro pins s σ H x y v u Q I rx ry h
  obtain ⟨hs, q⟩ := h
  cases x with
  | non =>
    cases rx
    cases y with
    | non => cases ry; exact PySem.EqNone.eq_none_none (fin_bl I q (by simp))
    | bl j => cases ry; exact PySem.EqNone.eq_none_bool (fin_bl I q (by simp))
    | int j => obtain ⟨t', rfl⟩ := ry; exact PySem.EqNone.eq_none_int (fin_bl I q (by simp))
    | str j => obtain ⟨t', rfl⟩ := ry; exact PySem.EqNone.eq_none_str (fin_bl I q (by simp))
    | _ => exact absurd (show false = true from hs) Bool.false_ne_true
  | bl i =>
    cases rx
    cases y with
    | non => cases ry; exact PySem.EqNone.eq_bool_none (fin_bl I q (by simp))
    | bl j => cases ry; exact eq_bool (fin_bl I q dec_bl)
    | str j => obtain ⟨t', rfl⟩ := ry; exact PySem.EqMixed.eq_bool_str (fin_bl I q (by simp))
    | _ => exact absurd (show false = true from hs) Bool.false_ne_true
  | int i =>
    obtain ⟨t, rfl⟩ := rx
    cases y with
    | non => cases ry; exact PySem.EqNone.eq_int_none (fin_bl I q (by simp))
    | int j => obtain ⟨t', rfl⟩ := ry; exact eq_int (fin_bl I q dec_int)
    | str j => obtain ⟨t', rfl⟩ := ry; exact PySem.EqMixed.eq_int_str (fin_bl I q (by simp))
    | _ => exact absurd (show false = true from hs) Bool.false_ne_true
  | str i =>
    obtain ⟨t, rfl⟩ := rx
    cases y with
    | non => cases ry; exact PySem.EqNone.eq_str_none (fin_bl I q (by simp))
    | bl j => cases ry; exact PySem.EqMixed.eq_str_bool (fin_bl I q (by simp))
    | int j => obtain ⟨t', rfl⟩ := ry; exact PySem.EqMixed.eq_str_int (fin_bl I q (by simp))
    | str j => obtain ⟨t', rfl⟩ := ry; exact eq_str (fin_bl I q dec_str)
    | _ => exact absurd (show false = true from hs) Bool.false_ne_true
  | byt i =>
    obtain ⟨t, rfl⟩ := rx
    cases y with
    | byt j => obtain ⟨t', rfl⟩ := ry; exact PySem.W.eq_bytes (fin_bl I q dec_byt)
    | _ => exact absurd (show false = true from hs) Bool.false_ne_true
  | _ => cases y <;> exact absurd (show false = true from hs) Bool.false_ne_true
theorem op_ne : OpR X (compareOp .NotEq) rNe := by
  intro pins s σ H x y v u Q I rx ry h
  obtain ⟨hs, q⟩ := h
  cases x with
  | non =>
    cases rx
    cases y with
    | non => cases ry; exact PySem.EqNone.ne_none_none (fin_bl I q (by simp))
    | bl j => cases ry; exact PySem.EqNone.ne_none_bool (fin_bl I q (by simp))
    | int j => obtain ⟨t', rfl⟩ := ry; exact PySem.EqNone.ne_none_int (fin_bl I q (by simp))
    | str j => obtain ⟨t', rfl⟩ := ry; exact PySem.EqNone.ne_none_str (fin_bl I q (by simp))
    | _ => exact absurd (show false = true from hs) Bool.false_ne_true
  | bl i =>
    cases rx
    cases y with
    | non => cases ry; exact PySem.EqNone.ne_bool_none (fin_bl I q (by simp))
    | bl j => cases ry; exact ne_bool (fin_bl I q (congrArg not dec_bl))
    | str j => obtain ⟨t', rfl⟩ := ry; exact PySem.EqMixed.ne_bool_str (fin_bl I q (by simp))
    | _ => exact absurd (show false = true from hs) Bool.false_ne_true
  | int i =>
    obtain ⟨t, rfl⟩ := rx
    cases y with
    | non => cases ry; exact PySem.EqNone.ne_int_none (fin_bl I q (by simp))
    | int j => obtain ⟨t', rfl⟩ := ry; exact ne_int (fin_bl I q (congrArg not dec_int))
    | str j => obtain ⟨t', rfl⟩ := ry; exact PySem.EqMixed.ne_int_str (fin_bl I q (by simp))
    | _ => exact absurd (show false = true from hs) Bool.false_ne_true
  | str i =>
    obtain ⟨t, rfl⟩ := rx
    cases y with
    | non => cases ry; exact PySem.EqNone.ne_str_none (fin_bl I q (by simp))
    | bl j => cases ry; exact PySem.EqMixed.ne_str_bool (fin_bl I q (by simp))
    | int j => obtain ⟨t', rfl⟩ := ry; exact PySem.EqMixed.ne_str_int (fin_bl I q (by simp))
    | str j => obtain ⟨t', rfl⟩ := ry; exact ne_str (fin_bl I q (congrArg not dec_str))
    | _ => exact absurd (show false = true from hs) Bool.false_ne_true
  | byt i =>
    obtain ⟨t, rfl⟩ := rx
    cases y with
    | byt j => obtain ⟨t', rfl⟩ := ry; exact PySem.W.ne_bytes (fin_bl I q (congrArg not dec_byt))
    | _ => exact absurd (show false = true from hs) Bool.false_ne_true
  | _ => cases y <;> exact absurd (show false = true from hs) Bool.false_ne_true
theorem op_lt : OpR X (compareOp .Lt) (rI0 fun i j => .bl (decide (i < j))) := opB0 fun _ _ _ _ _ _ _ q => lt_int q
theorem op_le : OpR X (compareOp .LtE) (rI0 fun i j => .bl (decide (i ≤ j))) := opB0 fun _ _ _ _ _ _ _ q => le_int q
theorem op_gt : OpR X (compareOp .Gt) (rI0 fun i j => .bl (decide (j < i))) := opB0 fun _ _ _ _ _ _ _ q => gt_int q
theorem op_ge : OpR X (compareOp .GtE) (rI0 fun i j => .bl (decide (j ≤ i))) := opB0 fun _ _ _ _ _ _ _ q => ge_int q
theorem op_isN : OpR X (compareOp .Is) (fun x y H Q => y = .non ∧ Q (.bl (decide (x = .non))) H) := by
  intro pins s σ H x y v u Q I rx ry h
  obtain ⟨rfl, q⟩ := h
  cases ry
  refine is_none_gen (fin_bl I q ?_)
  cases x <;> first
    | (cases rx; rfl)
    | (obtain ⟨t, rfl⟩ := rx; rfl)
theorem OpR.or {f : Value → Value → Sem Value} {r r' : R2} (h : OpR X f r) (h' : OpR X f r') : OpR X f (fun x y H Q => r x y H Q ∨ r' x y H Q) := by
  intro pins s σ H x y v u Q I rx ry q
  rcases q with q | q
  · exact h pins s σ H x y v u Q I rx ry q
  · exact h' pins s σ H x y v u Q I rx ry q
theorem nomark (b : Expr) {op : CmpOp} (h : op ≠ .In := by decide) (h2 : op ≠ .NotIn := by decide) : behindInMarks op b = false := by
  have e1 : (op == CmpOp.In) = false := by cases op <;> first | rfl | exact absurd rfl h
  have e2 : (op == CmpOp.NotIn) = false := by cases op <;> first | rfl | exact absurd rfl h2
  cases b <;> simp [behindInMarks, e1, e2]
theorem pe_cmpR {op : CmpOp} {r : R2} (ho : OpR X (compareOp op) r) (ha : PE X a ta) (hb : PE X b tb) (hm : behindInMarks op b = false) : PE X (.Compare a [op] [b] pos) (tOp r ta tb) := by
  intro pins s σ H Q I h
  exact wpAny_Compare1 (binT ha hb I h fun v u s2 x y H2 I2 rx ry q => ho pins s2 σ H2 x y v u Q I2 rx ry q) hm
def tTest (t : TE) : TT := fun σ H Q => t σ H fun x H' => ∃ k, x = .bl k ∧ Q k H'
theorem pt_cmpR {op : CmpOp} {r : R2} (ho : OpR X (compareOp op) r) (ha : PE X a ta) (hb : PE X b tb) (hm : behindInMarks op b = false) : PT X (.Compare a [op] [b] pos) (tTest (tOp r ta tb)) := by
  intro pins s σ H Q I h
  refine wpAny_isTrue_Compare1 (thn (ha pins s σ H _ I h) fun v s1 ⟨x, H1, I1, r1, q1⟩ => thn (hb pins s1 σ H1 _ I1 q1) fun u s2 ⟨y, H2, I2, r2, q2⟩ =>
    thn (ho pins s2 σ H2 x y v u _ I2 r1 r2 q2) fun c s3 ⟨z, H3, I3, r3, k, e, q3⟩ => ?_) hm
  subst e
  cases r3
  exact wpAny_truthy_bool ⟨H3, I3, q3⟩
def tChain (r r' : R2) (ta tb tc : TE) : TE := fun σ H Q => ta σ H fun x H1 => tb σ H1 fun y H2 => r x y H2 fun z H3 => ∃ k, z = .bl k ∧
  (if k = true then tc σ H3 fun w' H4 => r' y w' H4 Q else Q (.bl false) H3)
theorem pe_chain {op op' : CmpOp} {r r' : R2} (ho : OpR X (compareOp op) r) (ho' : OpR X (compareOp op') r') (ha : PE X a ta) (hb : PE X b tb) (hc : PE X c tc)
    (hm : lastMarks [op, op'] [b, c] = false := by with_unfolding_all rfl) : PE X (.Compare a [op, op'] [b, c] pos) (tChain r r' ta tb tc) := by
  intro pins s σ H Q I h
  refine Compare_chain (thn (ha pins s σ H _ I h) fun v s1 ⟨x, H1, I1, r1, q1⟩ => chain_link (thn (hb pins s1 σ H1 _ I1 q1) fun u s2 ⟨y, H2, I2, r2, q2⟩ =>
    thn (ho pins s2 σ H2 x y v u _ I2 r1 r2 q2) fun d s3 ⟨z, H3, I3, r3, k, e, q3⟩ => ?_)) hm
  subst e
  cases r3
  refine wpAny_truthy_bool ?_
  cases k with
  | false => exact ite_ff ⟨.bl false, H3, I3, rfl, q3⟩
  | true => exact ite_tt (chain_last (thn (hc pins s3 σ H3 _ I3 q3) fun w' s4 ⟨z', H4, I4, r4, q4⟩ => ho' pins s4 σ H4 y z' u w' Q I4 r2 r4 q4))
theorem line63 : (sizeLine : Nat) < 2 ^ 63 := by rw [sizeLine_eq]; decide
theorem vals1 {x : V} {us : List Value} (r : Vals [x] us) : ∃ u, us = [u] ∧ RelV x u := by
  cases r with
  | cons r1 r2 => cases r2; exact ⟨_, rfl, r1⟩
theorem vals2 {x y : V} {us : List Value} (r : Vals [x, y] us) : ∃ u w', us = [u, w'] ∧ RelV x u ∧ RelV y w' := by
  cases r with
  | cons r1 r2 =>
    cases r2 with
    | cons r3 r4 => cases r4; exact ⟨_, _, rfl, r1, r3⟩
theorem call_max2 (hc : X.calm = true) : CallR X (.builtin "max") (fun xs H Q => ∃ i j, xs = [.int i, .int j] ∧ Q (.int (if j > i then j else i)) H) := by
  intro pins s σ H xs us Q I r h
  obtain ⟨i, j, rfl, q⟩ := h
  obtain ⟨u, w', rfl, ⟨t, rfl⟩, ⟨t', rfl⟩⟩ := vals2 r
  refine max_two_ints (I.ok.hd hc) fun h' tk k => ⟨_, H, I.kept k, ?_, q⟩
  by_cases hj : j > i
  · rw [if_pos hj, if_pos hj]; exact ⟨_, rfl⟩
  · rw [if_neg hj, if_neg hj]; exact ⟨_, rfl⟩
theorem call_min2 (hc : X.calm = true) : CallR X (.builtin "min") (fun xs H Q => ∃ i j, xs = [.int i, .int j] ∧ Q (.int (if j < i then j else i)) H) := by
  intro pins s σ H xs us Q I r h
  obtain ⟨i, j, rfl, q⟩ := h
  obtain ⟨u, w', rfl, ⟨t, rfl⟩, ⟨t', rfl⟩⟩ := vals2 r
  refine min_two_ints (I.ok.hd hc) fun h' tk k => ⟨_, H, I.kept k, ?_, q⟩
  by_cases hj : j < i
  · rw [if_pos hj, if_pos hj]; exact ⟨_, rfl⟩
  · rw [if_neg hj, if_neg hj]; exact ⟨_, rfl⟩
theorem call_ord : CallR X (.builtin "ord") (fun xs H Q => ∃ x, xs = [.str x] ∧ x.length = 1 ∧ Q (.int (x.cps.getD 0 0 : Nat)) H) := by
  intro pins s σ H xs us Q I r h
  obtain ⟨x, rfl, hz, q⟩ := h
  obtain ⟨u, rfl, t, rfl⟩ := vals1 r
  exact ord_of_one hz ⟨.int _, H, I.tok _, ⟨_, rfl⟩, q⟩
end
end L2
namespace L2
open PySem PySem.Spec PyProof.Rows
structure ObjM (h : Heap) (x dx C : Addr) (mA : Str → Option Value) : Prop where
  obj : h.get? x = some (PySem.W.instObj C dx)
  ns : h.Ns1 dx mA
  ne : dx ≠ x
theorem lookIn_ns {h : Heap} {dx : Addr} {mA : Str → Option Value} (n : h.Ns1 dx mA) : ∃ od, h.get? dx = some od ∧ ∀ name, PySem.W.lookIn name od = some (mA name) := by
  obtain ⟨o, es, ep, ho, hd, hk, _, hm⟩ := n
  refine ⟨o, ho, fun name => ?_⟩
  have e := hm name
  unfold nsFind findBy at e
  rw [← Array.find?_toList] at e
  unfold PySem.W.lookIn
  rw [hd]
  dsimp only
  split
  · rename_i y q
    rw [q] at e
    exact congrArg some e
  · rename_i q
    rw [q] at e
    have a : es.toList.any (·.refKey) = false := by
      rw [List.any_eq_false]
      intro y hy
      obtain ⟨z, t, hkey⟩ := hk y (Array.mem_toList_iff.mp hy)
      simp [DictEntry.refKey, hkey]
    have a' : ¬ es.toList.any (·.refKey) = true := by rw [a]; exact Bool.false_ne_true
    rw [if_neg a']
    exact congrArg some e
theorem ObjM.look {h : Heap} {x dx C : Addr} {mA : Str → Option Value} (I : ObjM h x dx C mA) : ∃ od, PySem.W.InstAt h x (PySem.W.instObj C dx) C (some od) ∧ ∀ name, PySem.W.lookIn name od = some (mA name) :=
  let ⟨od, ho, hl⟩ := lookIn_ns I.ns
  ⟨od, ⟨I.obj, rfl, rfl, ho⟩, hl⟩
section
variable {prog : Program} {w : World} {A : Around} {E : Value → Shared → Prop} {s : Shared} {K : PySem.W.Frag} {x dx C f : Addr} {mA : Str → Option Value} {name : Str} {v : Value}
theorem get_map {expr : Bool} {Q : Value → Shared → Prop} (X : K.In s.heap) (I : ObjM s.heap x dx C mA) (hg : PySem.W.plainGet K C name = true) (hh : PySem.W.hasDictIn K C = true)
    (ha : PySem.W.findIn K (.ref C) name = some none) (hv : mA name = some v) (hv' : PySem.W.handedIn v = true) (h : Q v { s with toks := s.toks + 1 }) :
    wpAny (model prog w) A (getAttr (.ref x) name expr) Q E s := by
  obtain ⟨od, J, hl⟩ := I.look
  exact PySem.W.get_value X J (PySem.W.plainGet_of hg).1 (PySem.W.findObj_own hh ha rfl (by rw [hl, hv])) hv' h
theorem get_meth {pl : Sem Bool} {Q : Value × List Value → Shared → Prop} (X : K.In s.heap) (I : ObjM s.heap x dx C mA) (hg : PySem.W.plainGet K C name = true)
    (hf : PySem.W.findIn K (.ref C) name = some (some (.ref f))) (ht : PySem.W.isFn K (.ref f) = true) (hv : mA name = none) (h : Q (.ref f, [.ref x]) s) :
    wpAny (model prog w) A (getMethod (.ref x) name pl) Q E s := by
  obtain ⟨od, J, hl⟩ := I.look
  exact PySem.W.method_fn X J (PySem.W.plainGet_of hg).1 (PySem.W.plainGet_of hg).2 hf (beq_iff_eq.mp ht) (by show (PySem.W.lookIn name od).map (·.isSome) = some false; rw [hl, hv]; rfl) h
theorem set_map {ns : List Str} {Q : Unit → Shared → Prop} (X : K.In s.heap) (I : ObjM s.heap x dx C mA)
    (hs : PySem.W.findIn K (.ref C) "__setattr__" = some (some (.builtin "object.__setattr__"))) (hp : PySem.W.plainOver K C = true) (ht : PySem.W.takerIn K C name = some none) (hh : PySem.W.hasDictIn K C = true)
    (hw : PySem.Within mA ns) (hsz : ns.length ≤ sizeLine)
    (h : ∀ h', ObjM h' x dx C (fun y => if y = name then some v else mA y) → Heap.SameBut dx s.heap h' → Q () { s with heap := h', toks := s.toks + 2 }) :
    wpAny (model prog w) A (setAttr (.ref x) name v) Q E s := by
  obtain ⟨od, J, hl⟩ := I.look
  refine PySem.W.set_plain X J hs (PySem.W.osa_open (s := { s with toks := s.toks + 1 }) (r := none) X J hp ht fun b => ?_)
  obtain ⟨cd, hc, hd'⟩ := PySem.W.any_some hh
  have hx : s.heap.get? x = some ⟨.ref C, some dx, .plain, #[]⟩ := I.obj
  refine wpAny_bind (wpAny_pure (wpAny_bind (wpAny_bind (wpAny_loadPart hx (wpAny_bind (PySem.W.Looks.here (s := { s with toks := s.toks + 1 }) (PySem.W.looks_clsIn X hc) ?_))))))
  rw [hd']
  refine wpAny_pure (a := some dx) (wpAny_bind (wpAny_pure (wpAny_bind ?_)))
  refine wpAny_nsSet1 (s := { s with toks := s.toks + 1 }) I.ns fun h' hn2 hs2 => ?_
  obtain ⟨oD, esD, epD, hoD, hdD, hcD⟩ := hn2.count (PySem.Within.cons name v hw)
  refine wpAny_bind (wpAny_lookBehind hoD (by rw [hdD]; exact pastItsLine_dict (Nat.le_trans hcD (by rw [List.length_cons]; omega))) ?_)
  exact wpAny_pure (h _ ⟨(hs2.2 _ (Ne.symm I.ne)).trans I.obj, hn2, I.ne⟩ hs2)
theorem make_map {R : Result → Shared → Prop} {vs : List Value} {kw : List (Str × Value)} (X : K.In s.heap) (hm : PySem.W.makesIn K C = true)
    (hi : PySem.W.findIn K (.ref C) "__init__" = some (some (.ref f))) (hf : PySem.W.typeIn K (.ref f) = some (.type "function"))
    (h : codeAny (model prog w) (A.under (.builtin "type.__call__" ⟨.ref C :: vs, kw⟩)) (.call (.ref f) ⟨.ref (s.heap.objs.size + 1) :: vs, kw⟩) (PySem.W.InitBack (s.heap.objs.size + 1) R)
      { s with heap := (s.heap.push PySem.W.emptyDict).push (PySem.W.instObj C s.heap.objs.size) }) :
    codeAny (model prog w) A (.call (.ref C) ⟨vs, kw⟩) R s := by
  obtain ⟨hh, g, d, t, os⟩ := s
  exact PySem.W.make_core (PySem.W.makes_of X hm) (PySem.W.looks_findIn X hi) (fun self => PySem.W.bind_fn X self hf) (.inl rfl) h
end
def putF (f : Str) (v : V) : List (Str × V) → List (Str × V)
  | [] => [(f, v)]
  | (g, x) :: r => if g = f then (g, v) :: r else (g, x) :: putF f v r
theorem lookup_putF (f g : Str) (v : V) : ∀ fs : List (Str × V), (putF f v fs).lookup g = if g = f then some v else fs.lookup g
  | [] => by
    show List.lookup g [(f, v)] = _
    by_cases h : g = f
    · have hb : (g == f) = true := beq_iff_eq.mpr h
      simp only [List.lookup, hb, if_pos h]
    · have hb : (g == f) = false := beq_eq_false_iff_ne.mpr h
      simp only [List.lookup, hb, if_neg h]
  | (k, x) :: r => by
    have ih := lookup_putF f g v r
    rw [show putF f v ((k, x) :: r) = (if k = f then (k, v) :: r else (k, x) :: putF f v r) from rfl]
    by_cases hk : k = f
    · rw [if_pos hk]
      by_cases h : g = k
      · have hb : (g == k) = true := beq_iff_eq.mpr h
        simp only [List.lookup, hb, if_pos (h.trans hk)]
      · have hb : (g == k) = false := beq_eq_false_iff_ne.mpr h
        simp only [List.lookup, hb, if_neg (fun e : g = f => h (e.trans hk.symm))]
    · rw [if_neg hk]
      by_cases h : g = k
      · have hb : (g == k) = true := beq_iff_eq.mpr h
        simp only [List.lookup, hb, if_neg (fun e : g = f => hk (h.symm.trans e))]
      · have hb : (g == k) = false := beq_eq_false_iff_ne.mpr h
        simp only [List.lookup, hb]
        exact ih
theorem keys_putF (f : Str) (v : V) : ∀ fs : List (Str × V), f ∈ (putF f v fs).map (·.1) ∧ ∀ g, g ∈ fs.map (·.1) → g ∈ (putF f v fs).map (·.1)
  | [] => ⟨by simp [putF], fun g h => by simp at h⟩
  | (k, x) :: r => by
    obtain ⟨i1, i2⟩ := keys_putF f v r
    rw [show putF f v ((k, x) :: r) = (if k = f then (k, v) :: r else (k, x) :: putF f v r) from rfl]
    by_cases hk : k = f
    · rw [if_pos hk]
      subst hk
      exact ⟨by simp, fun g h => by simpa using h⟩
    · rw [if_neg hk]
      refine ⟨?_, fun g h => ?_⟩
      · rw [List.map_cons]
        exact List.mem_cons_of_mem _ i1
      · rw [List.map_cons] at h ⊢
        rcases List.mem_cons.mp h with e | e
        · exact List.mem_cons.mpr (.inl e)
        · exact List.mem_cons_of_mem _ (i2 g e)
theorem length_putF (f : Str) (v : V) : ∀ fs : List (Str × V), (putF f v fs).length ≤ fs.length + 1
  | [] => by simp [putF]
  | (k, x) :: r => by
    have ih := length_putF f v r
    rw [show putF f v ((k, x) :: r) = (if k = f then (k, v) :: r else (k, x) :: putF f v r) from rfl]
    by_cases hk : k = f
    · rw [if_pos hk, List.length_cons, List.length_cons]; omega
    · rw [if_neg hk, List.length_cons, List.length_cons]; omega
theorem RelO.some_of {v : V} {o : Option Value} (r : RelO (some v) o) : ∃ u, o = some u ∧ RelV v u := by
  cases o with
  | none => exact (show False from r).elim
  | some u => exact ⟨u, rfl, r⟩
theorem RelO.none_of {o : Option Value} (r : RelO none o) : o = none := by
  cases o with
  | none => rfl
  | some u => exact (show False from r).elim
theorem handed_of {v : V} {u : Value} (r : RelV v u) : PySem.W.handedIn u = true := by
  cases v with
  | non => cases (show u = Value.none from r); rfl
  | bl b => cases (show u = Value.bool b from r); rfl
  | int i => obtain ⟨t, e⟩ := (show ∃ t, u = Value.int i t from r); cases e; rfl
  | str x => obtain ⟨t, e⟩ := (show ∃ t, u = Value.str x t from r); cases e; rfl
  | byt b => obtain ⟨t, e⟩ := (show ∃ t, u = Value.bytes b t from r); cases e; rfl
  | flt b => obtain ⟨t, e⟩ := (show ∃ t, u = Value.float b t from r); cases e; rfl
  | ref a => cases (show u = Value.ref a from r); rfl
  | ty n => cases (show u = Value.type n from r); rfl
section
variable {P : Program} {w : World} {H H' : Hp} {h h' : Heap} {a C dx : Addr} {fs fs' : List (Str × V)}
theorem ins_get (hok : HOk P w H h) (e : H a = some (.ins C dx fs)) : ∃ mA, ObjM h a dx C mA ∧ (∀ f, RelO (fs.lookup f) (mA f)) ∧ PySem.Within mA (fs.map (·.1)) ∧ fs.length ≤ 1000 ∧ H dx = some (.own a) := by
  obtain ⟨d, z, ne, ob, mA, n, r, q⟩ := (show ObjOk P w H h a (.ins C dx fs) from hok a _ e)
  exact ⟨mA, ⟨ob, n, ne⟩, r, q, z, d⟩
end
structure Cls (K : PySem.W.Frag) (C : Addr) : Prop where
  pg : PySem.W.plainGet K C Str.empty = true
  hd : PySem.W.hasDictIn K C = true
  po : PySem.W.plainOver K C = true
  sa : PySem.W.findIn K (.ref C) "__setattr__" = some (some (.builtin "object.__setattr__"))
theorem Cls.get {K : PySem.W.Frag} {C : Addr} (c : Cls K C) (f : Str) : PySem.W.plainGet K C f = true := c.pg
def NoAttr (K : PySem.W.Frag) (C : Addr) (f : Str) : Prop := PySem.W.findIn K (.ref C) f = some none
theorem NoAttr.taker {K : PySem.W.Frag} {C : Addr} {f : Str} (n : NoAttr K C f) : PySem.W.takerIn K C f = some none := by
  unfold PySem.W.takerIn
  rw [show PySem.W.findIn K (.ref C) f = some none from n]
  rfl
structure Meth (K : PySem.W.Frag) (C : Addr) (m : Str) (f : Addr) : Prop where
  at_ : PySem.W.findIn K (.ref C) m = some (some (.ref f))
  fn : PySem.W.isFn K (.ref f) = true
  kp : PySem.W.keepIn K (.ref f) = true
section
variable {X : Cx} {pins : List (Addr × Obj)} {σ : St} {H : Hp} {s : Shared} {a C dx : Addr} {fs : List (Str × V)} {f : Str} {v : V} {A : Around} {E : Value → Shared → Prop}
theorem getattr_ok {b : Bool} {Q : Value → Shared → Prop} (I : Inv X pins σ H s) (e : H a = some (.ins C dx fs)) (c : Cls X.K C) (n : NoAttr X.K C f) (l : fs.lookup f = some v)
    (h : ∀ u s', Inv X pins σ H s' → RelV v u → Q u s') : wpAny (model X.prog X.w) A (getAttr (.ref a) f b) Q E s := by
  obtain ⟨mA, O, r, _, _, _⟩ := ins_get I.hok e
  obtain ⟨u, hu, ru⟩ := RelO.some_of (v := v) (o := mA f) (by rw [← l]; exact r f)
  exact get_map I.kIn O (c.get f) c.hd n hu (handed_of ru) (h u _ (I.tok _) ru)
theorem getmeth_ok {m : Str} {g : Addr} {pl : Sem Bool} {Q : Value × List Value → Shared → Prop} (I : Inv X pins σ H s) (e : H a = some (.ins C dx fs)) (c : Cls X.K C) (k : Meth X.K C m g) (l : fs.lookup m = none)
    (h : Q (.ref g, [.ref a]) s) : wpAny (model X.prog X.w) A (getMethod (.ref a) m pl) Q E s := by
  obtain ⟨mA, O, r, _, _, _⟩ := ins_get I.hok e
  have hn : mA m = none := RelO.none_of (by rw [← l]; exact r m)
  exact get_meth I.kIn O (c.get m) k.at_ k.fn hn h
theorem setattr_ok {y : V} {u : Value} {Q : Unit → Shared → Prop} (I : Inv X pins σ H s) (e : H a = some (.ins C dx fs)) (c : Cls X.K C) (n : NoAttr X.K C f) (hl : fs.length < 1000) (ry : RelV y u)
    (h : ∀ s', Inv X pins σ (upd H a (.ins C dx (putF f y fs))) s' → Q () s') : wpAny (model X.prog X.w) A (setAttr (.ref a) f u) Q E s := by
  obtain ⟨mA, O, r, wi, _, ho⟩ := ins_get I.hok e
  have hz : (fs.map (·.1)).length ≤ sizeLine := by rw [List.length_map, sizeLine_eq]; omega
  refine set_map I.kIn O c.sa c.po n.taker c.hd wi hz fun h' O' sb => h _ ?_
  have hd : ∃ o, h'.get? dx = some o := let ⟨o, _, _, e', _⟩ := O'.ns; ⟨o, e'⟩
  refine I.write (x := a) (e := dx) (by rw [e]; exact True.intro) (.inr ho) (fun b q hb z => (sb.2 b hb).trans z) hd ?_
  refine ⟨by rw [upd_ne O.ne]; exact ho, ?_, O.ne, O'.obj, _, O'.ns, fun g => ?_, fun g hg => ?_⟩
  · have := length_putF f y fs; omega
  · show RelO ((putF f y fs).lookup g) (if g = f then some u else mA g)
    rw [lookup_putF]
    by_cases q : g = f
    · rw [if_pos q, if_pos q]; exact ry
    · rw [if_neg q, if_neg q]; exact r g
  · by_cases q : g = f
    · rw [q]; exact (keys_putF f y fs).1
    · refine (keys_putF f y fs).2 g (wi g fun z => hg ?_)
      show (if g = f then some u else mA g) = none
      rw [if_neg q]; exact z
theorem Inv.made (I : Inv X pins σ H s) : Inv X pins σ (upd (upd H s.heap.objs.size (.own (s.heap.objs.size + 1))) (s.heap.objs.size + 1) (.ins C s.heap.objs.size []))
    { s with heap := (s.heap.push PySem.W.emptyDict).push (PySem.W.instObj C s.heap.objs.size) } := by
  have e1 : (s.heap.push PySem.W.emptyDict).get? s.heap.objs.size = some PySem.W.emptyDict := Heap.get?_push_size s.heap rfl
  have e2 : ((s.heap.push PySem.W.emptyDict).push (PySem.W.instObj C s.heap.objs.size)).get? (s.heap.objs.size + 1) = some (PySem.W.instObj C s.heap.objs.size) := by
    have := Heap.get?_push_size (s.heap.push PySem.W.emptyDict) (o := PySem.W.instObj C s.heap.objs.size) rfl
    rwa [Heap.size_push] at this
  have e3 : (s.heap.push PySem.W.emptyDict).Ns s.heap.objs.size (fun _ => none) := ⟨PySem.W.emptyDict, #[], _, e1, rfl, (fun e he => absurd he (by simp)), fun _ => rfl⟩
  have I1 := I.laid (a := s.heap.objs.size) (o := .own (s.heap.objs.size + 1)) (h' := s.heap.push PySem.W.emptyDict) (t' := s.toks) (fun b u q => Heap.get?_push_of_some _ q) (Nat.le_refl _) ⟨_, e1⟩
  refine I1.laid (a := s.heap.objs.size + 1) (o := .ins C s.heap.objs.size []) (t' := s.toks) (fun b u q => Heap.get?_push_of_some _ q) (Nat.le_of_eq (Heap.size_push _ _)) ?_
  have ne : s.heap.objs.size ≠ s.heap.objs.size + 1 := Nat.ne_of_lt (Nat.lt_succ_self _)
  refine ⟨by rw [upd_ne ne, upd_same], Nat.zero_le _, ne, e2, fun _ => none, (Heap.Ns1.of_empty e3).at fun o q => Heap.get?_push_of_some _ q, fun _ => True.intro, fun y hy => absurd rfl hy⟩
theorem attr_of {prog : Program} {w : World} {env : Env} {e : Expr} {f : Str} {pos : Pos} {s : Shared} {Q : Value → Shared → Prop} (hb : attributeBase e f env (eval e env) = eval e env)
    (h : wpAny (model prog w) A (eval e env) (fun o s₁ => wpAny (model prog w) A (getAttr o f true) Q E s₁) E s) : wpAny (model prog w) A (eval (.Attribute e f pos) env) Q E s :=
  Attribute_any_ h (by rw [arm_eval_Attribute, hb])
end
def tFld (K : PySem.W.Frag) (ta : TE) (f : Str) : TE := fun σ H Q => ta σ H fun x H1 => ∃ a C dx fs v, x = .ref a ∧ H1 a = some (.ins C dx fs) ∧ Cls K C ∧ NoAttr K C f ∧ fs.lookup f = some v ∧ Q v H1
def sFld (K : PySem.W.Frag) (ta tv : TE) (f : Str) : TS := fun D σ H => tv σ H fun y H1 => ta σ H1 fun x H2 => ∃ a C dx fs, x = .ref a ∧ H2 a = some (.ins C dx fs) ∧ Cls K C ∧ NoAttr K C f ∧ fs.length < 1000 ∧
  D.nx σ (upd H2 a (.ins C dx (putF f y fs)))
def InOp (X : Cx) (op : Operator) (rd : V → V → Hp → VK → Prop) : Prop :=
  ∀ (pins : List (Addr × Obj)) (s : Shared) (σ : St) (H : Hp) (x y : V) (u v : Value) (Q : VK), Inv X pins σ H s → RelV x u → RelV y v → rd x y H Q → wpAny (model X.prog X.w) X.A (inplaceOp op u v) (EP X pins σ Q) X.xe s
def sFldAug (K : PySem.W.Frag) (ta tv : TE) (rd : V → V → Hp → VK → Prop) (f : Str) : TS := fun D σ H => ta σ H fun x H1 => ∃ a C dx fs v, x = .ref a ∧ H1 a = some (.ins C dx fs) ∧ Cls K C ∧ NoAttr K C f ∧ fs.lookup f = some v ∧
  tv σ H1 fun y H2 => rd v y H2 fun z H3 => ∃ dx' fs', H3 a = some (.ins C dx' fs') ∧ fs'.length < 1000 ∧ D.nx σ (upd H3 a (.ins C dx' (putF f z fs')))
section
variable {X : Cx} {o e value : Expr} {f : Str} {pos pos' tpos : Pos} {ta tv : TE}
theorem pe_fld (he : PE X e ta) (hb : attributeBase e f X.env (eval e X.env) = eval e X.env) : PE X (.Attribute e f pos) (tFld X.K ta f) := by
  intro pins s σ H Q I h
  refine attr_of hb (thn (he pins s σ H _ I h) fun u s1 ⟨x, H1, I1, rx, a, C, dx, fs, v, ex, ea, c, n, l, q⟩ => ?_)
  subst ex
  obtain rfl : u = Value.ref a := rx
  exact getattr_ok I1 ea c n l fun u' s2 I2 ru => ⟨v, H1, I2, ru, q⟩
theorem ps_fld (ha : PE X o ta) (hv : PE X value tv) (hs : swapsWith value (some (.Attribute o f pos')) pos.line X.env = pure false) : PS X (.Assign [.Attribute o f pos'] value pos) (sFld X.K ta tv f) := by
  intro pins s σ H D I h
  refine plainObj_wpAny_Assign_Attribute (thn (hv pins s σ H _ I h) fun u s1 ⟨y, H1, I1, ry, q⟩ => thn (ha pins s1 σ H1 _ I1 q) fun ov s2 ⟨x, H2, I2, rx, a, C, dx, fs, ex, ea, c, n, l, q2⟩ => ?_) hs
  subst ex
  obtain rfl : ov = Value.ref a := rx
  exact setattr_ok I2 ea c n l ry fun s3 I3 => ⟨σ, _, I3, q2⟩
theorem ps_fldaug {op : Operator} {rd : V → V → Hp → VK → Prop} (ha : PE X o ta) (hv : PE X value tv) (hop : InOp X op rd) : PS X (.AugAssign (.Attribute o f tpos) op value pos) (sFldAug X.K ta tv rd f) := by
  intro pins s σ H D I h
  refine wpAny_AugAssign_AttributeAny (thn (ha pins s σ H _ I h) fun ov s1 ⟨x, H1, I1, rx, a, C, dx, fs, v, ex, ea, c, n, l, q⟩ => ?_)
  subst ex
  obtain rfl : ov = Value.ref a := rx
  refine getattr_ok I1 ea c n l fun u s2 I2 ru => thn (hv pins s2 σ H1 _ I2 q) fun w3 s3 ⟨y, H2, I3, ry, q3⟩ => thn (hop pins s3 σ H2 v y u w3 _ I3 ru ry q3) fun w4 s4 ⟨z, H3, I4, rz, dx', fs', ea', l', q4⟩ => ?_
  exact setattr_ok I4 ea' c n l' rz fun s5 I5 => ⟨σ, _, I5, q4⟩
def rAdd : V → V → Hp → VK → Prop := fun x y H Q => ∃ i j, x = .int i ∧ y = .int j ∧ Q (.int (i + j)) H
theorem in_add : InOp X .Add rAdd := by
  rintro pins s σ H x y u v Q I rx ry ⟨i, j, rfl, rfl, q⟩
  obtain ⟨t, rfl⟩ := (show ∃ t, u = Value.int i t from rx)
  obtain ⟨t', rfl⟩ := (show ∃ t', v = Value.int j t' from ry)
  exact PyProof.Rows.iadd_int ⟨.int (i + j), H, I.tok _, ⟨_, rfl⟩, q⟩
end
section
variable {X : Cx} {pins : List (Addr × Obj)} {σ : St} {H : Hp} {s : Shared} {A : Around} {E : Value → Shared → Prop} {Q : Value → Shared → Prop} {c : Value} {b : Bool}
end
end L2
namespace L2
open PySem PySem.Spec PyProof.Rows
structure Room (k : Nat) (A : Around) : Prop where
  hd : A.handled = none
  dp : A.depth + 3 * k + 5 < recursionLimit
  un : A.units + 16 * k + 200 < cLine
theorem Room.mono {j k : Nat} {A : Around} (r : Room k A) (h : j ≤ k) : Room j A := ⟨r.hd, by have := r.dp; omega, by have := r.un; omega⟩
theorem Room.deeper {k : Nat} {A : Around} (r : Room (k + 1) A) (env : Env) : Room k (A.deeper env) :=
  ⟨r.hd, by have := r.dp; show A.depth + 1 + 3 * k + 5 < _; omega, by have := r.un; show A.units + 3 + 16 * k + 200 < _; omega⟩
theorem make_depth {A : Around} {C : Addr} {us : List Value} {kw : List (Str × Value)} : (A.under (.builtin "type.__call__" ⟨.ref C :: us, kw⟩)).depth = A.depth + 1 := by
  first | rfl | simp [Around.under, Code.weight, Code.isCreation, Code.isGuard, Code.isCaller, Code.frames, Code.isFrame, guardIds]
theorem make_units {A : Around} {C : Addr} {us : List Value} {kw : List (Str × Value)} : (A.under (.builtin "type.__call__" ⟨.ref C :: us, kw⟩)).units = A.units + 1 := by
  first | rfl | simp [Around.under, Code.cUnits, Code.frames, Code.isFrame]
theorem Room.make {k : Nat} {A : Around} (r : Room (k + 1) A) (C : Addr) (us : List Value) (kw : List (Str × Value)) : Room k (A.under (.builtin "type.__call__" ⟨.ref C :: us, kw⟩)) :=
  ⟨r.hd, by have := r.dp; rw [make_depth]; omega, by have := r.un; rw [make_units]; omega⟩
theorem Room.depth {k : Nat} {A : Around} (r : Room k A) : A.depth < recursionLimit := by have := r.dp; omega
theorem Room.units {k : Nat} {A : Around} (r : Room k A) : A.units + 64 < cLine := by have := r.un; omega
theorem Room.units0 {k : Nat} {A : Around} (r : Room k A) : A.units < cLine := by have := r.un; omega
def tNil : TA := fun _ H Q => Q [] H
def tCons (ta : TE) (tr : TA) : TA := fun σ H Q => ta σ H fun x H1 => tr σ H1 fun xs H2 => Q (x :: xs) H2
section
variable {X : Cx} {e : Expr} {es : List Expr} {te : TE} {t : TA} {pos : Pos}
theorem pa_nil : PA X [] tNil := fun _ _ _ _ H Q I h => Calls.spliced_nil ⟨[], H, I, .nil, h⟩
theorem pa_cons (ha : PE X e te) (hr : PA X es t) (hs : starEach (e :: es) X.env = (false, eval e X.env) :: starEach es X.env := by rfl) : PA X (e :: es) (tCons te t) := by
  intro pos pins s σ H Q I h
  rw [hs]
  show wpAny _ _ (spliced ((false, eval e X.env) :: backTo pos (starEach es X.env))) _ _ s
  refine Calls.spliced_cons (thn (ha pins s σ H _ I h) fun u s1 ⟨x, H1, I1, r1, q1⟩ => ?_)
  exact thn (hr pos pins s1 σ H1 _ I1 q1) fun us s2 ⟨xs, H2, I2, r2, q2⟩ => ⟨x :: xs, H2, I2, .cons r1 r2, q2⟩
def tTup (t : TA) : TE := fun σ H Q => t σ H fun xs H1 => xs.length ≤ sizeLine ∧ ∀ p, H1 p = none → Q (.ref p) (upd H1 p (.tup xs))
def tLst (t : TA) : TE := fun σ H Q => t σ H fun xs H1 => xs.length ≤ sizeLine ∧ ∀ p, H1 p = none → Q (.ref p) (upd H1 p (.lst xs))
theorem pe_tup {x1} (h : PA X es t) : PE X (.Tuple es x1 pos) (tTup t) := by
  intro pins s σ H Q I hq
  refine wpAny_Tuple_spliced (thn (h pos pins s σ H _ I hq) fun us s1 ⟨xs, H1, I1, r, z, q⟩ => ⟨by rw [← r.length]; exact z, ?_⟩)
  have hf : H1 s1.heap.objs.size = none := I1.hok.fresh (Nat.le_refl _)
  refine ⟨.ref s1.heap.objs.size, upd H1 s1.heap.objs.size (.tup xs), I1.laid (t' := s1.toks) (fun b u e => Heap.get?_push_of_some _ e) (Nat.le_refl _) ?_, rfl, q _ hf⟩
  exact ⟨z, us, r, ⟨_, Heap.get?_push_size _ rfl, rfl, _, rfl⟩⟩
theorem pe_lst (h : PA X es t) : PE X (.List es pos) (tLst t) := by
  intro pins s σ H Q I hq
  refine wpAny_List_spliced (thn (h pos pins s σ H _ I hq) fun us s1 ⟨xs, H1, I1, r, z, q⟩ => ⟨by rw [← r.length]; exact z, ?_⟩)
  have hf : H1 s1.heap.objs.size = none := I1.hok.fresh (Nat.le_refl _)
  refine ⟨.ref s1.heap.objs.size, upd H1 s1.heap.objs.size (.lst xs), I1.laid (t' := s1.toks) (fun b u e => Heap.get?_push_of_some _ e) (Nat.le_refl _) ?_, rfl, q _ hf⟩
  exact ⟨z, us, 0, r, Heap.get?_push_size _ rfl⟩
end
abbrev Sp := List V → Hp → VK → XK → Prop
abbrev CXT := List Env → Hp → Shared → XK → Value → Shared → Prop
structure Env0 (P : Program) (w : World) (K : PySem.W.Frag) (mg : Str → Option Value) (base : Heap) (A : Around) (outer : List Env) (s : Shared) (H : Hp) : Prop where
  frames : A.frames = some outer
  mod : Mod K mg base
  bs : ∀ b o, base.get? b = some o → s.heap.get? b = some o ∧ H b = none
  bsz : base.objs.size ≤ s.heap.objs.size
  funs : s.heap.FunFrames base outer
  frf : ∀ b ∈ frs outer, H b = none
  hok : HOk P w H s.heap
  bare : AllBare s.gens
def CE (outer : List Env) (P : Program) (w : World) (H : Hp) (s : Shared) (Q : VK) (u : Value) (s' : Shared) : Prop :=
  ∃ v H', s'.os = s.os ∧ AllBare s'.gens ∧ Un (frs outer) [] H H' s.heap s'.heap ∧ HOk P w H' s'.heap ∧ RelV v u ∧ Q v H'
def CR (CX : CXT) (outer : List Env) (P : Program) (w : World) (H : Hp) (s : Shared) (Q : VK) (E : XK) (r : Result) (s' : Shared) : Prop :=
  match r with
  | .ok (.ret u) => CE outer P w H s Q u s'
  | .ok _ => False
  | .error e => CX outer H s E e s'
structure FnOk (P : Program) (w : World) (K : PySem.W.Frag) (mg : Str → Option Value) (base : Heap) (CX : CXT) (k : Nat) (f : Addr) (fd : FuncData) (ps : List Str) (sp : Sp) : Prop where
  len : ∀ vs H Q E, sp vs H Q E → vs.length = ps.length
  run : ∀ (A : Around) (outer : List Env) (s : Shared) (H : Hp) (args : Args) (us : List Value) (vs : List V) (Q : VK) (E : XK), Room k A → Env0 P w K mg base A outer s H → BindsTo s fd args (ps.zip us) → Vals vs us → sp vs H Q E →
    codeAny (model P w) A (.call (.ref f) args) (CR CX outer P w H s Q E) s
theorem FnOk.mono {P : Program} {w : World} {K : PySem.W.Frag} {mg : Str → Option Value} {base : Heap} {CX : CXT} {j k : Nat} {f : Addr} {fd : FuncData} {ps : List Str} {sp : Sp} (F : FnOk P w K mg base CX j f fd ps sp) (h : j ≤ k) :
    FnOk P w K mg base CX k f fd ps sp := ⟨F.len, fun A outer s H args us vs Q E hr => F.run A outer s H args us vs Q E (hr.mono h)⟩
theorem FnOk.imp {P : Program} {w : World} {K : PySem.W.Frag} {mg : Str → Option Value} {base : Heap} {CX : CXT} {k : Nat} {f : Addr} {fd : FuncData} {ps : List Str} {sp sp' : Sp} (F : FnOk P w K mg base CX k f fd ps sp)
    (h : ∀ vs H Q E, sp' vs H Q E → sp vs H Q E) : FnOk P w K mg base CX k f fd ps sp' :=
  ⟨fun vs H Q E q => F.len vs H Q E (h _ _ _ _ q), fun A outer s H args us vs Q E hr he hb hv hs => F.run A outer s H args us vs Q E hr he hb hv (h _ _ _ _ hs)⟩
theorem Env0.make {P : Program} {w : World} {K : PySem.W.Frag} {mg : Str → Option Value} {base : Heap} {A : Around} {outer : List Env} {s : Shared} {H : Hp} (e : Env0 P w K mg base A outer s H) (C : Addr) (us : List Value) (kw : List (Str × Value)) :
    Env0 P w K mg base (A.under (.builtin "type.__call__" ⟨.ref C :: us, kw⟩)) outer s H := ⟨by first | exact e.frames | (simpa [Around.under, Code.envs, Code.isFrame, pushEnvs] using e.frames), e.mod, e.bs, e.bsz, e.funs, e.frf, e.hok, e.bare⟩
section
variable {X : Cx} {pins : List (Addr × Obj)} {σ : St} {H : Hp} {s s' : Shared}
theorem Inv.env0 (I : Inv X pins σ H s) : Env0 X.prog X.w X.K X.mg X.base X.A X.stack s H :=
  ⟨I.ok.frames, I.ok.mod, I.bs, Nat.le_trans I.ok.bsz I.sz, I.stack, I.stkFree, I.hok, I.bare⟩
theorem Inv.after {Q : VK} {u : Value} (I : Inv X pins σ H s) (h : CE X.stack X.prog X.w H s Q u s') : EP X pins σ Q u s' := by
  obtain ⟨v, H', os, bare, un, hok, r, q⟩ := h
  obtain ⟨hh, g, d, t, os'⟩ := s'
  obtain rfl : os' = s.os := os
  exact ⟨v, H', I.call (h' := hh) (g' := g) (d' := d) (t' := t) (ch := []) un hok bare (fun b z => absurd z (by simp)), r, q⟩
end
def tCall (sp : Sp) (dvs : List V) (E : XK) (t : TA) : TE := fun σ H Q => t σ H fun vs H1 => sp (vs ++ dvs) H1 Q E
def tMeth (C : Addr) (m : Str) (sp : Sp) (dvs : List V) (E : XK) (ta : TE) (t : TA) : TE := fun σ H Q => ta σ H fun x H1 => ∃ a dx fs, x = .ref a ∧ H1 a = some (.ins C dx fs) ∧ fs.lookup m = none ∧
  t σ H1 fun vs H2 => sp (x :: (vs ++ dvs)) H2 Q E
def tMake (C : Addr) (sp : Sp) (dvs : List V) (E : XK) (t : TA) : TE := fun σ H Q => t σ H fun vs H1 => ∀ x dx, H1 x = none → H1 dx = none → dx ≠ x →
  sp (.ref x :: (vs ++ dvs)) (upd (upd H1 dx (.own x)) x (.ins C dx [])) (fun v H2 => v = .non ∧ Q (.ref x) H2) E
def Binds (K : PySem.W.Frag) (fd : FuncData) (ps : List Str) (ds : List Value) : Prop :=
  ∀ (s : Shared) (us : List Value), K.In s.heap → (us ++ ds).length = ps.length → BindsTo s fd ⟨us, []⟩ (ps.zip (us ++ ds))
theorem Binds.all {K : PySem.W.Frag} {fd : FuncData} {ps : List Str} (h : ∀ us : List Value, us.length = ps.length → bindArgs fd ⟨us, []⟩ = pure (ps.zip us)) : Binds K fd ps [] := fun s us _ hl => by
  rw [List.append_nil] at hl ⊢
  exact .of_eq (h us hl)
def Passes (CX : CXT) (X : Cx) (E : XK) : Prop := ∀ (pins : List (Addr × Obj)) (σ : St) (H : Hp) (s : Shared) (e : Value) (s' : Shared), Inv X pins σ H s → CX X.stack H s E e s' → X.xe e s'
section
variable {X : Cx} {CX : CXT} {k : Nat} {f C : Addr} {fd : FuncData} {ps : List Str} {sp : Sp} {dvs : List V} {ds : List Value} {E : XK} {x m : Str} {p pos apos : Pos} {e o : Expr} {es : List Expr} {ta : TE} {t : TA}
theorem run_fn {pins : List (Addr × Obj)} {σ : St} {H : Hp} {s : Shared} {Q : VK} {us : List Value} {vs : List V} (F : FnOk X.prog X.w X.K X.mg X.base CX k f fd ps sp) (hr : Room k X.A) (hb : Binds X.K fd ps ds) (hd : Vals dvs ds) (hx : Passes CX X E)
    (I : Inv X pins σ H s) (r : Vals vs us) (h : sp (vs ++ dvs) H Q E) : wpAny (model X.prog X.w) X.A (call (.ref f) us) (EP X pins σ Q) X.xe s := by
  have r2 : Vals (vs ++ dvs) (us ++ ds) := r.append hd
  have hl : (us ++ ds).length = ps.length := by rw [← r2.length]; exact F.len _ _ _ _ h
  refine wpAny_call (codeAny_mono (F.run X.A X.stack s H ⟨us, []⟩ (us ++ ds) (vs ++ dvs) Q E hr I.env0 (hb s us I.kIn hl) r2 h) fun r s' hq => ?_)
  cases r with
  | error e => exact hx pins σ H s e s' I hq
  | ok fl =>
    cases fl with
    | ret u => exact I.after hq
    | next => exact False.elim hq
    | brk => exact False.elim hq
    | cont => exact False.elim hq
theorem pe_call (F : FnOk X.prog X.w X.K X.mg X.base CX k f fd ps sp) (hr : Room k X.A) (hg : Gl X x) (hm : X.mg x = some (.ref f)) (hk : PySem.W.keepIn X.K (.ref f) = true) (hb : Binds X.K fd ps ds) (hd : Vals dvs ds) (hx : Passes CX X E)
    (ha : PA X (e :: es) t) (hdb : (x == ("__debug__" : Str)) = false := by decide) (he : starEach (e :: es) X.env = (false, eval e X.env) :: starEach es X.env := by rfl) (hpl : (backTo pos (starEach es X.env)).any (·.1) = false := by rfl) :
    PE X (.Call (.Name x p) (e :: es) [] pos) (tCall sp dvs E t) := by
  intro pins s σ H Q I h
  refine wpAny_Call_Name_kw (ld_glob I hg hm ?_ hdb)
  refine PySem.W.callWith_K (h₀ := X.base) I.ok.mod.kin hk (thn (ha pos pins s σ H _ I h) fun us s1 ⟨vs, H1, I1, r, q⟩ => ⟨I1.kIn, ?_⟩) he hpl
  exact run_fn F hr hb hd hx I1 r q
theorem pe_meth {pl : Sem Bool} (he : PE X o ta) (c : Cls X.K C) (hm : Meth X.K C m f) (F : FnOk X.prog X.w X.K X.mg X.base CX k f fd ps sp) (hr : Room k X.A) (hb : Binds X.K fd ps ds) (hd : Vals dvs ds) (hx : Passes CX X E) (ha : PA X (e :: es) t)
    (hst : starEach (e :: es) X.env = (false, eval e X.env) :: starEach es X.env := by rfl) (hpl : (backTo pos (starEach es X.env)).any (·.1) = false := by rfl)
    (ht : eval (.Call (.Attribute o m apos) (e :: es) [] pos) X.env = (do
      let ov ← eval o X.env
      standAt apos.atName
      let (f, first) ← holding [ov] (getMethod ov m pl)
      callWith pos f first (backTo pos (starEach (e :: es) X.env)) (backToKw pos (keywordEach [] X.env))) := by rfl) :
    PE X (.Call (.Attribute o m apos) (e :: es) [] pos) (tMeth C m sp dvs E ta t) := by
  intro pins s σ H Q I h
  refine PySem.W.methodCall_KW (pl := pl) (thn (he pins s σ H _ I h) fun u s1 ⟨x, H1, I1, rx, a, dx, fs, ex, ea, l, q⟩ => ?_) ht
  subst ex
  obtain rfl : u = Value.ref a := rx
  refine getmeth_ok I1 ea c hm l ?_
  refine PySem.W.callWith_K (first := [.ref a]) (h₀ := X.base) I.ok.mod.kin hm.kp (thn (ha pos pins s1 σ H1 _ I1 q) fun us s2 ⟨vs, H2, I2, r, q2⟩ => ⟨I2.kIn, ?_⟩) hst hpl
  exact run_fn (us := .ref a :: us) (vs := .ref a :: vs) F hr hb hd hx I2 (.cons rfl r) q2
theorem pe_meth0 {pl : Sem Bool} (he : PE X o ta) (c : Cls X.K C) (hm : Meth X.K C m f) (F : FnOk X.prog X.w X.K X.mg X.base CX k f fd ps sp) (hr : Room k X.A) (hb : Binds X.K fd ps ds) (hd : Vals dvs ds) (hx : Passes CX X E)
    (ht : eval (.Call (.Attribute o m apos) [] [] pos) X.env = (do
      let ov ← eval o X.env
      standAt apos.atName
      let (f, first) ← holding [ov] (getMethod ov m pl)
      callWith pos f first (backTo pos (starEach [] X.env)) (backToKw pos (keywordEach [] X.env))) := by rfl) :
    PE X (.Call (.Attribute o m apos) [] [] pos) (tMeth C m sp dvs E ta tNil) := by
  intro pins s σ H Q I h
  refine PySem.W.methodCall_KW (pl := pl) (thn (he pins s σ H _ I h) fun u s1 ⟨x, H1, I1, rx, a, dx, fs, ex, ea, l, q⟩ => ?_) ht
  subst ex
  obtain rfl : u = Value.ref a := rx
  refine getmeth_ok I1 ea c hm l ?_
  exact PySem.W.callWith_K0 (first := [.ref a]) I1.kIn hm.kp (run_fn (us := [.ref a]) (vs := [.ref a]) F hr hb hd hx I1 (.cons rfl .nil) q)
structure Mk (K : PySem.W.Frag) (C f : Addr) : Prop where
  makes : PySem.W.makesIn K C = true
  init : PySem.W.findIn K (.ref C) "__init__" = some (some (.ref f))
  fn : PySem.W.isFn K (.ref f) = true
  kp : PySem.W.keepIn K (.ref C) = true
theorem run_make {pins : List (Addr × Obj)} {σ : St} {H : Hp} {s : Shared} {Q : VK} {us : List Value} {vs : List V} (M : Mk X.K C f) (F : FnOk X.prog X.w X.K X.mg X.base CX k f fd ps sp) (hr : Room (k + 1) X.A) (hb : Binds X.K fd ps ds) (hd : Vals dvs ds)
    (hx : Passes CX X E) (I : Inv X pins σ H s) (r : Vals vs us)
    (h : ∀ x dx, H x = none → H dx = none → dx ≠ x → sp (.ref x :: (vs ++ dvs)) (upd (upd H dx (.own x)) x (.ins C dx [])) (fun v H2 => v = .non ∧ Q (.ref x) H2) E) :
    wpAny (model X.prog X.w) X.A (call (.ref C) us) (EP X pins σ Q) X.xe s := by
  have hq := h (s.heap.objs.size + 1) s.heap.objs.size (I.hok.fresh (Nat.le_succ _)) (I.hok.fresh (Nat.le_refl _)) (Nat.ne_of_lt (Nat.lt_succ_self _))
  have I2 := Inv.made (C := C) I
  have r2 : Vals (V.ref (s.heap.objs.size + 1) :: (vs ++ dvs)) (Value.ref (s.heap.objs.size + 1) :: (us ++ ds)) := .cons rfl (r.append hd)
  have hl : (Value.ref (s.heap.objs.size + 1) :: us ++ ds).length = ps.length := by
    have e := r2.length
    rw [F.len _ _ _ _ hq] at e
    exact e.symm
  refine wpAny_call (make_map (f := f) I.kIn M.makes M.init (beq_iff_eq.mp M.fn) (codeAny_mono (F.run _ X.stack _ _ ⟨Value.ref (s.heap.objs.size + 1) :: us, []⟩ (Value.ref (s.heap.objs.size + 1) :: (us ++ ds)) _ _ E (hr.make C us [])
    (I2.env0.make C us []) (hb _ (Value.ref (s.heap.objs.size + 1) :: us) I2.kIn hl) r2 hq) fun r s' hq' => ?_))
  cases r with
  | error e => exact hx pins σ _ _ e s' I2 hq'
  | ok fl =>
    cases fl with
    | ret u =>
      obtain ⟨v, H', I3, rv, ev, q3⟩ := I2.after hq'
      subst ev
      exact ⟨rv, ⟨V.ref (s.heap.objs.size + 1), H', I3, rfl, q3⟩⟩
    | next => exact False.elim hq'
    | brk => exact False.elim hq'
    | cont => exact False.elim hq'
theorem pe_make (M : Mk X.K C f) (F : FnOk X.prog X.w X.K X.mg X.base CX k f fd ps sp) (hr : Room (k + 1) X.A) (hg : Gl X x) (hm : X.mg x = some (.ref C)) (hb : Binds X.K fd ps ds) (hd : Vals dvs ds) (hx : Passes CX X E)
    (ha : PA X (e :: es) t) (hdb : (x == ("__debug__" : Str)) = false := by decide) (he : starEach (e :: es) X.env = (false, eval e X.env) :: starEach es X.env := by rfl) (hpl : (backTo pos (starEach es X.env)).any (·.1) = false := by rfl) :
    PE X (.Call (.Name x p) (e :: es) [] pos) (tMake C sp dvs E t) := by
  intro pins s σ H Q I h
  refine wpAny_Call_Name_kw (ld_glob I hg hm ?_ hdb)
  refine PySem.W.callWith_K (h₀ := X.base) I.ok.mod.kin M.kp (thn (ha pos pins s σ H _ I h) fun us s1 ⟨vs, H1, I1, r, q⟩ => ⟨I1.kIn, ?_⟩) he hpl
  exact run_make M F hr hb hd hx I1 r q
theorem pe_make0 (M : Mk X.K C f) (F : FnOk X.prog X.w X.K X.mg X.base CX k f fd ps sp) (hr : Room (k + 1) X.A) (hg : Gl X x) (hm : X.mg x = some (.ref C)) (hb : Binds X.K fd ps ds) (hd : Vals dvs ds) (hx : Passes CX X E)
    (hdb : (x == ("__debug__" : Str)) = false := by decide) : PE X (.Call (.Name x p) [] [] pos) (tMake C sp dvs E tNil) := by
  intro pins s σ H Q I h
  refine wpAny_Call_Name_kw (ld_glob I hg hm ?_ hdb)
  exact PySem.W.callWith_K0 I.kIn M.kp (run_make (us := []) M F hr hb hd hx I .nil h)
end
section
variable {X : Cx} {CX : CXT} {k : Nat} {f C : Addr} {fd : FuncData} {ps ks : List Str} {sp : Sp} {E : XK} {x m : Str} {p pos apos kpos : Pos} {e o : Expr} {es : List Expr} {kws : List Keyword} {te ta : TE} {t tk : TA} {nm : Option Str}
variable {g : List Value → List Value → List Value} {gV : List V → List V → List V}
end
structure FnScope (N P : List Str) (sc : Scope) : Prop where
  kind : sc.kind = .function
  co : sc.isCoroutine = false
  gen : sc.isGenerator = false
  nd : N.Nodup
  pre : N.take P.length = P
  par : ∀ x ∈ P, sc.names.lookup x = some .local ∨ sc.names.lookup x = some .cell
  nofree : ∀ y ∈ sc.names, y.2 ≠ .free
theorem bindL_out {kindOf : Str → Option NameKind} {x : Str} : ∀ {binds : List (Str × Value)} {m : Str → Option Value}, (∀ v, (x, v) ∉ binds) → bindL kindOf binds m x = m x
  | [], _, _ => rfl
  | (n, v) :: r, m, h => by
    unfold bindL
    rw [bindL_out fun w hw => h w (List.mem_cons_of_mem _ hw)]
    split
    · have : x ≠ n := by rintro rfl; exact h v List.mem_cons_self
      simp [this]
    · rfl
theorem bindC_out {kindOf : Str → Option NameKind} {x : Str} : ∀ {binds : List (Str × Value)} {m : Str → Option Value}, (∀ v, (x, v) ∉ binds) → bindC kindOf binds m x = m x
  | [], _, _ => rfl
  | (n, v) :: r, m, h => by
    unfold bindC
    rw [bindC_out fun w hw => h w (List.mem_cons_of_mem _ hw)]
    split
    · rfl
    · have : x ≠ n := by rintro rfl; exact h v List.mem_cons_self
      simp [this]
theorem bindL_get {kindOf : Str → Option NameKind} {x : Str} {v : Value} : ∀ {P : List Str} {vs : List Value} {i : Nat} {m : Str → Option Value}, P.Nodup → P[i]? = some x → vs[i]? = some v → kindOf x = some .local →
    bindL kindOf (P.zip vs) m x = some v
  | [], _, _, _, _, h, _, _ => by simp at h
  | _ :: _, [], _, _, _, _, h, _ => by simp at h
  | p :: P, w :: vs, 0, m, nd, h1, h2, hk => by
    simp at h1 h2; subst h1; subst h2
    show bindL kindOf ((p, w) :: P.zip vs) m p = _
    unfold bindL
    rw [bindL_out fun v hv => (List.nodup_cons.mp nd).1 (List.of_mem_zip hv).1, if_pos hk]
    simp
  | p :: P, w :: vs, i + 1, m, nd, h1, h2, hk => by
    show bindL kindOf ((p, w) :: P.zip vs) m x = _
    unfold bindL
    exact bindL_get (i := i) (List.nodup_cons.mp nd).2 (by simpa using h1) (by simpa using h2) hk
theorem bindC_get {kindOf : Str → Option NameKind} {x : Str} {v : Value} : ∀ {P : List Str} {vs : List Value} {i : Nat} {m : Str → Option Value}, P.Nodup → P[i]? = some x → vs[i]? = some v → kindOf x ≠ some .local →
    bindC kindOf (P.zip vs) m x = some v
  | [], _, _, _, _, h, _, _ => by simp at h
  | _ :: _, [], _, _, _, _, h, _ => by simp at h
  | p :: P, w :: vs, 0, m, nd, h1, h2, hk => by
    simp at h1 h2; subst h1; subst h2
    show bindC kindOf ((p, w) :: P.zip vs) m p = _
    unfold bindC
    rw [bindC_out fun v hv => (List.nodup_cons.mp nd).1 (List.of_mem_zip hv).1, if_neg hk]
    simp
  | p :: P, w :: vs, i + 1, m, nd, h1, h2, hk => by
    show bindC kindOf ((p, w) :: P.zip vs) m x = _
    unfold bindC
    exact bindC_get (i := i) (List.nodup_cons.mp nd).2 (by simpa using h1) (by simpa using h2) hk
def start (N : List Str) (vs : List V) : St := vs.map some ++ List.replicate (N.length - vs.length) none
def cxOf (CX : CXT) (P : Program) (w : World) (K : PySem.W.Frag) (mg : Str → Option Value) (base : Heap) (N : List Str) (qual : Str) (scope : Scope) (f : Addr) (cd : Value) (A : Around) (outer : List Env) (s : Shared) (H : Hp) (E : XK) : Cx where
  prog := P
  w := w
  K := K
  mg := mg
  base := base
  A := A.deeper (envOfC qual scope s.heap.objs.size f cd)
  N := N
  s₀ := s
  H₀ := H
  env := envOfC qual scope s.heap.objs.size f cd
  outer := outer
  stack := envOfC qual scope s.heap.objs.size f cd :: outer
  ex := []
  calm := true
  fn := fun _ => true
  pn := []
  xe := fun e s' => wpAny (model P w) (A.deeper (envOfC qual scope s.heap.objs.size f cd)) (leaving (envOfC qual scope s.heap.objs.size f cd) e) (fun _ s'' => CX outer H s E e s'') (fun e' s'' => CX outer H s E e' s'') s'
theorem cell_has {sc : Scope} {n : Nat} {x : Str} (h : sc.names.lookup x = some .cell) : ∃ c, (cellsFrom n sc.names []).lookup x = some c := by
  have q := PySem.W.cellsFrom_some sc.names n [] (.inl h)
  exact Option.isSome_iff_exists.mp q
theorem inv_start {CX : CXT} {P : Program} {w : World} {K : PySem.W.Frag} {mg : Str → Option Value} {base : Heap} {N ps : List Str} {qual : Str} {scope : Scope} {f : Addr} {cd : Value} {A : Around} {outer : List Env} {s s1 : Shared} {H : Hp} {E : XK} {us : List Value} {vs : List V}
    (S : FnScope N ps scope) (hd : A.handled = none) (e0 : Env0 P w K mg base A outer s H) (hl : vs.length = ps.length) (r : Vals vs us)
    (x : InCallC s s.heap.objs.size (bindL (envOfC qual scope s.heap.objs.size f cd).kindOf (ps.zip us) fun _ => none) (cellsFrom (s.heap.objs.size + 1) scope.names []) (bindC (envOfC qual scope s.heap.objs.size f cd).kindOf (ps.zip us) fun _ => none) s1) :
    Inv (cxOf CX P w K mg base N qual scope f cd A outer s H E) [] (start N vs) H s1 := by
  have hpl : ps.length ≤ N.length := by have := congrArg List.length S.pre; rw [List.length_take] at this; omega
  obtain ⟨h1, tk, rfl, hk⟩ := x.done
  have noA : ∀ b : Addr, b ∉ (cxOf CX P w K mg base N qual scope f cd A outer s H E).ex := fun b z => absurd (show b ∈ ([] : List Addr) from z) (by simp)
  refine ⟨⟨e0.mod, S.kind, rfl, rfl, Nat.le_refl _, fun y z c h1 h2 => ?_, fun y hy => ?_, fun y c _ h => ?_, fun _ => hd, Around.frames_deeper e0.frames, .inr ⟨rfl, rfl⟩, fun b z => absurd z (noA b), e0.bs, e0.bsz, fun b _ _ => noA b, fun b z => absurd z (noA b), e0.funs, e0.frf⟩,
    rfl, e0.bare, Un.kept hk, ⟨_, x.toInCall.ns, fun i y v h1 h2 h3 => ?_⟩, fun y c h => ⟨_, x.cell y c h⟩, e0.hok.fresh (Nat.le_refl _), fun y c h => ?_, fun p hp => absurd (show p ∈ ([] : List (Addr × Obj)) from hp) (by simp), e0.hok.kept hk, ?_⟩
  · exact name_of_addr x.apart (PySem.mem_of_lookup h1) (PySem.mem_of_lookup h2)
  · have hy : scope.names.lookup y = some .cell ∨ scope.names.lookup y = some .free := hy
    rcases hy with hy | hy
    · exact cell_has hy
    · exact absurd rfl (S.nofree _ (PySem.mem_of_lookup hy))
  · exact Nat.le_of_lt (x.above y c (PySem.mem_of_lookup h))
  · have hi : i < vs.length := by
      unfold start at h2
      by_cases hi : i < vs.length
      · exact hi
      · rw [List.getElem?_append_right (by simpa using hi)] at h2
        rw [List.getElem?_replicate] at h2
        split at h2 <;> cases h2
    have ha : vs[i]? = some v := by
      unfold start at h2
      rw [List.getElem?_append_left (by simpa using hi), List.getElem?_map] at h2
      cases e : vs[i]? with
      | none => rw [e] at h2; cases h2
      | some a => rw [e] at h2; cases h2; rfl
    obtain ⟨u, hu, rv⟩ := r.get ha
    have hp : ps[i]? = some y := by
      rw [← S.pre, List.getElem?_take_of_lt (by omega)]; exact h1
    have ndP : ps.Nodup := by rw [← S.pre]; exact S.nd.sublist (List.take_sublist _ _)
    refine ⟨u, rv, ?_⟩
    rcases S.par y (List.mem_of_getElem? hp) with k | k
    · exact .inl ⟨k, bindL_get ndP hp hu k⟩
    · obtain ⟨c, e⟩ := cell_has (n := s.heap.objs.size + 1) k
      refine .inr ⟨.inl k, c, e, ?_⟩
      have q := x.cell y c e
      rw [bindC_get ndP hp hu (by show scope.names.lookup y ≠ _; rw [k]; decide)] at q
      exact q
  · exact e0.hok.fresh (Nat.le_of_lt (x.above y c (PySem.mem_of_lookup h)))
  · unfold start
    show _ = N.length
    rw [List.length_append, List.length_map, List.length_replicate]
    omega
theorem fn_of {CX : CXT} {P : Program} {w : World} {K : PySem.W.Frag} {mg : Str → Option Value} {base : Heap} {k : Nat} {f : Addr} {name qual : Str} {params : Arguments} {body : List Stmt} {scope : Scope} {dV kV doc pm cdv ct oc : Value} {an od : Option Addr}
    {osl : Array (Option Value)} {N ps : List Str} {sp : Sp} (lk : K.lookup f = some ⟨oc, od, .func (PySem.W.fnOf name qual params body scope dV kV doc pm an cdv ct), osl⟩) (hcd : PySem.W.codeIn K cdv qual = true) (S : FnScope N ps scope)
    (len : ∀ vs H Q E, sp vs H Q E → vs.length = ps.length)
    (hbody : ∀ (A : Around) (outer : List Env) (s : Shared) (H : Hp) (vs : List V) (Q : VK) (E : XK), Room k (A.deeper (envOfC qual scope s.heap.objs.size f cdv)) → sp vs H Q E →
      ∃ t, PSs (cxOf CX P w K mg base N qual scope f cdv A outer s H E) body t ∧ t { nx := fun _ H' => Q .non H', rt := Q } (start N vs) H) :
    FnOk P w K mg base CX (k + 1) f (PySem.W.fnOf name qual params body scope dV kV doc pm an cdv ct) ps sp := by
  refine ⟨len, fun A outer s H args us vs Q E hr e0 hb r hsp => ?_⟩
  have hl := len _ _ _ _ hsp
  have KX : K.In s.heap := e0.mod.kin.keeps fun b o e => (e0.bs b o e).1
  have lim : s.heap.NoLimit := e0.mod.nolimit.keeps fun b o e => (e0.bs b o e).1
  have hkind : ∀ y ∈ ps.zip us, scope.names.lookup y.1 = some .local ∨ (scope.names.lookup y.1 = some .cell ∧ ((cellsFrom (s.heap.objs.size + 1) scope.names []).lookup y.1).isSome = true) := fun ⟨n, v⟩ hy => by
    rcases S.par n (List.of_mem_zip hy).1 with q | q
    · exact .inl q
    · exact .inr ⟨q, PySem.W.cellsFrom_some _ _ _ (.inl q)⟩
  refine codeAny_call_function hr.depth (KX _ _ lk) rfl S.co S.gen rfl (PySem.W.codeRec_of KX hcd) (hb _ _ _ _ ?_)
  refine wpAny_newFunctionEnv_cells S.kind hkind fun env he s1 x => ?_
  subst he
  refine ⟨lim.keeps x.toInCall.keep, codeAny_func ?_⟩
  obtain ⟨t, ht, hq⟩ := hbody A outer s H vs Q E (hr.deeper _) hsp
  have I : Inv (cxOf CX P w K mg base N qual scope f cdv A outer s H E) [] (start N vs) H s1 := inv_start S hr.hd e0 hl r x
  refine wpAny_mono (ht [] s1 (start N vs) H _ I hq) (fun fl s' hs => ?_) fun e s' hs => hs
  have fin : ∀ {σ' : St} {H' : Hp} {v : V} {u : Value}, Inv (cxOf CX P w K mg base N qual scope f cdv A outer s H E) [] σ' H' s' → RelV v u → Q v H' → CE outer P w H s Q u s' :=
    fun {σ' H' v u} J rv q => ⟨v, H', J.os, J.bare, J.base, J.hok, rv, q⟩
  cases fl with
  | ret u =>
    obtain ⟨v, σ', H', J, rv, q⟩ := hs
    exact fin J rv q
  | next =>
    obtain ⟨σ', H', J, q⟩ := hs
    exact fin (v := V.non) (u := Value.none) J rfl q
  | brk =>
    obtain ⟨_, _, _, q⟩ := hs
    exact False.elim q
  | cont =>
    obtain ⟨_, _, _, q⟩ := hs
    exact False.elim q
end L2
namespace L2
open PySem PySem.Spec PyProof.Rows
section
variable {X : Cx} {x : Str} {p pos : Pos} {e : Expr} {es : List Expr} {t : TA} {id T : String} {r : List V → Hp → VK → Prop}
def tCB (r : List V → Hp → VK → Prop) (t : TA) : TE := fun σ H Q => t σ H fun vs H1 => r vs H1 Q
theorem pe_callB (hc : CallR X (.builtin id) r) (hg : Gl X x) (hm : X.mg x = none) (hv : bootBuiltins x = some (.builtin id)) (ha : PA X (e :: es) t) (hn : x ≠ "__name__" := by decide) (hdb : (x == ("__debug__" : Str)) = false := by decide)
    (he : starEach (e :: es) X.env = (false, eval e X.env) :: starEach es X.env := by rfl) (hpl : (backTo pos (starEach es X.env)).any (·.1) = false := by rfl) : PE X (.Call (.Name x p) (e :: es) [] pos) (tCB r t) := by
  intro pins s σ H Q I h
  refine wpAny_Call_Name_kw (ld_blt I hg hm hv ?_ hn hdb)
  exact PyProof.Rows.callWith_builtin1 (thn (ha pos pins s σ H _ I h) fun us s1 ⟨vs, H1, I1, r1, q1⟩ => hc pins s1 σ H1 vs us Q I1 r1 q1) he hpl
theorem pe_callTy (hc : CallR X (.type T) r) (hg : Gl X x) (hm : X.mg x = none) (hv : bootBuiltins x = some (.type T)) (ha : PA X (e :: es) t) (hn : x ≠ "__name__" := by decide) (hdb : (x == ("__debug__" : Str)) = false := by decide)
    (he : starEach (e :: es) X.env = (false, eval e X.env) :: starEach es X.env := by rfl) (hpl : (backTo pos (starEach es X.env)).any (·.1) = false := by rfl) : PE X (.Call (.Name x p) (e :: es) [] pos) (tCB r t) := by
  intro pins s σ H Q I h
  refine wpAny_Call_Name_kw (ld_blt I hg hm hv ?_ hn hdb)
  exact PyProof.Rows.callWith_type1 (thn (ha pos pins s σ H _ I h) fun us s1 ⟨vs, H1, I1, r1, q1⟩ => hc pins s1 σ H1 vs us Q I1 r1 q1) he hpl
end
end L2
namespace HT
open PySem PyProof.Rows
section
open PySem.SeqAt
open PySem.AutoSeq1 (wpAny_loadPart')
open PySem.MeetsSeq PySem.MeetsSeq2 PySem.MeetsSeq3
end
section
variable {prog : Program} {w : World} {A : Around} {E : Value → Shared → Prop} {s : Shared}
def sIx (n d : Nat) : Option Int → Nat
  | none => d
  | some v => if v < 0 then (v + (n : Int)).toNat else min v.toNat n
end
end HT
namespace L2
open PySem PySem.Spec PyProof.Rows
abbrev TO := St → Hp → (Option Int → Hp → Prop) → Prop
def PO (X : Cx) (e : Option Expr) (t : TO) : Prop :=
  ∀ (pins : List (Addr × Obj)) (s : Shared) (σ : St) (H : Hp) (Q : Option Int → Hp → Prop), Inv X pins σ H s → t σ H Q →
    wpAny (model X.prog X.w) X.A (evalPart e X.env) (fun u s' => ∃ o H', Inv X pins σ H' s' ∧ IsPart u o ∧ Q o H') X.xe s
def tNoPart : TO := fun _ H Q => Q none H
def tPart (t : TE) : TO := fun σ H Q => t σ H fun x H1 => ∃ i, x = .int i ∧ Q (some i) H1
theorem intsAre_of {ns : List Int} : ∀ {us : List Value}, Vals (ns.map V.int) us → IntsAre us ns := by
  induction ns with
  | nil => intro us r; rw [List.map_nil] at r; cases r; exact .nil
  | cons n ns ih =>
    intro us r
    rw [List.map_cons] at r
    cases r with
    | cons r1 r2 =>
      obtain ⟨t, e⟩ := r1
      subst e
      exact .cons n t (ih r2)
section
variable {X : Cx} {e : Expr} {te : TE} {lo hi : Option Expr} {tl th : TO} {pos p2 : Pos}
theorem po_none : PO X none tNoPart := by
  intro pins s σ H Q I h
  rw [evalPart_none]
  exact wpAny_pure ⟨none, H, I, .none, h⟩
theorem po_some (h : PE X e te) : PO X (some e) (tPart te) := by
  intro pins s σ H Q I hw
  rw [evalPart_some]
  refine thn (h pins s σ H _ I hw) fun u s1 ⟨x, H1, I1, r1, q1⟩ => ?_
  obtain ⟨i, rfl, q⟩ := q1
  obtain ⟨t, rfl⟩ := r1
  exact ⟨some i, H1, I1, .int i t, q⟩
def SlR (X : Cx) (r : V → Option Int → Option Int → Hp → VK → Prop) : Prop :=
  ∀ (pins : List (Addr × Obj)) (s : Shared) (σ : St) (H : Hp) (x : V) (v vl vu : Value) (lo hi : Option Int) (sl : Addr) (Q : VK), Inv X pins σ H s → RelV x v → s.heap.IsSliceOf sl vl vu .none → IsPart vl lo → IsPart vu hi → r x lo hi H Q →
    ∃ T id, typeLookup (.type T) "__getitem__" = pure (some (.builtin id)) ∧ s.TypeIs v T ∧ wpAny (model X.prog X.w) X.A (getItem v (.ref sl)) (EP X pins σ Q) X.xe s
theorem SlR.or {r r' : V → Option Int → Option Int → Hp → VK → Prop} (h : SlR X r) (h' : SlR X r') : SlR X (fun x lo hi H Q => r x lo hi H Q ∨ r' x lo hi H Q) := by
  intro pins s σ H x v vl vu lo hi sl Q I rx hs pl pu q
  rcases q with q | q
  · exact h pins s σ H x v vl vu lo hi sl Q I rx hs pl pu q
  · exact h' pins s σ H x v vl vu lo hi sl Q I rx hs pl pu q
def tSl (r : V → Option Int → Option Int → Hp → VK → Prop) (te : TE) (tl th : TO) : TE := fun σ H Q => te σ H fun x H1 => tl σ H1 fun l H2 => th σ H2 fun u H3 => r x l u H3 Q
theorem pe_slice {r : V → Option Int → Option Int → Hp → VK → Prop} (hr : SlR X r) (he : PE X e te) (hl : PO X lo tl) (hu : PO X hi th) : PE X (.Subscript e (.Slice lo hi none p2) pos) (tSl r te tl th) := by
  intro pins s σ H Q I h
  refine Subscript_ (thn (he pins s σ H _ I h) fun v s1 ⟨x, H1, I1, r1, q1⟩ => ?_)
  refine wpAny_Slice (thn (hl pins s1 σ H1 _ I1 q1) fun vl s2 ⟨l, H2, I2, pl, q2⟩ => thn (hu pins s2 σ H2 _ I2 q2) fun vu s3 ⟨u, H3, I3, pu, q3⟩ => ?_)
  rw [evalPart_none]
  refine wpAny_pure ?_
  have I4 : Inv X pins σ H3 { s3 with heap := s3.heap.push { cls := .type "slice", data := .fields #[vl, vu, .none] } } := I3.kept (t' := s3.toks) fun b ob q => Heap.get?_push_of_some _ q
  obtain ⟨T, id, hT, ht, hg⟩ := hr pins { s3 with heap := s3.heap.push { cls := .type "slice", data := .fields #[vl, vu, .none] } } σ H3 x v vl vu l u s3.heap.objs.size Q I4 r1 (Heap.IsSliceOf.new ..) pl pu q3
  show wpAny (model X.prog X.w) X.A (subscriptTail e (.Slice lo hi none p2) v (.ref s3.heap.objs.size)) (EP X pins σ Q) X.xe { s3 with heap := s3.heap.push { cls := .type "slice", data := .fields #[vl, vu, .none] } }
  exact tail_any (ops := [.ref s3.heap.objs.size, v]) ht hT hg (by with_unfolding_all rfl)
def cutV (xs : List V) (lo hi : Option Int) : List V := (xs.drop (HT.sIx xs.length 0 lo)).take (HT.sIx xs.length xs.length hi - HT.sIx xs.length 0 lo)
theorem cutV_length (xs : List V) (lo hi : Option Int) : (cutV xs lo hi).length ≤ xs.length := by
  unfold cutV
  rw [List.length_take, List.length_drop]
  omega
end
end L2
namespace L2
open PySem PySem.Spec PyProof.Rows
def ixN (n : Nat) (i : Int) : Option Nat := if 0 ≤ i then (if i < n then some i.toNat else none) else if -(n : Int) ≤ i then some (i + n).toNat else none
def atI {α : Type} (xs : List α) (i : Int) : Option α := (ixN xs.length i).bind fun j => xs[j]?
theorem ixN_seq {n : Nat} {i : Int} {j : Nat} (h : ixN n i = some j) : seqIndex? i n = some j ∧ j < n ∧ -(n : Int) ≤ i ∧ i < n := by
  unfold ixN at h
  by_cases h0 : 0 ≤ i
  · rw [if_pos h0] at h
    by_cases h1 : i < n
    · rw [if_pos h1] at h
      have e : i.toNat = j := Option.some.inj h
      exact ⟨by rw [seqIndex_of h0 h1, e], by omega, by omega, h1⟩
    · rw [if_neg h1] at h; cases h
  · rw [if_neg h0] at h
    by_cases h1 : -(n : Int) ≤ i
    · rw [if_pos h1] at h
      have e : (i + n).toNat = j := Option.some.inj h
      exact ⟨by rw [seqIndex_neg (by omega) h1, e], by omega, h1, by omega⟩
    · rw [if_neg h1] at h; cases h
theorem atI_get {α : Type} {xs : List α} {i : Int} {v : α} (h : atI xs i = some v) : ∃ j, seqIndex? i xs.length = some j ∧ xs[j]? = some v ∧ j < xs.length ∧ -(xs.length : Int) ≤ i ∧ i < xs.length := by
  unfold atI at h
  cases e : ixN xs.length i with
  | none => rw [e] at h; cases h
  | some j =>
    rw [e] at h
    obtain ⟨h1, h2, h3, h4⟩ := ixN_seq e
    exact ⟨j, h1, h, h2, h3, h4⟩
theorem atI_nat {α : Type} {xs : List α} {j : Nat} {v : α} (h : xs[j]? = some v) : atI xs (j : Int) = some v := by
  have hj : j < xs.length := (List.getElem?_eq_some_iff.mp h).1
  have e : ixN xs.length (j : Int) = some j := by
    unfold ixN
    rw [if_pos (by omega), if_pos (by omega)]; simp
  unfold atI; rw [e]; exact h
theorem atI_last {α : Type} (xs : List α) (v : α) : atI (xs ++ [v]) (-1) = some v := by
  have hl : (xs ++ [v]).length = xs.length + 1 := by simp
  have e : ixN (xs ++ [v]).length (-1) = some xs.length := by
    unfold ixN
    rw [hl, if_neg (by decide), if_pos (by omega)]
    congr 1
    omega
  unfold atI
  rw [e]
  show (xs ++ [v])[xs.length]? = some v
  simp
def PlainIx (b : Expr) : Prop := ∀ o i, subscripted b false o i = operate [o, i] (getItem o i)
def IxR (X : Cx) (r : R2) : Prop :=
  ∀ (value slice : Expr) (pins : List (Addr × Obj)) (s : Shared) (σ : St) (H : Hp) (x y : V) (v u : Value) (Q : VK), Inv X pins σ H s → RelV x v → RelV y u → r x y H Q →
    subscripted slice false v u = operate [v, u] (getItem v u) → wpAny (model X.prog X.w) X.A (subscriptTail value slice v u) (EP X pins σ Q) X.xe s
def MtR (X : Cx) (id : String) (r : V → List V → Hp → VK → Prop) : Prop :=
  ∀ (pins : List (Addr × Obj)) (s : Shared) (σ : St) (H : Hp) (x : V) (xs : List V) (v : Value) (us : List Value) (Q : VK), Inv X pins σ H s → RelV x v → Vals xs us → r x xs H Q →
    wpAny (model X.prog X.w) X.A (call (.builtin id) (v :: us)) (EP X pins σ Q) X.xe s
section
variable {X : Cx} {a b : Expr} {ta tb : TE} {pos : Pos}
theorem IxR.or {r r' : R2} (h : IxR X r) (h' : IxR X r') : IxR X (fun x y H Q => r x y H Q ∨ r' x y H Q) := by
  intro value slice pins s σ H x y v u Q I rx ry q hs
  rcases q with q | q
  · exact h value slice pins s σ H x y v u Q I rx ry q hs
  · exact h' value slice pins s σ H x y v u Q I rx ry q hs
theorem MtR.or {id : String} {r r' : V → List V → Hp → VK → Prop} (h : MtR X id r) (h' : MtR X id r') : MtR X id (fun x xs H Q => r x xs H Q ∨ r' x xs H Q) := by
  intro pins s σ H x xs v us Q I rx rs q
  rcases q with q | q
  · exact h pins s σ H x xs v us Q I rx rs q
  · exact h' pins s σ H x xs v us Q I rx rs q
theorem pe_ix {r : R2} (hr : IxR X r) (ha : PE X a ta) (hb : PE X b tb) (hs : PlainIx b) : PE X (.Subscript a b pos) (tOp r ta tb) := by
  intro pins s σ H Q I h
  exact Subscript_ (binT ha hb I h fun v u s2 x y H2 I2 rx ry q => hr a b pins s2 σ H2 x y v u Q I2 rx ry q (hs _ _))
def rIxL (K : PySem.W.Frag) : R2 := fun x y H Q => ∃ p xs i v, x = .ref p ∧ y = .int i ∧ SqL K H p xs ∧ atI xs i = some v ∧ Q v H
def rIxT (K : PySem.W.Frag) : R2 := fun x y H Q => ∃ p xs i v, x = .ref p ∧ y = .int i ∧ SqT K H p xs ∧ atI xs i = some v ∧ Q v H
theorem ix_list : IxR X (rIxL X.K) := by
  intro value slice pins s σ H x y v u Q I rx ry h hs
  obtain ⟨p, xs, i, z, rfl, rfl, hq, he, q⟩ := h
  cases rx
  obtain ⟨t, rfl⟩ := ry
  obtain ⟨its, r, pl, hz⟩ := I.list hq
  obtain ⟨j, h1, h2, h3, h4, h5⟩ := atI_get he
  obtain ⟨w, ew, rw'⟩ := r.get h2
  have hl := r.length
  have hn := line63
  have fin : EP X pins σ Q w s := ⟨z, H, I, rw', q⟩
  by_cases h0 : 0 ≤ i
  · have hj : i.toNat = j := by
      rw [seqIndex_of h0 h5] at h1
      exact Option.some.inj h1
    exact item_listR pl.isList h0 (by omega) (by rw [hj]; simpa using ew) fin hs
  · have hj : (i + (its.toArray.size : Int)).toNat = j := by
      rw [seqIndex_neg (by omega) h4] at h1
      rw [List.size_toArray, ← hl]
      exact Option.some.inj h1
    exact subscriptTail_builtinR (x := w) pl.isList.typeIs slot_list_getitem.lookup
      (wpAny_getItem_list_neg (Q := fun r s' => r = w ∧ EP X pins σ Q r s') pl.isList (by omega) (by rw [List.size_toArray] <;> omega) (by omega) (by rw [hj]; simpa using ew) ⟨rfl, fin⟩) hs
theorem ix_tup : IxR X (rIxT X.K) := by
  intro value slice pins s σ H x y v u Q I rx ry h hs
  obtain ⟨p, xs, i, z, rfl, rfl, hq, he, q⟩ := h
  cases rx
  obtain ⟨t, rfl⟩ := ry
  obtain ⟨its, r, pl, hz⟩ := I.tuple hq
  obtain ⟨j, h1, h2, h3, h4, h5⟩ := atI_get he
  obtain ⟨w, ew, rw'⟩ := r.get h2
  have hl := r.length
  have hn := line63
  have fin : EP X pins σ Q w s := ⟨z, H, I, rw', q⟩
  exact subscriptTail_builtinR (x := w) pl.typeIs slot_tuple_getitem.lookup
    (getItem_tuple (j := j) (Q := fun r s' => r = w ∧ EP X pins σ Q r s') pl (by omega) (by omega) (by rw [List.size_toArray, ← hl]; exact h1) (by simpa using ew) ⟨rfl, fin⟩) hs
theorem mapSeq_set (its : List Value) (n j : Nat) (u : Value) : Obj.mapSeq (·.setIfInBounds j u) { cls := .type "list", data := .seq its.toArray n } = { cls := .type "list", data := .seq (its.set j u).toArray n } := by
  simp [Obj.mapSeq]
theorem Inv.lst {pins : List (Addr × Obj)} {σ : St} {H : Hp} {s : Shared} {p : Addr} {xs : List V} (I : Inv X pins σ H s) (h : H p = some (.lst xs)) :
    ∃ (its : List Value) (n : Nat), Vals xs its ∧ s.heap.get? p = some { cls := .type "list", data := .seq its.toArray n } ∧ xs.length ≤ sizeLine := by
  obtain ⟨z, its, n, r, e⟩ := I.hok p _ h
  exact ⟨its, n, r, e, z⟩
theorem Inv.lstUpd {pins : List (Addr × Obj)} {σ : St} {H : Hp} {s : Shared} {p : Addr} {xs ys : List V} {its its' : List Value} {n n' : Nat} {f : Obj → Obj} (I : Inv X pins σ H s) (h : H p = some (.lst xs))
    (ho : s.heap.get? p = some { cls := .type "list", data := .seq its.toArray n }) (hf : f { cls := .type "list", data := .seq its.toArray n } = { cls := .type "list", data := .seq its'.toArray n' }) (r : Vals ys its') (hz : ys.length ≤ sizeLine) (t : Nat) :
    Inv X pins σ (upd H p (.lst ys)) { s with heap := s.heap.update p f, toks := t } := by
  have e : (s.heap.update p f).get? p = some { cls := .type "list", data := .seq its'.toArray n' } := by
    rw [Heap.get?_update_self f ho (by rw [hf] <;> rfl), hf]
  refine I.write (x := p) (e := p) (by rw [h]; trivial) (.inl rfl) (fun b u hb q => (Heap.get?_update_other _ _ (Ne.symm hb)).trans q) ⟨_, e⟩ ?_
  exact ⟨hz, its', n', r, e⟩
def rSetL : V → V → V → Hp → (Hp → Prop) → Prop := fun o i v H Q => ∃ p xs k j, o = .ref p ∧ i = .int k ∧ H p = some (.lst xs) ∧ ixN xs.length k = some j ∧ Q (upd H p (.lst (xs.set j v)))
theorem set_list : PSet X rSetL := by
  intro pins s σ H o i v ov iv u Q I ro ri rv h
  obtain ⟨p, xs, k, j, rfl, rfl, hp, hj, q⟩ := h
  cases ro
  obtain ⟨t, rfl⟩ := ri
  obtain ⟨its, n, r, ho, hz⟩ := I.lst hp
  obtain ⟨h1, h2, h3, h4⟩ := ixN_seq hj
  have hl := r.length
  have hn := line63
  have I' : Inv X pins σ (upd H p (.lst (xs.set j v))) { s with heap := s.heap.update p (Obj.mapSeq (·.setIfInBounds j u)) } :=
    I.lstUpd hp ho (mapSeq_set its n j u) (r.set rv j) (by rw [List.length_set]; exact hz) s.toks
  by_cases h0 : 0 ≤ k
  · have hk : k.toNat = j := by
      rw [seqIndex_of h0 h4] at h1
      exact Option.some.inj h1
    exact PySem.W.ki_setAt ho h0 (by omega) (by rw [List.size_toArray, ← hl]; exact h4) (by rw [hk]; exact ⟨_, I', q⟩)
  · have hk : (k + (its.toArray.size : Int)).toNat = j := by
      rw [seqIndex_neg (by omega) h3] at h1
      rw [List.size_toArray, ← hl]
      exact Option.some.inj h1
    exact PySem.W.ki_setBack ho (by omega) (by rw [List.size_toArray, ← hl]; exact h3) (by omega) (by rw [hk]; exact ⟨_, I', q⟩)
theorem slice_bounds (lo hi : Option Int) (n : Nat) : (sliceBounds lo hi none n).1 = ((HT.sIx n 0 lo : Nat) : Int) ∧ (sliceBounds lo hi none n).2.1 = ((HT.sIx n n hi : Nat) : Int) ∧ (sliceBounds lo hi none n).2.2 = 1 := by
  refine ⟨?_, ?_, rfl⟩
  · cases lo with
    | none => simp [sliceBounds, HT.sIx]
    | some i =>
      simp only [sliceBounds, HT.sIx, Option.getD_none, show (1 : Int) > 0 by decide, if_true]
      by_cases h : i < 0
      · simp only [h, if_true] <;> omega
      · simp only [h, if_false] <;> omega
  · cases hi with
    | none => simp [sliceBounds, HT.sIx]
    | some i =>
      simp only [sliceBounds, HT.sIx, Option.getD_none, show (1 : Int) > 0 by decide, if_true]
      by_cases h : i < 0
      · simp only [h, if_true] <;> omega
      · simp only [h, if_false] <;> omega
theorem slicePick_cut (its : List Value) (lo hi : Option Int) : slicePick its.toArray lo hi none = ((its.drop (HT.sIx its.length 0 lo)).take (HT.sIx its.length its.length hi - HT.sIx its.length 0 lo)).toArray := by
  obtain ⟨h1, h2, h3⟩ := slice_bounds lo hi its.toArray.size
  unfold slicePick
  rw [h1, h2, h3]
  simp only [sliceRange_one, pick_run, List.size_toArray] <;> rfl
def rSlL (K : PySem.W.Frag) : V → Option Int → Option Int → Hp → VK → Prop := fun x lo hi H Q => ∃ a xs, x = .ref a ∧ SqL K H a xs ∧ ∀ p, H p = none → Q (.ref p) (upd H p (.lst (cutV xs lo hi)))
theorem sl_list : SlR X (rSlL X.K) := by
  intro pins s σ H x v vl vu lo hi sl Q I rx hs pl pu h
  obtain ⟨a, xs, rfl, hx, q⟩ := h
  cases rx
  obtain ⟨its, r, ht, hz⟩ := I.list hx
  have hlen := r.length
  refine ⟨"list", _, slot_list_getitem.lookup, ht.isList.typeIs, ?_⟩
  refine wpAny_getItem_list_slice ht.isList hs pl pu .none (by simp) ?_ (by rw [List.size_toArray] <;> omega)
  rw [slicePick_cut, ← hlen]
  refine ⟨.ref s.heap.objs.size, _, I.laid (t' := s.toks) (o := .lst (cutV xs lo hi)) (fun b ob q => Heap.get?_push_of_some _ q) (Nat.le_refl _) ?_, rfl, q _ (I.hok.fresh (Nat.le_refl _))⟩
  exact ⟨Nat.le_trans (cutV_length xs lo hi) hz, _, 0, (r.drop (HT.sIx xs.length 0 lo)).take (HT.sIx xs.length xs.length hi - HT.sIx xs.length 0 lo), Heap.get?_push_size _ rfl⟩
theorem call_len_seq : CallR X (.builtin "len") (fun xs H Q => ∃ p ys, xs = [.ref p] ∧ (SqL X.K H p ys ∨ SqT X.K H p ys) ∧ Q (.int ys.length) H) := by
  intro pins s σ H xs us Q I r h
  obtain ⟨p, ys, rfl, hq, q⟩ := h
  obtain ⟨u, rfl, rx⟩ := vals1 r
  cases rx
  have hn := line63
  rcases hq with hq | hq
  · obtain ⟨its, r', pl, hz⟩ := I.list hq
    have hlen := r'.length
    exact Calls.call_len_list pl.isList (by simp only [List.size_toArray] <;> omega) ⟨.int ys.length, H, I.tok _, ⟨s.toks + 1, by rw [List.size_toArray, hlen]⟩, q⟩
  · obtain ⟨its, r', pl, hz⟩ := I.tuple hq
    have hlen := r'.length
    exact len_tuple pl (by simp only [List.size_toArray] <;> omega) ⟨.int ys.length, H, I.tok _, ⟨s.toks + 1, by rw [List.size_toArray, hlen]⟩, q⟩
theorem CallR.or {f : Value} {r r' : List V → Hp → VK → Prop} (h : CallR X f r) (h' : CallR X f r') : CallR X f (fun xs H Q => r xs H Q ∨ r' xs H Q) := by
  intro pins s σ H xs us Q I rs q
  rcases q with q | q
  · exact h pins s σ H xs us Q I rs q
  · exact h' pins s σ H xs us Q I rs q
theorem call_list_of : CallR X (.type "list") (fun xs H Q => ∃ p ys, xs = [.ref p] ∧ (SqL X.K H p ys ∨ SqT X.K H p ys) ∧ ∀ l, H l = none → Q (.ref l) (upd H l (.lst ys))) := by
  intro pins s σ H xs us Q I r h
  obtain ⟨p, ys, rfl, hq, q⟩ := h
  obtain ⟨u, rfl, rx⟩ := vals1 r
  cases rx
  have fin : ∀ (its : List Value), Vals ys its → ys.length ≤ sizeLine → ∀ (h' : Heap) (c' : Nat), (∀ b o', s.heap.get? b = some o' → h'.get? b = some o') →
      h'.get? s.heap.objs.size = some { cls := .type "list", dict := none, data := .seq its.toArray c', slots := #[] } → EP X pins σ Q (.ref s.heap.objs.size) { s with heap := h' } := fun its r' hz h' c' kp e =>
    ⟨.ref s.heap.objs.size, _, I.laid (t' := s.toks) kp (Nat.le_refl _) (show ObjOk X.prog X.w _ h' _ (.lst ys) from ⟨hz, its, c', r', e⟩), rfl, q _ (I.hok.fresh (Nat.le_refl _))⟩
  rcases hq with hq | hq
  · obtain ⟨its, r', pl, hz⟩ := I.list hq
    have hlen := r'.length
    obtain ⟨o, ho, hc, n, hd⟩ := pl.isList
    exact call_list_seq p (.inl rfl) ho hc hd (fun h' c' kp e => fin its r' hz h' c' kp e) (by simp only [List.size_toArray] <;> omega)
  · obtain ⟨its, r', pl, hz⟩ := I.tuple hq
    have hlen := r'.length
    obtain ⟨o, ho, hc, n, hd⟩ := pl
    exact call_list_seq p (.inr rfl) ho hc hd (fun h' c' kp e => fin its r' hz h' c' kp e) (by simp only [List.size_toArray] <;> omega)
def tyV (K : PySem.W.Frag) (T : String) (x : V) (H : Hp) : Prop := match x with
  | .str _ => T = "str"
  | .int _ => T = "int"
  | .ref p => (T = "list" ∧ ∃ xs, SqL K H p xs) ∨ (T = "tuple" ∧ ∃ o, K.lookup p = some o ∧ o.cls = .type "tuple" ∧ o.dict = none) ∨
      (T = "dict" ∧ ((∃ kvs, H p = some (.dK kvs)) ∨ ∃ kvs, H p = some (.dT kvs))) ∨ (T = "set" ∧ ∃ S n, H p = some (.set S n))
  | _ => False
theorem tyV_is {pins : List (Addr × Obj)} {σ : St} {H : Hp} {s : Shared} {T : String} {x : V} {v : Value} (I : Inv X pins σ H s) (r : RelV x v) (ty : tyV X.K T x H) :
    s.TypeIs v T ∧ ∀ a, v = .ref a → ∃ ob, s.heap.get? a = some ob ∧ ob.dict = none := by
  cases x with
  | str z =>
    obtain ⟨t, rfl⟩ := r
    cases (show T = "str" from ty)
    exact ⟨typeIs_str s z t, fun _ e => nomatch e⟩
  | int i =>
    obtain ⟨t, rfl⟩ := r
    cases (show T = "int" from ty)
    exact ⟨typeIs_int s i t, fun _ e => nomatch e⟩
  | ref p =>
    cases r
    rcases ty with ⟨rfl, xs, hq⟩ | ⟨rfl, o, hk, hc, hd⟩ | ⟨rfl, hk⟩ | ⟨rfl, S, n, hk⟩
    · obtain ⟨its, _, pl, _⟩ := I.list hq
      refine ⟨pl.isList.typeIs, fun a e => ?_⟩
      cases e
      obtain ⟨o, n, e, c, hd, _⟩ := pl
      exact ⟨o, e, hd⟩
    · refine ⟨⟨o, I.kIn p o hk, hc⟩, fun a e => ?_⟩
      cases e
      exact ⟨o, I.kIn _ o hk, hd⟩
    · have z : ∃ o, s.heap.get? p = some o ∧ o.ExactDict := by
        rcases hk with ⟨kvs, hk⟩ | ⟨kvs, hk⟩
        · obtain ⟨_, _, _, _, o, _, _, e, ex, _⟩ := I.hok p _ hk
          exact ⟨o, e, ex⟩
        · obtain ⟨_, _, _, _, o, _, _, e, ex, _⟩ := I.hok p _ hk
          exact ⟨o, e, ex⟩
      obtain ⟨o, e, ex⟩ := z
      refine ⟨⟨o, e, ex.1⟩, fun a e2 => ?_⟩
      cases e2
      exact ⟨o, e, ex.2.1⟩
    · obtain ⟨o, _, _, _, e, ex, _⟩ := I.hok p _ hk
      refine ⟨⟨o, e, ex.1⟩, fun a e2 => ?_⟩
      cases e2
      exact ⟨o, e, ex.2.1⟩
  | _ => exact False.elim ty
def tBM (K : PySem.W.Frag) (T : String) (r : V → List V → Hp → VK → Prop) (to : TE) (t : TA) : TE := fun σ H Q => to σ H fun x H1 => tyV K T x H1 ∧ t σ H1 fun xs H2 => r x xs H2 Q
variable {o e : Expr} {es : List Expr} {to : TE} {t : TA} {name : Str} {apos cpos : Pos} {T id : String} {r : V → List V → Hp → VK → Prop}
theorem pe_bm (pa : PlainAttrs T) (slot : Slot T name id) (hty : typeOf (.builtin id) = pure (.type "method_descriptor")) (hm : MtR X id r) (ho : PE X o to) (ha : PA X (e :: es) t)
    (hbase : attributeBase o name X.env (eval o X.env) = eval o X.env := by rfl)
    (hfew : ((backTo cpos (starEach (e :: es) X.env)).all (fun x => !x.1) && (backToKw cpos (keywordEach [] X.env)).all (fun x => x.1.isSome)
      && decide ((e :: es).length + ([] : List Keyword).length + (if ([] : List Keyword).isEmpty then 0 else 1) < 30)) = true := by rfl)
    (hline : (apos.endLine == cpos.line) = true := by rfl) (hs : starEach (e :: es) X.env = (false, eval e X.env) :: starEach es X.env := by rfl) (hplain : (backTo cpos (starEach es X.env)).any (·.1) = false := by rfl) :
    PE X (.Call (.Attribute o name apos) (e :: es) [] cpos) (tBM X.K T r to t) := by
  intro pins s σ H Q I h
  refine wpAny_Call_method_late hbase hfew hline rfl (thn (ho pins s σ H _ I h) fun v s1 ⟨x, H1, I1, r1, ty, q1⟩ => ?_)
  obtain ⟨h1, h2⟩ := tyV_is I1 r1 ty
  refine ⟨T, id, pa, slot, hty, h1, h2, ?_⟩
  have hA := ha cpos pins s1 σ H1 _ I1 q1
  rw [hs] at hA ⊢
  refine Calls.callWith_builtin (by show (false || (backTo cpos (starEach es X.env)).any (·.1)) = false; rw [hplain] <;> rfl) (Calls.evalArgs_plain ?_)
  exact thn hA fun us s2 ⟨vs, H2, I2, r2, q2⟩ => hm pins s2 σ H2 x vs v us Q I2 r1 r2 q2
end
end L2
namespace L2
open PySem PySem.Spec PyProof.Rows
def MtM (X : Cx) (id : String) (r : V → List V → Hp → VK → Prop) : Prop :=
  ∀ (pins : List (Addr × Obj)) (s : Shared) (σ : St) (H : Hp) (x : V) (xs : List V) (v : Value) (us : List Value) (Q : VK), Inv X pins σ H s → RelV x v → Vals xs us → r x xs H Q →
    wpAny (model X.prog X.w) X.A (call (.builtin id) (v :: us)) (EP X pins σ Q) X.xe s
theorem Vals.one : ∀ {x : V} {us : List Value}, Vals [x] us → ∃ u, us = [u] ∧ RelV x u
  | _, _, .cons r .nil => ⟨_, rfl, r⟩
theorem Vals.two : ∀ {x y : V} {us : List Value}, Vals [x, y] us → ∃ u v, us = [u, v] ∧ RelV x u ∧ RelV y v
  | _, _, _, .cons r (.cons q .nil) => ⟨_, _, rfl, r, q⟩
theorem Vals.zero : ∀ {us : List Value}, Vals [] us → us = []
  | _, .nil => rfl
theorem Vals.rep {xs : List V} {us : List Value} (h : Vals xs us) : ∀ k : Nat, Vals (List.replicate k xs).flatten (List.replicate k us).flatten
  | 0 => .nil
  | k + 1 => by
    rw [List.replicate_succ, List.replicate_succ, List.flatten_cons, List.flatten_cons]
    exact Vals.append h (Vals.rep h k)
theorem foldl_rep (its : List Value) : ∀ (k : Nat) (acc : List Value),
    List.foldl (fun x1 x2 => x1 ++ x2) acc.toArray (List.replicate k its.toArray) = (acc ++ (List.replicate k its).flatten).toArray
  | 0, acc => by simp
  | k + 1, acc => by
    have e : acc.toArray ++ its.toArray = (acc ++ its).toArray := by simp
    have e2 : (acc ++ its) ++ (List.replicate k its).flatten = acc ++ (List.replicate (k + 1) its).flatten := by
      rw [List.replicate_succ, List.flatten_cons, List.append_assoc]
    rw [← e2, ← foldl_rep its k (acc ++ its), ← e, List.replicate_succ, List.foldl_cons]
section
variable {X : Cx} {pins : List (Addr × Obj)} {σ : St} {H : Hp} {s : Shared} {l b : Addr} {xs ys zs : List V}
theorem Inv.lset {its its' : List Value} {n : Nat} {f : Array Value → Array Value} {t' : Nat} (I : Inv X pins σ H s) (hH : H l = some (.lst xs))
    (e : s.heap.get? l = some { cls := .type "list", data := .seq its.toArray n }) (hf : f its.toArray = its'.toArray) (hv : Vals ys its') (hz : ys.length ≤ sizeLine) :
    Inv X pins σ (upd H l (.lst ys)) { s with heap := s.heap.update l (Obj.mapSeq f), toks := t' } := by
  have q := PySem.IsL.update e f
  rw [hf] at q
  refine I.write (x := l) (e := l) (by rw [hH]; exact trivial) (.inl rfl) (fun b' u hb hu => (Heap.get?_update_other s.heap (Obj.mapSeq f) (Ne.symm hb)).trans hu) ⟨_, q⟩ ?_
  exact ⟨hz, its', _, hv, q⟩
theorem Inv.lnew {its : List Value} {t' : Nat} (I : Inv X pins σ H s) (hv : Vals ys its) (hz : ys.length ≤ sizeLine) :
    Inv X pins σ (upd H s.heap.objs.size (.lst ys)) { s with heap := s.heap.push { cls := .type "list", data := .seq its.toArray }, toks := t' } :=
  I.laid (fun _ _ q => Heap.get?_push_of_some _ q) (Nat.le_refl _) ⟨hz, its, 0, hv, Heap.get?_push_size _ rfl⟩
theorem Inv.fresh (I : Inv X pins σ H s) : H s.heap.objs.size = none := I.hok.fresh (Nat.le_refl _)
theorem Inv.lstM (I : Inv X pins σ H s) (hH : H l = some (.lst xs)) : xs.length ≤ sizeLine ∧ ∃ (its : List Value) (n : Nat), Vals xs its ∧ xs.length = its.length ∧ s.heap.get? l = some { cls := .type "list", data := .seq its.toArray n } := by
  obtain ⟨z, its, n, r, e⟩ := I.hok l _ hH
  exact ⟨z, its, n, r, r.length, e⟩
theorem notLongL {n : Nat} (h : n ≤ sizeLine) : Builtin.List.listTooLong n = false := by
  unfold Builtin.List.listTooLong
  exact decide_eq_false (by omega)
end
section
variable {X : Cx}
def rAppend : V → List V → Hp → VK → Prop := fun x vs H Q => ∃ l xs y, x = .ref l ∧ vs = [y] ∧ H l = some (.lst xs) ∧ xs.length < sizeLine ∧ Q .non (upd H l (.lst (xs ++ [y])))
theorem mt_append : MtM X "list.append" rAppend := by
  intro pins s σ H x vs v us Q I rx rv h
  obtain ⟨l, xs, y, rfl, rfl, hH, hz, q⟩ := h
  cases rx
  obtain ⟨u, rfl, ru⟩ := rv.one
  obtain ⟨z, its, n, r, hl, e⟩ := I.lstM hH
  refine call_meets F.slot_list_append ⟨_, e, rfl⟩ F.entry_list_append (F.args_list_append_2 _ _) (PySem.list_append l its.toArray n u (by rw [List.size_toArray]; omega)) ⟨e, ?_⟩
  refine ⟨.non, _, I.lset (its' := its ++ [u]) hH e (by simp) (r.append (.cons ru .nil)) ?_, rfl, q⟩
  rw [List.length_append, List.length_singleton]
  omega
def rExtend : V → List V → Hp → VK → Prop := fun x vs H Q => ∃ l b xs zs, x = .ref l ∧ vs = [.ref b] ∧ H l = some (.lst xs) ∧ H b = some (.lst zs) ∧ xs.length + zs.length ≤ sizeLine ∧ Q .non (upd H l (.lst (xs ++ zs)))
theorem mt_extend : MtM X "list.extend" rExtend := by
  intro pins s σ H x vs v us Q I rx rv h
  obtain ⟨l, b, xs, zs, rfl, rfl, hH, hB, hz, q⟩ := h
  cases rx
  obtain ⟨u, rfl, ru⟩ := rv.one
  cases ru
  obtain ⟨z, its, n, r, hl, e⟩ := I.lstM hH
  obtain ⟨z2, its2, n2, r2, hl2, e2⟩ := I.lstM hB
  have hsz : its.toArray.size + its2.toArray.size ≤ sizeLine := by rw [List.size_toArray, List.size_toArray]; omega
  have hlong : ¬ (!its.toArray.isEmpty && Builtin.List.listTooLong (its.toArray.size + its2.toArray.size)) = true := by
    rw [notLongL hsz, Bool.and_false]
    exact Bool.false_ne_true
  refine call_meets F.slot_list_extend ⟨_, e, rfl⟩ F.entry_list_extend (F.args_list_extend_2 _ _)
    (AutoSeq1.list_extend_list_list_0 l its.toArray n b its2.toArray n2 hlong (by rw [List.size_toArray]; omega) (by omega)) ⟨e, e2, ?_⟩
  refine ⟨.non, _, I.lset (its' := its ++ its2) hH e (by simp) (r.append r2) ?_, rfl, q⟩
  rw [List.length_append]
  omega
def rCat : R2 := fun x y H Q => ∃ l b xs zs, x = .ref l ∧ y = .ref b ∧ H l = some (.lst xs) ∧ H b = some (.lst zs) ∧ xs.length + zs.length ≤ sizeLine ∧ ∀ p, H p = none → Q (.ref p) (upd H p (.lst (xs ++ zs)))
theorem op_cat : OpR X (binaryOp .Add) rCat := by
  intro pins s σ H x y v u Q I rx ry h
  obtain ⟨l, b, xs, zs, rfl, rfl, hH, hB, hz, q⟩ := h
  cases rx
  cases ry
  obtain ⟨z, its, n, r, hl, e⟩ := I.lstM hH
  obtain ⟨z2, its2, n2, r2, hl2, e2⟩ := I.lstM hB
  refine PySem.P.add_list e e2 ?_ (by rw [List.size_toArray, List.size_toArray]; omega)
  have ea : its.toArray ++ its2.toArray = (its ++ its2).toArray := by simp
  rw [ea]
  exact ⟨.ref _, _, I.lnew (t' := s.toks) (r.append r2) (by rw [List.length_append]; omega), rfl, q _ I.fresh⟩
def rRep : R2 := fun x y H Q => ∃ l k xs, x = .ref l ∧ y = .int k ∧ H l = some (.lst xs) ∧ -(2 ^ 63) ≤ k ∧ k < 2 ^ 63 ∧ xs.length * k.toNat ≤ sizeLine ∧
  ∀ p, H p = none → Q (.ref p) (upd H p (.lst (List.replicate k.toNat xs).flatten))
theorem len_rep {α : Type} (xs : List α) (k : Nat) : (List.replicate k xs).flatten.length = k * xs.length := by
  induction k with
  | zero => simp
  | succ k ih => rw [List.replicate_succ, List.flatten_cons, List.length_append, ih, Nat.succ_mul, Nat.add_comm]
theorem op_rep : OpR X (binaryOp .Mult) rRep := by
  intro pins s σ H x y v u Q I rx ry h
  obtain ⟨l, k, xs, rfl, rfl, hH, h1, h2, hz, q⟩ := h
  cases rx
  obtain ⟨t, rfl⟩ := ry
  obtain ⟨z, its, n, r, hl, e⟩ := I.lstM hH
  have hlen : its.toArray.size * k.toNat ≤ sizeLine := by rw [List.size_toArray, ← hl]; exact hz
  have hcap : ¬ its.toArray.size * k.toNat > (2 ^ 63 - 1) / 8 := by
    have : (sizeLine : Nat) ≤ (2 ^ 63 - 1) / 8 := by decide
    omega
  have hfit : ¬ (!Builtin.List.listFitsIndex k) = true := by
    rw [fitsIndex_both h1 h2]
    exact Bool.false_ne_true
  have hlong : ¬ Builtin.List.listTooLong (its.toArray.size * k.toNat) = true := by
    rw [notLongL hlen]
    exact Bool.false_ne_true
  have hnew : List.foldl (fun x1 x2 => x1 ++ x2) #[] (List.replicate (if its.toArray.isEmpty = true then 0 else k.toNat) its.toArray) = (List.replicate k.toNat its).flatten.toArray := by
    have f0 : ∀ m : Nat, List.foldl (fun x1 x2 => x1 ++ x2) #[] (List.replicate m its.toArray) = (List.replicate m its).flatten.toArray := fun m => by
      have := foldl_rep its m []
      rw [List.nil_append] at this
      exact this
    rw [f0]
    cases its with
    | nil => simp
    | cons a r' => rw [if_neg (by simp)]
  refine wpAny_binaryOp_repeat_ref (T := "list") (U := "int") (by decide) ⟨_, e, rfl⟩ (fun s' => typeIs_int s' k t) noFill_list_mul F.fills_int_mul F.slot_int_rmul repeat_list F.slot_int_index.lookup
    (call_meets F.slot_int_rmul (typeIs_int s k t) F.entry_int_rmul (F.args_int_rmul_2 _ _) (int___rmul___int_list k t l its.toArray n)
      ⟨e, rfl, ⟨_, e, rfl⟩, call_meets F.slot_list_mul ⟨_, e, rfl⟩ F.entry_list_mul (F.args_list_mul_2 _ _) (AutoListH.list___mul___list_int_3 l its.toArray n k t hfit hcap hlong) ⟨e, ?_⟩⟩)
  rw [hnew]
  exact ⟨.ref _, _, I.lnew (t' := s.toks) (r.rep k.toNat) (by rw [len_rep, Nat.mul_comm]; exact hz), rfl, q _ I.fresh⟩
end
section
variable {prog : Program} {w : World} {A : Around} {E : Value → Shared → Prop} {s : Shared}
end
section
variable {X : Cx}
end
end L2
namespace L2
open PySem PySem.Spec PyProof.Rows
theorem Vals.ints : ∀ {ns : List Int} {us : List Value}, Vals (ns.map V.int) us → IntsAre us ns
  | [], us, h => by
    rw [List.map_nil] at h
    cases h
    exact IntsAre.nil
  | n :: ns, us, h => by
    rw [List.map_cons] at h
    cases h with
    | cons r t =>
      obtain ⟨k, rfl⟩ := r
      exact IntsAre.cons n k (Vals.ints t)
theorem Vals.strs : ∀ {xs : List Str} {us : List Value}, Vals (xs.map V.str) us → StrsAre us xs
  | [], us, h => by
    rw [List.map_nil] at h
    cases h
    exact StrsAre.nil
  | x :: xs, us, h => by
    rw [List.map_cons] at h
    cases h with
    | cons r t =>
      obtain ⟨k, rfl⟩ := r
      exact StrsAre.cons x k (Vals.strs t)
section
variable {prog : Program} {w : World} {A : Around} {E : Value → Shared → Prop} {s : Shared} {l : Addr} {its : List Value} {ns : List Int} {Q : Value → Shared → Prop}
end
section
variable {X : Cx}
end
section
variable {X : Cx}
end
section
variable {X : Cx}
end
section
variable {X : Cx}
end
mutual
inductive Dp (K : PySem.W.Frag) (H : Hp) : V → PyData → Prop
  | non : Dp K H .non .none
  | bl (b : Bool) : Dp K H (.bl b) (.bool b)
  | int (i : Int) : Dp K H (.int i) (.int i)
  | str (x : Str) : Dp K H (.str x) (.str x)
  | lst {a : Addr} {xs : List V} {ds : List PyData} : SqL K H a xs → DpAll K H xs ds → Dp K H (.ref a) (.list ds)
  | tup {a : Addr} {xs : List V} {ds : List PyData} : SqT K H a xs → DpAll K H xs ds → Dp K H (.ref a) (.tuple ds)
inductive DpAll (K : PySem.W.Frag) (H : Hp) : List V → List PyData → Prop
  | nil : DpAll K H [] []
  | cons {v : V} {vs : List V} {d : PyData} {ds : List PyData} : Dp K H v d → DpAll K H vs ds → DpAll K H (v :: vs) (d :: ds)
end
section
variable {X : Cx} {pins : List (Addr × Obj)} {σ : St} {H : Hp} {s : Shared}
mutual
theorem Dp.reads (I : Inv X pins σ H s) : ∀ (d : PyData) (v : V) (u : Value), Dp X.K H v d → RelV v u → ∃ as, Reads s.heap u d as
  | .none, _, _, h, r => by
    cases h
    cases r
    exact ⟨_, Reads.none⟩
  | .bool b, _, _, h, r => by
    cases h
    cases r
    exact ⟨_, Reads.bool b⟩
  | .int i, _, _, h, r => by
    cases h
    obtain ⟨t, rfl⟩ := r
    exact ⟨_, Reads.int i t⟩
  | .str x, _, _, h, r => by
    cases h
    obtain ⟨t, rfl⟩ := r
    exact ⟨_, Reads.str x t⟩
  | .list ds, _, _, h, r => by
    cases h with
    | lst hs ha =>
      cases r
      obtain ⟨its, rv, ⟨o, n, ho, hc, _, hd⟩, _⟩ := I.list hs
      obtain ⟨as, hr⟩ := Dp.readsAll I ds _ its ha rv
      exact ⟨_, Reads.list ho hc hd hr⟩
  | .tuple ds, _, _, h, r => by
    cases h with
    | tup hs ha =>
      cases r
      obtain ⟨its, rv, ⟨o, ho, hc, n, hd⟩, _⟩ := I.tuple hs
      obtain ⟨as, hr⟩ := Dp.readsAll I ds _ its ha rv
      exact ⟨_, Reads.tuple ho hc hd hr⟩
  | .dict _, _, _, h, _ => by cases h
theorem Dp.readsAll (I : Inv X pins σ H s) : ∀ (ds : List PyData) (vs : List V) (us : List Value), DpAll X.K H vs ds → Vals vs us → ∃ as, ReadsAll s.heap us ds as
  | [], _, _, h, r => by
    cases h
    cases r
    exact ⟨_, ReadsAll.nil⟩
  | d :: ds, _, _, h, r => by
    cases h with
    | cons h1 h2 =>
      cases r with
      | cons r1 r2 =>
        obtain ⟨as, q1⟩ := Dp.reads I d _ _ h1 r1
        obtain ⟨bs, q2⟩ := Dp.readsAll I ds _ _ h2 r2
        exact ⟨_, ReadsAll.cons q1 q2⟩
end
end
section
variable {X : Cx}
end
end L2
namespace L2
open PySem PySem.Spec PyProof.Rows
abbrev CellAt (h : Heap) (c : Addr) (v : Option Value) : Prop := h.IsCell c v
def relS (scope sc : Scope) : Scope :=
  { scope with names := scope.names.map fun (n, k) => if (k == .free && sc.kind == .function && sc.names.lookup n == some .cell) then (n, .cell) else (n, k) }
def cloFrom (cells : List (Str × Addr)) : List (Str × NameKind) → List (Str × Addr) → List (Str × Addr)
  | [], acc => acc
  | (n, k) :: r, acc => if k == .free then cloFrom cells r ((n, (cells.lookup n).getD 0) :: acc) else cloFrom cells r acc
theorem closure_loop (env : Env) (f : Str × NameKind → List (Str × Addr) → Sem (ForInStep (List (Str × Addr))))
    (hf : ∀ n k c, f (n, k) c = if k == .free then (do let a ← cellOf env n; pure (.yield ((n, a) :: c))) else pure (.yield c)) :
    ∀ (names : List (Str × NameKind)) (acc : List (Str × Addr)), (∀ y ∈ names, y.2 = .free → ∃ c, env.cells.lookup y.1 = some c) → forIn names acc f = pure (cloFrom env.cells names acc)
  | [], acc, _ => by rw [List.forIn_nil]; rfl
  | (n, k) :: r, acc, h => by
    rw [List.forIn_cons, hf]
    have ih := fun acc => closure_loop env f hf r acc fun y hy => h y (List.mem_cons_of_mem _ hy)
    unfold cloFrom
    by_cases hk : (k == NameKind.free) = true
    · rw [if_pos hk, if_pos hk]
      obtain ⟨c, hc⟩ := h (n, k) List.mem_cons_self (by simpa using hk)
      have e : cellOf env n = pure c := by unfold cellOf; rw [hc]
      rw [e]
      have e2 : (env.cells.lookup n).getD 0 = c := by rw [hc]; rfl
      rw [e2]
      exact ih _
    · rw [if_neg hk, if_neg hk]
      exact ih _
theorem closure_ok {scope : Scope} {env : Env} (h : ∀ y ∈ scope.names, y.2 = .free → ∃ c, env.cells.lookup y.1 = some c) : closureFor scope env = pure (cloFrom env.cells scope.names []) := by
  simp only [closureFor]
  rw [closure_loop env _ (fun n k c => rfl) scope.names [] h]
  rfl
theorem mem_lookup {α : Type} : ∀ {l : List (Str × α)} {n : Str} {c : α}, (n, c) ∈ l → ∃ c', l.lookup n = some c'
  | (k, v) :: r, n, c, h => by
    rw [List.lookup_cons]
    cases hb : n == k with
    | true => exact ⟨_, rfl⟩
    | false =>
      rcases List.mem_cons.mp h with e | h
      · cases e; simp at hb
      · exact mem_lookup h
theorem cloFrom_mem {cells : List (Str × Addr)} : ∀ {names : List (Str × NameKind)} {acc : List (Str × Addr)} {n : Str} {c : Addr}, (n, c) ∈ cloFrom cells names acc → (n, c) ∈ acc ∨ ((n, .free) ∈ names ∧ c = (cells.lookup n).getD 0)
  | [], _, _, _, h => .inl h
  | (m, k) :: r, acc, n, c, h => by
    unfold cloFrom at h
    split at h
    · rename_i hk
      have hk : k = .free := by simpa using hk
      rcases cloFrom_mem h with h | ⟨h1, h2⟩
      · rcases List.mem_cons.mp h with e | h
        · cases e; exact .inr ⟨hk ▸ List.mem_cons_self, rfl⟩
        · exact .inl h
      · exact .inr ⟨List.mem_cons_of_mem _ h1, h2⟩
    · rcases cloFrom_mem h with h | ⟨h1, h2⟩
      · exact .inl h
      · exact .inr ⟨List.mem_cons_of_mem _ h1, h2⟩
theorem cloFrom_acc {cells : List (Str × Addr)} : ∀ {names : List (Str × NameKind)} {acc : List (Str × Addr)} {p : Str × Addr}, p ∈ acc → p ∈ cloFrom cells names acc
  | [], _, _, h => h
  | (m, k) :: r, acc, p, h => by
    unfold cloFrom
    split
    · exact cloFrom_acc (List.mem_cons_of_mem _ h)
    · exact cloFrom_acc h
theorem cloFrom_has {cells : List (Str × Addr)} : ∀ {names : List (Str × NameKind)} {acc : List (Str × Addr)} {n : Str}, (n, .free) ∈ names → (n, (cells.lookup n).getD 0) ∈ cloFrom cells names acc
  | (m, k) :: r, acc, n, h => by
    unfold cloFrom
    rcases List.mem_cons.mp h with e | h
    · cases e
      exact cloFrom_acc List.mem_cons_self
    · split
      · exact cloFrom_has h
      · exact cloFrom_has h
theorem cells_mem : ∀ {names : List (Str × NameKind)} {h : Heap} {acc : List (Str × Addr)} {x : Str} {c : Addr}, (x, c) ∈ cellsFrom h.objs.size names acc →
    (x, c) ∈ acc ∨ ((x, .cell) ∈ names ∧ h.objs.size ≤ c ∧ CellAt (pushCells h names) c none)
  | [], _, _, _, _, h => .inl h
  | (n, k) :: r, h, acc, x, c, hm => by
    unfold cellsFrom at hm
    unfold pushCells
    split at hm
    · rename_i hk
      rw [if_pos hk]
      have hk : k = .cell := by simpa using hk
      rw [← Heap.size_push h { cls := .type "cell", data := .cell none }] at hm
      rcases cells_mem hm with hm | ⟨h1, h2, h3⟩
      · rcases List.mem_cons.mp hm with e | hm
        · cases e
          exact .inr ⟨hk ▸ List.mem_cons_self, Nat.le_refl _, _, pushCells_keeps r _ _ _ (Heap.get?_push_size _ rfl), rfl⟩
        · exact .inl hm
      · rw [Heap.size_push] at h2
        exact .inr ⟨List.mem_cons_of_mem _ h1, Nat.le_of_succ_le h2, h3⟩
    · rename_i hk
      rw [if_neg hk]
      rcases cells_mem hm with hm | ⟨h1, h2, h3⟩
      · exact .inl hm
      · exact .inr ⟨List.mem_cons_of_mem _ h1, h2, h3⟩
theorem cells_acc : ∀ {names : List (Str × NameKind)} {n : Nat} {acc : List (Str × Addr)} {p : Str × Addr}, p ∈ acc → p ∈ cellsFrom n names acc
  | [], _, _, _, h => h
  | (m, k) :: r, n, acc, p, h => by
    unfold cellsFrom
    split
    · exact cells_acc (List.mem_cons_of_mem _ h)
    · exact cells_acc h
theorem cells_has : ∀ {names : List (Str × NameKind)} {n : Nat} {acc : List (Str × Addr)} {x : Str}, (x, .cell) ∈ names → ∃ c, (x, c) ∈ cellsFrom n names acc
  | (m, k) :: r, n, acc, x, h => by
    unfold cellsFrom
    rcases List.mem_cons.mp h with e | h
    · cases e
      exact ⟨n, cells_acc List.mem_cons_self⟩
    · split
      · exact cells_has h
      · exact cells_has h
theorem cells_inj : ∀ {names : List (Str × NameKind)} {h : Heap} {acc : List (Str × Addr)} {x y : Str} {c : Addr}, (∀ p ∈ acc, p.2 < h.objs.size) → (∀ x y c, (x, c) ∈ acc → (y, c) ∈ acc → x = y) →
    (x, c) ∈ cellsFrom h.objs.size names acc → (y, c) ∈ cellsFrom h.objs.size names acc → x = y
  | [], _, _, _, _, _, _, hi, h1, h2 => hi _ _ _ h1 h2
  | (n, k) :: r, h, acc, x, y, c, hl, hi, h1, h2 => by
    unfold cellsFrom at h1 h2
    split at h1
    · rename_i hk
      rw [if_pos hk] at h2
      rw [← Heap.size_push h { cls := .type "cell", data := .cell none }] at h1 h2
      refine cells_inj (h := h.push _) (fun p hp => ?_) (fun x y c a b => ?_) h1 h2
      · rw [Heap.size_push]
        rcases List.mem_cons.mp hp with rfl | hp
        · exact Nat.lt_succ_self _
        · exact Nat.lt_succ_of_lt (hl p hp)
      · rcases List.mem_cons.mp a with e | a <;> rcases List.mem_cons.mp b with e' | b
        · cases e; cases e'; rfl
        · cases e; exact absurd (hl _ b) (Nat.lt_irrefl _)
        · cases e'; exact absurd (hl _ a) (Nat.lt_irrefl _)
        · exact hi _ _ _ a b
    · rename_i hk
      rw [if_neg hk] at h2
      exact cells_inj hl hi h1 h2
theorem newEnv_comp {M : Model} {A : Around} {E : Value → Shared → Prop} {s : Shared} {scope : Scope} {globals : Addr} {closure : List (Str × Addr)} {qual : Str} {func : Option Addr} {code : Value} {around : Env} {builtins : Addr} {Q : Env → Shared → Prop}
    (h : Q (newEnv scope s.heap.objs.size globals (cellsFrom (s.heap.objs.size + 1) scope.names closure) qual func code (some around) builtins)
      { s with heap := pushCells (s.heap.push { cls := .type "dict", data := .dict #[] }) scope.names }) :
    wpAny M A (newFunctionEnv scope globals closure [] qual func code (some around) builtins) Q E s := by
  simp only [newFunctionEnv, Option.isSome_some, if_true]
  refine wpAny_bind (wpAny_alloc ?_)
  refine wpAny_bind (wpAny_layCells _ (fun n k c => rfl) scope.names closure _ _ ?_)
  rw [show ({ s with heap := s.heap.push { cls := .type "dict", data := .dict #[] } } : Shared).heap.objs.size = s.heap.objs.size + 1 from Heap.size_push ..]
  rw [List.forIn_nil]
  exact wpAny_bind (wpAny_pure (wpAny_pure h))
theorem lookup_relS {sc : Scope} : ∀ {names : List (Str × NameKind)} {x : Str} {k : NameKind},
    (names.map fun (n, k) => if (k == NameKind.free && sc.kind == .function && sc.names.lookup n == some .cell) then (n, NameKind.cell) else (n, k)).lookup x = some k →
    ∃ k', names.lookup x = some k' ∧ (k = k' ∨ (k' = .free ∧ k = .cell))
  | [], _, _, h => by simp at h
  | (n, k₀) :: r, x, k, h => by
    have ih := @lookup_relS sc r x k
    have h' : List.lookup x ((if (k₀ == NameKind.free && sc.kind == .function && sc.names.lookup n == some .cell) = true then (n, NameKind.cell) else (n, k₀)) :: (r.map _)) = some k := h
    cases hx : x == n with
    | true =>
      simp only [List.lookup_cons, hx]
      by_cases hc : (k₀ == NameKind.free && sc.kind == .function && sc.names.lookup n == some .cell) = true
      · rw [if_pos hc] at h'
        simp only [List.lookup_cons, hx] at h'
        cases h'
        simp only [Bool.and_eq_true, beq_iff_eq] at hc
        exact ⟨k₀, rfl, .inr ⟨hc.1.1, rfl⟩⟩
      · rw [if_neg hc] at h'
        simp only [List.lookup_cons, hx] at h'
        cases h'
        exact ⟨_, rfl, .inl rfl⟩
    | false =>
      simp only [List.lookup_cons, hx]
      by_cases hc : (k₀ == NameKind.free && sc.kind == .function && sc.names.lookup n == some .cell) = true
      · rw [if_pos hc] at h'
        simp only [List.lookup_cons, hx] at h'
        exact ih h'
      · rw [if_neg hc] at h'
        simp only [List.lookup_cons, hx] at h'
        exact ih h'
structure BlkOk (N : List Str) (sc scope : Scope) (own : List (Str × Nat)) : Prop where
  kind : scope.kind = .function
  uniq : ∀ y ∈ scope.names, scope.names.lookup y.1 = some y.2
  ix : ∀ p ∈ own, N[p.2]? = some p.1
  free : ∀ y ∈ scope.names, y.2 = .free → sc.names.lookup y.1 = some .cell ∨ sc.names.lookup y.1 = some .free
  own : ∀ y ∈ scope.names, y.2 = .local ∨ y.2 = .cell → y.1 ∈ own.map (·.1) ∨ y.1 ∉ N
def wipe (σ : St) : List Nat → St
  | [] => σ
  | v :: vs => (wipe σ vs).set v none
theorem wipe_length (σ : St) : ∀ vs : List Nat, (wipe σ vs).length = σ.length
  | [] => rfl
  | v :: vs => by unfold wipe; rw [List.length_set, wipe_length σ vs]
theorem wipe_some {σ : St} {i : Nat} {x : V} : ∀ {vs : List Nat}, (wipe σ vs)[i]? = some (some x) → σ[i]? = some (some x) ∧ i ∉ vs
  | [], h => ⟨h, by simp⟩
  | v :: vs, h => by
    unfold wipe at h
    by_cases hi : v = i
    · subst hi
      by_cases hv : v < (wipe σ vs).length
      · rw [List.getElem?_set_self hv] at h; cases h
      · rw [List.getElem?_eq_none (by simpa using hv)] at h; cases h
    · rw [List.getElem?_set_ne hi] at h
      obtain ⟨h1, h2⟩ := wipe_some h
      exact ⟨h1, by simp only [List.mem_cons, not_or]; exact ⟨fun e => hi e.symm, h2⟩⟩
abbrev Cx.blk (X : Cx) (s : Shared) (H : Hp) (scope : Scope) (cenv : Env) (fp : List Addr) : Cx := { X with s₀ := s, H₀ := H, env := cenv, outer := X.stack, ex := fp, fn := fun x => scope.names.lookup x == some .cell, pn := [], xe := fun _ _ => False }
section
variable {X : Cx} {pins : List (Addr × Obj)} {σ : St} {H : Hp} {s : Shared}
theorem block_start {scope : Scope} {own : List (Str × Nat)} {fp : List Addr} (I : Inv X pins σ H s) (ok : BlkOk X.N X.env.scope scope own) (hN : X.N.Nodup) (hfp : ∀ b ∈ fp, FpOk X pins H b ∧ b < s.heap.objs.size) :
    Inv (X.blk s H scope (compEnvC scope (cellsFrom (s.heap.objs.size + 1) scope.names (cloFrom X.env.cells scope.names [])) s.heap.objs.size X.env) fp) [] (wipe σ (own.map (·.2))) H { s with heap := pushCells (s.heap.push { cls := .type "dict", data := .dict #[] }) scope.names } := by
  have hfree : ∀ y ∈ scope.names, y.2 = .free → ∃ c, X.env.cells.lookup y.1 = some c := fun y hy e => by
    rcases ok.free y hy e with k | k
    · exact I.ok.has _ (.inl k)
    · exact I.ok.has _ (.inr k)
  generalize hcenv : compEnvC scope (cellsFrom (s.heap.objs.size + 1) scope.names (cloFrom X.env.cells scope.names [])) s.heap.objs.size X.env = cenv
  have kp : ∀ b o, s.heap.get? b = some o → (pushCells (s.heap.push { cls := .type "dict", data := .dict #[] }) scope.names).get? b = some o := fun b o e => pushCells_keeps _ _ _ _ (Heap.get?_push_of_some _ e)
  have hL : cenv.locals = s.heap.objs.size := by rw [← hcenv]; rfl
  have hcl : cenv.cells = cellsFrom (s.heap.objs.size + 1) scope.names (cloFrom X.env.cells scope.names []) := by rw [← hcenv]; rfl
  have hsc : cenv.scope = relS scope X.env.scope := by rw [← hcenv]; rfl
  rw [← Heap.size_push s.heap { cls := .type "dict", data := .dict #[] }] at hcl
  have cm : ∀ {y c}, (y, c) ∈ cloFrom X.env.cells scope.names [] → X.env.cells.lookup y = some c ∧ c < s.heap.objs.size := fun {y c} hm => by
    rcases cloFrom_mem hm with hm | ⟨h1, rfl⟩
    · cases hm
    · obtain ⟨c, hc⟩ := hfree _ h1 rfl
      rw [hc]
      obtain ⟨w, z⟩ := I.cell _ _ hc
      exact ⟨rfl, z.lt⟩
  have mem : ∀ {y c}, cenv.cells.lookup y = some c → (X.env.cells.lookup y = some c ∧ c < s.heap.objs.size) ∨ (s.heap.objs.size + 1 ≤ c ∧ CellAt (pushCells (s.heap.push { cls := .type "dict", data := .dict #[] }) scope.names) c none) := fun {y c} e => by
    rw [hcl] at e
    rcases cells_mem (PySem.mem_of_lookup e) with hm | ⟨_, h2, h3⟩
    · exact .inl (cm hm)
    · rw [Heap.size_push] at h2; exact .inr ⟨h2, h3⟩
  have look : ∀ {y}, scope.names.lookup y = some .free → ∃ c, cenv.cells.lookup y = some c ∧ X.env.cells.lookup y = some c := fun {y} hl => by
    have hy : (y, NameKind.free) ∈ scope.names := PySem.mem_of_lookup hl
    obtain ⟨c', e'⟩ := mem_lookup (cells_acc (names := scope.names) (n := (s.heap.push { cls := .type "dict", data := .dict #[] }).objs.size) (cloFrom_has (cells := X.env.cells) (acc := []) hy))
    rw [← hcl] at e'
    refine ⟨c', e', ?_⟩
    rw [hcl] at e'
    rcases cells_mem (PySem.mem_of_lookup e') with hm | ⟨h1, _, _⟩
    · exact (cm hm).1
    · have := ok.uniq _ h1
      rw [hl] at this; cases this
  have okB : (X.blk s H scope cenv fp).Ok := by
    refine ⟨I.ok.mod, by show cenv.scope.kind = _; rw [hsc]; exact ok.kind, by show cenv.globals = _; rw [← hcenv]; exact I.ok.glob, by show cenv.builtins = _; rw [← hcenv]; exact I.ok.blt, by show s.heap.objs.size ≤ cenv.locals; rw [hL]; exact Nat.le_refl _,
      fun y z c e1 e2 => ?_, fun y hy => ?_, fun y c z e => ?_, I.ok.hd, I.ok.frames, .inl rfl, fun b hb => ⟨?_, fun y c e z => ?_⟩, I.bs, Nat.le_trans I.ok.bsz I.sz, fun b o e hb => ?_, fun b hb z => ?_, I.stack, I.stkFree⟩
    · have e1 : cenv.cells.lookup y = some c := e1
      have e2 : cenv.cells.lookup z = some c := e2
      rw [hcl] at e1 e2
      refine cells_inj (fun p hp => ?_) (fun y z c a b => I.ok.inj y z c (cm a).1 (cm b).1) (PySem.mem_of_lookup e1) (PySem.mem_of_lookup e2)
      rw [Heap.size_push]
      exact Nat.lt_succ_of_lt (cm (y := p.1) (c := p.2) hp).2
    · show ∃ c, cenv.cells.lookup y = some c
      have key : ∀ k, cenv.kindOf y = some k → (k = .cell ∨ k = .free) → ∃ c, cenv.cells.lookup y = some c := fun k hk hk' => by
        unfold Env.kindOf at hk
        rw [hsc] at hk
        obtain ⟨k', e, r⟩ := lookup_relS hk
        have : k' = .cell ∨ k' = .free := by
          rcases r with rfl | ⟨rfl, _⟩
          · exact hk'
          · exact .inr rfl
        rcases this with rfl | rfl
        · obtain ⟨c, hm⟩ := cells_has (n := (s.heap.push { cls := .type "dict", data := .dict #[] }).objs.size) (acc := cloFrom X.env.cells scope.names []) (PySem.mem_of_lookup e)
          obtain ⟨c', e'⟩ := mem_lookup hm
          exact ⟨c', by rw [hcl]; exact e'⟩
        · obtain ⟨c, h1, _⟩ := look e
          exact ⟨c, h1⟩
      rcases hy with hy | hy
      · exact key _ hy (.inl rfl)
      · exact key _ hy (.inr rfl)
    · have z : (scope.names.lookup y == some NameKind.cell) = true := z
      have z : scope.names.lookup y = some .cell := by simpa using z
      have e : cenv.cells.lookup y = some c := e
      rw [hcl] at e
      rcases cells_mem (PySem.mem_of_lookup e) with hm | ⟨_, h2, _⟩
      · rcases cloFrom_mem hm with hm | ⟨h1, _⟩
        · cases hm
        · have q := ok.uniq _ h1
          rw [z] at q; cases q
      · rw [Heap.size_push] at h2
        exact Nat.le_of_succ_le h2
    · show b ≠ cenv.locals
      rw [hL]; exact Nat.ne_of_lt (hfp b hb).2
    · have e : cenv.cells.lookup y = some c := e
      rcases mem e with ⟨h1, _⟩ | ⟨h1, _⟩
      · exact (hfp b hb).1.2.2.2.2.1 y c h1 z
      · have h2 : s.heap.objs.size + 1 ≤ b := by rw [← z]; exact h1
        exact absurd (Nat.lt_of_lt_of_le (hfp b hb).2 (Nat.le_of_succ_le h2)) (Nat.lt_irrefl _)
    · rcases (hfp b hb).1.2.2.2.1 with z | z
      · exact I.ok.noex b o e z
      · exact absurd (Nat.lt_of_lt_of_le (Heap.lt_size e) (Nat.le_trans I.ok.bsz z)) (Nat.lt_irrefl _)
    · rcases List.mem_cons.mp (I.stkSub b z) with z | z
      · exact (hfp b hb).1.2.1 z
      · exact (hfp b hb).1.2.2.1 z
  refine ⟨okB, rfl, I.bare, Un.kept kp, ⟨fun _ => none, ?_, fun i y av e1 e2 e3 => ?_⟩, fun y c e => ?_, ?_, fun y c e => ?_, fun p hp => ?_, I.hok.kept kp, by rw [wipe_length]; exact I.len⟩
  · show Heap.Ns _ cenv.locals _
    rw [hL]
    exact Heap.Ns.keeps (Heap.Ns.new ..) fun b o e => pushCells_keeps _ _ _ _ e
  · obtain ⟨e2, hne⟩ := wipe_some e2
    have hfr : scope.names.lookup y = some .free ∧ (cenv.kindOf y = some .cell ∨ cenv.kindOf y = some .free) := by
      have key : ∀ k, cenv.scope.names.lookup y = some k → k = .local ∨ k = .cell ∨ k = .free → scope.names.lookup y = some .free ∧ (cenv.kindOf y = some .cell ∨ cenv.kindOf y = some .free) := fun k hk hk' => by
        have hk0 := hk
        rw [hsc] at hk
        obtain ⟨k', e, r⟩ := lookup_relS hk
        have no : ¬ (k' = .local ∨ k' = .cell) := fun hh => by
          rcases ok.own _ (PySem.mem_of_lookup e) hh with e' | e'
          · obtain ⟨p, hp, hpy⟩ := List.mem_map.mp e'
            have e3 := ok.ix p hp
            have : p.1 = y := hpy
            rw [this] at e3
            exact hne (List.mem_map.mpr ⟨p, hp, nodup_ix hN e3 e1⟩)
          · exact e' (List.mem_of_getElem? e1)
        rcases r with rfl | ⟨rfl, rfl⟩
        · rcases hk' with rfl | rfl | rfl
          · exact absurd (.inl rfl) no
          · exact absurd (.inr rfl) no
          · exact ⟨e, .inr hk0⟩
        · exact ⟨e, .inl hk0⟩
      have e3 : Vis cenv.scope y := e3
      rcases e3 with e3 | e3 | e3
      · exact key _ e3 (.inl rfl)
      · exact key _ e3 (.inr (.inl rfl))
      · exact key _ e3 (.inr (.inr rfl))
    obtain ⟨m, hn, hl⟩ := I.loc
    have hvis : Vis X.env.scope y := (ok.free _ (PySem.mem_of_lookup hfr.1) rfl).elim (fun k => .inr (.inl k)) (fun k => .inr (.inr k))
    obtain ⟨w, r, q⟩ := hl i y av e1 e2 hvis
    refine ⟨w, r, .inr ⟨hfr.2, ?_⟩⟩
    obtain ⟨c, h1, h2⟩ := look hfr.1
    rcases q with ⟨k, _⟩ | ⟨_, c', e', z⟩
    · have k : X.env.scope.names.lookup y = some .local := k
      rcases ok.free _ (PySem.mem_of_lookup hfr.1) rfl with k' | k' <;> rw [show X.env.scope.names.lookup y = _ from k'] at k <;> cases k
    · rw [h2] at e'; cases e'
      exact ⟨c, h1, z.keeps kp⟩
  · have e : cenv.cells.lookup y = some c := e
    rcases mem e with ⟨h1, _⟩ | ⟨_, z⟩
    · obtain ⟨w, z⟩ := I.cell y c h1
      exact ⟨w, z.keeps kp⟩
    · exact ⟨_, z⟩
  · show H cenv.locals = none
    rw [hL]; exact I.hok.fresh (Nat.le_refl _)
  · have e : cenv.cells.lookup y = some c := e
    rcases mem e with ⟨h1, _⟩ | ⟨h1, _⟩
    · exact I.freeC y c h1
    · exact I.hok.fresh (Nat.le_of_succ_le h1)
  · exact absurd (show p ∈ ([] : List (Addr × Obj)) ++ [] from hp) (by simp)
theorem app_ok {E : Value → Shared → Prop} {D : Addr} {xs : List V} {y : V} {v : Value} {Q : Value → Shared → Prop} (I : Inv X pins σ H s) (hD : H D = some (.lst xs)) (hz : xs.length < sizeLine) (r : RelV y v)
    (h : ∀ s', Inv X pins σ (upd H D (.lst (xs ++ [y]))) s' → Q .none s') : wpAny (model X.prog X.w) X.A (call (.builtin "list.append") [.ref D, v]) Q E s := by
  obtain ⟨hz', its, n, ri, e⟩ := I.hok D _ hD
  have hl := ri.length
  refine append_at (hsz := by rw [List.size_toArray]; omega) e fun h' sb ho' => ?_
  refine h { s with heap := h' } (I.write (t' := s.toks) (by rw [hD]; trivial) (.inl rfl) (fun b u hb q => (sb.2 b hb).trans q) ⟨_, ho'⟩ ⟨by rw [List.length_append]; exact hz, its ++ [v], n + 1, ri.append (.cons r .nil), ?_⟩)
  rw [ho']
  simp
def PTs (X : Cx) (ifs : List Expr) (t : TT) : Prop :=
  ∀ (pins : List (Addr × Obj)) (s : Shared) (σ : St) (H : Hp) (Q : Bool → Hp → Prop), Inv X pins σ H s → t σ H Q →
    wpAny (model X.prog X.w) X.A (forIn ifs true fun c r => if r = true then do let ok ← isTrue c X.env (eval c X.env); pure (ForInStep.yield ok) else pure (ForInStep.yield r)) (TP X pins σ Q) X.xe s
def tYes : TT := fun _ H Q => Q true H
theorem pts_nil : PTs X [] tYes := fun _ _ _ H _ I h => wpAny_tests_nil ⟨H, I, h⟩
end
theorem thnF {α : Type} {t : Sem α} {Q Q' : α → Shared → Prop} {M : Model} {A : Around} {E : Value → Shared → Prop} {s : Shared} (h : wpAny M A t Q (fun _ _ => False) s) (hQ : ∀ a s, Q a s → Q' a s) : wpAny M A t Q' E s := wpAny_mono h hQ fun _ _ z => False.elim z
theorem compLoop_any {prog : Program} {w : World} {A : Around} {R : Result → Shared → Prop} {s : Shared} {elt target iter : Expr} {ifs : List Expr} {scope : Scope} {pos : Pos} {it acc : Value} {env : Env} (I : Nat → Shared → Prop)
    (turn : ∀ n s, I n s → wpAny (model prog w) A (pyNext it) (fun r s₁ => match r with
      | none => R (.ok .next) s₁
      | some v => wpAny (model prog w) A (letOwnedTupleGo target it v) (fun _ s₁' => wpAny (model prog w) A (assign target env v) (fun _ s₂ =>
          wpAny (model prog w) A (forIn ifs true fun c r => if r = true then do let ok ← isTrue c env (eval c env); pure (ForInStep.yield ok) else pure (ForInStep.yield r)) (fun ok s₃ =>
            if ok = true then wpAny (model prog w) A (eval elt env) (fun x s₄ =>
              wpAny (model prog w) A (call (.builtin "list.append") [acc, x]) (fun _ s₅ => ∃ m, m < n ∧ I m s₅) (notedBy (model prog w) A env fun e s' => R (.error e) s') s₄) (notedBy (model prog w) A env fun e s' => R (.error e) s') s₃
            else ∃ m, m < n ∧ I m s₃) (notedBy (model prog w) A env fun e s' => R (.error e) s') s₂) (notedBy (model prog w) A env fun e s' => R (.error e) s') s₁') (notedBy (model prog w) A env fun e s' => R (.error e) s') s₁) (notedBy (model prog w) A env fun e s' => R (.error e) s') s)
    (n : Nat) (h : I n s) :
    codeAny (model prog w) A (.compLoop (.ListComp elt [⟨target, iter, ifs, 0⟩] scope pos) 0 it acc env) R s := by
  refine codeAny_loop rfl I (fun n s hI => ?_) n h
  show wpAny _ A ((compTurn (.ListComp elt [⟨target, iter, ifs, 0⟩] scope pos) 0 it acc env).onRaise (fun x => do noteFrame x env; theTreesLotGoes x)) _ _ s
  refine wpAny_noted ?_
  rw [compTurn_list]
  refine wpAny_bind (wpAny_standAt (wpAny_bind (wpAny_mono (turn n s hI) (fun r s₁ h₁ => ?_) fun _ _ h' => h')))
  cases r with
  | none => exact wpAny_pure h₁
  | some v =>
    refine wpAny_bind (wpAny_mono h₁ (fun _ s₁' h₁' => ?_) fun _ _ h' => h')
    refine wpAny_bind (wpAny_mono h₁' (fun _ s₂ h₂ => wpAny_bind (wpAny_mono h₂ (fun ok s₃ h₃ => ?_) fun _ _ h' => h')) fun _ _ h' => h')
    cases ok with
    | false => exact wpAny_pure ⟨rfl, h₃⟩
    | true =>
      exact wpAny_bind (wpAny_bind (wpAny_mono h₃ (fun x s₄ h₄ => wpAny_bind (wpAny_mono h₄ (fun _ s₅ h₅ => wpAny_pure (wpAny_pure ⟨rfl, h₅⟩)) fun _ _ h' => h')) fun _ _ h' => h'))
section
variable {X : Cx}
def tLc (wi : TI) (g : TG) (tt : TT) (te : TE) (vs : List Nat) : TE := fun σ H Q => wi σ H fun J H1 => ∀ D, H1 D = none → ∃ W : Nat → Nat → Hp → Prop, (∃ m, W 0 m (upd H1 D (.lst []))) ∧ ∀ i m H, W i m H →
  (J.stop i H ∧ Q (.ref D) H) ∨ (J.go i H ∧ ∃ Nx : Hp → Prop, (∀ H', Nx H' → ∃ m', m' < m ∧ W (i + 1) m' H') ∧ ∀ x H', J.yld i H x H' → g x (wipe σ vs) H' fun σ2 H2 => wipe σ2 vs = wipe σ vs ∧ tt σ2 H2 fun b H3 =>
    if b = true then te σ2 H3 fun y H4 => ∃ acc, H4 D = some (.lst acc) ∧ acc.length < sizeLine ∧ Nx (upd H4 D (.lst (acc ++ [y]))) else Nx H3)
theorem lc_core {pins : List (Addr × Obj)} {s : Shared} {σ : St} {H : Hp} {Q : VK} {elt tg iter : Expr} {ifs : List Expr} {scope : Scope} {own : List (Str × Nat)} {pos pos' : Pos} {wi : TI} {g : TG} {tt : TT} {te : TE} {use : Option (Value → Sem Unit)} {Qf : Value → Shared → Prop}
    (hc : X.calm = true) (hN : X.N.Nodup) (I : Inv X pins σ H s) (hi : PI X tg iter wi) (ok : BlkOk X.N X.env.scope scope own)
    (hg : ∀ (s : Shared) (H : Hp) (C : Addr) (cl : List (Str × Addr)) (fp : List Addr), PG (X.blk s H scope (compEnvC scope cl C X.env) fp) tg g) (ht : ∀ (s : Shared) (H : Hp) (C : Addr) (cl : List (Str × Addr)) (fp : List Addr), PTs (X.blk s H scope (compEnvC scope cl C X.env) fp) ifs tt)
    (he : ∀ (s : Shared) (H : Hp) (C : Addr) (cl : List (Str × Addr)) (fp : List Addr), PE (X.blk s H scope (compEnvC scope cl C X.env) fp) elt te) (hs : ∀ x, foldedSetIterable iter X.env x = pure x)
    (h : tLc wi g tt te (own.map (·.2)) σ H Q)
    (hRR : ∀ D C s' m H', Inv X pins σ H' s' → Q (.ref D) H' → s'.heap.Ns C m → FpOk X pins H' C → compPost (model X.prog X.w) X.A X.xe use Qf (.ref D) C (.ok .next) s') :
    wpAny (model X.prog X.w) X.A (comprehension (.ListComp elt [⟨tg, iter, ifs, 0⟩] scope pos) scope X.env pos' (newList []) false (eval iter X.env) use) Qf X.xe s := by
  have hfree : ∀ y ∈ scope.names, y.2 = .free → ∃ c, X.env.cells.lookup y.1 = some c := fun y hy e => by
    rcases ok.free y hy e with k | k
    · exact I.ok.has _ (.inl k)
    · exact I.ok.has _ (.inr k)
  refine wpAny_comprehension_free (use := use) rfl hs (closure_ok hfree) ok.kind (fun y hy e => by rw [ok.uniq y hy, e])
    (thn (hi pins s σ H _ I h) fun xv s1 hx => thn hx fun itv s2 h2 => ?_)
  obtain ⟨it, fp, tn, J, H2, e, I2, T, st2, f2, q⟩ := h2
  subst e
  refine wpAny_newObj_type (newEnv_comp ?_) (by show 0 ≤ sizeLine; decide)
  generalize hD : s2.heap.objs.size = D
  have hDn : H2 D = none := I2.hok.fresh (Nat.le_of_eq hD)
  obtain ⟨W, ⟨m0, w0⟩, turn⟩ := q D hDn
  -- the new list
  generalize hs3 : ({ s2 with heap := s2.heap.push { cls := .type "list", data := .seq ([] : List Value).toArray } } : Shared) = s3
  have I3 : Inv X pins σ (upd H2 D (.lst [])) s3 := by
    rw [← hs3]
    refine I2.laid (t' := s2.toks) (fun b o e => Heap.get?_push_of_some _ e) (Nat.le_of_eq hD) ⟨Nat.zero_le _, [], 0, .nil, ?_⟩
    rw [← hD]
    exact Heap.get?_push_size _ rfl
  have h3 : s3.heap = s2.heap.push { cls := .type "list", data := .seq ([] : List Value).toArray } := by rw [← hs3]
  have sz : ∀ b ∈ fp, b < s2.heap.objs.size := fun b hb => by
    obtain ⟨o, e, _⟩ := T.obj _ _ st2 b hb
    exact Heap.lt_size e
  have f3 : ∀ b ∈ fp, FpOk X pins (upd H2 D (.lst [])) b ∧ b < s3.heap.objs.size := fun b hb => by
    have hlt := sz b hb
    refine ⟨⟨?_, (f2 b hb).2⟩, by rw [h3, Heap.size_push]; exact Nat.lt_succ_of_lt hlt⟩
    rw [upd_ne (by rw [← hD]; exact Nat.ne_of_lt hlt)]
    exact (f2 b hb).1
  have st3 : tn 0 s3.heap := T.keep _ _ _ st2 fun b _ o e => by rw [h3]; exact Heap.get?_push_of_some _ e
  have I4 := block_start I3 ok hN f3
  have pg := hg s3 (upd H2 D (.lst [])) s3.heap.objs.size (cellsFrom (s3.heap.objs.size + 1) scope.names (cloFrom X.env.cells scope.names [])) fp
  have pt := ht s3 (upd H2 D (.lst [])) s3.heap.objs.size (cellsFrom (s3.heap.objs.size + 1) scope.names (cloFrom X.env.cells scope.names [])) fp
  have pe := he s3 (upd H2 D (.lst [])) s3.heap.objs.size (cellsFrom (s3.heap.objs.size + 1) scope.names (cloFrom X.env.cells scope.names [])) fp
  show codeAny _ _ (.compStart (.ListComp elt [⟨tg, iter, ifs, 0⟩] scope pos) 0 (.ref it) (.ref D) (compEnvC scope (cellsFrom (s3.heap.objs.size + 1) scope.names (cloFrom X.env.cells scope.names [])) s3.heap.objs.size X.env)) (compPost (model X.prog X.w) X.A X.xe use Qf (.ref D) s3.heap.objs.size) { s3 with heap := pushCells (s3.heap.push { cls := .type "dict", data := .dict #[] }) scope.names }
  have nfp : ∀ b ∈ fp, (upd H2 D (.lst [])) b = none := fun b hb => (f3 b hb).1.1
  generalize hce : compEnvC scope (cellsFrom (s3.heap.objs.size + 1) scope.names (cloFrom X.env.cells scope.names [])) s3.heap.objs.size X.env = ce at I4 pg pt pe ⊢
  have cL : ce.locals = s3.heap.objs.size := by subst hce; rfl
  generalize hH3 : upd H2 D (.lst []) = H3 at I3 I4 pg pt pe w0 nfp f3
  generalize hs4 : ({ s3 with heap := pushCells (s3.heap.push { cls := .type "dict", data := .dict #[] }) scope.names } : Shared) = s4 at I4 ⊢
  have st4 : tn 0 s4.heap := T.keep _ _ _ st3 fun b _ o e => by rw [← hs4]; exact pushCells_keeps _ _ _ _ (Heap.get?_push_of_some _ e)
  have stat : ∀ {σ' : St} {H' : Hp} {s' : Shared}, Inv (X.blk s3 H3 scope ce fp) [] σ' H' s' → (∀ b ∈ fp, H' b = none) → ∀ b ∈ fp, FpOk (X.blk s3 H3 scope ce fp) [] H' b := fun {σ' H' s'} I' hn b hb =>
    ⟨hn b hb, (I'.ok.exf b hb).1, I'.ok.exfs b hb, .inl hb, fun x c e => (I'.ok.exf b hb).2 x c e, fun p hp => absurd (show p ∈ ([] : List (Addr × Obj)) ++ [] from hp) (by simp)⟩
  have loop : codeAny (model X.prog X.w) X.A (.compLoop (.ListComp elt [⟨tg, iter, ifs, 0⟩] scope pos) 0 (.ref it) (.ref D) ce) (compPost (model X.prog X.w) X.A X.xe use Qf (.ref D) s3.heap.objs.size) s4 := by
    refine compLoop_any (fun n s' => ∃ i H', Inv (X.blk s3 H3 scope ce fp) [] (wipe σ (own.map (·.2))) H' s' ∧ tn i s'.heap ∧ (∀ b ∈ fp, H' b = none) ∧ W i n H') ?_ m0 ⟨0, H3, I4, st4, nfp, w0⟩
    rintro n s5 ⟨i, H5, I5, st5, n5, w5⟩
    rcases turn i n H5 w5 with ⟨stop, qq⟩ | ⟨go, Nx, hNx, step⟩
    · have td := T.done (X.blk s3 H3 scope ce fp) rfl rfl rfl hc i [] s5 _ H5 (fun _ _ => False) I5 (stat I5 n5) st5 stop
      refine thnF td fun r s6 ⟨hr, I6⟩ => ?_
      subst hr
      -- back in the def's context
      have I7 : Inv X pins σ H5 s6 := I3.call' (ch := fp) I6.os I6.base I6.hok I6.bare fun b hb => ⟨(f3 b hb).1.2.2.2.1, (f3 b hb).1.2.1, (f3 b hb).1.2.2.2.2.1, (f3 b hb).1.2.2.2.2.2⟩
      have nC : H5 s3.heap.objs.size = none := by
        have z : H5 ce.locals = none := I6.free
        rw [cL] at z
        exact z
      obtain ⟨m, hn, _⟩ := I6.loc
      have hn : s6.heap.Ns ce.locals m := hn
      rw [cL] at hn
      exact hRR D s3.heap.objs.size s6 m H5 I7 qq hn (I3.fpOk (Nat.le_refl _) nC)
    · have ti := T.item (X.blk s3 H3 scope ce fp) rfl rfl rfl hc i [] s5 _ H5 (fun _ _ => False) I5 (stat I5 n5) st5 go
      refine thnF ti fun r s6 ⟨u, hr, h6⟩ => ?_
      subst hr
      refine thnF h6 fun _ s7 ⟨x, H7, I7, r7, y7, st7, n7⟩ => ?_
      have I7' := I7.pinned (stat I7 n7) (T.obj _ _ st7)
      refine thnF (pg _ s7 _ H7 x u _ I7' r7 (step x H7 y7)) fun _ s8 ⟨σ8, H8, I8, hw8, q8⟩ => ?_
      refine thnF (pt _ s8 σ8 H8 _ I8 q8) fun b s9 ⟨H9, I9, q9⟩ => ?_
      -- the turn's end
      have fin : ∀ {s' : Shared} {H' : Hp}, Inv (X.blk s3 H3 scope ce fp) ([] ++ pinsAt fp s7.heap) σ8 H' s' → Nx H' → ∃ m, m < n ∧ ∃ i H', Inv (X.blk s3 H3 scope ce fp) [] (wipe σ (own.map (·.2))) H' s' ∧ tn i s'.heap ∧ (∀ b ∈ fp, H' b = none) ∧ W i m H' := fun {s' H'} I' nx => by
        obtain ⟨m', hm, w'⟩ := hNx H' nx
        have pin' : ∀ b ∈ fp, ∀ o, s7.heap.get? b = some o → s'.heap.get? b = some o ∧ H' b = none := fun b hb o e =>
          let z := I'.pin (b, o) (List.mem_append_right _ (List.mem_append_right _ (mem_pinsAt hb e)))
          ⟨z.1, z.2.1⟩
        have hl : (wipe σ (own.map (·.2))).length = σ8.length := by rw [← hw8, wipe_length]
        refine ⟨m', hm, i + 1, H', (I'.unpinned (pins := [])).weak hl (fun j v e => ?_), T.keep _ _ _ st7 fun b hb o e => (pin' b hb o e).1, fun b hb => ?_, w'⟩
        · rw [← hw8] at e
          exact (wipe_some e).1
        · obtain ⟨o, e, _⟩ := T.obj _ _ st7 b hb
          exact (pin' b hb o e).2
      cases b with
      | false =>
        simp only [Bool.false_eq_true, if_false] at q9 ⊢
        exact fin I9 q9
      | true =>
        simp only [if_true] at q9 ⊢
        refine thnF (pe _ s9 σ8 H9 _ I9 q9) fun z s10 ⟨yv, H10, I10, r10, acc, hD10, hz10, nx⟩ => ?_
        exact app_ok (X := X.blk s3 H3 scope ce fp) I10 hD10 hz10 r10 fun s11 I11 => fin I11 nx
  exact codeAny_compStart_list loop (T.self X.A 0 _ _ _ st4 loop)
theorem pe_lc {elt tg iter : Expr} {ifs : List Expr} {scope : Scope} {own : List (Str × Nat)} {pos : Pos} {wi : TI} {g : TG} {tt : TT} {te : TE} (hc : X.calm = true) (hN : X.N.Nodup) (hi : PI X tg iter wi) (ok : BlkOk X.N X.env.scope scope own)
    (hg : ∀ (s : Shared) (H : Hp) (C : Addr) (cl : List (Str × Addr)) (fp : List Addr), PG (X.blk s H scope (compEnvC scope cl C X.env) fp) tg g) (ht : ∀ (s : Shared) (H : Hp) (C : Addr) (cl : List (Str × Addr)) (fp : List Addr), PTs (X.blk s H scope (compEnvC scope cl C X.env) fp) ifs tt)
    (he : ∀ (s : Shared) (H : Hp) (C : Addr) (cl : List (Str × Addr)) (fp : List Addr), PE (X.blk s H scope (compEnvC scope cl C X.env) fp) elt te) (hs : ∀ x, foldedSetIterable iter X.env x = pure x := by intro _; rfl) :
    PE X (.ListComp elt [⟨tg, iter, ifs, 0⟩] scope pos) (tLc wi g tt te (own.map (·.2))) := by
  intro pins s σ H Q I h
  rw [eval_ListComp]
  refine lc_core hc hN I hi ok hg ht he hs h fun D C s' m H' I' q hn f => ⟨m, hn, fun h'' sb => ?_⟩
  obtain ⟨f0, f1, f2, f3, f4, f5⟩ := f
  exact ⟨.ref D, H', I'.turned (t' := s'.toks) (fun b o hb e => (sb.2 b hb).trans e) f0 f1 f3 f4 f5, rfl, q⟩
theorem ps_setLc {i : Nat} {y : Str} {py : Pos} {elt tg iter : Expr} {ifs : List Expr} {scope : Scope} {own : List (Str × Nat)} {pos spos : Pos} {wi : TI} {g : TG} {tt : TT} {te : TE} (hc : X.calm = true) (hN : X.N.Nodup) (hy : X.N[i]? = some y) (hyl : X.env.scope.names.lookup y = some .local)
    (hsw : swapsWith (.ListComp elt [⟨tg, iter, ifs, 0⟩] scope pos) (some (.Name y py)) spos.line X.env = pure true) (hi : PI X tg iter wi) (ok : BlkOk X.N X.env.scope scope own)
    (hg : ∀ (s : Shared) (H : Hp) (C : Addr) (cl : List (Str × Addr)) (fp : List Addr), PG (X.blk s H scope (compEnvC scope cl C X.env) fp) tg g) (ht : ∀ (s : Shared) (H : Hp) (C : Addr) (cl : List (Str × Addr)) (fp : List Addr), PTs (X.blk s H scope (compEnvC scope cl C X.env) fp) ifs tt)
    (he : ∀ (s : Shared) (H : Hp) (C : Addr) (cl : List (Str × Addr)) (fp : List Addr), PE (X.blk s H scope (compEnvC scope cl C X.env) fp) elt te) (hs : ∀ x, foldedSetIterable iter X.env x = pure x := by intro _; rfl) :
    PS X (.Assign [.Name y py] (.ListComp elt [⟨tg, iter, ifs, 0⟩] scope pos) spos) (tAsg (tLc wi g tt te (own.map (·.2))) (gName i)) := by
  intro pins s σ H D I h
  rw [exec_Assign_Name_used _ _ _ _ hsw]
  refine wpAny_bind (wpAny_standAt (wpAny_bind ?_))
  show wpAny _ X.A (do let _ ← comprehension (.ListComp elt [⟨tg, iter, ifs, 0⟩] scope pos) scope X.env (firstIterPos [⟨tg, iter, ifs, 0⟩] pos) (newList []) false (eval iter X.env) (some (assign (.Name y py) X.env))) _ _ s
  have h : tLc wi g tt te (own.map (·.2)) σ H (fun x H1 => gName i x σ H1 D.nx) := h
  refine wpAny_bind (thn (lc_core (Qf := fun _ s' => SP X pins D .next s') hc hN I hi ok hg ht he hs h fun L C s' m H' I' q hn f => ?_) fun _ s' hq => wpAny_pure (wpAny_pure hq))
  show wpAny _ _ (assign (.Name y py) X.env (.ref L)) _ _ _
  refine wpAny_assign_Name (store_ok2 (v := V.ref L) I' hN hy (.inl hyl) rfl (fun s2 I2 ⟨a, sb, ha⟩ => ?_) (.inr hyl))
  obtain ⟨f0, f1, f2, f3, f4, f5⟩ := f
  have haC : C ≠ a := by
    rcases ha with z | z
    · rw [z]; exact f1
    · exact fun e => f4 y a z e.symm
  refine ⟨m, hn.sameBut sb haC, fun h3 sb3 => ?_⟩
  exact ⟨_, H', I2.turned (t' := s2.toks) (fun b o hb e => (sb3.2 b hb).trans e) f0 f1 f3 f4 f5, q⟩
theorem sw_true {elt : Expr} {gs : List Comprehension} {scope : Scope} {pos py : Pos} {y : Str} {l : Nat} {env : Env} (hk : env.scope.kind = .function) (hy : env.scope.names.lookup y = some .local) (hl : (py.line == pos.line) = true)
    (ha : (scope.names.any fun (n, k) => n == y && (k == .local || k == .cell)) = false) : swapsWith (.ListComp elt gs scope pos) (some (.Name y py)) l env = pure true := by
  have ky : env.kindOf y = some .local := hy
  have hb : env.blockKind = .function := by unfold Env.blockKind; rw [hk]; rfl
  unfold swapsWith
  simp only [hb, ky, ha, Expr.pos, hl]
  rfl
end
theorem lc_range {lo : Int} {n : Nat} {g : TG} {tt : TT} {te : TE} {vs : List Nat} {σ : St} {H1 : Hp} {D : Addr} {Qd : Hp → Prop} (Pv : Nat → Hp → Prop) (h0 : Pv 0 (upd H1 D (.lst [])))
    (hs : ∀ i H, i < n → Pv i H → g (.int (lo + i)) (wipe σ vs) H fun σ2 H2 => wipe σ2 vs = wipe σ vs ∧ tt σ2 H2 fun b H3 =>
      if b = true then te σ2 H3 fun y H4 => ∃ acc, H4 D = some (.lst acc) ∧ acc.length < sizeLine ∧ Pv (i + 1) (upd H4 D (.lst (acc ++ [y]))) else Pv (i + 1) H3) (hd : ∀ H, Pv n H → Qd H) :
    ∃ W : Nat → Nat → Hp → Prop, (∃ m, W 0 m (upd H1 D (.lst []))) ∧ ∀ i m H, W i m H →
      ((Itr lo n).stop i H ∧ Qd H) ∨ ((Itr lo n).go i H ∧ ∃ Nx : Hp → Prop, (∀ H', Nx H' → ∃ m', m' < m ∧ W (i + 1) m' H') ∧ ∀ x H', (Itr lo n).yld i H x H' → g x (wipe σ vs) H' fun σ2 H2 => wipe σ2 vs = wipe σ vs ∧ tt σ2 H2 fun b H3 =>
        if b = true then te σ2 H3 fun y H4 => ∃ acc, H4 D = some (.lst acc) ∧ acc.length < sizeLine ∧ Nx (upd H4 D (.lst (acc ++ [y]))) else Nx H3) := by
  refine ⟨fun i m H => m = n - i ∧ i ≤ n ∧ Pv i H, ⟨n, by simp, Nat.zero_le _, h0⟩, ?_⟩
  rintro i m H ⟨rfl, hi, p⟩
  by_cases hlt : i < n
  · refine .inr ⟨hlt, Pv (i + 1), fun H' p' => ⟨n - (i + 1), by omega, rfl, hlt, p'⟩, fun x H' y => ?_⟩
    obtain ⟨e, y⟩ := y
    subst e y
    exact hs i _ hlt p
  · have e : i = n := by omega
    subst e
    exact .inl ⟨Nat.le_refl _, hd H p⟩
theorem lc_list {K : PySem.W.Frag} {a : Addr} {xs : List V} {g : TG} {tt : TT} {te : TE} {vs : List Nat} {σ : St} {H1 : Hp} {D : Addr} {Qd : Hp → Prop} (Pv : Nat → Hp → Prop) (h0 : Pv 0 (upd H1 D (.lst []))) (hl : ∀ i H, i ≤ xs.length → Pv i H → SqL K H a xs)
    (hs : ∀ i x H, xs[i]? = some x → Pv i H → g x (wipe σ vs) H fun σ2 H2 => wipe σ2 vs = wipe σ vs ∧ tt σ2 H2 fun b H3 =>
      if b = true then te σ2 H3 fun y H4 => ∃ acc, H4 D = some (.lst acc) ∧ acc.length < sizeLine ∧ Pv (i + 1) (upd H4 D (.lst (acc ++ [y]))) else Pv (i + 1) H3) (hd : ∀ H, Pv xs.length H → Qd H) :
    ∃ W : Nat → Nat → Hp → Prop, (∃ m, W 0 m (upd H1 D (.lst []))) ∧ ∀ i m H, W i m H →
      ((Itl K a).stop i H ∧ Qd H) ∨ ((Itl K a).go i H ∧ ∃ Nx : Hp → Prop, (∀ H', Nx H' → ∃ m', m' < m ∧ W (i + 1) m' H') ∧ ∀ x H', (Itl K a).yld i H x H' → g x (wipe σ vs) H' fun σ2 H2 => wipe σ2 vs = wipe σ vs ∧ tt σ2 H2 fun b H3 =>
        if b = true then te σ2 H3 fun y H4 => ∃ acc, H4 D = some (.lst acc) ∧ acc.length < sizeLine ∧ Nx (upd H4 D (.lst (acc ++ [y]))) else Nx H3) := by
  refine ⟨fun i m H => m = xs.length - i ∧ i ≤ xs.length ∧ Pv i H, ⟨xs.length, by simp, Nat.zero_le _, h0⟩, ?_⟩
  rintro i m H ⟨rfl, hi, p⟩
  have q := hl i H hi p
  by_cases hlt : i < xs.length
  · refine .inr ⟨⟨xs, xs[i], q, by simp [hlt]⟩, Pv (i + 1), fun H' p' => ⟨xs.length - (i + 1), by omega, rfl, hlt, p'⟩, fun x H' y => ?_⟩
    obtain ⟨e, y⟩ := y
    subst e
    exact hs i x _ (y xs q) p
  · have e : i = xs.length := by omega
    subst e
    exact .inl ⟨⟨xs, q, Nat.le_refl _⟩, hd H p⟩
def blkC (N : List Str) (sc scope : Scope) (own : List (Str × Nat)) : Bool :=
  (match scope.kind with | .function => true | _ => false) && (scope.names.all fun y => decide (scope.names.lookup y.1 = some y.2)) && (own.all fun p => decide (N[p.2]? = some p.1)) &&
    (scope.names.all fun y => match y.2 with
      | .free => (match sc.names.lookup y.1 with | some .cell => true | some .free => true | _ => false)
      | .local => decide (y.1 ∈ own.map (·.1)) || decide (y.1 ∉ N)
      | .cell => decide (y.1 ∈ own.map (·.1)) || decide (y.1 ∉ N)
      | _ => true)
theorem blkOk_by {N : List Str} {sc scope : Scope} {own : List (Str × Nat)} (h : blkC N sc scope own = true) : BlkOk N sc scope own := by
  unfold blkC at h
  simp only [Bool.and_eq_true, List.all_eq_true, decide_eq_true_eq] at h
  obtain ⟨⟨⟨h1, h2⟩, h3⟩, h4⟩ := h
  refine ⟨?_, h2, h3, fun y hy e => ?_, fun y hy e => ?_⟩
  · split at h1
    · assumption
    · cases h1
  · have q := h4 y hy
    simp only [e] at q
    split at q <;> first | exact .inl (by assumption) | exact .inr (by assumption) | cases q
  · have q := h4 y hy
    rcases e with e | e <;> (simp only [e, Bool.or_eq_true, decide_eq_true_eq] at q; exact q)
end L2
namespace L2
open PySem PySem.Spec PyProof.Rows
section
variable {prog : Program} {w : World} {A : Around} {R : Result → Shared → Prop} {s : Shared} {elt t0 i0 t1 i1 : Expr} {ifs0 ifs1 : List Expr} {scope : Scope} {pos : Pos} {it acc : Value} {env : Env}
end
section
variable {X : Cx}
end
end L2
namespace L2
open PySem PySem.Spec PyProof.Rows
section
variable {κ : Type} [DecidableEq κ]
def valV (kvs : List (κ × V)) (k : κ) : Option V := (kvs.find? fun kv => decide (kv.1 = k)).map (·.2)
def putK (kvs : List (κ × V)) (k : κ) (v : V) : List (κ × V) :=
  if (kvs.any fun kv => decide (kv.1 = k)) = true then kvs.map (fun kv => if kv.1 = k then (kv.1, v) else kv) else kvs ++ [(k, v)]
def dropK (kvs : List (κ × V)) (k : κ) : List (κ × V) := kvs.filter fun kv => decide (kv.1 ≠ k)
theorem valV_pos {p : κ × V} {r : List (κ × V)} {k : κ} (e : p.1 = k) : valV (p :: r) k = some p.2 := by simp [valV, List.find?_cons, e]
theorem valV_neg {p : κ × V} {r : List (κ × V)} {k : κ} (e : ¬ p.1 = k) : valV (p :: r) k = valV r k := by simp [valV, List.find?_cons, e]
theorem valV_any (k : κ) : ∀ kvs : List (κ × V), (kvs.any fun kv => decide (kv.1 = k)) = (valV kvs k).isSome
  | [] => rfl
  | p :: r => by
    rw [List.any_cons]
    by_cases e : p.1 = k
    · simp only [valV_pos e, decide_eq_true e, Bool.true_or, Option.isSome_some]
    · rw [valV_neg e, decide_eq_false e, Bool.false_or]; exact valV_any k r
theorem RelO.isSome_eq {o : Option V} {u : Option Value} (r : RelO o u) : o.isSome = u.isSome := by
  cases o with
  | none => cases u with
    | none => rfl
    | some _ => exact (show False from r).elim
  | some _ => cases u with
    | none => exact (show False from r).elim
    | some _ => rfl
theorem RelO.getD {o : Option V} {u : Option Value} {d : V} {d' : Value} (r : RelO o u) (rd : RelV d d') : RelV (o.getD d) (u.getD d') := by
  cases o with
  | none => cases u with
    | none => exact rd
    | some _ => exact (show False from r).elim
  | some _ => cases u with
    | none => exact (show False from r).elim
    | some _ => exact r
theorem KV.val {kvs : List (κ × V)} {vs : List (κ × Value)} (r : KV kvs vs) (k : κ) : RelO (valV kvs k) (valueAt vs k) := by
  unfold KV at r
  induction r with
  | nil => exact True.intro
  | @cons p q ps qs h t ih =>
    obtain ⟨h1, h2⟩ := h
    by_cases e : p.1 = k
    · have e' : q.1 = k := h1.symm.trans e
      have b : valueAt (q :: qs) k = some q.2 := by simp [valueAt, List.find?_cons, e']
      rw [valV_pos e, b]; exact h2
    · have e' : ¬ q.1 = k := fun z => e (h1.trans z)
      have b : valueAt (q :: qs) k = valueAt qs k := by simp [valueAt, List.find?_cons, e']
      rw [valV_neg e, b]; exact ih
theorem KV.any {kvs : List (κ × V)} {vs : List (κ × Value)} (r : KV kvs vs) (k : κ) : (kvs.any fun kv => decide (kv.1 = k)) = vs.any fun kv => decide (kv.1 = k) := by
  unfold KV at r
  induction r with
  | nil => rfl
  | cons h t ih => rw [List.any_cons, List.any_cons, ih, h.1]
theorem KV.repl {kvs : List (κ × V)} {vs : List (κ × Value)} (r : KV kvs vs) (k : κ) {y : V} {u : Value} (ry : RelV y u) :
    KV (kvs.map fun kv => if kv.1 = k then (kv.1, y) else kv) (vs.map fun kv => if kv.1 = k then (kv.1, u) else kv) := by
  unfold KV at r ⊢
  induction r with
  | nil => exact .nil
  | @cons p q ps qs h t ih =>
    rw [List.map_cons, List.map_cons]
    refine .cons ?_ ih
    obtain ⟨h1, h2⟩ := h
    by_cases e : p.1 = k
    · rw [if_pos e, if_pos (h1.symm.trans e)]; exact ⟨h1, ry⟩
    · rw [if_neg e, if_neg (fun z => e (h1.trans z))]; exact ⟨h1, h2⟩
theorem KV.put {kvs : List (κ × V)} {vs : List (κ × Value)} (r : KV kvs vs) (k : κ) {y : V} {u : Value} (ry : RelV y u) : KV (putK kvs k y) (stored vs k u) := by
  unfold putK stored
  rw [r.any k]
  by_cases e : (vs.any fun kv => decide (kv.1 = k)) = true
  · rw [if_pos e, if_pos e]; exact r.repl k ry
  · rw [if_neg e, if_neg e]; exact Paired.snoc r ⟨rfl, ry⟩
theorem KV.drop {kvs : List (κ × V)} {vs : List (κ × Value)} (r : KV kvs vs) (k : κ) : KV (dropK kvs k) (without vs k) := by
  unfold KV at r ⊢
  unfold dropK without
  induction r with
  | nil => exact .nil
  | @cons p q ps qs h t ih =>
    obtain ⟨h1, h2⟩ := h
    rw [List.filter_cons, List.filter_cons]
    by_cases e : p.1 = k
    · have a : ¬ decide (p.1 ≠ k) = true := by simp [e]
      have b : ¬ decide (q.1 ≠ k) = true := by simp [h1.symm.trans e]
      rw [if_neg a, if_neg b]; exact ih
    · have e' : ¬ q.1 = k := fun z => e (h1.trans z)
      have a : decide (p.1 ≠ k) = true := by simp [e]
      have b : decide (q.1 ≠ k) = true := by simp [e']
      rw [if_pos a, if_pos b]; exact .cons ⟨h1, h2⟩ ih
theorem KV.keys {kvs : List (κ × V)} {vs : List (κ × Value)} (r : KV kvs vs) : kvs.map (·.1) = vs.map (·.1) := by
  unfold KV at r
  induction r with
  | nil => rfl
  | cons h t ih => rw [List.map_cons, List.map_cons, ih, h.1]
theorem KV.length {kvs : List (κ × V)} {vs : List (κ × Value)} (r : KV kvs vs) : kvs.length = vs.length := Paired.length r
end
abbrev KT (H : Hp) : List (List Key × V) → List (List Key × Addr × Value) → Prop := Paired fun p q => p.1 = q.1 ∧ H q.2.1 = some (.tup (p.1.map kV)) ∧ RelV p.2 q.2.2
theorem KT.val {H : Hp} {kvs : List (List Key × V)} {xs : List (List Key × Addr × Value)} (r : KT H kvs xs) (k : List Key) : RelO (valV kvs k) ((atKey xs k).map (·.2)) := by
  induction r with
  | nil => exact True.intro
  | @cons p q ps qs h t ih =>
    obtain ⟨h1, _, h2⟩ := h
    by_cases e : p.1 = k
    · have e' : q.1 = k := h1.symm.trans e
      have b : atKey (q :: qs) k = some q.2 := by simp [atKey, List.find?_cons, e']
      rw [valV_pos e, b]; exact h2
    · have e' : ¬ q.1 = k := fun z => e (h1.trans z)
      have b : atKey (q :: qs) k = atKey qs k := by simp [atKey, List.find?_cons, e']
      rw [valV_neg e, b]; exact ih
theorem KT.repl {H : Hp} {kvs : List (List Key × V)} {xs : List (List Key × Addr × Value)} (r : KT H kvs xs) (k : List Key) {y : V} {u : Value} (ry : RelV y u) :
    KT H (kvs.map fun kv => if kv.1 = k then (kv.1, y) else kv) (xs.map (putAt k u)) := by
  induction r with
  | nil => exact .nil
  | @cons p q ps qs h t ih =>
    rw [List.map_cons, List.map_cons]
    refine .cons ?_ ih
    obtain ⟨h1, h2, h3⟩ := h
    unfold putAt
    by_cases e : p.1 = k
    · rw [if_pos e, if_pos (h1.symm.trans e)]; exact ⟨h1, h2, ry⟩
    · rw [if_neg e, if_neg (fun z => e (h1.trans z))]; exact ⟨h1, h2, h3⟩
theorem KT.put {H : Hp} {kvs : List (List Key × V)} {xs : List (List Key × Addr × Value)} (r : KT H kvs xs) (k : List Key) {b : Addr} {y : V} {u : Value} (hb : H b = some (.tup (k.map kV))) (ry : RelV y u) :
    KT H (putK kvs k y) (storedH xs k b u) := by
  have e : (kvs.any fun kv => decide (kv.1 = k)) = (atKey xs k).isSome := by
    rw [valV_any, (r.val k).isSome_eq, Option.isSome_map]
  unfold putK storedH
  rw [e]
  by_cases q : (atKey xs k).isSome = true
  · rw [if_pos q, if_pos q]; exact r.repl k ry
  · rw [if_neg q, if_neg q]; exact Paired.snoc r ⟨rfl, hb, ry⟩
theorem KT.keeps {H H' : Hp} {kvs : List (List Key × V)} {xs : List (List Key × Addr × Value)} (r : KT H kvs xs) (ht : ∀ b ys, H b = some (.tup ys) → H' b = some (.tup ys)) : KT H' kvs xs :=
  Paired.mapP r fun _ _ z => ⟨z.1, ht _ _ z.2.1, z.2.2⟩
section
variable {P : Program} {w : World} {H : Hp} {h : Heap} {a : Addr}
end
def DGet (H : Hp) (a : Addr) (y : V) (r : Option V) : Prop :=
  (∃ kvs k, Rd H a (.dK kvs) ∧ y = kV k ∧ r = valV kvs k) ∨ ∃ kvs k b, Rd H a (.dT kvs) ∧ y = .ref b ∧ H b = some (.tup (k.map kV)) ∧ r = valV kvs k
def DPut (H : Hp) (a : Addr) (y v : V) (H' : Hp) : Prop :=
  (∃ kvs k, H a = some (.dK kvs) ∧ y = kV k ∧ kvs.length < sizeLine ∧ H' = upd H a (.dK (putK kvs k v))) ∨
  ∃ kvs k b, H a = some (.dT kvs) ∧ y = .ref b ∧ H b = some (.tup (k.map kV)) ∧ kvs.length < sizeLine ∧ H' = upd H a (.dT (putK kvs k v))
theorem DGet.k {H : Hp} {a : Addr} {kvs : List (Key × V)} {k : Key} (e : H a = some (.dK kvs)) : DGet H a (kV k) (valV kvs k) := .inl ⟨kvs, k, .inl e, rfl, rfl⟩
theorem DGet.t {H : Hp} {a b : Addr} {kvs : List (List Key × V)} {k : List Key} (e : H a = some (.dT kvs)) (eb : H b = some (.tup (k.map kV))) : DGet H a (.ref b) (valV kvs k) := .inr ⟨kvs, k, b, .inl e, rfl, eb, rfl⟩
theorem DPut.k {H : Hp} {a : Addr} {kvs : List (Key × V)} {k : Key} {v : V} (e : H a = some (.dK kvs)) (hl : kvs.length < sizeLine) : DPut H a (kV k) v (upd H a (.dK (putK kvs k v))) := .inl ⟨kvs, k, e, rfl, hl, rfl⟩
theorem DPut.t {H : Hp} {a b : Addr} {kvs : List (List Key × V)} {k : List Key} {v : V} (e : H a = some (.dT kvs)) (eb : H b = some (.tup (k.map kV))) (hl : kvs.length < sizeLine) :
    DPut H a (.ref b) v (upd H a (.dT (putK kvs k v))) := .inr ⟨kvs, k, b, e, rfl, eb, hl, rfl⟩
section
variable {X : Cx} {pins : List (Addr × Obj)} {σ : St} {H : Hp} {s : Shared} {a : Addr} {y v : V} {u r : Value} {o : Option V} {A : Around} {E : Value → Shared → Prop}
end
section
variable {X : Cx} {pins : List (Addr × Obj)} {σ : St} {H : Hp} {s : Shared} {a : Addr} {kvs : List (Key × V)} {k : Key} {u : Value} {A : Around} {E : Value → Shared → Prop}
end
section
variable {X : Cx} {o i e value : Expr} {pos pos' tpos : Pos} {td ty tv : TE}
end
section
variable {X : Cx} {pos : Pos}
end
section
variable {X : Cx} {pins : List (Addr × Obj)} {σ : St} {H : Hp} {s : Shared} {a : Addr} {y d : V} {u r : Value} {o : Option V} {A : Around} {E : Value → Shared → Prop}
end
section
variable {X : Cx} {o e f : Expr} {apos cpos : Pos} {td ty tx : TE}
end
section
variable {X : Cx} {pins : List (Addr × Obj)} {σ : St} {H : Hp} {s : Shared} {a : Addr} {kvs : List (Key × V)} {A : Around} {E : Value → Shared → Prop}
end
section
variable {X : Cx} {pins : List (Addr × Obj)} {σ : St} {H : Hp} {s : Shared} {a : Addr} {y : V} {u : Value} {A : Around} {E : Value → Shared → Prop}
end
end L2
namespace L2
open PySem PySem.Spec PyProof.Rows
section
variable {prog : Program} {w : World} {A : Around} {E : Value → Shared → Prop}
end
section
variable {X : Cx}
end
end L2
namespace L2
open PySem PySem.Spec PyProof.Rows
section
variable {X : Cx} {pins : List (Addr × Obj)} {σ : St} {H : Hp} {s : Shared} {h' : Heap}
theorem Inv.turnedL {t' : Nat} {ch : List Addr} (I : Inv X pins σ H s) (k : ∀ b o, b ∉ ch → s.heap.get? b = some o → h'.get? b = some o) (hf : ∀ b ∈ ch, FpOk X pins H b) : Inv X pins σ H { s with heap := h', toks := t' } := by
  have nit : ∀ b u, H b = some u → b ∉ ch := fun b u e z => by
    have q := (hf b z).1
    rw [q] at e; cases e
  refine I.step (g' := s.gens) (d' := s.drawn) (ch := ch) (fun b hb => ⟨(hf b hb).2.2.2.1, (hf b hb).2.1, (hf b hb).2.2.2.2.1, (hf b hb).2.2.2.2.2⟩) (fun b o _ _ hc e _ => k b o hc e) (fun b o _ _ hc e _ => ⟨o.slots, k b o hc e⟩)
    (fun _ _ _ _ n => n) (fun b o hc e => ⟨o, k b o hc e⟩) (fun _ _ e => e) (fun _ _ _ e => e) (fun b ps e => ⟨#[], by rw [e]; simp⟩) (fun m hm => ?_) (fun b u e => ?_) I.bare
  · obtain ⟨o, es, ep, ho, r⟩ := hm
    exact ⟨o, es, ep, k _ o (fun z => (hf _ z).2.1 rfl) ho, r⟩
  · refine (I.hok b u e).stay (fun c v hc q => k c v ?_ q) (fun _ q => q) fun _ _ q => q
    rcases hc with z | z
    · rw [z]; exact nit b u e
    · exact nit c _ z
theorem Inv.turnedNew {t' : Nat} {ch : List Addr} {T : Addr} {ob : HO} (I : Inv X pins σ H s) (k : ∀ b o, b ∉ ch → s.heap.get? b = some o → h'.get? b = some o) (hf : ∀ b ∈ ch, FpOk X pins H b) (hT : s.heap.objs.size ≤ T)
    (new : ObjOk X.prog X.w (upd H T ob) h' T ob) : Inv X pins σ (upd H T ob) { s with heap := h', toks := t' } := by
  have hn : H T = none := I.hok.fresh hT
  have nit : ∀ b u, H b = some u → b ∉ ch := fun b u e z => by
    have q := (hf b z).1
    rw [q] at e; cases e
  refine I.step (g' := s.gens) (d' := s.drawn) (ch := ch) (fun b hb => ⟨(hf b hb).2.2.2.1, (hf b hb).2.1, (hf b hb).2.2.2.2.1, (hf b hb).2.2.2.2.2⟩) (fun b o _ _ hc e _ => k b o hc e) (fun b o _ _ hc e _ => ⟨o.slots, k b o hc e⟩)
    (fun b o _ e n => ?_) (fun b o hc e => ⟨o, k b o hc e⟩) (fun b xs e => ?_) (fun b o u e => ?_) (fun b ps e => ⟨#[], ?_⟩) (fun m hm => ?_) (fun b u e => ?_) I.bare
  · rw [upd_ne (Nat.ne_of_lt (Nat.lt_of_lt_of_le (Heap.lt_size e) hT))]; exact n
  · rw [upd_ne (ne_of_none e hn)]; exact e
  · rw [upd_ne (ne_of_none e hn)]; exact e
  · rw [upd_ne (ne_of_none e hn), e]; simp
  · obtain ⟨o, es, ep, ho, r⟩ := hm
    exact ⟨o, es, ep, k _ o (fun z => (hf _ z).2.1 rfl) ho, r⟩
  · by_cases hb : b = T
    · subst hb
      rw [upd_same] at e
      cases e
      exact new
    · rw [upd_ne hb] at e
      refine (I.hok b u e).stay (fun c v hc q => k c v ?_ q) (fun c q => by rw [upd_ne (ne_of_none q hn)]; exact q) fun c xs q => by rw [upd_ne (ne_of_none q hn)]; exact q
      rcases hc with z | z
      · rw [z]; exact nit b u e
      · exact nit c _ z
end
section
variable {X : Cx}
theorem pi_one {tg : Expr} {pins : List (Addr × Obj)} {σ : St} {H : Hp} {s : Shared} {R : It → Hp → Prop} {J : It} {tn : Nat → Heap → Prop} {tk : Nat} (I : Inv X pins σ H s) (o : Obj)
    (T : Turn X.prog X.w X.K tg J [s.heap.objs.size] s.heap.objs.size tn) (st : tn 0 (s.heap.push o)) (q : R J H) : PIE X pins σ tg R (.ref s.heap.objs.size) { s with heap := s.heap.push o, toks := tk } := by
  refine ⟨s.heap.objs.size, [s.heap.objs.size], tn, J, H, rfl, I.kept fun b ob e => Heap.get?_push_of_some _ e, T, st, fun b hb => ?_, q⟩
  have e : b = s.heap.objs.size := by simpa using hb
  subst e
  exact I.fpOk (Nat.le_refl _) (I.hok.fresh (Nat.le_refl _))
end
def Itc (lo c : Int) (n : Nat) : It := ⟨fun i _ => i < n, fun i H x H' => H' = H ∧ x = .int (lo + (i : Nat) * c), fun i _ => n ≤ i⟩
theorem turn_rangeC {P : Program} {w : World} {K : PySem.W.Frag} {tg : Expr} (it : Addr) (lo c : Int) (n : Nat) : Turn P w K tg (Itc lo c n) [it] it (fun i h => IsRangeIter h it (lo + (i : Nat) * c) ((n : Int) - (i : Nat)) c) where
  mem := by simp
  obj := fun i h st b hb => by
    have e : b = it := by simpa using hb
    subst e
    exact ⟨_, st, fun v z => nomatch z⟩
  keep := fun i h h' st k => k it (by simp) _ st
  item := by
    intro X hP hw hK hc i pins s σ H E I hf st hg
    subst hP hw hK
    obtain ⟨f0, f1, f2, f3, f4, f5⟩ := hf it (by simp)
    have W := Walks.range (prog := X.prog) (w := X.w) (I.ok.hd hc) it lo c n
    refine W.item i s _ _ hg st fun v h' tk hv st' kk => ?_
    obtain ⟨t, rfl⟩ := hv
    have I1 : Inv X pins σ H { s with heap := h', toks := tk } := I.turned (fun b o hb e => kk b o (by simpa using hb) e) f0 f1 f3 f4 f5
    exact ⟨_, rfl, go_of (s := { s with heap := h', toks := tk }) (n := "range_iterator") st' rfl rfl (by decide) ⟨.int (lo + (i : Nat) * c), H, I1, ⟨t, rfl⟩, ⟨rfl, rfl⟩, st', fun b hb => (hf b hb).1⟩⟩
  done := by
    intro X hP hw hK hc i pins s σ H E I hf st hg
    subst hP hw hK
    obtain ⟨f0, f1, f2, f3, f4, f5⟩ := hf it (by simp)
    exact wpAny_pyNext_range_end (I.ok.hd hc) st (by have : n ≤ i := hg; omega) fun h' eb => ⟨rfl, I.turned (t' := s.toks) (fun b o hb e => eb b o hb e) f0 f1 f3 f4 f5⟩
  self := fun A i s Q E st h => wpAny_pyIter_rangeiter st h
def RgC (i j c : Int) (n : Nat) : Prop := c ≠ 0 ∧ c.natAbs < 1073741824 ∧ Builtin.Range.small i j c = true ∧ Builtin.Range.rangeSize i j c = n
theorem RgC.neg {i j : Int} (ha : -(2 ^ 62) ≤ i) (ha' : i < 2 ^ 62) (hb : -(2 ^ 62) ≤ j) (hb' : j < 2 ^ 62) : RgC i j (-1) (i - j).toNat :=
  ⟨by decide, by decide, PySem.W.small_down ha ha' hb hb', PySem.W.rangeSize_downNat i j⟩
def iRng3 (ta : TA) : TI := fun σ H R => ta σ H fun vs H1 => ∃ (i j c : Int) (n : Nat), vs = [.int i, .int j, .int c] ∧ RgC i j c n ∧ R (Itc i c n) H1
section
variable {X : Cx} {tg : Expr}
theorem pi_range3 {a b c : Expr} {ta : TA} {p pos : Pos} (hg : Gl X "range") (hm : X.mg "range" = none) (ha : PA X [a, b, c] ta)
    (hs : starEach [a, b, c] X.env = (false, eval a X.env) :: starEach [b, c] X.env := by rfl) (hpl : (backTo pos (starEach [b, c] X.env)).any (·.1) = false := by rfl) :
    PI X tg (.Call (.Name "range" p) [a, b, c] [] pos) (iRng3 ta) := by
  intro pins s σ H R I h
  refine Call_ (ld_blt I hg hm boot_range (PyProof.Rows.callWith_type1 (thn (ha pos pins s σ H _ I h) fun us s1 ⟨vs, H1, I1, r1, q1⟩ => ?_) hs hpl))
  obtain ⟨i, j, k, n, e, ⟨c0, c1, c2, c3⟩, q⟩ := q1
  subst e
  cases r1 with
  | cons r rr =>
    cases rr with
    | cons r' rr =>
      cases rr with
      | cons r'' rr =>
        cases rr
        obtain ⟨t, rfl⟩ := r
        obtain ⟨t', rfl⟩ := r'
        obtain ⟨t'', rfl⟩ := r''
        refine call_range_3 c0 ?_ (.inl (PyProof.noPylong_small c1))
        refine wpAny_pyIter_range (IsRange.new ..) c2 ?_
        have I2 : Inv X pins σ H1 { s1 with heap := s1.heap.push { cls := .type "range", data := .fields #[.int i t, .int j t', .int k t''] } } := I1.kept (t' := s1.toks) fun b o e => Heap.get?_push_of_some _ e
        refine pi_one (tk := s1.toks) I2 _ (turn_rangeC _ i k n) ?_ q
        have e1 : i + ((0 : Nat) : Int) * k = i := by simp
        have e2 : (n : Int) - ((0 : Nat) : Int) = Builtin.Range.rangeSize i j k := by rw [c3]; simp
        show IsRangeIter _ _ (i + ((0 : Nat) : Int) * k) ((n : Int) - ((0 : Nat) : Int)) k
        rw [e1, e2]
        exact Heap.get?_push_size _ rfl
end
theorem for_rangeC {lo c : Int} {n : Nat} {g : TG} {tb : TS} {D : Ends} {σ : St} {H : Hp} (Pv : Nat → St → Hp → Prop) (h0 : Pv 0 σ H)
    (hs : ∀ i σ H, i < n → Pv i σ H → g (.int (lo + (i : Nat) * c)) σ H fun σ2 H2 => tb { D with nx := Pv (i + 1), ct := Pv (i + 1), bk := D.nx } σ2 H2) (hd : ∀ σ H, Pv n σ H → D.nx σ H) :
    ∃ W : Nat → Nat → St → Hp → Prop, (∃ m, W 0 m σ H) ∧ ∀ i m σ H, W i m σ H →
      ((Itc lo c n).stop i H ∧ D.nx σ H) ∨ ((Itc lo c n).go i H ∧ ∃ N : St → Hp → Prop, (∀ σ' H', N σ' H' → ∃ m', m' < m ∧ W (i + 1) m' σ' H') ∧ ∀ x H', (Itc lo c n).yld i H x H' → g x σ H' fun σ2 H2 => tb { D with nx := N, ct := N, bk := D.nx } σ2 H2) := by
  refine ⟨fun i m σ H => m = n - i ∧ i ≤ n ∧ Pv i σ H, ⟨n, by simp, Nat.zero_le _, h0⟩, ?_⟩
  rintro i m σ H ⟨rfl, hi, p⟩
  by_cases hlt : i < n
  · refine .inr ⟨hlt, Pv (i + 1), fun σ' H' p' => ⟨n - (i + 1), by omega, rfl, hlt, p'⟩, fun x H' y => ?_⟩
    obtain ⟨e, y⟩ := y
    subst e y
    exact hs i σ _ hlt p
  · have e : i = n := by omega
    subst e
    exact .inl ⟨Nat.le_refl _, hd σ H p⟩
section
variable {X : Cx} {tg : Expr}
end
def Its (x : Str) : It := ⟨fun i _ => i < x.cps.size, fun i H v H' => H' = H ∧ ∃ c, x.cps[i]? = some c ∧ v = .str ⟨#[c]⟩, fun i _ => x.cps.size ≤ i⟩
theorem turn_str {P : Program} {w : World} {K : PySem.W.Frag} {tg : Expr} (it : Addr) (x : Str) (t : Tok) (ty : String) (hty : ty = "str_ascii_iterator" ∨ ty = "str_iterator") :
    Turn P w K tg (Its x) [it] it (fun i h => h.IsStrIter it ty x t i) where
  mem := by simp
  obj := fun i h st b hb => by
    have e : b = it := by simpa using hb
    subst e
    obtain ⟨o, e, c, d⟩ := st
    exact ⟨o, e, fun v z => by rw [d] at z; cases z⟩
  keep := fun i h h' st k => let ⟨o, ho, r⟩ := st; ⟨o, k it (by simp) o ho, r⟩
  item := by
    intro X hP hw hK hc i pins s σ H E I hf st hg
    subst hP hw hK
    obtain ⟨f0, f1, f2, f3, f4, f5⟩ := hf it (by simp)
    have W : Walks X.prog X.w X.A it [it] [it] x.cps.size (SignAt x) (fun i h => h.IsStrIter it ty x t i) := by
      rcases hty with e | e
      · rw [e]; exact Walks.strAscii (I.ok.hd hc) it x t
      · rw [e]; exact Walks.strWide (I.ok.hd hc) it x t
    have hno : ["enumerate", "zip", "dict_itemiterator", "dict_reverseitemiterator", "odict_iterator", "itertools.zip_longest", "itertools.pairwise"].contains ty = false := by
      rcases hty with e | e
      · rw [e]; decide
      · rw [e]; decide
    refine W.item i s _ _ hg st fun v h' tk hv st' kk => ?_
    obtain ⟨c, u, hcx, rfl⟩ := hv
    have I1 : Inv X pins σ H { s with heap := h', toks := tk } := I.turned (fun b o hb e => kk b o (by simpa using hb) e) f0 f1 f3 f4 f5
    obtain ⟨oi, e, cc, dd⟩ := id st'
    exact ⟨_, rfl, go_of (s := { s with heap := h', toks := tk }) e cc dd hno ⟨.str ⟨#[c]⟩, H, I1, ⟨u, rfl⟩, ⟨rfl, c, hcx, rfl⟩, st', fun b hb => (hf b hb).1⟩⟩
  done := by
    intro X hP hw hK hc i pins s σ H E I hf st hg
    subst hP hw hK
    obtain ⟨f0, f1, f2, f3, f4, f5⟩ := hf it (by simp)
    have hx : x.cps[i]? = none := Array.getElem?_eq_none hg
    rcases hty with e | e
    · rw [e] at st
      exact wpAny_pyNext_ascii_end (I.ok.hd hc) st hx fun h' eb => ⟨rfl, I.turned (t' := s.toks) (fun b o hb e => eb b o hb e) f0 f1 f3 f4 f5⟩
    · rw [e] at st
      exact wpAny_pyNext_wide_end (I.ok.hd hc) st hx fun h' eb => ⟨rfl, I.turned (t' := s.toks) (fun b o hb e => eb b o hb e) f0 f1 f3 f4 f5⟩
  self := fun A i s Q E st h => by
    rcases hty with e | e
    · rw [e] at st; exact wpAny_pyIter_striter_ascii st h
    · rw [e] at st; exact wpAny_pyIter_striter_wide st h
def iStr (te : TE) : TI := fun σ H R => te σ H fun v H1 => ∃ x, v = .str x ∧ R (Its x) H1
theorem pi_str {X : Cx} {tg e : Expr} {te : TE} (he : PE X e te) : PI X tg e (iStr te) := by
  intro pins s σ H R I h
  refine thn (he pins s σ H _ I h) fun v s1 ⟨y, H1, I1, r1, x, ex, q⟩ => ?_
  subst ex
  obtain ⟨t, rfl⟩ := r1
  cases ha : x.cps.all (· < 128)
  · exact wpAny_pyIter_wide ha (pi_one (tk := s1.toks) I1 _ (turn_str _ x t "str_iterator" (.inr rfl)) ⟨_, Heap.get?_push_size _ rfl, rfl, rfl⟩ q)
  · exact wpAny_pyIter_ascii ha (pi_one (tk := s1.toks) I1 _ (turn_str _ x t "str_ascii_iterator" (.inl rfl)) ⟨_, Heap.get?_push_size _ rfl, rfl, rfl⟩ q)
section
variable {prog : Program} {w : World} {A : Around} {E : Value → Shared → Prop} {s : Shared}
end
section
variable {X : Cx} {pins : List (Addr × Obj)} {σ : St} {H : Hp} {s : Shared} {d : Addr} {o : Obj}
end
section
variable {P : Program} {w : World} {K : PySem.W.Frag} {tg : Expr} {d : Addr} {o : Obj} {es : Array DictEntry} {ep : Nat}
end
section
variable {X : Cx} {tg e : Expr} {td : TE} {apos cpos : Pos}
end
def Ite (K : PySem.W.Frag) (a : Addr) : It :=
  ⟨fun i H => ∃ (xs : List V) (x : V), SqL K H a xs ∧ xs[i]? = some x, fun i H v H' => ∃ T x, v = .ref T ∧ H T = none ∧ H' = upd H T (.tup [.int (i : Nat), x]) ∧ ∀ xs, SqL K H a xs → xs[i]? = some x, fun i H => ∃ xs : List V, SqL K H a xs ∧ xs.length ≤ i⟩
theorem turn_enum {P : Program} {w : World} {K : PySem.W.Frag} {elts : List Expr} {kk : Nat} {tpos : Pos} (a e it : Addr) :
    Turn P w K (.Tuple elts kk tpos) (Ite K a) [e, it] e (fun i h => (∃ old, IsEnum h e it ((i : Nat) : Int) old) ∧ h.IsListIter it a i ∧ e ≠ it) where
  mem := by simp
  obj := fun i h st b hb => by
    obtain ⟨⟨old, he⟩, ⟨o, ho, hc, hd⟩, _⟩ := st
    have e' : b = e ∨ b = it := by simpa using hb
    rcases e' with z | z
    · rw [z]; exact ⟨_, he, fun v q => nomatch q⟩
    · rw [z]; exact ⟨o, ho, fun v q => by rw [hd] at q; cases q⟩
  keep := fun i h h' st k => let ⟨⟨old, he⟩, hi, hne⟩ := st; ⟨⟨old, k e (by simp) _ he⟩, hi.at fun o q => k it (by simp) o q, hne⟩
  item := by
    intro X hP hw hK hc i pins s σ H E I hf st hg
    subst hP hw hK
    obtain ⟨⟨old, he⟩, hit, hne⟩ := st
    obtain ⟨xs, x, hq, hx⟩ := hg
    obtain ⟨its, rv, p, hz⟩ := I.list hq
    obtain ⟨u, hu, ru⟩ := rv.get hx
    have hel : e < s.heap.objs.size := Heap.lt_size he
    have hil : it < s.heap.objs.size := by obtain ⟨_, q, _⟩ := hit; exact Heap.lt_size q
    refine wpAny_pyNext_enum_item he hit p.isList (x := u) (by simpa using hu) hne fun h' ho hit' hT hsz hk => ?_
    refine ⟨_, rfl, wpAny_letOwnedTupleGo_enum (s := { s with heap := h', toks := s.toks + 1 }) ho fun h'' he' sb => ?_⟩
    have hT2 : h''.get? s.heap.objs.size = some { cls := .type "tuple", data := .seq #[.int i s.toks, u] } := (sb.2 _ (Nat.ne_of_gt hel)).trans hT
    have new : ObjOk X.prog X.w (upd H s.heap.objs.size (.tup [.int (i : Nat), x])) h'' s.heap.objs.size (.tup [.int (i : Nat), x]) :=
      ⟨by show 2 ≤ sizeLine; decide, [.int i s.toks, u], .cons ⟨_, rfl⟩ (.cons ru .nil), ⟨_, hT2, rfl, _, rfl⟩⟩
    have I1 : Inv X pins σ (upd H s.heap.objs.size (.tup [.int (i : Nat), x])) { s with heap := h'', toks := s.toks + 1 } :=
      I.turnedNew (ch := [e, it]) (fun b ob hb q => (sb.2 b (fun z => hb (by simp [z]))).trans (hk b ob (fun z => hb (by simp [z])) (fun z => hb (by simp [z])) q)) hf (Nat.le_refl _) new
    refine ⟨.ref s.heap.objs.size, _, I1, rfl, ⟨_, x, rfl, I.hok.fresh (Nat.le_refl _), rfl, fun ys hy => by rw [I.list_inj hy hq]; exact hx⟩, ⟨⟨u, ?_⟩, hit'.at fun o q => (sb.2 it (Ne.symm hne)).trans q, hne⟩, fun b hb => ?_⟩
    · have e1 : ((i + 1 : Nat) : Int) = (i : Int) + 1 := by omega
      rw [e1]; exact he'
    · have hb' : b < s.heap.objs.size := by
        have e' : b = e ∨ b = it := by simpa using hb
        rcases e' with z | z
        · rw [z]; exact hel
        · rw [z]; exact hil
      rw [upd_ne (Nat.ne_of_lt hb')]
      exact (hf b hb).1
  done := by
    intro X hP hw hK hc i pins s σ H E I hf st hg
    subst hP hw hK
    obtain ⟨⟨old, he⟩, hit, hne⟩ := st
    obtain ⟨xs, hq, hx⟩ := hg
    obtain ⟨its, rv, p, hz⟩ := I.list hq
    obtain ⟨f0, f1, f2, f3, f4, f5⟩ := hf it (by simp)
    have hl := rv.length
    exact wpAny_pyNext_enum_end (I.ok.hd hc) he hit p.isList (by simp; omega) fun h' eb => ⟨rfl, I.turned (t' := s.toks) (fun b o hb q => eb b o hb q) f0 f1 f3 f4 f5⟩
  self := fun A i s Q E st h => let ⟨⟨_, he⟩, _⟩ := st; wpAny_pyIter_enum he h
def iEnum (K : PySem.W.Frag) (ta : TA) : TI := fun σ H R => ta σ H fun vs H1 => ∃ a xs, vs = [.ref a] ∧ SqL K H1 a xs ∧ R (Ite K a) H1
theorem pi_enum {X : Cx} {e : Expr} {ta : TA} {p pos tpos : Pos} {elts : List Expr} {kk : Nat} (hg : Gl X "enumerate") (hm : X.mg "enumerate" = none) (ha : PA X [e] ta) (hs : starEach [e] X.env = [(false, eval e X.env)] := by rfl) :
    PI X (.Tuple elts kk tpos) (.Call (.Name "enumerate" p) [e] [] pos) (iEnum X.K ta) := by
  intro pins s σ H R I h
  refine Call_ (ld_blt I hg hm boot_enumerate (PyProof.Rows.callWith_type1 (thn (ha pos pins s σ H _ I h) fun us s1 ⟨vs, H1, I1, r1, q1⟩ => ?_) hs rfl))
  obtain ⟨a, xs, ex, hq, q⟩ := q1
  subst ex
  cases r1 with
  | cons r rr =>
    cases rr
    cases r
    obtain ⟨its, rv, p', hz⟩ := I1.list hq
    refine call_enumerate_list p'.isList fun h' he hit hsz hk => wpAny_pyIter_enum he ?_
    have I2 : Inv X pins σ H1 { s1 with heap := h' } := I1.kept (t' := s1.toks) hk
    refine ⟨s1.heap.objs.size + 1, [s1.heap.objs.size + 1, s1.heap.objs.size], _, _, H1, rfl, I2, turn_enum a (s1.heap.objs.size + 1) s1.heap.objs.size, ⟨⟨.none, he⟩, hit, Nat.succ_ne_self _⟩, fun b hb => ?_, q⟩
    have e' : b = s1.heap.objs.size + 1 ∨ b = s1.heap.objs.size := by simpa using hb
    have hle : s1.heap.objs.size ≤ b := by
      rcases e' with z | z
      · rw [z]; exact Nat.le_add_right _ _
      · rw [z]; exact Nat.le_refl _
    exact I1.fpOk hle (I1.hok.fresh hle)
theorem boot_zip5 : bootBuiltins "zip" = some (.type "zip") := by decide +kernel
def Itz (K : PySem.W.Frag) (a b : Addr) : It :=
  ⟨fun i H => ∃ (xs ys : List V) (x y : V), SqL K H a xs ∧ SqL K H b ys ∧ xs[i]? = some x ∧ ys[i]? = some y,
    fun i H v H' => ∃ T x y, v = .ref T ∧ H T = none ∧ H' = upd H T (.tup [x, y]) ∧ (∀ xs, SqL K H a xs → xs[i]? = some x) ∧ ∀ ys, SqL K H b ys → ys[i]? = some y,
    fun i H => ∃ xs ys : List V, SqL K H a xs ∧ SqL K H b ys ∧ (xs.length ≤ i ∨ ys.length ≤ i)⟩
theorem turn_zip {P : Program} {w : World} {K : PySem.W.Frag} {elts : List Expr} {kk : Nat} {tpos : Pos} {a b z TI TO i1 i2 : Addr} (D : ZipApart z TI TO i1 i2 a b) :
    Turn P w K (.Tuple elts kk tpos) (Itz K a b) [z, TI, TO, i1, i2] z (fun i h => IsZip h z TI TO .none ∧ IsPair h TI (.ref i1) (.ref i2) ∧ (∃ x y, IsPair h TO x y) ∧ h.IsListIter i1 a i ∧ h.IsListIter i2 b i) where
  mem := by simp
  obj := fun i h st c hc => by
    obtain ⟨hz, hTI, ⟨x, y, hTO⟩, ⟨o1, e1, _, d1⟩, ⟨o2, e2, _, d2⟩⟩ := st
    have e' : c = z ∨ c = TI ∨ c = TO ∨ c = i1 ∨ c = i2 := by simpa using hc
    rcases e' with q | q | q | q | q
    · rw [q]; exact ⟨_, hz, fun v q => nomatch q⟩
    · rw [q]; exact ⟨_, hTI, fun v q => nomatch q⟩
    · rw [q]; exact ⟨_, hTO, fun v q => nomatch q⟩
    · rw [q]; exact ⟨o1, e1, fun v q => by rw [d1] at q; cases q⟩
    · rw [q]; exact ⟨o2, e2, fun v q => by rw [d2] at q; cases q⟩
  keep := fun i h h' st k => by
    obtain ⟨hz, hTI, ⟨x, y, hTO⟩, h1, h2⟩ := st
    exact ⟨k z (by simp) _ hz, k TI (by simp) _ hTI, ⟨x, y, k TO (by simp) _ hTO⟩, h1.at fun o q => k i1 (by simp) o q, h2.at fun o q => k i2 (by simp) o q⟩
  item := by
    intro X hP hw hK hc i pins s σ H E I hf st hg
    subst hP hw hK
    obtain ⟨hz, hTI, ⟨x0, y0, hTO⟩, h1, h2⟩ := st
    obtain ⟨xs, ys, x, y, hqx, hqy, hx, hy⟩ := hg
    obtain ⟨its, rv, p, _⟩ := I.list hqx
    obtain ⟨its2, rv2, p2, _⟩ := I.list hqy
    obtain ⟨u, hu, ru⟩ := rv.get hx
    obtain ⟨u2, hu2, ru2⟩ := rv2.get hy
    have hzl : z < s.heap.objs.size := Heap.lt_size hz
    refine wpAny_pyNext_zip_item D hz hTI hTO h1 h2 p.isList p2.isList (x := u) (y := u2) (by simpa using hu) (by simpa using hu2) fun h' z' TO' h1' h2' hT hsz hk => ?_
    refine ⟨_, rfl, wpAny_letOwnedTupleGo_zip (s := { s with heap := h' }) z' fun h'' z'' sb => ?_⟩
    have hT2 : h''.get? s.heap.objs.size = some { cls := .type "tuple", data := .seq #[u, u2] } := (sb.2 _ (Nat.ne_of_gt hzl)).trans hT
    have new : ObjOk X.prog X.w (upd H s.heap.objs.size (.tup [x, y])) h'' s.heap.objs.size (.tup [x, y]) :=
      ⟨by show 2 ≤ sizeLine; decide, [u, u2], .cons ru (.cons ru2 .nil), ⟨_, hT2, rfl, _, rfl⟩⟩
    have I1 : Inv X pins σ (upd H s.heap.objs.size (.tup [x, y])) { s with heap := h'' } :=
      I.turnedNew (t' := s.toks) (ch := [z, TI, TO, i1, i2]) (fun c o hb q => (sb.2 c (fun q' => hb (by simp [q']))).trans (hk c o (fun q' => hb (by simp [q'])) (fun q' => hb (by simp [q'])) (fun q' => hb (by simp [q'])) (fun q' => hb (by simp [q'])) q)) hf (Nat.le_refl _) new
    refine ⟨.ref s.heap.objs.size, _, I1, rfl, ⟨_, x, y, rfl, I.hok.fresh (Nat.le_refl _), rfl, fun l hl => by rw [I.list_inj hl hqx]; exact hx, fun l hl => by rw [I.list_inj hl hqy]; exact hy⟩, ⟨z'', ?_, ⟨u, u2, ?_⟩, ?_, ?_⟩, fun c hcm => ?_⟩
    · exact (sb.2 _ D.TIz).trans (hk _ _ D.TIz D.TITO D.TIi1 D.TIi2 hTI)
    · exact (sb.2 _ D.TOz).trans TO'
    · exact h1'.at fun o q => (sb.2 _ D.i1z).trans q
    · exact h2'.at fun o q => (sb.2 _ D.i2z).trans q
    · have hlt : c < s.heap.objs.size := by
        have e' : c = z ∨ c = TI ∨ c = TO ∨ c = i1 ∨ c = i2 := by simpa using hcm
        rcases e' with q | q | q | q | q
        · rw [q]; exact hzl
        · rw [q]; exact Heap.lt_size hTI
        · rw [q]; exact Heap.lt_size hTO
        · rw [q]; obtain ⟨_, e1, _⟩ := h1; exact Heap.lt_size e1
        · rw [q]; obtain ⟨_, e2, _⟩ := h2; exact Heap.lt_size e2
      rw [upd_ne (Nat.ne_of_lt hlt)]
      exact (hf c hcm).1
  done := by
    intro X hP hw hK hc i pins s σ H E I hf st hg
    subst hP hw hK
    obtain ⟨hz, hTI, ⟨x0, y0, hTO⟩, h1, h2⟩ := st
    obtain ⟨xs, ys, hqx, hqy, hend⟩ := hg
    obtain ⟨its, rv, p, _⟩ := I.list hqx
    obtain ⟨its2, rv2, p2, _⟩ := I.list hqy
    have l1 := rv.length
    have l2 := rv2.length
    have he : its.toArray[i]? = none ∨ its2.toArray[i]? = none := by
      rcases hend with q | q
      · exact .inl (by simp; omega)
      · exact .inr (by simp; omega)
    exact wpAny_pyNext_zip_end (I.ok.hd hc) D hz hTI hTO h1 h2 p.isList p2.isList he fun h' hk => ⟨rfl, I.turnedL (t' := s.toks) (ch := [z, TI, TO, i1, i2]) (fun c o hb q =>
      hk c o (fun q' => hb (by simp [q'])) (fun q' => hb (by simp [q'])) (fun q' => hb (by simp [q'])) (fun q' => hb (by simp [q'])) q) hf⟩
  self := fun A i s Q E st h => wpAny_pyIter_zip st.1 h
def iZip (K : PySem.W.Frag) (ta : TA) : TI := fun σ H R => ta σ H fun vs H1 => ∃ a b xs ys, vs = [.ref a, .ref b] ∧ SqL K H1 a xs ∧ SqL K H1 b ys ∧ R (Itz K a b) H1
theorem pi_zip {X : Cx} {e e2 : Expr} {ta : TA} {p pos tpos : Pos} {elts : List Expr} {kk : Nat} (hg : Gl X "zip") (hm : X.mg "zip" = none) (ha : PA X [e, e2] ta)
    (hs : starEach [e, e2] X.env = (false, eval e X.env) :: starEach [e2] X.env := by rfl) (hpl : (backTo pos (starEach [e2] X.env)).any (·.1) = false := by rfl) :
    PI X (.Tuple elts kk tpos) (.Call (.Name "zip" p) [e, e2] [] pos) (iZip X.K ta) := by
  intro pins s σ H R I h
  refine Call_ (ld_blt I hg hm boot_zip5 (PyProof.Rows.callWith_type1 (thn (ha pos pins s σ H _ I h) fun us s1 ⟨vs, H1, I1, r1, q1⟩ => ?_) hs hpl))
  obtain ⟨a, b, xs, ys, ex, hqx, hqy, q⟩ := q1
  subst ex
  cases r1 with
  | cons r rr =>
    cases rr with
    | cons r' rr =>
      cases rr
      cases r
      cases r'
      obtain ⟨its, rv, p1, _⟩ := I1.list hqx
      obtain ⟨its2, rv2, p2, _⟩ := I1.list hqy
      have la : a < s1.heap.objs.size := p1.lt
      have lb : b < s1.heap.objs.size := p2.lt
      refine call_zip_2 p1.isList p2.isList fun h' hz hTI hTO h1 h2 hsz hk => wpAny_pyIter_zip hz ?_
      have I2 : Inv X pins σ H1 { s1 with heap := h' } := I1.kept (t' := s1.toks) hk
      refine ⟨s1.heap.objs.size + 4, [s1.heap.objs.size + 4, s1.heap.objs.size + 2, s1.heap.objs.size + 3, s1.heap.objs.size, s1.heap.objs.size + 1], _, _, H1, rfl, I2, turn_zip (PySem.W.ktu_apart s1.heap.objs.size a b la lb), ⟨hz, hTI, ⟨_, _, hTO⟩, h1, h2⟩, fun c hcm => ?_, q⟩
      have e' : c = s1.heap.objs.size + 4 ∨ c = s1.heap.objs.size + 2 ∨ c = s1.heap.objs.size + 3 ∨ c = s1.heap.objs.size ∨ c = s1.heap.objs.size + 1 := by simpa using hcm
      have hle : s1.heap.objs.size ≤ c := by
        rcases e' with z | z | z | z | z
        · rw [z]; exact Nat.le_add_right _ _
        · rw [z]; exact Nat.le_add_right _ _
        · rw [z]; exact Nat.le_add_right _ _
        · rw [z]; exact Nat.le_refl _
        · rw [z]; exact Nat.le_add_right _ _
      exact I1.fpOk hle (I1.hok.fresh hle)
end L2
section 
namespace Bits
open PySem PyProof.Rows
end Bits
end 
section 
namespace TL
open PySem PySem.Builtin PySem.Builtin.Str PySem.StrLaws
abbrev tl (x : Str) : List Nat := x.cps.toList
def pre (S l : List Nat) : Bool := l.take S.length == S
def par (S : List Nat) : List Nat → List Nat → Option (List Nat × List Nat)
  | _, [] => none
  | acc, c :: r => if pre S (c :: r) = true then some (acc, (c :: r).drop S.length) else par S (acc ++ [c]) r
end TL
end 
namespace L2
open PySem PySem.Spec PyProof.Rows
section
variable {X : Cx} {pins : List (Addr × Obj)} {σ : St} {H : Hp} {s : Shared} {Q : VK}
end
section
variable {X : Cx}
end
section
variable {X : Cx} {o e : Expr} {to te : TE}
end
end L2
namespace L2
open PySem PySem.Spec PyProof.Rows
section
variable {X : Cx}
end
theorem IsPart.raw {v : Value} {o : Option Int} (p : IsPart v o) : ∃ l : Option (Int × Tok), v = partValue l ∧ l.map (·.1) = o := by
  cases p with
  | none => exact ⟨none, rfl, rfl⟩
  | int i t => exact ⟨some (i, t), rfl, rfl⟩
end L2
namespace Att
open PySem PySem.W PySem.Calls PyProof.Rows
theorem ints_of_wellAll {P : Params} {h : Heap} : ∀ (ns : List Int) (vs : List Value), WellAll P h vs (ns.map WData.int) → IntsAre vs ns := by
  intro ns
  induction ns with
  | nil =>
    intro vs w
    rw [List.map_nil] at w
    cases w
    exact .nil
  | cons n ns ih =>
    intro vs w
    rw [List.map_cons] at w
    cases w with
    | cons a b =>
      cases a
      exact .cons _ _ (ih _ b)
section
variable {prog : Program} {w : World} {A : Around} {E : Value → Shared → Prop} {s : Shared} {K : Frag}
end
end Att
namespace L2
open PySem PySem.Spec PyProof.Rows
theorem vals_ints : ∀ {vs : List Value} {ns : List Int}, IntsAre vs ns → Vals (ns.map V.int) vs
  | _, _, .nil => .nil
  | _, _, .cons n t h => .cons ⟨t, rfl⟩ (vals_ints h)
end L2
namespace L2
open PySem PySem.Spec PyProof.Rows
end L2
namespace L2
open PySem PySem.Spec PyProof.Rows
def inClass (s : Stmt) (j : Nat) : Stmt := match s with
  | .ClassDef _ _ _ body _ _ _ _ _ _ _ => body.getD j (.Pass ⟨0, 0, 0, 0⟩)
  | _ => .Pass ⟨0, 0, 0, 0⟩
def defArgs (s : Stmt) : Arguments := match s with
  | .FunctionDef _ a _ _ _ _ _ _ _ _ => a
  | _ => { posonlyargs := [], args := [], vararg := none, kwonlyargs := [], kw_defaults := [], kwarg := none, defaults := [] }
def defBody (s : Stmt) : List Stmt := match s with
  | .FunctionDef _ _ b _ _ _ _ _ _ _ => b
  | _ => []
def defScope (s : Stmt) : Scope := match s with
  | .FunctionDef _ _ _ _ _ _ sc _ _ _ => sc
  | _ => { kind := .function, names := [], isGenerator := false, isCoroutine := false }
abbrev CX0 : CXT := fun _ _ _ _ _ _ => False
abbrev E0 : XK := fun _ _ _ => False
theorem pass0 {X : Cx} : Passes CX0 X E0 := fun _ _ _ _ _ _ _ h => h.elim
structure Fun (K : PySem.W.Frag) (x qual : Str) (st : Stmt) (f : Addr) (fd : FuncData) : Prop where
  ex : ∃ (oc : Value) (od : Option Addr) (kV doc pm : Value) (an : Option Addr) (cdv ct : Value) (osl : Array (Option Value)),
    fd = PySem.W.fnOf x qual (defArgs st) (defBody st) (defScope st) .none kV doc pm an cdv ct ∧ K.lookup f = some ⟨oc, od, .func fd, osl⟩ ∧ PySem.W.codeIn K cdv qual = true
  kp : PySem.W.keepIn K (.ref f) = true
section
variable {P : Program} {w : World} {K : PySem.W.Frag} {mg : Str → Option Value} {base : Heap}
theorem Fun.ok {x qual : Str} {st : Stmt} {f : Addr} {fd : FuncData} {N ps : List Str} {k : Nat} {sp : Sp} (F : Fun K x qual st f fd) (S : FnScope N ps (defScope st)) (len : ∀ vs H Q E, sp vs H Q E → vs.length = ps.length)
    (hbody : ∀ (cdv : Value) (A : Around) (outer : List Env) (s : Shared) (H : Hp) (vs : List V) (Q : VK) (E : XK), Room k (A.deeper (envOfC qual (defScope st) s.heap.objs.size f cdv)) → sp vs H Q E →
      ∃ t, PSs (cxOf CX0 P w K mg base N qual (defScope st) f cdv A outer s H E).nox (defBody st) t ∧ t { nx := fun _ H' => Q .non H', rt := Q } (start N vs) H) : FnOk P w K mg base CX0 (k + 1) f fd ps sp := by
  obtain ⟨oc, od, kV, doc, pm, an, cdv, ct, osl, rfl, lk, hcd⟩ := F.ex
  refine fn_of lk hcd S len fun A outer s H vs Q E hr hsp => ?_
  obtain ⟨t, h, q⟩ := hbody cdv A outer s H vs Q E hr hsp
  exact ⟨t, h.nox, q⟩
theorem Fun.binds {x qual : Str} {st : Stmt} {f : Addr} {fd : FuncData} {ps : List Str} (F : Fun K x qual st f fd)
    (h : ∀ (kV doc pm : Value) (an : Option Addr) (cdv ct : Value) (us : List Value), us.length = ps.length → bindArgs (PySem.W.fnOf x qual (defArgs st) (defBody st) (defScope st) .none kV doc pm an cdv ct) ⟨us, []⟩ = pure (ps.zip us)) : Binds K fd ps [] := by
  obtain ⟨oc, od, kV, doc, pm, an, cdv, ct, osl, rfl, lk, hcd⟩ := F.ex
  exact .all (h kV doc pm an cdv ct)
theorem fun_mk {x qual : Str} {st : Stmt} {f : Addr} {oc : Value} {od an : Option Addr} {osl : Array (Option Value)} {kV doc pm cdv ct : Value} (l : K.lookup f = some ⟨oc, od, .func (PySem.W.fnOf x qual (defArgs st) (defBody st) (defScope st) .none kV doc pm an cdv ct), osl⟩)
    (c : PySem.W.codeIn K cdv qual = true) (k : PySem.W.keepIn K (.ref f) = true) : Fun K x qual st f (PySem.W.fnOf x qual (defArgs st) (defBody st) (defScope st) .none kV doc pm an cdv ct) := ⟨⟨oc, od, kV, doc, pm, an, cdv, ct, osl, rfl, l, c⟩, k⟩
end
section
variable {X : Cx}
theorem pv (i : Nat) {x : Str} {pos : Pos} (hN : X.N[i]? = some x := by rfl) (hv : Vis X.env.scope x := by first | exact Or.inl rfl | exact Or.inr (Or.inl rfl) | exact Or.inr (Or.inr rfl)) (hd : (x == ("__debug__" : Str)) = false := by decide)
    (hcd : (x == ("__classdict__" : Str)) = false := by decide) : PE X (.Name x pos) (tVar i) := pe_var hN hv hd hcd
end
theorem iteF {A B : Prop} (h : B) : if false = true then A else B := by
  rw [if_neg Bool.false_ne_true]
  exact h
theorem iteT {A B : Prop} (h : A) : if true = true then A else B := by
  rw [if_pos rfl]
  exact h
def Same (H H' : Hp) : Prop := ∀ b o, H b = some o → H' b = some o
theorem Same.refl (H : Hp) : Same H H := fun _ _ h => h
theorem Same.trans {H H1 H2 : Hp} (a : Same H H1) (b : Same H1 H2) : Same H H2 := fun c o h => b c o (a c o h)
theorem Same.free {H H' : Hp} (e : Same H H') {l : Addr} (h : H' l = Option.none) : H l = Option.none := by
  cases q : H l with
  | none => rfl
  | some o =>
    rw [e l o q] at h
    cases h
theorem Same.seq {K : PySem.W.Frag} {H H' : Hp} {a : Addr} {xs : List V} (e : Same H H') (h : SqL K H a xs) : SqL K H' a xs := by
  rcases h with (h | ⟨o, h⟩) | h
  · exact .inl (.inl (e _ _ h))
  · exact .inl (.inr ⟨o, e _ _ h⟩)
  · exact .inr h
section
variable {κ : Type} [DecidableEq κ]
theorem nd_snoc : ∀ {l : List κ} {k : κ}, l.Nodup → ¬ k ∈ l → (l ++ [k]).Nodup
  | [], k, _, _ => by simp
  | a :: r, k, h, hk => by
    obtain ⟨h1, h2⟩ := List.nodup_cons.mp h
    show (a :: (r ++ [k])).Nodup
    refine List.nodup_cons.mpr ⟨fun m => ?_, nd_snoc h2 fun m => hk (List.mem_cons.mpr (Or.inr m))⟩
    rcases List.mem_append.mp m with q | q
    · exact h1 q
    · exact hk (List.mem_cons.mpr (Or.inl (List.mem_singleton.mp q).symm))
end
theorem at_of {xs : List V} {z : Int} {j : Nat} {v : V} (e : z = (j : Int)) (h : xs[j]? = some v) : atI xs z = some v := by
  rw [e]
  exact atI_nat h
theorem nd_ix {α : Type} {l : List α} (hN : l.Nodup) {i j : Nat} {x : α} (a : l[i]? = some x) (b : l[j]? = some x) : i = j := by
  obtain ⟨h1, e1⟩ := List.getElem?_eq_some_iff.mp a
  obtain ⟨h2, e2⟩ := List.getElem?_eq_some_iff.mp b
  exact (List.getElem_inj hN).mp (e1.trans e2.symm)
theorem Same.made {H H1 : Hp} {x dx C : Addr} (nx : H x = Option.none) (nd : H dx = Option.none) (k : ∀ b o, (upd (upd H dx (.own x)) x (.ins C dx [])) b = some o → b ≠ x → H1 b = some o) : Same H H1 := fun b o e =>
  k b o (by rw [upd_ne (ne_of_none e nx), upd_ne (ne_of_none e nd)]; exact e) (ne_of_none e nx)
end L2

namespace My
theorem xor_half (a b : Nat) : (a ^^^ b) / 2 = (a / 2) ^^^ (b / 2) := Nat.xor_div_two_pow (n := 1)
theorem and_half (a b : Nat) : (a &&& b) / 2 = (a / 2) &&& (b / 2) := Nat.and_div_two_pow (n := 1)
theorem xor_low (a b : Nat) : (a ^^^ b) % 2 = (a % 2) ^^^ (b % 2) := Nat.xor_mod_two_pow (n := 1)
theorem and_low (a b : Nat) : (a &&& b) % 2 = (a % 2) &&& (b % 2) := Nat.and_mod_two_pow (n := 1)
theorem or_half (a b : Nat) : (a ||| b) / 2 = (a / 2) ||| (b / 2) := Nat.or_div_two_pow (n := 1)
theorem or_low (a b : Nat) : (a ||| b) % 2 = (a % 2) ||| (b % 2) := Nat.or_mod_two_pow (n := 1)
theorem xor_and : ∀ (a b : Nat), a + b = (a ^^^ b) + 2 * (a &&& b) := by
  intro a
  induction a using Nat.strongRecOn with
  | _ a ih =>
    intro b
    by_cases h0 : a = 0
    · subst h0; simp
    · have h := ih (a / 2) (by omega) (b / 2)
      rw [← xor_half, ← and_half] at h
      have l1 := xor_low a b
      have l2 := and_low a b
      rcases Nat.mod_two_eq_zero_or_one a with ha | ha <;> rcases Nat.mod_two_eq_zero_or_one b with hb | hb <;> rw [ha, hb] at l1 l2 <;> simp only [Nat.reduceXor, Nat.reduceAnd, Nat.reduceOr, Nat.xor_self, Nat.and_self, Nat.or_self, Nat.xor_zero, Nat.zero_xor, Nat.and_zero, Nat.zero_and, Nat.or_zero, Nat.zero_or] at l1 l2 <;> omega
theorem or_and : ∀ (a b : Nat), a + b = (a ||| b) + (a &&& b) := by
  intro a
  induction a using Nat.strongRecOn with
  | _ a ih =>
    intro b
    by_cases h0 : a = 0
    · subst h0; simp
    · have h := ih (a / 2) (by omega) (b / 2)
      rw [← or_half, ← and_half] at h
      have l1 := or_low a b
      have l2 := and_low a b
      rcases Nat.mod_two_eq_zero_or_one a with ha | ha <;> rcases Nat.mod_two_eq_zero_or_one b with hb | hb <;> rw [ha, hb] at l1 l2 <;> simp only [Nat.reduceXor, Nat.reduceAnd, Nat.reduceOr, Nat.xor_self, Nat.and_self, Nat.or_self, Nat.xor_zero, Nat.zero_xor, Nat.and_zero, Nat.zero_and, Nat.or_zero, Nat.zero_or] at l1 l2 <;> omega
end My

namespace My
def P : Nat := 0x82F63B78
def stp (c : Nat) : Nat := if c % 2 = 1 then Nat.xor (c / 2) 0x82F63B78 else c / 2
def sel (c : Nat) : Nat := if c % 2 = 1 then 0x82F63B78 else 0
theorem stp_eq (c : Nat) : stp c = (c / 2) ^^^ sel c := by
  unfold stp sel
  split
  · rfl
  · simp
theorem sel_xor (a b : Nat) : sel (a ^^^ b) = sel a ^^^ sel b := by
  have h : (a ^^^ b) % 2 = (a % 2) ^^^ (b % 2) := Nat.xor_mod_two_pow (n := 1)
  unfold sel
  rw [h]
  rcases Nat.mod_two_eq_zero_or_one a with ha | ha <;> rcases Nat.mod_two_eq_zero_or_one b with hb | hb <;> rw [ha, hb] <;> decide
theorem stp_xor (a b : Nat) : stp (a ^^^ b) = stp a ^^^ stp b := by
  rw [stp_eq, stp_eq, stp_eq, sel_xor]
  have h : (a ^^^ b) / 2 = (a / 2) ^^^ (b / 2) := Nat.xor_div_two_pow (n := 1)
  rw [h]
  rw [Nat.xor_assoc, Nat.xor_assoc]
  congr 1
  rw [← Nat.xor_assoc, ← Nat.xor_assoc, Nat.xor_comm (sel a)]
theorem stp_even (q : Nat) : stp (2 * q) = q := by
  unfold stp
  rw [if_neg (by omega)]
  omega
def stp4 (c : Nat) : Nat := stp (stp (stp (stp c)))
theorem stp4_xor (a b : Nat) : stp4 (a ^^^ b) = stp4 a ^^^ stp4 b := by
  unfold stp4
  rw [stp_xor, stp_xor, stp_xor, stp_xor]
theorem stp4_16 (q : Nat) : stp4 (16 * q) = q := by
  unfold stp4
  have h : 16 * q = 2 * (2 * (2 * (2 * q))) := by omega
  rw [h, stp_even, stp_even, stp_even, stp_even]
theorem split16 (x : Nat) : x = (16 * (x / 16)) ^^^ (x % 16) := by
  have h := Nat.two_pow_add_eq_or_of_lt (i := 4) (b := x % 16) (by omega) (x / 16)
  apply Nat.eq_of_testBit_eq
  intro i
  have e : x = 2 ^ 4 * (x / 16) + x % 16 := by omega
  rw [Nat.testBit_xor]
  conv => lhs; rw [e, h, Nat.testBit_or]
  show ((16 * (x / 16)).testBit i || (x % 16).testBit i) = _
  have : (16 * (x / 16)).testBit i = (decide (4 ≤ i) && (x / 16).testBit (i - 4)) := by
    rw [show 16 * (x / 16) = 2 ^ 4 * (x / 16) from rfl, Nat.testBit_two_pow_mul]
  rw [this]
  by_cases hi : 4 ≤ i
  · have : (x % 16).testBit i = false := Nat.testBit_lt_two_pow (Nat.lt_of_lt_of_le (show x % 16 < 2 ^ 4 by omega) (Nat.pow_le_pow_right (by decide) hi))
    simp [this]
  · simp [hi]
def tab : List Nat := [0, 274646895, 549293790, 820201905, 1098587580, 1361435347, 1640403810, 1905808397, 2197175160, 2460548119, 2722870694, 2987750089, 3280807620, 3553878443, 3811616794, 4084100981]
theorem tab_ok : ∀ r, r < 16 → stp4 r = tab.getD r 0 := by decide
theorem stp4_tab (x : Nat) : stp4 x = (x / 16) ^^^ tab.getD (x % 16) 0 := by
  conv => lhs; rw [split16 x]
  rw [stp4_xor, stp4_16, tab_ok _ (Nat.mod_lt _ (by decide))]
/-- the program's turn over naturals -/
def nib (x : Nat) : Nat := (x / 16) ^^^ tab.getD (x % 16) 0
def turn (c b : Nat) : Nat := nib (nib (c ^^^ b))
theorem turn_crc (c b : Nat) : turn c b = Sv13.crcByte c b := by
  unfold turn nib
  rw [← stp4_tab, ← stp4_tab]
  rfl
end My

set_option linter.all false
namespace My
open Sv13
/-! ### a block writer, as the program has it -/
structure BW where
  body : Bytes
  rs : List Nat
  n : Nat
  last : Bytes
def BW.new : BW := ⟨[], [0], 0, []⟩
def BW.sh (iv : Nat) (b : BW) (k : Bytes) : Nat := if b.n % iv ≠ 0 then common b.last k else 0
def BW.put (iv : Nat) (b : BW) (k v : Bytes) : BW :=
  ⟨b.body ++ varint (b.sh iv k) ++ varint (k.length - b.sh iv k) ++ varint v.length ++ k.drop (b.sh iv k) ++ v,
   if b.n % iv ≠ 0 then b.rs else if 0 < b.n then b.rs ++ [b.body.length] else b.rs, b.n + 1, k⟩
def BW.size (b : BW) : Nat := b.body.length + 4 * b.rs.length + 4
def BW.content (b : BW) : Bytes := b.body ++ b.rs.flatMap (little 4) ++ little 4 b.rs.length
def BW.bld (iv : Nat) (b : BW) : Building := ⟨b.body, b.rs, if b.n = 0 then 0 else (b.n - 1) % iv + 1, b.last⟩
theorem step_mod {n iv : Nat} (hi : 0 < iv) (hn : 0 < n) : n % iv = if (n - 1) % iv + 1 < iv then (n - 1) % iv + 1 else 0 := by
  have h1 := Nat.div_add_mod (n - 1) iv
  have h2 := Nat.mod_lt (n - 1) hi
  generalize (n - 1) % iv = r at *
  have e : n = (r + 1) + iv * ((n - 1) / iv) := by omega
  split
  · rename_i h
    rw [e, Nat.add_mul_mod_self_left, Nat.mod_eq_of_lt h]
  · rename_i h
    have : r + 1 = iv := by omega
    rw [e, Nat.add_mul_mod_self_left, this, Nat.mod_self]
theorem bld_put {iv : Nat} {b : BW} (hi : 0 < iv) (h0 : b.n = 0 → b.last = []) (k v : Bytes) : (b.put iv k v).bld iv = (b.bld iv).add iv k v := by
  by_cases hn : b.n = 0
  · have e1 : b.sh iv k = 0 := by simp [BW.sh, hn]
    have e2 : common b.last k = 0 := by rw [h0 hn]; rfl
    simp only [BW.put, BW.bld, Building.add, e1, hn]
    simp [hi, e2]
  · have hp : 0 < b.n := by omega
    have hm := step_mod hi hp
    simp only [BW.put, BW.bld, Building.add, BW.sh, if_neg hn]
    by_cases hg : (b.n - 1) % iv + 1 < iv
    · rw [if_pos hg] at hm
      simp [hm, hg]
    · rw [if_neg hg] at hm
      simp [hm, hg, hp]
theorem bld_new (iv : Nat) : BW.new.bld iv = {} := rfl
theorem bld_size (iv : Nat) (b : BW) : (b.bld iv).size = b.size := rfl
theorem bld_whole (iv : Nat) (b : BW) : (b.bld iv).whole = b.content := rfl
def BW.ok (b : BW) : Prop := b.n = 0 → b.last = []
theorem BW.ok_new : BW.new.ok := fun _ => rfl
theorem BW.ok_put (iv : Nat) (b : BW) (k v : Bytes) : (b.put iv k v).ok := fun h => absurd h (Nat.succ_ne_zero _)
theorem sevens_pos (f n : Nat) : 0 < (sevens (f + 1) n).length := by
  unfold sevens
  split <;> simp
theorem varint_pos (n : Nat) : 0 < (varint n).length := sevens_pos 9 n
theorem put_body_ne (iv : Nat) (b : BW) (k v : Bytes) : (b.put iv k v).body ≠ [] := by
  intro h
  have h2 := congrArg List.length h
  simp only [BW.put, List.length_append, List.length_nil] at h2
  have := varint_pos v.length
  omega
/-! ### data blocks -/
abbrev Blk := List Bytes × Bytes
structure DB where
  blocks : List Blk
  w : BW
  keys : List Bytes
def DB.new : DB := ⟨[], BW.new, []⟩
def DB.step (iv size : Nat) (s : DB) (e : Entry) : DB :=
  if size ≤ (s.w.put iv e.1 e.2).size then ⟨s.blocks ++ [(s.keys ++ [e.1], (s.w.put iv e.1 e.2).content)], BW.new, []⟩ else ⟨s.blocks, s.w.put iv e.1 e.2, s.keys ++ [e.1]⟩
def DB.fin (s : DB) : List Blk := if s.keys = [] then s.blocks else s.blocks ++ [(s.keys, s.w.content)]
def dataBlocks (iv size : Nat) (l : List Entry) : List Blk := (l.foldl (DB.step iv size) DB.new).fin
def outOf (bs : List Blk) : Bytes := bs.flatMap fun b => raw b.2
theorem outOf_snoc (bs : List Blk) (b : Blk) : outOf (bs ++ [b]) = outOf bs ++ raw b.2 := by simp [outOf]
theorem raw_length (c : Bytes) : (raw c).length = c.length + 5 := by simp [raw, little]
def lastOf (b : Blk) : Bytes := b.1.getLastD []
def firstOf (b : Blk) : Bytes := b.1.headD []
/-- the index's pairs, the key behind the last block's being next -/
def pairs (p : Nat) : List Blk → Bytes → List (Bytes × Bytes)
  | [], _ => []
  | [b], next => [(between (lastOf b) next, (Handle.mk p b.2.length).bytes)]
  | b :: c :: r, next => (between (lastOf b) (firstOf c), (Handle.mk p b.2.length).bytes) :: pairs (p + b.2.length + 5) (c :: r) next
theorem pairs_snoc : ∀ (bs : List Blk) (p : Nat) (b : Blk) (next : Bytes),
    pairs p (bs ++ [b]) next = pairs p bs (firstOf b) ++ [(between (lastOf b) next, (Handle.mk (p + (outOf bs).length) b.2.length).bytes)]
  | [], p, b, next => by simp [pairs, outOf]
  | [a], p, b, next => by simp [pairs, outOf, raw_length, Nat.add_assoc]
  | a :: c :: r, p, b, next => by
    have ih := pairs_snoc (c :: r) (p + a.2.length + 5) b next
    show (between (lastOf a) (firstOf c), (Handle.mk p a.2.length).bytes) :: pairs (p + a.2.length + 5) ((c :: r) ++ [b]) next = _
    rw [ih]
    have e : (outOf (a :: c :: r)).length = a.2.length + 5 + (outOf (c :: r)).length := by
      show (raw a.2 ++ outOf (c :: r)).length = _
      rw [List.length_append, raw_length]
    rw [e]
    simp only [pairs, List.cons_append, Nat.add_assoc]
def addAll (ps : List (Bytes × Bytes)) : Building := ps.foldl (fun ix p => ix.add 1 p.1 p.2) {}
theorem addAll_snoc (ps : List (Bytes × Bytes)) (p : Bytes × Bytes) : addAll (ps ++ [p]) = (addAll ps).add 1 p.1 p.2 := by simp [addAll]
/-! ### the filter -/
/-- the data blocks by where they begin -/
def begun (p : Nat) : List Blk → List (Nat × List Bytes)
  | [] => []
  | b :: r => (p, b.1) :: begun (p + b.2.length + 5) r
theorem begun_snoc : ∀ (bs : List Blk) (p : Nat) (b : Blk), begun p (bs ++ [b]) = begun p bs ++ [(p + (outOf bs).length, b.1)]
  | [], p, b => by simp [begun, outOf]
  | a :: r, p, b => by
    show (p, a.1) :: begun (p + a.2.length + 5) (r ++ [b]) = (p, a.1) :: begun (p + a.2.length + 5) r ++ _
    rw [begun_snoc r]
    have e : (outOf (a :: r)).length = a.2.length + 5 + (outOf r).length := by
      show (raw a.2 ++ outOf r).length = _
      rw [List.length_append, raw_length]
    rw [e, List.cons_append, Nat.add_assoc, Nat.add_assoc, Nat.add_assoc]
theorem begun_lt : ∀ (bs : List Blk) (p : Nat), ∀ x ∈ begun p bs, x.1 < p + (outOf bs).length
  | [], p, x, h => by simp [begun] at h
  | a :: r, p, x, h => by
    have e : (outOf (a :: r)).length = a.2.length + 5 + (outOf r).length := by
      show (raw a.2 ++ outOf r).length = _
      rw [List.length_append, raw_length]
    rcases List.mem_cons.mp (show x ∈ (p, a.1) :: begun (p + a.2.length + 5) r from h) with rfl | h
    · rw [e]; show p < _; omega
    · have := begun_lt r _ x h
      rw [e]; omega
def pieceKeys (bk : List (Nat × List Bytes)) (i : Nat) : List Bytes := bk.flatMap fun x => if x.1 / 2048 = i then x.2 else []
def pc (bits : Nat) (ks : List Bytes) : Bytes := if ks = [] then [] else filter bits ks
def res (bits : Nat) (bk : List (Nat × List Bytes)) (n : Nat) : Bytes := (List.range n).flatMap fun i => pc bits (pieceKeys bk i)
def offs (bits : Nat) (bk : List (Nat × List Bytes)) (n : Nat) : List Nat := (List.range n).map fun i => (res bits bk i).length
theorem res_succ (bits : Nat) (bk : List (Nat × List Bytes)) (n : Nat) : res bits bk (n + 1) = res bits bk n ++ pc bits (pieceKeys bk n) := by
  simp [res, List.range_succ]
theorem offs_succ (bits : Nat) (bk : List (Nat × List Bytes)) (n : Nat) : offs bits bk (n + 1) = offs bits bk n ++ [(res bits bk n).length] := by
  simp [offs, List.range_succ]
theorem pieceKeys_snoc (bk : List (Nat × List Bytes)) (p : Nat) (ks : List Bytes) (i : Nat) : pieceKeys (bk ++ [(p, ks)]) i = pieceKeys bk i ++ if p / 2048 = i then ks else [] := by
  simp [pieceKeys]
theorem pieceKeys_none {bk : List (Nat × List Bytes)} {i : Nat} (h : ∀ x ∈ bk, x.1 / 2048 ≠ i) : pieceKeys bk i = [] := by
  unfold pieceKeys
  rw [List.flatMap_eq_nil_iff]
  intro x hx
  rw [if_neg (h x hx)]
theorem res_snoc {bits : Nat} {bk : List (Nat × List Bytes)} {p : Nat} {ks : List Bytes} (n : Nat) (h : n ≤ p / 2048) : res bits (bk ++ [(p, ks)]) n = res bits bk n := by
  generalize hq : p / 2048 = q at h
  induction n with
  | zero => simp only [res, List.range_zero, List.flatMap_nil]
  | succ n ih =>
    have hne : ¬ p / 2048 = n := by omega
    rw [res_succ, res_succ, ih (by omega), pieceKeys_snoc, if_neg hne, List.append_nil]
theorem offs_snoc {bits : Nat} {bk : List (Nat × List Bytes)} {p : Nat} {ks : List Bytes} (n : Nat) (h : n ≤ p / 2048) : offs bits (bk ++ [(p, ks)]) n = offs bits bk n := by
  generalize hq : p / 2048 = q at h
  induction n with
  | zero => simp only [offs, List.range_zero, List.map_nil]
  | succ n ih => rw [offs_succ, offs_succ, ih (by omega), res_snoc n (by omega)]
def filtAt (bits : Nat) (bk : List (Nat × List Bytes)) (n : Nat) : Filters := ⟨res bits bk n, offs bits bk n, pieceKeys bk n⟩
theorem close_filtAt {bits : Nat} {bk : List (Nat × List Bytes)} {n : Nat} (h : ∀ x ∈ bk, x.1 / 2048 ≤ n) : (filtAt bits bk n).close bits = filtAt bits bk (n + 1) := by
  unfold filtAt Filters.close
  rw [res_succ, offs_succ, pieceKeys_none (i := n + 1) fun x hx => by have := h x hx; omega]
  simp only [pc]
  split <;> simp
theorem offs_length (bits : Nat) (bk : List (Nat × List Bytes)) (n : Nat) : (offs bits bk n).length = n := by simp [offs]
theorem closes_filtAt {bits : Nat} {bk : List (Nat × List Bytes)} {n : Nat} (h : ∀ x ∈ bk, x.1 / 2048 ≤ n) : ∀ k : Nat, (List.range k).foldl (fun f _ => f.close bits) (filtAt bits bk n) = filtAt bits bk (n + k)
  | 0 => rfl
  | k + 1 => by
    rw [List.range_succ, List.foldl_append, closes_filtAt h k]
    show (filtAt bits bk (n + k)).close bits = _
    rw [close_filtAt fun x hx => Nat.le_trans (h x hx) (Nat.le_add_right _ _)]
    rfl
theorem upTo_filtAt {bits : Nat} {bk : List (Nat × List Bytes)} {n m : Nat} (h : ∀ x ∈ bk, x.1 / 2048 ≤ n) (hm : n ≤ m / 2048) : (filtAt bits bk n).upTo bits m = filtAt bits bk (m / 2048) := by
  unfold Filters.upTo
  have e : (filtAt bits bk n).offsets.length = n := offs_length bits bk n
  rw [e, closes_filtAt h]
  congr 1
  omega
/-! ### the table -/
structure Opt where
  iv : Nat
  size : Nat
  bits : Nat
/-- what the specification's maker has, by the program's blocks -/
structure Rel (o : Options) (s : DB) (t : Making) : Prop where
  out : t.out = outOf s.blocks
  data : t.data = s.w.bld o.interval
  wok : s.w.ok
  emp : s.keys = [] → s.w = BW.new
  ful : s.keys ≠ [] → s.w.body ≠ []
  last : s.keys ≠ [] → t.last = s.keys.getLastD []
  open_ : s.keys ≠ [] → t.pending = none ∧ t.index = addAll (pairs 0 s.blocks (s.keys.headD []))
  shut : s.keys = [] → ∀ bs b, s.blocks = bs ++ [b] → t.pending = some ⟨(outOf bs).length, b.2.length⟩ ∧ t.index = addAll (pairs 0 bs (firstOf b)) ∧ t.last = lastOf b
  none_ : s.keys = [] → s.blocks = [] → t.pending = none ∧ t.index = {}
  filt : o.bits ≠ 0 → t.filters = ⟨res o.bits (begun 0 s.blocks) (t.out.length / 2048), offs o.bits (begun 0 s.blocks) (t.out.length / 2048), pieceKeys (begun 0 s.blocks) (t.out.length / 2048) ++ s.keys⟩
theorem rel_new (o : Options) : Rel o DB.new {} where
  out := rfl
  data := rfl
  wok := BW.ok_new
  emp := fun _ => rfl
  ful := fun h => absurd rfl h
  last := fun h => absurd rfl h
  open_ := fun h => absurd rfl h
  shut := fun _ bs b h => by simp [DB.new] at h
  none_ := fun _ _ => ⟨rfl, rfl⟩
  filt := fun _ => rfl
end My

set_option linter.all false
namespace My
open Sv13
/-- the spec's state ahead of its flush -/
def Making.add1 (o : Options) (t : Making) (e : Entry) : Making :=
  { t.indexed (between t.last e.1) with data := (t.indexed (between t.last e.1)).data.add o.interval e.1 e.2, last := e.1, filters := { (t.indexed (between t.last e.1)).filters with keys := if o.bits = 0 then [] else (t.indexed (between t.last e.1)).filters.keys ++ [e.1] } }
theorem add_eq (o : Options) (t : Making) (e : Entry) : Making.add o t e = if o.block ≤ (Making.add1 o t e).data.size then (Making.add1 o t e).flush o else Making.add1 o t e := rfl
theorem snoc_cases {α : Type} (l : List α) : l = [] ∨ ∃ r x, l = r ++ [x] := by
  rcases List.eq_nil_or_concat l with h | ⟨r, x, h⟩
  · exact .inl h
  · exact .inr ⟨r, x, by simpa using h⟩
theorem headD_snoc {α : Type} {l : List α} {x d : α} (h : l ≠ []) : (l ++ [x]).headD d = l.headD d := by
  cases l with
  | nil => exact absurd rfl h
  | cons a r => rfl
theorem indexed_fields (t : Making) (k : Bytes) : (t.indexed k).out = t.out ∧ (t.indexed k).data = t.data ∧ (t.indexed k).filters = t.filters ∧ (t.indexed k).last = t.last ∧ (t.indexed k).pending = none := by
  unfold Making.indexed
  cases h : t.pending with
  | none => simp [h]
  | some x => simp
/-- the state with an entry put in, whether or not it is full -/
def DB.open (iv : Nat) (s : DB) (e : Entry) : DB := ⟨s.blocks, s.w.put iv e.1 e.2, s.keys ++ [e.1]⟩
theorem rel_open {o : Options} {s : DB} {t : Making} (hi : 0 < o.interval) (r : Rel o s t) (e : Entry) : Rel o (s.open o.interval e) (Making.add1 o t e) := by
  obtain ⟨i1, i2, i3, i4, i5⟩ := indexed_fields t (between t.last e.1)
  have hne : s.keys ++ [e.1] ≠ [] := by simp
  refine ⟨?_, ?_, BW.ok_put _ _ _ _, fun h => absurd h hne, fun _ => put_body_ne _ _ _ _, fun _ => ?_, fun _ => ⟨i5, ?_⟩, fun h => absurd h hne, fun h => absurd h hne, fun hb => ?_⟩
  · show (t.indexed _).out = _
    rw [i1, r.out]; rfl
  · show (t.indexed _).data.add o.interval e.1 e.2 = _
    rw [i2, r.data, ← bld_put hi r.wok]; rfl
  · show e.1 = (s.keys ++ [e.1]).getLastD []
    simp
  · show (t.indexed (between t.last e.1)).index = addAll (pairs 0 s.blocks ((s.keys ++ [e.1]).headD []))
    by_cases hk : s.keys = []
    · rw [hk]
      show _ = addAll (pairs 0 s.blocks e.1)
      rcases snoc_cases s.blocks with hb | ⟨bs, b, hb⟩
      · obtain ⟨p1, p2⟩ := r.none_ hk hb
        unfold Making.indexed
        rw [p1, hb]
        simp only [p2, pairs]
        rfl
      · obtain ⟨p1, p2, p3⟩ := r.shut hk bs b hb
        unfold Making.indexed
        rw [p1, hb, pairs_snoc, addAll_snoc]
        simp only [p2, p3, Nat.zero_add]
    · obtain ⟨p1, p2⟩ := r.open_ hk
      unfold Making.indexed
      rw [p1, headD_snoc hk]
      exact p2
  · have hf := r.filt hb
    show ({ (t.indexed (between t.last e.1)).filters with keys := if o.bits = 0 then [] else (t.indexed (between t.last e.1)).filters.keys ++ [e.1] } : Filters) = _
    rw [i3, if_neg hb, hf]
    show _ = (⟨res o.bits (begun 0 s.blocks) ((t.indexed (between t.last e.1)).out.length / 2048), offs o.bits (begun 0 s.blocks) ((t.indexed (between t.last e.1)).out.length / 2048), pieceKeys (begun 0 s.blocks) ((t.indexed (between t.last e.1)).out.length / 2048) ++ (s.keys ++ [e.1])⟩ : Filters)
    rw [i1]
    simp only [List.append_assoc]
def DB.shut (s : DB) : DB := ⟨s.blocks ++ [(s.keys, s.w.content)], BW.new, []⟩
theorem rel_flush {o : Options} {s : DB} {t : Making} (r : Rel o s t) (hk : s.keys ≠ []) : Rel o s.shut (t.flush o) := by
  have hb : t.data.buf ≠ [] := by rw [r.data]; exact r.ful hk
  have hfl : t.flush o = { t with out := (put t.out t.data.whole).1, pending := some (put t.out t.data.whole).2, data := {}, filters := t.filters.upTo o.bits (put t.out t.data.whole).1.length } := by
    unfold Making.flush
    rw [if_neg hb]
  have hw : t.data.whole = s.w.content := by rw [r.data]; rfl
  have ho : (put t.out t.data.whole).1 = outOf (s.blocks ++ [(s.keys, s.w.content)]) := by
    rw [outOf_snoc, hw, r.out]; rfl
  rw [hfl]
  refine ⟨ho, rfl, BW.ok_new, fun _ => rfl, fun h => absurd rfl h, fun h => absurd rfl h, fun h => absurd rfl h, fun _ bs b hbs => ?_, fun _ h => ?_, fun hbits => ?_⟩
  · have hbs : s.blocks ++ [(s.keys, s.w.content)] = bs ++ [b] := hbs
    obtain ⟨e1, e2⟩ := List.append_inj' hbs rfl
    have e2 : (s.keys, s.w.content) = b := by simpa using e2
    subst e2
    subst e1
    obtain ⟨p1, p2⟩ := r.open_ hk
    refine ⟨?_, p2, r.last hk⟩
    show some (Handle.mk t.out.length t.data.whole.length) = _
    rw [hw, r.out]
  · have h : s.blocks ++ [(s.keys, s.w.content)] = [] := h
    simp at h
  · have hf := r.filt hbits
    show t.filters.upTo o.bits (put t.out t.data.whole).1.length = (⟨res o.bits (begun 0 (s.blocks ++ [(s.keys, s.w.content)])) ((put t.out t.data.whole).1.length / 2048), offs o.bits (begun 0 (s.blocks ++ [(s.keys, s.w.content)])) ((put t.out t.data.whole).1.length / 2048), pieceKeys (begun 0 (s.blocks ++ [(s.keys, s.w.content)])) ((put t.out t.data.whole).1.length / 2048) ++ []⟩ : Filters)
    rw [List.append_nil]
    have hb2 : begun 0 (s.blocks ++ [(s.keys, s.w.content)]) = begun 0 s.blocks ++ [(t.out.length, s.keys)] := by
      rw [begun_snoc, r.out, Nat.zero_add]
    have hlt := begun_lt s.blocks 0
    rw [Nat.zero_add, ← r.out] at hlt
    have hf2 : t.filters = filtAt o.bits (begun 0 (s.blocks ++ [(s.keys, s.w.content)])) (t.out.length / 2048) := by
      rw [hf, hb2]
      unfold filtAt
      rw [res_snoc _ (Nat.le_refl _), offs_snoc _ (Nat.le_refl _), pieceKeys_snoc, if_pos rfl]
    have hlen : t.out.length ≤ (put t.out t.data.whole).1.length := by
      show _ ≤ (t.out ++ raw t.data.whole).length
      rw [List.length_append]; omega
    rw [hf2, upTo_filtAt (fun x hx => ?_) (Nat.div_le_div_right hlen)]
    · rfl
    · rw [hb2] at hx
      rcases List.mem_append.mp hx with hx | hx
      · exact Nat.div_le_div_right (Nat.le_of_lt (hlt x hx))
      · have : x = (t.out.length, s.keys) := by simpa using hx
        rw [this]
        exact Nat.le_refl _
theorem rel_step {o : Options} {s : DB} {t : Making} (hi : 0 < o.interval) (r : Rel o s t) (e : Entry) : Rel o (s.step o.interval o.block e) (Making.add o t e) := by
  have h1 := rel_open hi r e
  rw [add_eq]
  have hs : (Making.add1 o t e).data.size = (s.w.put o.interval e.1 e.2).size := by rw [h1.data]; rfl
  unfold DB.step
  rw [hs]
  by_cases hc : o.block ≤ (s.w.put o.interval e.1 e.2).size
  · rw [if_pos hc, if_pos hc]
    exact rel_flush h1 (by show s.keys ++ [e.1] ≠ []; simp)
  · rw [if_neg hc, if_neg hc]
    exact h1
theorem rel_all {o : Options} (hi : 0 < o.interval) : ∀ (l : List Entry) (s : DB) (t : Making), Rel o s t → Rel o (l.foldl (DB.step o.interval o.block) s) (l.foldl (Making.add o) t)
  | [], s, t, r => r
  | e :: l, s, t, r => rel_all hi l _ _ (rel_step hi r e)
/-! ### the table as the program makes it -/
def piecesN (bs : List Blk) : Nat := (outOf bs).length / 2048 + if (begun 0 bs).any (fun x => x.1 / 2048 == (outOf bs).length / 2048) then 1 else 0
def filterOf (bits : Nat) (bk : List (Nat × List Bytes)) (n : Nat) : Bytes := res bits bk n ++ (offs bits bk n ++ [(res bits bk n).length]).flatMap (little 4) ++ [11]
def idxPairs (bs : List Blk) : List (Bytes × Bytes) := match bs.getLast? with
  | some b => pairs 0 bs.dropLast (firstOf b) ++ [(behind (lastOf b), (Handle.mk (outOf bs.dropLast).length b.2.length).bytes)]
  | none => []
def idxContent (ps : List (Bytes × Bytes)) : Bytes := (ps.foldl (fun w p => w.put 1 p.1 p.2) BW.new).content
def metaContent (iv : Nat) : Option Handle → Bytes
  | some h => (BW.new.put iv NAME h.bytes).content
  | none => BW.new.content
def tableM (iv size bits : Nat) (l : List Entry) : Bytes :=
  let bs := dataBlocks iv size l
  let f := if bits = 0 then (outOf bs, none) else let x := put (outOf bs) (filterOf bits (begun 0 bs) (piecesN bs)); (x.1, some x.2)
  let m := put f.1 (metaContent iv f.2)
  let x := put m.1 (idxContent (idxPairs bs))
  x.1 ++ footer m.2 x.2
theorem addAll_bw : ∀ (ps : List (Bytes × Bytes)) (w : BW), w.ok → (ps.foldl (fun w p => w.put 1 p.1 p.2) w).bld 1 = ps.foldl (fun ix p => ix.add 1 p.1 p.2) (w.bld 1)
  | [], w, _ => rfl
  | p :: r, w, h => by
    rw [List.foldl_cons, List.foldl_cons, addAll_bw r _ (BW.ok_put _ _ _ _), bld_put (by decide) h]
theorem idx_whole (ps : List (Bytes × Bytes)) : (addAll ps).whole = idxContent ps := by
  unfold addAll idxContent
  rw [← bld_whole 1, addAll_bw ps BW.new BW.ok_new]
  rfl
theorem meta_none (iv : Nat) : ({} : Building).whole = metaContent iv none := rfl
theorem meta_some {iv : Nat} (hi : 0 < iv) (h : Handle) : (({} : Building).add iv NAME h.bytes).whole = metaContent iv (some h) := by
  show (({} : Building).add iv NAME h.bytes).whole = (BW.new.put iv NAME h.bytes).content
  rw [← bld_whole iv, bld_put hi BW.ok_new]
  rfl
/-- the maker behind its last flush, by the blocks -/
theorem rel_fin {o : Options} {s : DB} {t : Making} (r : Rel o s t) : ∃ s' : DB, s'.blocks = s.fin ∧ s'.keys = [] ∧ Rel o s' (t.flush o) := by
  by_cases hk : s.keys = []
  · refine ⟨s, by simp [DB.fin, hk], hk, ?_⟩
    have hb : t.data.buf = [] := by rw [r.data, r.emp hk]; rfl
    unfold Making.flush
    rw [if_pos hb]
    exact r
  · exact ⟨s.shut, by simp [DB.fin, hk, DB.shut], rfl, rel_flush r hk⟩
theorem blk_keys_step {iv size : Nat} {s : DB} {e : Entry} (h : ∀ b ∈ s.blocks, b.1 ≠ []) : ∀ b ∈ (s.step iv size e).blocks, b.1 ≠ [] := by
  unfold DB.step
  intro b hb
  split at hb
  · rcases List.mem_append.mp hb with hb | hb
    · exact h b hb
    · have : b = (s.keys ++ [e.1], (s.w.put iv e.1 e.2).content) := by simpa using hb
      rw [this]
      simp
  · exact h b hb
theorem blk_keys : ∀ {iv size : Nat} (l : List Entry) (s : DB), (∀ b ∈ s.blocks, b.1 ≠ []) → ∀ b ∈ (l.foldl (DB.step iv size) s).blocks, b.1 ≠ []
  | _, _, [], s, h => h
  | _, _, e :: l, s, h => blk_keys l _ (blk_keys_step h)
theorem fin_keys {s : DB} (h : ∀ b ∈ s.blocks, b.1 ≠ []) : ∀ b ∈ s.fin, b.1 ≠ [] := by
  unfold DB.fin
  intro b hb
  split at hb
  · exact h b hb
  · rename_i hk
    rcases List.mem_append.mp hb with hb | hb
    · exact h b hb
    · have : b = (s.keys, s.w.content) := by simpa using hb
      rw [this]
      exact hk
theorem begun_mem : ∀ (bs : List Blk) (p : Nat) (x : Nat × List Bytes), x ∈ begun p bs → ∃ b ∈ bs, b.1 = x.2
  | [], p, x, h => by simp [begun] at h
  | a :: r, p, x, h => by
    rcases List.mem_cons.mp (show x ∈ (p, a.1) :: begun (p + a.2.length + 5) r from h) with rfl | h
    · exact ⟨a, List.mem_cons_self, rfl⟩
    · obtain ⟨b, hb, e⟩ := begun_mem r _ x h
      exact ⟨b, List.mem_cons_of_mem _ hb, e⟩
theorem whole_filterOf {bits : Nat} {bs : List Blk} (hk : ∀ b ∈ bs, b.1 ≠ []) : Filters.whole (filtAt bits (begun 0 bs) ((outOf bs).length / 2048)) bits = filterOf bits (begun 0 bs) (piecesN bs) := by
  generalize hn : (outOf bs).length / 2048 = n
  have hle : ∀ x ∈ begun 0 bs, x.1 / 2048 ≤ n := fun x hx => by
    have := begun_lt bs 0 x hx
    rw [← hn]
    exact Nat.div_le_div_right (by omega)
  have hfin : ∀ m, (filtAt bits (begun 0 bs) m).result ++ (filtAt bits (begun 0 bs) m).offsets.flatMap (little 4) ++ little 4 (filtAt bits (begun 0 bs) m).result.length ++ [11] = filterOf bits (begun 0 bs) m := fun m => by
    show res bits (begun 0 bs) m ++ (offs bits (begun 0 bs) m).flatMap (little 4) ++ little 4 (res bits (begun 0 bs) m).length ++ [11] = res bits (begun 0 bs) m ++ (offs bits (begun 0 bs) m ++ [(res bits (begun 0 bs) m).length]).flatMap (little 4) ++ [11]
    rw [List.flatMap_append]
    simp only [List.flatMap_cons, List.flatMap_nil, List.append_nil, List.append_assoc]
  have hany : (pieceKeys (begun 0 bs) n = []) ↔ (begun 0 bs).any (fun x => x.1 / 2048 == n) = false := by
    rw [List.any_eq_false]
    unfold pieceKeys
    rw [List.flatMap_eq_nil_iff]
    constructor
    · intro h x hx he
      have h1 := h x hx
      have he : x.1 / 2048 = n := by simpa using he
      rw [if_pos he] at h1
      obtain ⟨b, hb, e⟩ := begun_mem bs 0 x hx
      exact hk b hb (e.trans h1)
    · intro h x hx
      have h1 := h x hx
      rw [if_neg (by simpa using h1)]
  unfold Filters.whole piecesN
  rw [hn]
  by_cases he : pieceKeys (begun 0 bs) n = []
  · rw [hany.mp he]
    show (if (filtAt bits (begun 0 bs) n).keys = [] then (filtAt bits (begun 0 bs) n) else (filtAt bits (begun 0 bs) n).close bits).result ++ (if (filtAt bits (begun 0 bs) n).keys = [] then (filtAt bits (begun 0 bs) n) else (filtAt bits (begun 0 bs) n).close bits).offsets.flatMap (little 4) ++ little 4 (if (filtAt bits (begun 0 bs) n).keys = [] then (filtAt bits (begun 0 bs) n) else (filtAt bits (begun 0 bs) n).close bits).result.length ++ [11] = _
    have he' : (filtAt bits (begun 0 bs) n).keys = [] := he
    rw [if_pos he', hfin]
    simp
  · have hany' : (begun 0 bs).any (fun x => x.1 / 2048 == n) = true := by
      cases q : (begun 0 bs).any (fun x => x.1 / 2048 == n) with
      | true => rfl
      | false => exact absurd (hany.mpr q) he
    rw [hany']
    show (if (filtAt bits (begun 0 bs) n).keys = [] then (filtAt bits (begun 0 bs) n) else (filtAt bits (begun 0 bs) n).close bits).result ++ (if (filtAt bits (begun 0 bs) n).keys = [] then (filtAt bits (begun 0 bs) n) else (filtAt bits (begun 0 bs) n).close bits).offsets.flatMap (little 4) ++ little 4 (if (filtAt bits (begun 0 bs) n).keys = [] then (filtAt bits (begun 0 bs) n) else (filtAt bits (begun 0 bs) n).close bits).result.length ++ [11] = _
    have he' : ¬ (filtAt bits (begun 0 bs) n).keys = [] := he
    rw [if_neg he', close_filtAt hle, hfin]
    simp
theorem make_eq {o : Options} (hi : 0 < o.interval) (l : List Entry) : Sv13.make o l = tableM o.interval o.block o.bits l := by
  obtain ⟨s', hb, hk, r⟩ := rel_fin (rel_all hi l DB.new {} (rel_new o))
  have hks : ∀ b ∈ s'.blocks, b.1 ≠ [] := by
    rw [hb]
    exact fin_keys (blk_keys l DB.new fun b h => by simp [DB.new] at h)
  have hbl : s'.blocks = dataBlocks o.interval o.block l := hb
  have hidx : ((((l.foldl (Making.add o) {}).flush o).indexed (behind ((l.foldl (Making.add o) {}).flush o).last)).index).whole = idxContent (idxPairs s'.blocks) := by
    generalize (l.foldl (Making.add o) {}).flush o = t at r
    rcases snoc_cases s'.blocks with h0 | ⟨bs, b, h0⟩
    · obtain ⟨p1, p2⟩ := r.none_ hk h0
      unfold Making.indexed
      rw [p1, h0]
      simp only [p2]
      rfl
    · obtain ⟨p1, p2, p3⟩ := r.shut hk bs b h0
      unfold Making.indexed
      rw [p1, h0]
      simp only [p2, p3]
      have e : idxPairs (bs ++ [b]) = pairs 0 bs (firstOf b) ++ [(behind (lastOf b), (Handle.mk (outOf bs).length b.2.length).bytes)] := by
        simp [idxPairs]
      rw [e, ← idx_whole, addAll_snoc]
  have hout := r.out
  have hflt : o.bits ≠ 0 → ((l.foldl (Making.add o) {}).flush o).filters.whole o.bits = filterOf o.bits (begun 0 s'.blocks) (piecesN s'.blocks) := fun hz => by
    rw [← whole_filterOf hks, r.filt hz, hk, List.append_nil, hout]
    rfl
  unfold Sv13.make tableM
  rw [← hbl]
  simp only [hidx, hout]
  by_cases hz : o.bits = 0
  · simp only [if_pos hz, meta_none o.interval]
  · simp only [if_neg hz, hflt hz, meta_some hi]
end My

set_option linter.all false
namespace My
open Sv13
/-! ### numbers in bytes -/
theorem little_succ (k n : Nat) : little (k + 1) n = little k n ++ [n / 256 ^ k % 256] := by
  simp [little, List.range_succ]
theorem little_zero (n : Nat) : little 0 n = [] := rfl
theorem little_length (k n : Nat) : (little k n).length = k := by simp [little]
theorem little_byte {k n : Nat} : ∀ x ∈ little k n, x < 256 := by
  intro x h
  simp only [little, List.mem_map] at h
  obtain ⟨i, _, rfl⟩ := h
  exact Nat.mod_lt _ (by decide)
theorem div_pow_succ (n k : Nat) : n / 256 ^ (k + 1) = n / 256 ^ k / 256 := by
  rw [Nat.pow_succ, Nat.div_div_eq_div_mul]
/-- what a varint's loop has: the bytes so far, the rest -/
def Sev (n : Nat) (done : Bytes) (rest : Nat) : Prop := ∃ f, sevens 10 n = done ++ sevens (f + 1) rest ∧ rest < 128 ^ (f + 1)
theorem sev_start {n : Nat} (h : n < 128 ^ 10) : Sev n [] n := ⟨9, rfl, h⟩
theorem sev_step {n : Nat} {done : Bytes} {rest : Nat} (h : Sev n done rest) (hr : 127 < rest) : Sev n (done ++ [128 + rest % 128]) (rest / 128) := by
  obtain ⟨f, e, hl⟩ := h
  cases f with
  | zero => simp at hl; omega
  | succ f =>
    refine ⟨f, ?_, ?_⟩
    · rw [e]
      have : sevens (f + 1 + 1) rest = (rest % 128 + 128) :: sevens (f + 1) (rest / 128) := by
        conv => lhs; unfold sevens
        rw [if_neg (by omega)]
      rw [this, Nat.add_comm (rest % 128)]
      simp
    · rw [Nat.pow_succ] at hl
      exact Nat.div_lt_of_lt_mul (by rw [Nat.mul_comm]; exact hl)
theorem sev_end {n : Nat} {done : Bytes} {rest : Nat} (h : Sev n done rest) (hr : rest ≤ 127) : varint n = done ++ [rest] := by
  obtain ⟨f, e, hl⟩ := h
  unfold varint
  rw [e]
  have : sevens (f + 1) rest = [rest] := by
    unfold sevens
    rw [if_pos (by omega)]
  rw [this]
theorem sevens_length : ∀ (f n : Nat), (sevens f n).length ≤ f
  | 0, n => by simp [sevens]
  | f + 1, n => by
    unfold sevens
    split
    · simp
    · simp only [List.length_cons]
      have := sevens_length f (n / 128)
      omega
theorem varint_length (n : Nat) : (varint n).length ≤ 10 := sevens_length 10 n
theorem sevens_byte : ∀ (f n : Nat), ∀ x ∈ sevens f n, x < 256
  | 0, n, x, h => by simp [sevens] at h
  | f + 1, n, x, h => by
    unfold sevens at h
    split at h
    · have : x = n := by simpa using h
      omega
    · rcases List.mem_cons.mp h with h | h
      · omega
      · exact sevens_byte f _ x h
theorem varint_byte (n : Nat) : ∀ x ∈ varint n, x < 256 := sevens_byte 10 n
/-- a number of bytes, place by place -/
theorem ofLittle_append (a b : Bytes) : ofLittle (a ++ b) = ofLittle a + 256 ^ a.length * ofLittle b := by
  induction a with
  | nil => simp [ofLittle]
  | cons x r ih =>
    have e : ofLittle (x :: r ++ b) = x % 256 + 256 * ofLittle (r ++ b) := rfl
    have e2 : ofLittle (x :: r) = x % 256 + 256 * ofLittle r := rfl
    rw [e, ih, e2, List.length_cons, Nat.pow_succ]
    generalize ofLittle r = p
    generalize ofLittle b = q
    generalize 256 ^ r.length = z
    rw [Nat.mul_add, Nat.mul_comm z 256, Nat.mul_assoc]
    omega
theorem ofLittle_one {x : Nat} (h : x < 256) : ofLittle [x] = x := by
  show x % 256 + 256 * 0 = x
  omega
theorem slice_succ {b : Bytes} {i n x : Nat} (h : b[i + n]? = some x) : slice b i (n + 1) = slice b i n ++ [x] := by
  unfold slice
  rw [List.take_succ, List.getElem?_drop, h]
  rfl
theorem slice_length {b : Bytes} {i n : Nat} (h : i + n ≤ b.length) : (slice b i n).length = n := by
  unfold slice
  rw [List.length_take, List.length_drop]
  omega
theorem ofLittle_slice {b : Bytes} {i n x : Nat} (h : b[i + n]? = some x) (hx : x < 256) : ofLittle (slice b i (n + 1)) = ofLittle (slice b i n) + x * 256 ^ n := by
  have hl : i + n < b.length := (List.getElem?_eq_some_iff.mp h).1
  rw [slice_succ h, ofLittle_append, ofLittle_one hx, slice_length (by omega), Nat.mul_comm]
theorem ofLittle_lt : ∀ (b : Bytes), ofLittle b < 256 ^ b.length
  | [] => by simp [ofLittle]
  | x :: r => by
    have e2 : ofLittle (x :: r) = x % 256 + 256 * ofLittle r := rfl
    have := ofLittle_lt r
    rw [e2, List.length_cons, Nat.pow_succ]
    have := Nat.mod_lt x (show 0 < 256 by decide)
    omega
theorem ofLittle4 {a b c d : Nat} (ha : a < 256) (hb : b < 256) (hc : c < 256) (hd : d < 256) : ofLittle [a, b, c, d] = a + 2 ^ 8 * b + 2 ^ 16 * c + 2 ^ 24 * d := by
  show a % 256 + 256 * (b % 256 + 256 * (c % 256 + 256 * (d % 256 + 256 * 0))) = _
  omega
/-! ### bits of words -/
theorem or_split {a b k : Nat} (ha : a < 2 ^ k) : a ||| (b * 2 ^ k) = a + b * 2 ^ k := by
  have h := Nat.two_pow_add_eq_or_of_lt ha b
  rw [Nat.or_comm, Nat.mul_comm b, ← h, Nat.add_comm]
theorem turn_or {c k : Nat} {m : Nat} (hc : c < 2 ^ 32) (hk : k ≤ 32) (e : m = 2 ^ (32 - k)) : (c / 2 ^ k) ||| (c * m % 2 ^ 32) = c / 2 ^ k + c * m % 2 ^ 32 := by
  subst e
  have h32 : 2 ^ 32 = 2 ^ (32 - k) * 2 ^ k := by rw [← Nat.pow_add]; congr 1; omega
  have e1 : c * 2 ^ (32 - k) % 2 ^ 32 = (c % 2 ^ k) * 2 ^ (32 - k) := by
    rw [h32, Nat.mul_comm (2 ^ (32 - k)) (2 ^ k), Nat.mul_mod_mul_right]
  rw [e1]
  refine or_split ?_
  rw [Nat.div_lt_iff_lt_mul (Nat.two_pow_pos k), ← h32]
  exact hc
/-! ### the hash -/
theorem word_lt (n : Nat) : word n < 2 ^ 32 := Nat.mod_lt _ (by decide)
theorem xor_lt {a b : Nat} (ha : a < 2 ^ 32) (hb : b < 2 ^ 32) : Nat.xor a b < 2 ^ 32 := Nat.xor_lt_two_pow ha hb
theorem mixed_lt (h w : Nat) : mixed h w < 2 ^ 32 := xor_lt (word_lt _) (Nat.lt_of_le_of_lt (Nat.div_le_self _ _) (word_lt _))
theorem hash_step {h : Nat} {k : Bytes} (hb : ∀ x ∈ k, x < 256) (hl : 4 ≤ k.length) : hashFrom h k = hashFrom (mixed h (ofLittle (k.take 4))) (k.drop 4) := by
  match k, hl with
  | a :: b :: c :: d :: r, _ =>
    have ha := hb a (by simp)
    have hb' := hb b (by simp)
    have hc := hb c (by simp)
    have hd := hb d (by simp)
    show hashFrom (mixed h (a + 2 ^ 8 * b + 2 ^ 16 * c + 2 ^ 24 * d)) r = hashFrom (mixed h (ofLittle [a, b, c, d])) r
    rw [ofLittle4 ha hb' hc hd]
theorem hash_over {h : Nat} {k : Bytes} (h0 : 0 < k.length) (h4 : k.length < 4) : hashFrom h k = Nat.xor (word ((h + ofLittle k) * 0xC6A4A793)) (word ((h + ofLittle k) * 0xC6A4A793) / 2 ^ 24) := by
  match k, h0, h4 with
  | [a], _, _ => rfl
  | [a, b], _, _ => rfl
  | [a, b, c], _, _ => rfl
/-- the loop by fours: what's left to do -/
def HashAt (k : Bytes) (j h : Nat) : Prop := Sv13.hash k = hashFrom h (k.drop (4 * j)) ∧ h < 2 ^ 32
theorem hashAt_start (k : Bytes) : HashAt k 0 (Nat.xor 0xBC9F1D34 (word (k.length * 0xC6A4A793))) := ⟨rfl, xor_lt (by decide) (word_lt _)⟩
theorem hashAt_step {k : Bytes} {j h : Nat} (hb : ∀ x ∈ k, x < 256) (hl : 4 * j + 4 ≤ k.length) (q : HashAt k j h) : HashAt k (j + 1) (mixed h (ofLittle (slice k (4 * j) 4))) := by
  refine ⟨?_, mixed_lt _ _⟩
  rw [q.1, hash_step (fun x hx => hb x (List.mem_of_mem_drop hx)) (by rw [List.length_drop]; omega), List.drop_drop]
  rfl
theorem hashAt_end0 {k : Bytes} {j h : Nat} (hl : k.length ≤ 4 * j) (q : HashAt k j h) : Sv13.hash k = h := by
  rw [q.1, List.drop_eq_nil_of_le hl]
  rfl
theorem hashAt_end {k : Bytes} {j h : Nat} (h0 : 4 * j < k.length) (h4 : k.length < 4 * j + 4) (q : HashAt k j h) :
    Sv13.hash k = Nat.xor (word ((h + ofLittle (slice k (4 * j) (k.length - 4 * j))) * 0xC6A4A793)) (word ((h + ofLittle (slice k (4 * j) (k.length - 4 * j))) * 0xC6A4A793) / 2 ^ 24) := by
  have e : slice k (4 * j) (k.length - 4 * j) = k.drop (4 * j) := by
    unfold slice
    rw [List.take_of_length_le (by rw [List.length_drop]; omega)]
  rw [q.1, hash_over (by rw [List.length_drop]; omega) (by rw [List.length_drop]; omega), e]
theorem hash_lt {k : Bytes} (hb : ∀ x ∈ k, x < 256) : Sv13.hash k < 2 ^ 32 := by
  have go : ∀ n j h, k.length - 4 * j ≤ n → HashAt k j h → Sv13.hash k < 2 ^ 32 := by
    intro n
    induction n with
    | zero => intro j h hl q; rw [hashAt_end0 (by omega) q]; exact q.2
    | succ n ih =>
      intro j h hl q
      by_cases h4 : 4 * j + 4 ≤ k.length
      · exact ih (j + 1) _ (by omega) (hashAt_step hb h4 q)
      · by_cases h0 : 4 * j < k.length
        · rw [hashAt_end h0 (by omega) q]
          exact xor_lt (word_lt _) (Nat.lt_of_le_of_lt (Nat.div_le_self _ _) (word_lt _))
        · rw [hashAt_end0 (by omega) q]; exact q.2
  exact go _ 0 _ (Nat.le_refl _) (hashAt_start k)
/-! ### marks -/
def stride (h : Nat) : Nat := word (h / 2 ^ 17 + h * 2 ^ 15)
theorem stride_eq {h : Nat} (hl : h < 2 ^ 32) : (h / 2 ^ 17) ||| (h * 2 ^ 15 % 2 ^ 32) = stride h := by
  rw [turn_or hl (by decide) (by rfl)]
  unfold stride word
  have h1 : h * 2 ^ 15 % 2 ^ 32 = (h % 2 ^ 17) * 2 ^ 15 := by
    rw [show (2 : Nat) ^ 32 = 2 ^ 17 * 2 ^ 15 from rfl, Nat.mul_mod_mul_right]
  have h2 : h / 2 ^ 17 < 2 ^ 15 := by omega
  have h3 : h % 2 ^ 17 < 2 ^ 17 := Nat.mod_lt _ (by decide)
  omega
def markAt (h j n : Nat) : Nat := word (h + j * stride h) % n
theorem marks_eq (k n : Nat) (key : Bytes) : marks k n key = (List.range k).map fun j => markAt (Sv13.hash key) j n := rfl
theorem marks_succ (k n : Nat) (key : Bytes) : marks (k + 1) n key = marks k n key ++ [markAt (Sv13.hash key) k n] := by
  rw [marks_eq, marks_eq, List.range_succ, List.map_append]
  rfl
theorem marks_length (k n : Nat) (key : Bytes) : (marks k n key).length = k := by
  rw [marks_eq, List.length_map, List.length_range]
theorem word_step (h j d : Nat) : (word (h + j * d) + d) % 2 ^ 32 = word (h + (j + 1) * d) := by
  unfold word
  rw [Nat.add_mod, Nat.mod_mod, ← Nat.add_mod, Nat.add_mul, Nat.one_mul, Nat.add_assoc]
theorem marks_lt {k n : Nat} {key : Bytes} (hn : 0 < n) : ∀ m ∈ marks k n key, m < n := by
  intro m h
  rw [marks_eq] at h
  obtain ⟨j, _, rfl⟩ := List.mem_map.mp h
  exact Nat.mod_lt _ hn
/-! ### the piece, bit by bit -/
def setBit (piece : Bytes) (m : Nat) : Bytes := piece.set (m / 8) (piece.getD (m / 8) 0 ||| 2 ^ (m % 8))
theorem setBit_length (piece : Bytes) (m : Nat) : (setBit piece m).length = piece.length := by simp [setBit]
theorem setBits_length : ∀ (ms : List Nat) (piece : Bytes), (ms.foldl setBit piece).length = piece.length
  | [], p => rfl
  | m :: r, p => by rw [List.foldl_cons, setBits_length r, setBit_length]
theorem setBit_test {piece : Bytes} {m : Nat} (hm : m / 8 < piece.length) (i j : Nat) (hj : j < 8) : ((setBit piece m).getD i 0).testBit j = (decide (m = 8 * i + j) || (piece.getD i 0).testBit j) := by
  unfold setBit
  by_cases hi : m / 8 = i
  · subst hi
    have e : (piece.set (m / 8) (piece.getD (m / 8) 0 ||| 2 ^ (m % 8))).getD (m / 8) 0 = piece.getD (m / 8) 0 ||| 2 ^ (m % 8) := by
      simp [List.getD, hm]
    rw [e, Nat.testBit_or, Nat.testBit_two_pow, Bool.or_comm]
    congr 1
    have : (m % 8 = j) ↔ (m = 8 * (m / 8) + j) := by omega
    simp [this]
  · have e : (piece.set (m / 8) (piece.getD (m / 8) 0 ||| 2 ^ (m % 8))).getD i 0 = piece.getD i 0 := by
      simp [List.getD, hi]
    rw [e]
    have : ¬ m = 8 * i + j := by omega
    simp [this]
theorem setBit_byte {piece : Bytes} {m : Nat} (h : ∀ x ∈ piece, x < 256) : ∀ x ∈ setBit piece m, x < 256 := by
  intro x hx
  unfold setBit at hx
  rcases List.mem_or_eq_of_mem_set hx with hx | hx
  · exact h x hx
  · rw [hx]
    have h1 : piece.getD (m / 8) 0 < 2 ^ 8 := by
      unfold List.getD
      cases q : piece[m / 8]? with
      | none => simp
      | some y => exact h y (List.mem_of_getElem? q)
    have h2 : 2 ^ (m % 8) < 2 ^ 8 := Nat.pow_lt_pow_right (by decide) (Nat.mod_lt _ (by decide))
    exact Nat.or_lt_two_pow h1 h2
theorem setBits_byte : ∀ (ms : List Nat) (piece : Bytes), (∀ x ∈ piece, x < 256) → ∀ x ∈ ms.foldl setBit piece, x < 256
  | [], p, h => h
  | m :: r, p, h => setBits_byte r _ (setBit_byte h)
theorem setBits_test : ∀ (ms : List Nat) (piece : Bytes), (∀ m ∈ ms, m / 8 < piece.length) → ∀ i j, j < 8 → ((ms.foldl setBit piece).getD i 0).testBit j = (ms.contains (8 * i + j) || (piece.getD i 0).testBit j)
  | [], p, _, i, j, _ => by simp
  | m :: r, p, h, i, j, hj => by
    rw [List.foldl_cons, setBits_test r (setBit p m) (fun x hx => by rw [setBit_length]; exact h x (List.mem_cons_of_mem _ hx)) i j hj, setBit_test (h m List.mem_cons_self) i j hj]
    rw [List.contains_cons]
    have : (8 * i + j == m) = decide (m = 8 * i + j) := by
      by_cases e : m = 8 * i + j
      · simp [e]
      · have e' : ¬ 8 * i + j = m := fun q => e q.symm
        simp [e, e']
    rw [this]
    cases r.contains (8 * i + j) <;> cases decide (m = 8 * i + j) <;> rfl
theorem byte_sum (f : Nat → Bool) : (((List.range 8).map fun j => if f j = true then 2 ^ j else 0).sum < 256) ∧ ∀ j, j < 8 → ((List.range 8).map fun j => if f j = true then 2 ^ j else 0).sum.testBit j = f j := by
  have e : (List.range 8).map (fun j => if f j = true then 2 ^ j else 0) = [if f 0 = true then 2 ^ 0 else 0, if f 1 = true then 2 ^ 1 else 0, if f 2 = true then 2 ^ 2 else 0, if f 3 = true then 2 ^ 3 else 0, if f 4 = true then 2 ^ 4 else 0, if f 5 = true then 2 ^ 5 else 0, if f 6 = true then 2 ^ 6 else 0, if f 7 = true then 2 ^ 7 else 0] := rfl
  rw [e]
  have all : ∀ a b c d p q r s : Bool, ([if a = true then 2 ^ 0 else 0, if b = true then 2 ^ 1 else 0, if c = true then 2 ^ 2 else 0, if d = true then 2 ^ 3 else 0, if p = true then 2 ^ 4 else 0, if q = true then 2 ^ 5 else 0, if r = true then 2 ^ 6 else 0, if s = true then 2 ^ 7 else 0] : List Nat).sum < 256 ∧
      ([if a = true then 2 ^ 0 else 0, if b = true then 2 ^ 1 else 0, if c = true then 2 ^ 2 else 0, if d = true then 2 ^ 3 else 0, if p = true then 2 ^ 4 else 0, if q = true then 2 ^ 5 else 0, if r = true then 2 ^ 6 else 0, if s = true then 2 ^ 7 else 0] : List Nat).sum = a.toNat + 2 * (b.toNat + 2 * (c.toNat + 2 * (d.toNat + 2 * (p.toNat + 2 * (q.toNat + 2 * (r.toNat + 2 * s.toNat)))))) := by decide
  obtain ⟨h1, h2⟩ := all (f 0) (f 1) (f 2) (f 3) (f 4) (f 5) (f 6) (f 7)
  refine ⟨h1, fun j hj => ?_⟩
  rw [h2]
  have tb : ∀ (a : Bool) (n : Nat), (a.toNat + 2 * n).testBit 0 = a := fun a n => by
    rw [Nat.testBit_zero]; cases a <;> simp <;> omega
  have ts : ∀ (a : Bool) (n i : Nat), (a.toNat + 2 * n).testBit (i + 1) = n.testBit i := fun a n i => by
    rw [Nat.testBit_succ]; congr 1; cases a <;> simp <;> omega
  have t0 : ∀ a : Bool, a.toNat.testBit 0 = a := fun a => by cases a <;> rfl
  match j, hj with
  | 0, _ => rw [tb]
  | 1, _ => rw [ts, tb]
  | 2, _ => rw [ts, ts, tb]
  | 3, _ => rw [ts, ts, ts, tb]
  | 4, _ => rw [ts, ts, ts, ts, tb]
  | 5, _ => rw [ts, ts, ts, ts, ts, tb]
  | 6, _ => rw [ts, ts, ts, ts, ts, ts, tb]
  | 7, _ => rw [ts, ts, ts, ts, ts, ts, ts, t0]
/-- how many bytes a piece has, but for its last -/
def pieceSize (bits : Nat) (keys : List Bytes) : Nat := (max 64 (keys.length * bits) + 7) / 8
def allMarks (bits : Nat) (n : Nat) (keys : List Bytes) : List Nat := keys.flatMap (marks (probes bits) n)
def pieceBits (bits : Nat) (keys : List Bytes) : Bytes := (allMarks bits (8 * pieceSize bits keys) keys).foldl setBit (List.replicate (pieceSize bits keys) 0)
theorem pieceSize_pos (bits : Nat) (keys : List Bytes) : 0 < pieceSize bits keys := by
  unfold pieceSize
  have : 64 ≤ max 64 (keys.length * bits) := Nat.le_max_left _ _
  omega
theorem byte_ext {x y : Nat} (hx : x < 256) (hy : y < 256) (h : ∀ j, j < 8 → x.testBit j = y.testBit j) : x = y := by
  apply Nat.eq_of_testBit_eq
  intro j
  by_cases hj : j < 8
  · exact h j hj
  · have h8 : (256 : Nat) ≤ 2 ^ j := by
      have := Nat.pow_le_pow_right (show 0 < 2 by decide) (show 8 ≤ j by omega)
      simpa using this
    rw [Nat.testBit_lt_two_pow (Nat.lt_of_lt_of_le hx h8), Nat.testBit_lt_two_pow (Nat.lt_of_lt_of_le hy h8)]
theorem filter_eq (bits : Nat) (keys : List Bytes) : Sv13.filter bits keys = pieceBits bits keys ++ [probes bits] := by
  have hn : bitsOf bits keys = 8 * pieceSize bits keys := Nat.mul_comm _ _
  have hn8 : bitsOf bits keys / 8 = pieceSize bits keys := by rw [hn]; omega
  show ((List.range (bitsOf bits keys / 8)).map fun i => ((List.range 8).map fun j => if (keys.flatMap (marks (probes bits) (bitsOf bits keys))).contains (8 * i + j) = true then 2 ^ j else 0).sum) ++ [probes bits] = _
  congr 1
  rw [hn8, hn]
  have hms : ∀ m ∈ allMarks bits (8 * pieceSize bits keys) keys, m / 8 < (List.replicate (pieceSize bits keys) 0).length := by
    intro m hm
    unfold allMarks at hm
    obtain ⟨k, _, hk⟩ := List.mem_flatMap.mp hm
    have hpos := pieceSize_pos bits keys
    have := marks_lt (by omega) m hk
    rw [List.length_replicate]
    omega
  apply List.ext_getElem?
  intro i
  have hlen : (pieceBits bits keys).length = pieceSize bits keys := by
    unfold pieceBits
    rw [setBits_length, List.length_replicate]
  by_cases hi : i < pieceSize bits keys
  · have hg : (pieceBits bits keys)[i]? = some ((pieceBits bits keys).getD i 0) := by
      simp [List.getD, hlen, hi]
    rw [hg, List.getElem?_map, List.getElem?_range hi]
    show some _ = some _
    congr 1
    obtain ⟨b1, b2⟩ := byte_sum fun j => (allMarks bits (8 * pieceSize bits keys) keys).contains (8 * i + j)
    refine byte_ext b1 ?_ fun j hj => ?_
    · have hb := setBits_byte (allMarks bits (8 * pieceSize bits keys) keys) (List.replicate (pieceSize bits keys) 0) (fun x hx => by rw [(List.mem_replicate.mp hx).2]; decide)
      refine hb _ ?_
      exact List.mem_of_getElem? hg
    · have h2 := setBits_test (allMarks bits (8 * pieceSize bits keys) keys) (List.replicate (pieceSize bits keys) 0) hms i j hj
      unfold pieceBits
      rw [h2]
      refine (b2 j hj).trans ?_
      have : ((List.replicate (pieceSize bits keys) 0).getD i 0).testBit j = false := by
        simp [List.getD, List.getElem?_replicate, hi]
      rw [this, Bool.or_false]
  · rw [List.getElem?_eq_none (by rw [List.length_map, List.length_range]; omega), List.getElem?_eq_none (by rw [hlen]; omega)]
end My

set_option linter.all false
namespace My
open Sv13
/-! ### rows -/
theorem zip_drop_snoc {α : Type} : ∀ (l : List α) (x y : α), (l ++ [x] ++ [y]).zip ((l ++ [x] ++ [y]).drop 1) = (l ++ [x]).zip ((l ++ [x]).drop 1) ++ [(x, y)]
  | [], x, y => rfl
  | [a], x, y => rfl
  | a :: b :: r, x, y => by
    have ih := zip_drop_snoc (b :: r) x y
    show (a, b) :: (b :: (r ++ [x] ++ [y])).zip (r ++ [x] ++ [y]) = (a, b) :: (b :: (r ++ [x])).zip (r ++ [x]) ++ [(x, y)]
    rw [List.cons_append]
    congr 1
theorem rising_snoc (l : List Bytes) (x y : Bytes) : rising (l ++ [x] ++ [y]) = (rising (l ++ [x]) && before x y) := by
  unfold rising
  rw [zip_drop_snoc, List.all_append]
  simp
theorem rising_nil : rising [] = true := rfl
theorem rising_one (x : Bytes) : rising [x] = true := rfl
theorem rising_append_left : ∀ (a b : List Bytes), rising (a ++ b) = true → rising a = true
  | [], b, _ => rfl
  | [x], b, _ => rfl
  | x :: y :: r, b, h => by
    have h' : (before x y && rising (y :: (r ++ b))) = true := h
    have h1 := (Bool.and_eq_true_iff.mp h').1
    have h2 := rising_append_left (y :: r) b (Bool.and_eq_true_iff.mp h').2
    show (before x y && rising (y :: r)) = true
    rw [h1, h2]
    rfl
/-- what a loop over rows has: the entries so far, where the next begins -/
structure RowsAt (rows : Bytes) (es : List Entry) (at_ : Nat) : Prop where
  le : at_ ≤ rows.length
  eq : ∃ f, rows.length - at_ < f ∧ rowsOf (rows.length + 1) rows = (rowsOf f (rows.drop at_)).map fun l => es ++ l
  wt : (es.map fun e => 6 + e.1.length + e.2.length).sum = at_
  by_ : (∀ x ∈ rows, x < 256) → ∀ e ∈ es, (∀ x ∈ e.1, x < 256) ∧ ∀ x ∈ e.2, x < 256
theorem rowsAt_start (rows : Bytes) : RowsAt rows [] 0 :=
  ⟨Nat.zero_le _, ⟨rows.length + 1, by omega, by cases h : rowsOf (rows.length + 1) rows <;> simp [h]⟩, rfl, fun _ e h => by simp at h⟩
def klen (rows : Bytes) (at_ : Nat) : Nat := ofLittle (slice rows at_ 2)
def vlen (rows : Bytes) (at_ : Nat) : Nat := ofLittle (slice rows (at_ + 2) 4)
theorem slice_drop (b : Bytes) (i j n : Nat) : slice (b.drop i) j n = slice b (i + j) n := by
  unfold slice
  rw [List.drop_drop]
theorem rowsAt_end {rows : Bytes} {es : List Entry} {at_ : Nat} (r : RowsAt rows es at_) (h : rows.length ≤ at_) : rowsOf (rows.length + 1) rows = some es := by
  obtain ⟨f, hf, e⟩ := r.eq
  rw [e, List.drop_eq_nil_of_le h]
  cases f with
  | zero => omega
  | succ f => simp [rowsOf]
theorem rowsOf_ne {f : Nat} {b : Bytes} (hb : b ≠ []) : rowsOf (f + 1) b = if b.length < 6 + ofLittle (slice b 0 2) + ofLittle (slice b 2 4) then none else (rowsOf f (b.drop (6 + ofLittle (slice b 0 2) + ofLittle (slice b 2 4)))).map fun l => (slice b 6 (ofLittle (slice b 0 2)), slice b (6 + ofLittle (slice b 0 2)) (ofLittle (slice b 2 4))) :: l := by
  conv => lhs; unfold rowsOf
  rw [if_neg hb]
theorem drop_ne {rows : Bytes} {at_ : Nat} (h : at_ < rows.length) : rows.drop at_ ≠ [] := by
  intro q
  have := congrArg List.length q
  rw [List.length_drop, List.length_nil] at this
  omega
theorem rowsAt_bad {rows : Bytes} {es : List Entry} {at_ : Nat} (r : RowsAt rows es at_) (h : at_ < rows.length) (hb : rows.length < at_ + 6 + klen rows at_ + vlen rows at_) : rowsOf (rows.length + 1) rows = none := by
  obtain ⟨f, hf, e⟩ := r.eq
  cases f with
  | zero => omega
  | succ f =>
    rw [e, rowsOf_ne (drop_ne h), slice_drop, slice_drop, List.length_drop, Nat.add_zero]
    unfold klen vlen at hb
    rw [if_pos (by omega)]
    rfl
theorem rowsAt_short {rows : Bytes} {es : List Entry} {at_ : Nat} (r : RowsAt rows es at_) (h : at_ < rows.length) (hb : rows.length < at_ + 6) : rowsOf (rows.length + 1) rows = none :=
  rowsAt_bad r h (by omega)
theorem slice_byte {b : Bytes} {i n : Nat} (h : ∀ x ∈ b, x < 256) : ∀ x ∈ slice b i n, x < 256 := fun x hx => h x (List.mem_of_mem_drop (List.mem_of_mem_take hx))
theorem rowsAt_step {rows : Bytes} {es : List Entry} {at_ : Nat} (r : RowsAt rows es at_) (h : at_ < rows.length) (hb : at_ + 6 + klen rows at_ + vlen rows at_ ≤ rows.length) :
    RowsAt rows (es ++ [(slice rows (at_ + 6) (klen rows at_), slice rows (at_ + 6 + klen rows at_) (vlen rows at_))]) (at_ + 6 + klen rows at_ + vlen rows at_) := by
  obtain ⟨f, hf, e⟩ := r.eq
  cases f with
  | zero => omega
  | succ f =>
    refine ⟨hb, ⟨f, by omega, ?_⟩, ?_, fun hr x hx => ?_⟩
    · rw [e, rowsOf_ne (drop_ne h), slice_drop, slice_drop, List.length_drop, Nat.add_zero]
      unfold klen vlen at hb ⊢
      rw [if_neg (by omega), List.drop_drop, slice_drop, slice_drop]
      rw [show at_ + (6 + ofLittle (slice rows at_ 2) + ofLittle (slice rows (at_ + 2) 4)) = at_ + 6 + ofLittle (slice rows at_ 2) + ofLittle (slice rows (at_ + 2) 4) by omega]
      rw [show at_ + (6 + ofLittle (slice rows at_ 2)) = at_ + 6 + ofLittle (slice rows at_ 2) by omega]
      cases rowsOf f (rows.drop (at_ + 6 + ofLittle (slice rows at_ 2) + ofLittle (slice rows (at_ + 2) 4))) <;> simp
    · rw [List.map_append, List.sum_append, r.wt]
      simp only [List.map_cons, List.map_nil, List.sum_cons, List.sum_nil]
      rw [slice_length (by omega), slice_length (by omega)]
      omega
    · rcases List.mem_append.mp hx with hx | hx
      · exact r.by_ hr x hx
      · have : x = (slice rows (at_ + 6) (klen rows at_), slice rows (at_ + 6 + klen rows at_) (vlen rows at_)) := by simpa using hx
        rw [this]
        exact ⟨slice_byte hr, slice_byte hr⟩
/-- what make reads of its rows: nothing, if they aren't rows whose keys rise -/
def entriesM (rows : Bytes) : Option (List Entry) := (rowsOf (rows.length + 1) rows).bind fun l => if rising (l.map fun e => e.1) = false then none else some l
theorem entriesM_none {rows : Bytes} (h : rowsOf (rows.length + 1) rows = none) : entriesM rows = none := by simp [entriesM, h]
theorem entriesM_fall {rows : Bytes} {es : List Entry} {at_ : Nat} (r : RowsAt rows es at_) (h : rising (es.map fun e => e.1) = false) : entriesM rows = none := by
  obtain ⟨f, hf, e⟩ := r.eq
  unfold entriesM
  rw [e]
  cases q : rowsOf f (rows.drop at_) with
  | none => rfl
  | some l =>
    show (if rising ((es ++ l).map fun e => e.1) = false then none else some (es ++ l)) = none
    rw [if_pos]
    rw [List.map_append]
    cases z : rising (es.map (fun e => e.1) ++ l.map fun e => e.1) with
    | false => rfl
    | true => rw [rising_append_left _ _ z] at h; cases h
theorem entriesM_some {rows : Bytes} {es : List Entry} {at_ : Nat} (r : RowsAt rows es at_) (hl : rows.length ≤ at_) (h : rising (es.map fun e => e.1) = true) : entriesM rows = some es := by
  unfold entriesM
  rw [rowsAt_end r hl]
  show (if rising (es.map fun e => e.1) = false then none else some es) = some es
  rw [h]
  rfl
/-! ### lexicographic order -/
theorem before_irrefl : ∀ a : Bytes, before a a = false
  | [] => rfl
  | x :: r => by simp [before, before_irrefl r]
/-- how long blocks become -/
def wt (l : List Entry) : Nat := (l.map fun e => 6 + e.1.length + e.2.length).sum
theorem wt_snoc (l : List Entry) (e : Entry) : wt (l ++ [e]) = wt l + (6 + e.1.length + e.2.length) := by simp [wt]
theorem put_body (iv : Nat) (b : BW) (k v : Bytes) : (b.put iv k v).body.length ≤ b.body.length + 30 + k.length + v.length := by
  simp only [BW.put, List.length_append, List.length_drop]
  have h1 := varint_length (b.sh iv k)
  have h2 := varint_length (k.length - b.sh iv k)
  have h3 := varint_length v.length
  omega
theorem put_rs (iv : Nat) (b : BW) (k v : Bytes) : (b.put iv k v).rs.length ≤ b.rs.length + 1 := by
  simp only [BW.put]
  split
  · omega
  · split <;> simp
theorem common_le : ∀ a b : Bytes, common a b ≤ a.length ∧ common a b ≤ b.length
  | [], b => by simp [common]
  | x :: r, [] => by simp [common]
  | x :: r, y :: s => by
    have ⟨h1, h2⟩ := common_le r s
    unfold common
    split
    · simp only [List.length_cons]; omega
    · simp
theorem sh_le (iv : Nat) (b : BW) (k : Bytes) : b.sh iv k ≤ k.length := by
  unfold BW.sh
  split
  · exact (common_le _ _).2
  · exact Nat.zero_le _
end My

set_option linter.all false
namespace My
open Sv13
theorem content_length (b : BW) : b.content.length = b.size := by
  unfold BW.content BW.size
  rw [List.length_append, List.length_append, little_length]
  have : (b.rs.flatMap (little 4)).length = 4 * b.rs.length := by
    induction b.rs with
    | nil => rfl
    | cons x r ih => rw [List.flatMap_cons, List.length_append, ih, little_length, List.length_cons]; omega
  omega
/-- how long what's made so far is -/
def DB.len (s : DB) : Nat := (outOf s.blocks).length + s.w.body.length + 4 * s.w.rs.length + if s.keys = [] then 0 else 13
theorem DB.len_step {iv size : Nat} {s : DB} {e : Entry} : (s.step iv size e).len ≤ s.len + 9 * (6 + e.1.length + e.2.length) := by
  have h1 := put_body iv s.w e.1 e.2
  have h2 := put_rs iv s.w e.1 e.2
  have h3 : (if s.keys = [] then 0 else 13) ≤ 13 := by split <;> omega
  unfold DB.step
  split
  · show (outOf (s.blocks ++ [(s.keys ++ [e.1], (s.w.put iv e.1 e.2).content)])).length + ([] : Bytes).length + 4 * ([0] : List Nat).length + 0 ≤ (outOf s.blocks).length + s.w.body.length + 4 * s.w.rs.length + (if s.keys = [] then 0 else 13) + _
    rw [outOf_snoc, List.length_append, raw_length]
    have h4 := content_length (s.w.put iv e.1 e.2)
    unfold BW.size at h4
    simp only [List.length_nil, List.length_cons]
    omega
  · show (outOf s.blocks).length + (s.w.put iv e.1 e.2).body.length + 4 * (s.w.put iv e.1 e.2).rs.length + (if s.keys ++ [e.1] = [] then 0 else 13) ≤ (outOf s.blocks).length + s.w.body.length + 4 * s.w.rs.length + (if s.keys = [] then 0 else 13) + _
    rw [if_neg (by simp)]
    omega
theorem DB.len_new : DB.new.len = 4 := rfl
theorem wt_cons (e : Entry) (l : List Entry) : wt (e :: l) = 6 + e.1.length + e.2.length + wt l := by simp [wt]
theorem DB.len_all {iv size : Nat} : ∀ (l : List Entry) (s : DB), (l.foldl (DB.step iv size) s).len ≤ s.len + 9 * wt l
  | [], s => by simp [wt]
  | e :: l, s => by
    have h1 := DB.len_all (iv := iv) (size := size) l (s.step iv size e)
    have h2 := DB.len_step (iv := iv) (size := size) (s := s) (e := e)
    rw [List.foldl_cons, wt_cons]
    omega
/-- how many keys -/
def DB.cnt (s : DB) : Nat := (s.blocks.map fun b => b.1.length).sum + s.keys.length
theorem DB.cnt_step {iv size : Nat} {s : DB} {e : Entry} : (s.step iv size e).cnt = s.cnt + 1 := by
  unfold DB.step
  split <;> simp [DB.cnt] <;> omega
theorem DB.cnt_all {iv size : Nat} : ∀ (l : List Entry) (s : DB), (l.foldl (DB.step iv size) s).cnt = s.cnt + l.length
  | [], s => rfl
  | e :: l, s => by
    rw [List.foldl_cons, DB.cnt_all l, DB.cnt_step, List.length_cons]
    omega
theorem wt_len : ∀ l : List Entry, 6 * l.length ≤ wt l
  | [] => by simp [wt]
  | e :: l => by
    have := wt_len l
    rw [wt_cons, List.length_cons]
    omega
theorem blocks_len {iv size : Nat} (l : List Entry) : (outOf (dataBlocks iv size l)).length ≤ 9 * wt l + 4 := by
  have h := DB.len_all (iv := iv) (size := size) l DB.new
  rw [DB.len_new] at h
  unfold dataBlocks DB.fin
  generalize l.foldl (DB.step iv size) DB.new = s at *
  unfold DB.len at h
  split
  · omega
  · rename_i hk
    rw [if_neg hk] at h
    rw [outOf_snoc, List.length_append, raw_length]
    have h4 := content_length s.w
    unfold BW.size at h4
    show _ + (s.w.content.length + 5) ≤ _
    omega
/-! ### the filter's length -/
def keysN (bk : List (Nat × List Bytes)) : Nat := (bk.map fun x => x.2.length).sum
def upKeys (bk : List (Nat × List Bytes)) (n : Nat) : Nat := ((List.range n).map fun i => (pieceKeys bk i).length).sum
theorem upKeys_succ (bk : List (Nat × List Bytes)) (n : Nat) : upKeys bk (n + 1) = upKeys bk n + (pieceKeys bk n).length := by
  simp [upKeys, List.range_succ]
theorem upKeys_cons (x : Nat × List Bytes) (bk : List (Nat × List Bytes)) : ∀ n, upKeys (x :: bk) n = upKeys bk n + if x.1 / 2048 < n then x.2.length else 0
  | 0 => by simp [upKeys]
  | n + 1 => by
    rw [upKeys_succ, upKeys_succ, upKeys_cons x bk n]
    have e : (pieceKeys (x :: bk) n).length = (if x.1 / 2048 = n then x.2.length else 0) + (pieceKeys bk n).length := by
      unfold pieceKeys
      rw [List.flatMap_cons, List.length_append]
      split <;> rfl
    rw [e]
    generalize x.1 / 2048 = q
    by_cases h1 : q < n
    · rw [if_pos h1, if_neg (by omega), if_pos (by omega)]; omega
    · by_cases h2 : q = n
      · rw [if_neg h1, if_pos h2, if_pos (by omega)]; omega
      · rw [if_neg h1, if_neg h2, if_neg (by omega)]; omega
theorem upKeys_le : ∀ (bk : List (Nat × List Bytes)) (n : Nat), upKeys bk n ≤ keysN bk
  | [], n => by
    have : upKeys [] n = 0 := by
      induction n with
      | zero => rfl
      | succ n ih => rw [upKeys_succ, ih]; rfl
    omega
  | x :: bk, n => by
    have := upKeys_le bk n
    rw [upKeys_cons]
    have e : keysN (x :: bk) = x.2.length + keysN bk := by simp [keysN]
    rw [e]
    split <;> omega
theorem pieceBits_length (bits : Nat) (keys : List Bytes) : (pieceBits bits keys).length = pieceSize bits keys := by
  unfold pieceBits
  rw [setBits_length, List.length_replicate]
theorem pieceSize_le {bits : Nat} (hb : bits ≤ 20) (keys : List Bytes) : pieceSize bits keys ≤ 8 + 3 * keys.length := by
  unfold pieceSize
  have h : keys.length * bits ≤ keys.length * 20 := Nat.mul_le_mul_left _ hb
  generalize keys.length * bits = z at *
  have : max 64 z ≤ 64 + z := by omega
  omega
theorem pc_length {bits : Nat} (hb : bits ≤ 20) (keys : List Bytes) : (pc bits keys).length ≤ 9 + 3 * keys.length := by
  unfold pc
  split
  · simp
  · rw [filter_eq, List.length_append, pieceBits_length]
    have := pieceSize_le hb keys
    simp only [List.length_cons, List.length_nil]
    omega
theorem res_length {bits : Nat} (hb : bits ≤ 20) (bk : List (Nat × List Bytes)) : ∀ n, (res bits bk n).length ≤ 9 * n + 3 * upKeys bk n
  | 0 => by simp [res]
  | n + 1 => by
    rw [res_succ, List.length_append, upKeys_succ]
    have h1 := res_length hb bk n
    have h2 := pc_length hb (pieceKeys bk n)
    omega
theorem res_bound {bits : Nat} (hb : bits ≤ 20) (bk : List (Nat × List Bytes)) (n : Nat) : (res bits bk n).length ≤ 9 * n + 3 * keysN bk := by
  have h1 := res_length hb bk n
  have h2 := upKeys_le bk n
  omega
theorem begun_keys : ∀ (bs : List Blk) (p : Nat), keysN (begun p bs) = (bs.map fun b => b.1.length).sum
  | [], p => rfl
  | a :: r, p => by
    have := begun_keys r (p + a.2.length + 5)
    show keysN ((p, a.1) :: begun (p + a.2.length + 5) r) = _
    have e : keysN ((p, a.1) :: begun (p + a.2.length + 5) r) = a.1.length + keysN (begun (p + a.2.length + 5) r) := by simp [keysN]
    rw [e, this]
    simp
theorem blocks_cnt {iv size : Nat} (l : List Entry) : ((dataBlocks iv size l).map fun b => b.1.length).sum = l.length := by
  have h := DB.cnt_all (iv := iv) (size := size) l DB.new
  have h0 : DB.new.cnt = 0 := rfl
  rw [h0, Nat.zero_add] at h
  unfold dataBlocks DB.fin
  generalize l.foldl (DB.step iv size) DB.new = s at *
  unfold DB.cnt at h
  split
  · rename_i hk
    rw [hk, List.length_nil] at h
    exact h
  · rw [List.map_append, List.sum_append]
    simpa using h
end My

set_option linter.all false
namespace My
open Sv13
def lastK (ks : List Bytes) : Bytes := ks.getLastD []
def firstK (ks : List Bytes) : Bytes := ks.headD []
def ik : List (List Bytes) → List Bytes
  | [] => []
  | [a] => [behind (lastK a)]
  | a :: b :: r => between (lastK a) (firstK b) :: ik (b :: r)
def hands (p : Nat) : List Blk → List Bytes
  | [] => []
  | b :: r => (Handle.mk p b.2.length).bytes :: hands (p + b.2.length + 5) r
theorem ik_length : ∀ l, (ik l).length = l.length
  | [] => rfl
  | [a] => rfl
  | a :: b :: r => by
    show (ik (b :: r)).length + 1 = _
    rw [ik_length (b :: r)]
    rfl
theorem hands_length : ∀ (l : List Blk) (p : Nat), (hands p l).length = l.length
  | [], _ => rfl
  | b :: r, p => by
    show (hands _ r).length + 1 = _
    rw [hands_length r]
    rfl
theorem ik_at : ∀ (l : List (List Bytes)) (i : Nat) (a : List Bytes), l[i]? = some a → (ik l)[i]? = some (match l[i + 1]? with
    | some b => between (lastK a) (firstK b)
    | none => behind (lastK a))
  | [], i, a, h => by simp at h
  | [x], 0, a, h => by simp at h; subst h; rfl
  | [x], i + 1, a, h => by simp at h
  | x :: y :: r, 0, a, h => by simp at h; subst h; rfl
  | x :: y :: r, i + 1, a, h => by
    have := ik_at (y :: r) i a (by simpa using h)
    show (ik (y :: r))[i]? = _
    rw [this]
    rfl
theorem idx_zip : ∀ (l : List Blk) (p : Nat) (b : Blk), pairs p l (firstOf b) ++ [(behind (lastOf b), (Handle.mk (p + (outOf l).length) b.2.length).bytes)] = (ik ((l ++ [b]).map fun x => x.1)).zip (hands p (l ++ [b]))
  | [], p, b => by simp [pairs, outOf, ik, hands, lastK, lastOf]
  | [a], p, b => by
    simp [pairs, outOf, ik, hands, lastK, lastOf, firstK, firstOf, raw_length, Nat.add_assoc]
  | a :: c :: r, p, b => by
    have ih := idx_zip (c :: r) (p + a.2.length + 5) b
    have e : (outOf (a :: c :: r)).length = a.2.length + 5 + (outOf (c :: r)).length := by
      show (raw a.2 ++ outOf (c :: r)).length = _
      rw [List.length_append, raw_length]
    have e2 : p + (outOf (a :: c :: r)).length = p + a.2.length + 5 + (outOf (c :: r)).length := by rw [e]; omega
    rw [e2]
    show (between (lastOf a) (firstOf c), (Handle.mk p a.2.length).bytes) :: (pairs (p + a.2.length + 5) (c :: r) (firstOf b) ++ [(behind (lastOf b), (Handle.mk (p + a.2.length + 5 + (outOf (c :: r)).length) b.2.length).bytes)]) = _
    rw [ih]
    rfl
theorem idxPairs_zip (bs : List Blk) : idxPairs bs = (ik (bs.map fun x => x.1)).zip (hands 0 bs) := by
  rcases snoc_cases bs with h | ⟨r, b, h⟩
  · rw [h]; rfl
  · rw [h, ← idx_zip]
    simp [idxPairs]
theorem hands_snoc : ∀ (l : List Blk) (p : Nat) (b : Blk), hands p (l ++ [b]) = hands p l ++ [(Handle.mk (p + (outOf l).length) b.2.length).bytes]
  | [], p, b => by simp [hands, outOf]
  | a :: r, p, b => by
    have e : p + (outOf (a :: r)).length = p + a.2.length + 5 + (outOf r).length := by
      show p + (raw a.2 ++ outOf r).length = _
      rw [List.length_append, raw_length]; omega
    rw [e]
    show (Handle.mk p a.2.length).bytes :: hands (p + a.2.length + 5) (r ++ [b]) = (Handle.mk p a.2.length).bytes :: hands (p + a.2.length + 5) r ++ _
    rw [hands_snoc r]
    rfl
theorem handle_length (h : Handle) : h.bytes.length ≤ 20 := by
  unfold Handle.bytes
  rw [List.length_append]
  have h1 := varint_length h.at_
  have h2 := varint_length h.size
  omega
theorem hands_le : ∀ (l : List Blk) (p : Nat), ∀ x ∈ hands p l, x.length ≤ 20
  | [], p, x, h => by simp [hands] at h
  | a :: r, p, x, h => by
    rcases List.mem_cons.mp (show x ∈ (Handle.mk p a.2.length).bytes :: hands (p + a.2.length + 5) r from h) with rfl | h
    · exact handle_length _
    · exact hands_le r _ x h
theorem between_le (a b : Bytes) : (between a b).length ≤ a.length := by
  show (if a.length ≤ common a b ∨ b.length ≤ common a b then a else if a.getD (common a b) 0 + 1 < b.getD (common a b) 0 ∧ a.getD (common a b) 0 < 255 then a.take (common a b) ++ [a.getD (common a b) 0 + 1] else a).length ≤ _
  split
  · exact Nat.le_refl _
  · split
    · rw [List.length_append, List.length_take]
      simp only [List.length_cons, List.length_nil]
      omega
    · exact Nat.le_refl _
theorem behind_le (a : Bytes) : (behind a).length ≤ a.length := by
  unfold behind
  split
  · rename_i i h
    rw [List.length_append, List.length_take]
    have : i < a.length := by
      have h' := List.findIdx?_eq_some_iff_getElem.mp h
      exact h'.1
    simp only [List.length_cons, List.length_nil]
    omega
  · exact Nat.le_refl _
/-- how long the index is -/
def kLen (l : List Bytes) : Nat := (l.map fun k => k.length).sum
def idxW (ps : List (Bytes × Bytes)) : BW := ps.foldl (fun w p => w.put 1 p.1 p.2) BW.new
theorem idxW_snoc (ps : List (Bytes × Bytes)) (p : Bytes × Bytes) : idxW (ps ++ [p]) = (idxW ps).put 1 p.1 p.2 := by simp [idxW]
theorem idxW_len : ∀ (ps : List (Bytes × Bytes)), (∀ p ∈ ps, p.2.length ≤ 20) → (idxW ps).body.length + 4 * (idxW ps).rs.length ≤ 4 + 54 * ps.length + kLen (ps.map fun p => p.1) := by
  intro ps
  have go : ∀ (ps : List (Bytes × Bytes)) (w : BW), (∀ p ∈ ps, p.2.length ≤ 20) → (ps.foldl (fun w p => w.put 1 p.1 p.2) w).body.length + 4 * (ps.foldl (fun w p => w.put 1 p.1 p.2) w).rs.length ≤ w.body.length + 4 * w.rs.length + 54 * ps.length + kLen (ps.map fun p => p.1) := by
    intro ps
    induction ps with
    | nil => intro w _; simp [kLen]
    | cons p r ih =>
      intro w h
      have h1 := ih (w.put 1 p.1 p.2) (fun q hq => h q (List.mem_cons_of_mem _ hq))
      have h2 := put_body 1 w p.1 p.2
      have h3 := put_rs 1 w p.1 p.2
      have h4 := h p List.mem_cons_self
      have e : kLen ((p :: r).map fun p => p.1) = p.1.length + kLen (r.map fun p => p.1) := by simp [kLen]
      rw [List.foldl_cons, e, List.length_cons]
      omega
  intro h
  have := go ps BW.new h
  have e : BW.new.body.length + 4 * BW.new.rs.length = 4 := rfl
  rw [e] at this
  exact this
theorem lastK_le (ks : List Bytes) : (lastK ks).length ≤ kLen ks := by
  unfold lastK
  rcases snoc_cases ks with h | ⟨r, x, h⟩
  · rw [h]; simp
  · rw [h]
    simp [kLen]
theorem ik_le : ∀ l : List (List Bytes), kLen (ik l) ≤ (l.map kLen).sum
  | [] => by simp [ik, kLen]
  | [a] => by
    have h1 := behind_le (lastK a)
    have h2 := lastK_le a
    show ((behind (lastK a)).length + 0) ≤ kLen a + 0
    omega
  | a :: b :: r => by
    have h1 := between_le (lastK a) (firstK b)
    have h2 := lastK_le a
    have h3 := ik_le (b :: r)
    have e : kLen (ik (a :: b :: r)) = (between (lastK a) (firstK b)).length + kLen (ik (b :: r)) := by simp [ik, kLen]
    rw [e]
    show _ ≤ kLen a + ((b :: r).map kLen).sum
    omega
/-- the keys of all blocks, together -/
def DB.kl (s : DB) : Nat := (s.blocks.map fun b => kLen b.1).sum + kLen s.keys
theorem kLen_snoc (l : List Bytes) (k : Bytes) : kLen (l ++ [k]) = kLen l + k.length := by simp [kLen]
theorem DB.kl_step {iv size : Nat} {s : DB} {e : Entry} : (s.step iv size e).kl = s.kl + e.1.length := by
  unfold DB.step
  split
  · show ((s.blocks ++ [(s.keys ++ [e.1], (s.w.put iv e.1 e.2).content)]).map fun b => kLen b.1).sum + kLen [] = (s.blocks.map fun b => kLen b.1).sum + kLen s.keys + e.1.length
    rw [List.map_append, List.sum_append]
    simp only [List.map_cons, List.map_nil, List.sum_cons, List.sum_nil]
    rw [kLen_snoc]
    show _ + 0 = _
    omega
  · show (s.blocks.map fun b => kLen b.1).sum + kLen (s.keys ++ [e.1]) = (s.blocks.map fun b => kLen b.1).sum + kLen s.keys + e.1.length
    rw [kLen_snoc]
    omega
theorem DB.kl_all {iv size : Nat} : ∀ (l : List Entry) (s : DB), (l.foldl (DB.step iv size) s).kl ≤ s.kl + wt l
  | [], s => by simp [wt]
  | e :: l, s => by
    have h1 := DB.kl_all (iv := iv) (size := size) l (s.step iv size e)
    have h2 := DB.kl_step (iv := iv) (size := size) (s := s) (e := e)
    rw [List.foldl_cons, wt_cons]
    omega
theorem blocks_kl {iv size : Nat} (l : List Entry) : (((dataBlocks iv size l).map fun b => b.1).map kLen).sum ≤ wt l := by
  have h := DB.kl_all (iv := iv) (size := size) l DB.new
  have h0 : DB.new.kl = 0 := rfl
  rw [h0, Nat.zero_add] at h
  rw [List.map_map]
  show ((dataBlocks iv size l).map fun b => kLen b.1).sum ≤ _
  unfold dataBlocks DB.fin
  generalize l.foldl (DB.step iv size) DB.new = s at *
  unfold DB.kl at h
  split
  · omega
  · rw [List.map_append, List.sum_append]
    simp only [List.map_cons, List.map_nil, List.sum_cons, List.sum_nil]
    omega
/-- whatever holds of the entries' keys holds of the blocks' -/
theorem DB.all_step {Pk : Bytes → Prop} {iv size : Nat} {s : DB} {e : Entry} (h1 : ∀ b ∈ s.blocks, ∀ k ∈ b.1, Pk k) (h2 : ∀ k ∈ s.keys, Pk k) (h3 : Pk e.1) : (∀ b ∈ (s.step iv size e).blocks, ∀ k ∈ b.1, Pk k) ∧ ∀ k ∈ (s.step iv size e).keys, Pk k := by
  have h4 : ∀ k ∈ s.keys ++ [e.1], Pk k := fun k hk => by
    rcases List.mem_append.mp hk with hk | hk
    · exact h2 k hk
    · have : k = e.1 := by simpa using hk
      rw [this]; exact h3
  unfold DB.step
  split
  · refine ⟨fun b hb k hk => ?_, fun k hk => by simp at hk⟩
    rcases List.mem_append.mp hb with hb | hb
    · exact h1 b hb k hk
    · have : b = (s.keys ++ [e.1], (s.w.put iv e.1 e.2).content) := by simpa using hb
      rw [this] at hk
      exact h4 k hk
  · exact ⟨h1, h4⟩
theorem DB.all_all {Pk : Bytes → Prop} {iv size : Nat} : ∀ (l : List Entry) (s : DB), (∀ b ∈ s.blocks, ∀ k ∈ b.1, Pk k) → (∀ k ∈ s.keys, Pk k) → (∀ e ∈ l, Pk e.1) → (∀ b ∈ (l.foldl (DB.step iv size) s).blocks, ∀ k ∈ b.1, Pk k) ∧ ∀ k ∈ (l.foldl (DB.step iv size) s).keys, Pk k
  | [], s, h1, h2, _ => ⟨h1, h2⟩
  | e :: l, s, h1, h2, h3 => by
    obtain ⟨a, b⟩ := DB.all_step (iv := iv) (size := size) h1 h2 (h3 e List.mem_cons_self)
    exact DB.all_all l _ a b fun x hx => h3 x (List.mem_cons_of_mem _ hx)
theorem blocks_all {Pk : Bytes → Prop} {iv size : Nat} {l : List Entry} (h : ∀ e ∈ l, Pk e.1) : ∀ b ∈ dataBlocks iv size l, ∀ k ∈ b.1, Pk k := by
  obtain ⟨a, b⟩ := DB.all_all (iv := iv) (size := size) l DB.new (fun b hb => by simp [DB.new] at hb) (fun k hk => by simp [DB.new] at hk) h
  unfold dataBlocks DB.fin
  intro c hc
  split at hc
  · exact a c hc
  · rcases List.mem_append.mp hc with hc | hc
    · exact a c hc
    · have : c = ((l.foldl (DB.step iv size) DB.new).keys, (l.foldl (DB.step iv size) DB.new).w.content) := by simpa using hc
      rw [this]
      exact b
theorem blocks_ne {iv size : Nat} (l : List Entry) : ∀ b ∈ dataBlocks iv size l, b.1 ≠ [] := fin_keys (blk_keys l DB.new fun b h => by simp [DB.new] at h)
end My

set_option linter.all false
namespace My
open Sv13
def byts (l : Bytes) : Prop := ∀ x ∈ l, x < 256
theorem byts_append {a b : Bytes} (ha : byts a) (hb : byts b) : byts (a ++ b) := fun x hx => by
  rcases List.mem_append.mp hx with h | h
  · exact ha x h
  · exact hb x h
theorem byts_nil : byts [] := fun x h => by cases h
theorem byts_drop {a : Bytes} (n : Nat) (h : byts a) : byts (a.drop n) := fun x hx => h x (List.mem_of_mem_drop hx)
theorem byts_take {a : Bytes} (n : Nat) (h : byts a) : byts (a.take n) := fun x hx => h x (List.mem_of_mem_take hx)
theorem byts_little (k n : Nat) : byts (little k n) := little_byte
theorem byts_varint (n : Nat) : byts (varint n) := varint_byte n
theorem byts_flat {l : List Nat} : byts (l.flatMap (little 4)) := fun x hx => by
  obtain ⟨y, _, h⟩ := List.mem_flatMap.mp hx
  exact byts_little _ _ x h
theorem byts_one {x : Nat} (h : x < 256) : byts [x] := fun y hy => by
  have : y = x := by simpa using hy
  omega
theorem byts_put {iv : Nat} {b : BW} {k v : Bytes} (hb : byts b.body) (hk : byts k) (hv : byts v) : byts (b.put iv k v).body :=
  byts_append (byts_append (byts_append (byts_append (byts_append hb (byts_varint _)) (byts_varint _)) (byts_varint _)) (byts_drop _ hk)) hv
theorem byts_content {b : BW} (h : byts b.body) : byts b.content := byts_append (byts_append h byts_flat) (byts_little _ _)
structure DB.Byts (s : DB) : Prop where
  bl : ∀ b ∈ s.blocks, byts b.2
  w : byts s.w.body
theorem DB.byts_step {iv size : Nat} {s : DB} {e : Entry} (h : s.Byts) (hk : byts e.1) (hv : byts e.2) : (s.step iv size e).Byts := by
  have hp := byts_put (iv := iv) h.w hk hv
  unfold DB.step
  split
  · refine ⟨fun b hb => ?_, byts_nil⟩
    rcases List.mem_append.mp hb with hb | hb
    · exact h.bl b hb
    · have : b = (s.keys ++ [e.1], (s.w.put iv e.1 e.2).content) := by simpa using hb
      rw [this]
      exact byts_content hp
  · exact ⟨h.bl, hp⟩
theorem DB.byts_all {iv size : Nat} : ∀ (l : List Entry) (s : DB), s.Byts → (∀ e ∈ l, byts e.1 ∧ byts e.2) → (l.foldl (DB.step iv size) s).Byts
  | [], s, h, _ => h
  | e :: l, s, h, hl => DB.byts_all l _ (DB.byts_step h (hl e List.mem_cons_self).1 (hl e List.mem_cons_self).2) fun x hx => hl x (List.mem_cons_of_mem _ hx)
theorem blocks_byts {iv size : Nat} {l : List Entry} (hl : ∀ e ∈ l, byts e.1 ∧ byts e.2) : ∀ b ∈ dataBlocks iv size l, byts b.2 := by
  have h := DB.byts_all (iv := iv) (size := size) l DB.new ⟨fun b hb => by simp [DB.new] at hb, byts_nil⟩ hl
  unfold dataBlocks DB.fin
  intro c hc
  split at hc
  · exact h.bl c hc
  · rcases List.mem_append.mp hc with hc | hc
    · exact h.bl c hc
    · have : c = ((l.foldl (DB.step iv size) DB.new).keys, (l.foldl (DB.step iv size) DB.new).w.content) := by simpa using hc
      rw [this]
      exact byts_content h.w
theorem byts_handle (h : Handle) : byts h.bytes := byts_append (byts_varint _) (byts_varint _)
theorem probes_le (b : Nat) : probes b ≤ 30 := by
  have : probes b = max 1 (min 30 (69 * b / 100)) := rfl
  omega
theorem byts_filter (bits : Nat) (ks : List Bytes) : byts (Sv13.filter bits ks) := by
  rw [filter_eq]
  refine byts_append (setBits_byte _ _ fun x hx => ?_) (byts_one (by have := probes_le bits; omega))
  rw [(List.mem_replicate.mp hx).2]
  decide
theorem byts_pc (bits : Nat) (ks : List Bytes) : byts (pc bits ks) := by
  unfold pc
  split
  · exact byts_nil
  · exact byts_filter _ _
theorem byts_res (bits : Nat) (bk : List (Nat × List Bytes)) : ∀ n, byts (res bits bk n)
  | 0 => by simp only [res, List.range_zero, List.flatMap_nil]; exact byts_nil
  | n + 1 => by rw [res_succ]; exact byts_append (byts_res bits bk n) (byts_pc _ _)
theorem byts_filterOf (bits : Nat) (bk : List (Nat × List Bytes)) (n : Nat) : byts (filterOf bits bk n) := byts_append (byts_append (byts_res _ _ _) byts_flat) (byts_one (by decide))
theorem byts_between {a b : Bytes} (ha : byts a) (hb : byts b) : byts (between a b) := by
  show byts (if a.length ≤ common a b ∨ b.length ≤ common a b then a else if a.getD (common a b) 0 + 1 < b.getD (common a b) 0 ∧ a.getD (common a b) 0 < 255 then a.take (common a b) ++ [a.getD (common a b) 0 + 1] else a)
  split
  · exact ha
  · split
    · rename_i h
      exact byts_append (byts_take _ ha) (byts_one (by omega))
    · exact ha
theorem byts_behind {a : Bytes} (ha : byts a) : byts (behind a) := by
  unfold behind
  split
  · rename_i i h
    have h' := List.findIdx?_eq_some_iff_getElem.mp h
    obtain ⟨hi, hne, _⟩ := h'
    have e : a.getD i 0 = a[i] := by simp [List.getD, hi]
    have h1 := ha a[i] (List.getElem_mem _)
    have h2 : a[i] ≠ 255 := by simpa using hne
    rw [e]
    exact byts_append (byts_take _ ha) (byts_one (by omega))
  · exact ha
theorem byts_lastK {ks : List Bytes} (h : ∀ k ∈ ks, byts k) : byts (lastK ks) := by
  unfold lastK
  rw [List.getLastD_eq_getLast?]
  cases q : ks.getLast? with
  | none => exact byts_nil
  | some x => exact h x (List.mem_of_getLast? q)
theorem byts_firstK {ks : List Bytes} (h : ∀ k ∈ ks, byts k) : byts (firstK ks) := by
  cases ks with
  | nil => exact byts_nil
  | cons a r => exact h a List.mem_cons_self
theorem byts_ik : ∀ (l : List (List Bytes)), (∀ ks ∈ l, ∀ k ∈ ks, byts k) → ∀ k ∈ ik l, byts k
  | [], _, k, h => by simp [ik] at h
  | [a], hl, k, h => by
    have : k = behind (lastK a) := by simpa [ik] using h
    rw [this]
    exact byts_behind (byts_lastK (hl a List.mem_cons_self))
  | a :: b :: r, hl, k, h => by
    rcases List.mem_cons.mp (show k ∈ between (lastK a) (firstK b) :: ik (b :: r) from h) with rfl | h
    · exact byts_between (byts_lastK (hl a List.mem_cons_self)) (byts_firstK (hl b (List.mem_cons_of_mem _ List.mem_cons_self)))
    · exact byts_ik (b :: r) (fun ks hks => hl ks (List.mem_cons_of_mem _ hks)) k h
theorem byts_hands : ∀ (l : List Blk) (p : Nat), ∀ x ∈ hands p l, byts x
  | [], p, x, h => by simp [hands] at h
  | a :: r, p, x, h => by
    rcases List.mem_cons.mp (show x ∈ (Handle.mk p a.2.length).bytes :: hands (p + a.2.length + 5) r from h) with rfl | h
    · exact byts_handle _
    · exact byts_hands r _ x h
theorem byts_idx {ps : List (Bytes × Bytes)} (h : ∀ p ∈ ps, byts p.1 ∧ byts p.2) : byts (idxContent ps) := by
  unfold idxContent
  refine byts_content ?_
  have go : ∀ (ps : List (Bytes × Bytes)) (w : BW), byts w.body → (∀ p ∈ ps, byts p.1 ∧ byts p.2) → byts (ps.foldl (fun w p => w.put 1 p.1 p.2) w).body := by
    intro ps
    induction ps with
    | nil => intro w hw _; exact hw
    | cons p r ih => intro w hw hp; exact ih _ (byts_put hw (hp p List.mem_cons_self).1 (hp p List.mem_cons_self).2) fun q hq => hp q (List.mem_cons_of_mem _ hq)
  exact go ps BW.new byts_nil h
theorem byts_name : byts NAME := by
  have e : NAME.all (fun x => decide (x < 256)) = true := by decide
  intro x hx
  exact of_decide_eq_true (List.all_eq_true.mp e x hx)
theorem byts_meta (iv : Nat) (h : Option Handle) : byts (metaContent iv h) := by
  cases h with
  | none => exact byts_content byts_nil
  | some h => exact byts_content (byts_put byts_nil byts_name (byts_handle h))
/-! ### where blocks begin -/
def bgs (bs : List Blk) : List Nat := (begun 0 bs).map fun x => x.1
theorem begun_zip : ∀ (bs : List Blk) (p : Nat), ((begun p bs).map fun x => x.1).zip (bs.map fun b => b.1) = begun p bs
  | [], p => rfl
  | a :: r, p => by
    show (p, a.1) :: ((begun (p + a.2.length + 5) r).map fun x => x.1).zip (r.map fun b => b.1) = (p, a.1) :: begun (p + a.2.length + 5) r
    rw [begun_zip r]
theorem bgs_snoc (bs : List Blk) (b : Blk) : bgs (bs ++ [b]) = bgs bs ++ [(outOf bs).length] := by
  unfold bgs
  rw [begun_snoc, List.map_append, Nat.zero_add]
  rfl
theorem bgs_length (bs : List Blk) : (bgs bs).length = bs.length := by
  unfold bgs
  rw [List.length_map]
  have : ∀ (bs : List Blk) (p : Nat), (begun p bs).length = bs.length := by
    intro bs
    induction bs with
    | nil => intro p; rfl
    | cons a r ih => intro p; show (begun _ r).length + 1 = r.length + 1; rw [ih]
  exact this bs 0
theorem bgs_lt (bs : List Blk) : ∀ x ∈ bgs bs, x < (outOf bs).length := fun x hx => by
  obtain ⟨y, hy, rfl⟩ := List.mem_map.mp hx
  have := begun_lt bs 0 y hy
  omega
theorem bgs_le_last (bs : List Blk) : ∀ x ∈ bgs bs, x ≤ (bgs bs).getLastD 0 := by
  rcases snoc_cases bs with h | ⟨r, b, h⟩
  · rw [h]; intro x hx; simp [bgs, begun] at hx
  · rw [h, bgs_snoc]
    intro x hx
    have e : (bgs r ++ [(outOf r).length]).getLastD 0 = (outOf r).length := by simp
    rw [e]
    rcases List.mem_append.mp hx with hx | hx
    · exact Nat.le_of_lt (bgs_lt r x hx)
    · have : x = (outOf r).length := by simpa using hx
      omega
theorem piecesN_eq (bs : List Blk) : piecesN bs = (outOf bs).length / 2048 + (if bgs bs ≠ [] ∧ (bgs bs).getLastD 0 / 2048 = (outOf bs).length / 2048 then 1 else 0) := by
  unfold piecesN
  congr 1
  generalize hn : (outOf bs).length / 2048 = n
  by_cases h : bgs bs ≠ [] ∧ (bgs bs).getLastD 0 / 2048 = n
  · rw [if_pos h]
    have : (begun 0 bs).any (fun x => x.1 / 2048 == n) = true := by
      rw [List.any_eq_true]
      obtain ⟨h1, h2⟩ := h
      have hm : (bgs bs).getLastD 0 ∈ bgs bs := by
        rw [List.getLastD_eq_getLast?]
        cases q : (bgs bs).getLast? with
        | none => exact absurd (List.getLast?_eq_none_iff.mp q) h1
        | some x => exact List.mem_of_getLast? q
      obtain ⟨y, hy, e⟩ := List.mem_map.mp hm
      refine ⟨y, hy, ?_⟩
      have e : y.1 = (bgs bs).getLastD 0 := e
      rw [e, h2]
      simp
    rw [this]
    rfl
  · rw [if_neg h]
    have : (begun 0 bs).any (fun x => x.1 / 2048 == n) = false := by
      rw [List.any_eq_false]
      intro y hy he
      refine h ⟨fun z => ?_, ?_⟩
      · have : y.1 ∈ bgs bs := List.mem_map.mpr ⟨y, hy, rfl⟩
        rw [z] at this
        cases this
      · have hy1 : y.1 ∈ bgs bs := List.mem_map.mpr ⟨y, hy, rfl⟩
        have h1 := bgs_le_last bs y.1 hy1
        have hbn : bgs bs ≠ [] := fun z => by rw [z] at hy1; cases hy1
        have h2 : (bgs bs).getLastD 0 < (outOf bs).length := by
          refine bgs_lt bs _ ?_
          rw [List.getLastD_eq_getLast?]
          cases q : (bgs bs).getLast? with
          | none => exact absurd (List.getLast?_eq_none_iff.mp q) hbn
          | some x => exact List.mem_of_getLast? q
        have he : y.1 / 2048 = n := by simpa using he
        have h3 : (bgs bs).getLastD 0 / 2048 ≤ n := by rw [← hn]; exact Nat.div_le_div_right (Nat.le_of_lt h2)
        have h4 : y.1 / 2048 ≤ (bgs bs).getLastD 0 / 2048 := Nat.div_le_div_right h1
        omega
    rw [this]
    rfl
theorem bgs_piece (bs : List Blk) : ∀ x ∈ bgs bs, x / 2048 < piecesN bs := fun x hx => by
  have h1 := bgs_lt bs x hx
  have h2 : x / 2048 ≤ (outOf bs).length / 2048 := Nat.div_le_div_right (Nat.le_of_lt h1)
  rw [piecesN_eq]
  by_cases h3 : x / 2048 = (outOf bs).length / 2048
  · have h4 := bgs_le_last bs x hx
    have hbn : bgs bs ≠ [] := fun z => by rw [z] at hx; cases hx
    have h5 : (bgs bs).getLastD 0 < (outOf bs).length := by
      refine bgs_lt bs _ ?_
      rw [List.getLastD_eq_getLast?]
      cases q : (bgs bs).getLast? with
      | none => exact absurd (List.getLast?_eq_none_iff.mp q) hbn
      | some x => exact List.mem_of_getLast? q
    have h6 : (bgs bs).getLastD 0 / 2048 ≤ (outOf bs).length / 2048 := Nat.div_le_div_right (Nat.le_of_lt h5)
    have h7 : x / 2048 ≤ (bgs bs).getLastD 0 / 2048 := Nat.div_le_div_right h4
    rw [if_pos ⟨hbn, by omega⟩]
    omega
  · omega
end My

set_option Elab.async false
set_option linter.all false
set_option maxRecDepth 100000
/-! ### the head of a specification's row over the hand layer -/
namespace KL
open PySem PySem.W PyProof.Rows L2
inductive Arg where
  | int (i : Int)
  | nums (ns : List Int)
def Arg.data : Arg → WData
  | .int i => .int i
  | .nums ns => .list (ns.map WData.int)
def Arg.fits : Arg → Prop
  | .int _ => True
  | .nums ns => ns.length ≤ sizeLine
def ArgIs (K : Frag) (H : Hp) : Arg → V → Prop
  | .int i, v => v = .int i
  | .nums ns, v => ∃ a, v = .ref a ∧ SqL K H a (ns.map V.int)
/-- nothing is tracked but lists that are known to the object -/
def OnlyK (K : Frag) (H : Hp) : Prop := ∀ b, H b = none ∨ (K.lookup b = none ∧ ∃ o xs, H b = some (.frz o (.lst xs)))
theorem ints_of_wellAll {P : Params} {h : Heap} {ns : List Int} {vs : List Value} (w : WellAll P h vs (ns.map WData.int)) : IntsAre vs ns := Att.ints_of_wellAll ns vs w
theorem intsAre_inj : ∀ {vs : List Value} {ns ms : List Int}, IntsAre vs ns → IntsAre vs ms → ns = ms
  | _, _, _, .nil, h => by cases h; rfl
  | _, _, _, .cons n t h1, h => by
    cases h with
    | cons m u h2 => rw [intsAre_inj h1 h2]
/-- an argument that is a list, as it lies in the heap -/
def LiesAt (h : Heap) (b : Addr) (vs : List Value) (ns : List Int) : Prop := h.get? b = some { cls := .type "list", data := .seq vs.toArray } ∧ IntsAre vs ns ∧ ns.length ≤ sizeLine
open Classical in
noncomputable def argHp (K : Frag) (h : Heap) (as : List Addr) : Hp := fun b =>
  if q : K.lookup b = none ∧ b ∈ as ∧ ∃ p : List Value × List Int, LiesAt h b p.1 p.2 then
    some (.frz { cls := .type "list", data := .seq (choose q.2.2).1.toArray } (.lst ((choose q.2.2).2.map V.int)))
  else none
theorem argHp_some {K : Frag} {h : Heap} {as : List Addr} {b : Addr} {vs : List Value} {ns : List Int} (hk : K.lookup b = none) (hb : b ∈ as) (l : LiesAt h b vs ns) :
    argHp K h as b = some (.frz { cls := .type "list", data := .seq vs.toArray } (.lst (ns.map V.int))) := by
  have q : K.lookup b = none ∧ b ∈ as ∧ ∃ p : List Value × List Int, LiesAt h b p.1 p.2 := ⟨hk, hb, (vs, ns), l⟩
  unfold argHp
  rw [dif_pos q]
  obtain ⟨c1, c2, c3⟩ := Classical.choose_spec q.2.2
  have e1 : (Classical.choose q.2.2).1 = vs := by
    have e := c1.symm.trans l.1
    have e' : ((Classical.choose q.2.2).1.toArray : Array Value) = vs.toArray := by
      injection e with e
      injection e with _ _ e _
      injection e with e _
    simpa using e'
  have e2 : (Classical.choose q.2.2).2 = ns := by
    rw [e1] at c2
    exact intsAre_inj c2 l.2.1
  rw [e1, e2]
theorem argHp_of {K : Frag} {h : Heap} {as : List Addr} {b : Addr} {u : HO} (e : argHp K h as b = some u) :
    K.lookup b = none ∧ b ∈ as ∧ ∃ (vs : List Value) (ns : List Int), LiesAt h b vs ns ∧ u = .frz { cls := .type "list", data := .seq vs.toArray } (.lst (ns.map V.int)) := by
  by_cases q : K.lookup b = none ∧ b ∈ as ∧ ∃ p : List Value × List Int, LiesAt h b p.1 p.2
  · unfold argHp at e
    rw [dif_pos q] at e
    exact ⟨q.1, q.2.1, _, _, Classical.choose_spec q.2.2, (Option.some.inj e).symm⟩
  · unfold argHp at e
    rw [dif_neg q] at e
    cases e
def refs : List Value → List Addr
  | [] => []
  | .ref a :: r => a :: refs r
  | _ :: r => refs r
theorem args_are {P : Params} {K : Frag} {h : Heap} (KX : K.In h) (as : List Addr) : ∀ {us : List Value} {gs : List Arg}, WellAll P h us (gs.map Arg.data) → (∀ g ∈ gs, g.fits) → (∀ a ∈ refs us, a ∈ as) →
    ∃ vs : List V, Vals vs us ∧ Paired (fun g v => ArgIs K (argHp K h as) g v) gs vs
  | [], [], _, _, _ => ⟨[], .nil, .nil⟩
  | [], _ :: _, w, _, _ => by rw [List.map_cons] at w; cases w
  | _ :: _, [], w, _, _ => by rw [List.map_nil] at w; cases w
  | u :: us, g :: gs, w, hf, hr => by
    rw [List.map_cons] at w
    cases w with
    | cons w1 w2 =>
      cases g with
      | int i =>
        have w1 : Well P h u (.int i) := w1
        cases w1 with
        | int _ t =>
          obtain ⟨vs, r, p⟩ := args_are KX as w2 (fun g hg => hf g (List.mem_cons_of_mem _ hg)) hr
          exact ⟨.int i :: vs, .cons ⟨t, rfl⟩ r, .cons rfl p⟩
      | nums ns =>
        have w1 : Well P h u (.list (ns.map WData.int)) := w1
        cases w1 with
        | @list a vs0 xs ho hall =>
          have hi := ints_of_wellAll hall
          have hl : ns.length ≤ sizeLine := hf (.nums ns) List.mem_cons_self
          have hr' : a ∈ as := hr a (show a ∈ a :: refs us from List.mem_cons_self)
          obtain ⟨vs, r, p⟩ := args_are KX as w2 (fun g hg => hf g (List.mem_cons_of_mem _ hg)) fun b hb => hr b (show b ∈ a :: refs us from List.mem_cons_of_mem _ hb)
          refine ⟨.ref a :: vs, .cons rfl r, .cons ⟨a, rfl, ?_⟩ p⟩
          cases hk : K.lookup a with
          | none => exact .inl (.inr ⟨_, argHp_some hk hr' ⟨ho, hi, hl⟩⟩)
          | some o =>
            have e := KX a o hk
            rw [ho] at e
            cases e
            exact .inr ⟨_, vs0.toArray, _, hk, rfl, rfl, rfl, by rw [List.size_toArray, hi.length]; exact hl, by simpa using vals_ints hi⟩
theorem reads_ints {cl : Str → Option Addr} {h : Heap} : ∀ {its : List Value} {ns : List Int}, Vals (ns.map V.int) its → ReadsAllW [] cl h its (ns.map WData.int) []
  | [], [], _ => .nil
  | [], _ :: _, r => by rw [List.map_cons] at r; cases r
  | _ :: _, [], r => by rw [List.map_nil] at r; cases r
  | u :: us, n :: ns, r => by
    rw [List.map_cons] at r
    cases r with
    | cons r1 r2 =>
      obtain ⟨t, rfl⟩ := r1
      rw [List.map_cons]
      exact ReadsAllW.cons (as := []) (bs := []) (.int n t) (reads_ints r2)
/-! ### defs of the text, bundled -/
/-- a def of the module as it stands behind the top -/
structure DefAt (K : Frag) (mg : Str → Option Value) (x : Str) (st : Stmt) : Prop where
  ex : ∃ f fd, mg x = some (.ref f) ∧ Fun K x x st f fd
/-- a def that keeps its promise -/
structure Fx (P : Program) (w : World) (K : Frag) (mg : Str → Option Value) (base : Heap) (x : Str) (k : Nat) (ps : List Str) (sp : Sp) : Prop where
  ex : ∃ f fd, mg x = some (.ref f) ∧ keepIn K (.ref f) = true ∧ Binds K fd ps [] ∧ FnOk P w K mg base CX0 k f fd ps sp
theorem pe_fx {X : Cx} {x : Str} {k : Nat} {ps : List Str} {sp : Sp} {p pos : Pos} {e : Expr} {es : List Expr} {t : TA} (F : Fx X.prog X.w X.K X.mg X.base x k ps sp) (hr : Room k X.A) (hg : Gl X x) (ha : PA X (e :: es) t)
    (hdb : (x == ("__debug__" : Str)) = false := by decide) (he : starEach (e :: es) X.env = (false, eval e X.env) :: starEach es X.env := by rfl) (hpl : (backTo pos (starEach es X.env)).any (·.1) = false := by rfl) :
    PE X (.Call (.Name x p) (e :: es) [] pos) (tCall sp [] E0 t) := by
  obtain ⟨f, fd, hm, hk, hb, G⟩ := F.ex
  exact pe_call G hr hg hm hk hb .nil pass0 ha hdb he hpl
section
variable {P : Program} {w : World} {K : Frag} {mg : Str → Option Value} {base : Heap}
theorem DefAt.fx {x : Str} {st : Stmt} {N ps : List Str} {k : Nat} {sp : Sp} (D : DefAt K mg x st) (S : FnScope N ps (defScope st))
    (hb : ∀ (kV doc pm : Value) (an : Option Addr) (cdv ct : Value) (us : List Value), us.length = ps.length → bindArgs (fnOf x x (defArgs st) (defBody st) (defScope st) .none kV doc pm an cdv ct) ⟨us, []⟩ = pure (ps.zip us))
    (len : ∀ vs H Q E, sp vs H Q E → vs.length = ps.length)
    (hbody : ∀ (f : Addr) (cdv : Value) (A : Around) (outer : List Env) (s : Shared) (H : Hp) (vs : List V) (Q : VK) (E : XK), Room k (A.deeper (envOfC x (defScope st) s.heap.objs.size f cdv)) → sp vs H Q E →
      ∃ t, PSs (cxOf CX0 P w K mg base N x (defScope st) f cdv A outer s H E).nox (defBody st) t ∧ t { nx := fun _ H' => Q .non H', rt := Q } (start N vs) H) : Fx P w K mg base x (k + 1) ps sp := by
  obtain ⟨f, fd, hm, F⟩ := D.ex
  exact ⟨f, fd, hm, F.kp, F.binds hb, F.ok S len fun cdv A outer s H vs Q E hr h => hbody f cdv A outer s H vs Q E hr h⟩
theorem Fx.imp {x : Str} {ps : List Str} {k : Nat} {sp sp' : Sp} (F : Fx P w K mg base x k ps sp) (h : ∀ vs H Q E, sp' vs H Q E → sp vs H Q E) : Fx P w K mg base x k ps sp' := by
  obtain ⟨f, fd, hm, hk, hb, G⟩ := F.ex
  exact ⟨f, fd, hm, hk, hb, G.imp h⟩
end
/-- THE HEAD -/
theorem spec_call {P : Program} {w : World} {K : Frag} {mg mb : Str → Option Value} {k : Nat} {x : Str} {fa : Addr} {ps : List Str} {sp : Sp} {s₁ : Shared} {us : List Value} {gs : List Arg} {cl : Str → Option Addr} {ans : List Int}
    (KX : K.In s₁.heap) (hns : s₁.heap.Ns mainGlobals mg) (hb : s₁.heap.Ns builtinsNs mb) (hbb : ∀ x : Str, x ≠ "__name__" → mb x = bootBuiltins x) (hlim : s₁.heap.NoLimit) (hg : s₁.gens = #[])
    (hw : WellAll w.params s₁.heap us (gs.map Arg.data)) (hf : ∀ g ∈ gs, g.fits) (hr : Room k callerA)
    (F : ∀ base : Heap, K.In base → base.Ns mainGlobals mg → Fx P w K mg base x k ps sp) (hmg : mg x = some (.ref fa)) (hul : us.length = ps.length)
    (hsp : ∀ (H : Hp) (vs : List V), OnlyK K H → Paired (fun g v => ArgIs K H g v) gs vs → sp vs H (fun v H' => ∃ a, v = .ref a ∧ SqL K H' a (ans.map V.int)) fun _ _ _ => False) :
    codeAny (model P w) callerA (.call (.ref fa) ⟨us, []⟩) (fun r s' => (∃ u as, r = .ok (.ret u) ∧ ReadsW [] cl s'.heap u (.list (ans.map WData.int)) as) ∧ OldK s₁.heap s'.heap ∧ s'.os = s₁.os ∧ AllBare s'.gens) s₁ := by
  obtain ⟨vs, rv, pv⟩ := args_are KX (refs us) hw hf fun a h => h
  generalize hH : argHp K s₁.heap (refs us) = H at pv
  have hO : OnlyK K H := fun b => by
    cases q : H b with
    | none => exact .inl rfl
    | some u =>
      rw [← hH] at q
      obtain ⟨q1, _, vs, ns, _, rfl⟩ := argHp_of q
      exact .inr ⟨q1, _, _, rfl⟩
  have hok : HOk P w H s₁.heap := fun b u e => by
    rw [← hH] at e
    obtain ⟨_, _, vs, ns, ⟨l1, l2, l3⟩, rfl⟩ := argHp_of e
    exact ⟨l1, by rw [List.length_map]; exact l3, vs, _, vals_ints l2, l1⟩
  have base_of : ∀ {b : Addr} {o : Obj}, s₁.heap.get? b = some o → H b = none → (hidT s₁.heap H).get? b = some o := fun e n => hidT_get e n
  have noA : ∀ {b : Addr} {o : Obj} {es : Array DictEntry} {ep : Nat}, s₁.heap.get? b = some o → o.data = .dict es ep → H b = none := fun {b o es ep} e d => by
    cases q : H b with
    | none => rfl
    | some u =>
      rw [← hH] at q
      obtain ⟨_, _, vs, ns, ⟨l1, _, _⟩, _⟩ := argHp_of q
      rw [l1] at e
      cases e
      cases d
  have nsK : ∀ {b : Addr} {m : Str → Option Value}, s₁.heap.Ns b m → (hidT s₁.heap H).Ns b m := fun {b m} ⟨o, es, ep, e, d, r⟩ => ⟨o, es, ep, base_of e (noA e d), d, r⟩
  have freeK : ∀ b o, K.lookup b = some o → H b = none := fun b o e => by
    rcases hO b with z | ⟨z, _⟩
    · exact z
    · rw [e] at z; cases z
  have hKb : K.In (hidT s₁.heap H) := fun b o e => base_of (KX b o e) (freeK b o e)
  have hM : Mod K mg (hidT s₁.heap H) := ⟨hKb, nsK hns, ⟨mb, nsK hb, hbb⟩, let ⟨mc, h1, h2⟩ := hlim; ⟨mc, nsK h1, h2⟩⟩
  have e0 : Env0 P w K mg (hidT s₁.heap H) callerA [] s₁ H := ⟨rfl, hM, fun b o e => of_hidT e, Nat.le_of_eq (hidT_size _ _), trivial, fun b hb => absurd (show b ∈ ([] : List Addr) from hb) (by simp), hok, .of_eq hg⟩
  obtain ⟨f', fd, hm', _, hbd, G⟩ := (F _ hKb (nsK hns)).ex
  rw [hmg] at hm'
  cases hm'
  have hbind : BindsTo s₁ fd ⟨us, []⟩ (ps.zip us) := by
    have z := hbd s₁ us KX (by rw [List.append_nil]; exact hul)
    rw [List.append_nil] at z
    exact z
  refine codeAny_mono (G.run callerA [] s₁ H ⟨us, []⟩ us vs _ _ hr e0 hbind rv (hsp H vs hO pv)) fun r s' h => ?_
  cases r with
  | error e => exact False.elim h
  | ok fl =>
    cases fl with
    | next => exact False.elim h
    | brk => exact False.elim h
    | cont => exact False.elim h
    | ret u =>
      obtain ⟨v, H', os, bare, un, hok', r', a, rfl, hS⟩ := h
      obtain rfl : u = Value.ref a := r'
      have keeps : ∀ b o, s₁.heap.get? b = some o → s'.heap.get? b = some o := fun b o e => by
        cases q : H b with
        | none => exact un.keep b o e q (by intro z; exact absurd (show b ∈ ([] : List Addr) from z) (by simp)) (by simp)
        | some u =>
          rcases hO b with z | ⟨_, ob, xs, z⟩
          · rw [q] at z; cases z
          · have z2 := un.frzs b ob _ z
            obtain ⟨e1, _⟩ := hok b _ z
            obtain ⟨e2, _⟩ := hok' b _ z2
            rw [e] at e1; cases e1
            exact e2
      refine ⟨⟨.ref a, [a], rfl, ?_⟩, OldK.of_keep keeps, os, bare⟩
      · rcases hS with hS | ⟨o, its, n, e1, e2, e3, e4, _, rv2⟩
        · obtain ⟨_, its, n, rv2, e⟩ := hS.ok hok'
          exact ReadsW.list (as := []) e rfl rfl (by simpa using reads_ints rv2)
        · exact ReadsW.list (as := []) (keeps a o (KX a o e1)) e2 e4 (reads_ints rv2)
/-- the goal that k_headS leaves, from the promise of the row's def -/
theorem walk_ofS {r : OpenSpec} {k : Nat} {q : Program} {loose : List Str} {XP : (Str → Option Value) → Heap → Prop} {YP : World → Heap → Prop} {d : DefRec} {K : Params → Frag} {sp : Frag → Sp} {ps : List Str}
    (hdf : d.params.defaults = []) (hr : Room k callerA)
    (hY : ∀ (w : World) (h : Heap), YP w h → (K w.params).In h)
    (hargs : ∀ args, r.pre args = true → ∃ (gs : List Arg) (ans : List Int), args = gs.map Arg.data ∧ (∀ g ∈ gs, g.fits) ∧ gs.length = ps.length ∧ r.post args (.list (ans.map WData.int)) = true ∧
      ∀ (w : World) (H : Hp) (vs : List V), OnlyK (K w.params) H → Paired (fun g v => ArgIs (K w.params) H g v) gs vs → sp (K w.params) vs H (fun v H' => ∃ a, v = .ref a ∧ SqL (K w.params) H' a (ans.map V.int)) fun _ _ _ => False)
    (F : ∀ (w : World) (mg : Str → Option Value) (h : Heap), (K w.params).In h → h.Ns mainGlobals mg →
      ∀ base : Heap, (K w.params).In base → base.Ns mainGlobals mg → Fx r.prog w (K w.params) mg base d.name k ps (sp (K w.params))) :
    WalkOS q loose XP YP r d [] (fun f vs => PySem.call f vs) := by
  intro w s₀ s₁ mg mb G Y fa o pm cd doc dV kV ho hd hcd hD hmg hg args vals as hpre hlay hrd hwl hlo
  have KX := hY w _ Y
  obtain ⟨gs, ans, rfl, hfit, hlen, hpost, hsp⟩ := hargs args hpre
  have hul : vals.length = ps.length := by
    have : ∀ {P : Params} {h : Heap} {us : List Value} {ds : List WData}, WellAll P h us ds → us.length = ds.length := by
      intro P h us
      induction us with
      | nil => intro ds w; cases w; rfl
      | cons u us ih => intro ds w; cases w with | cons _ w => rw [List.length_cons, List.length_cons, ih w]
    rw [this hwl, List.length_map, hlen]
  refine enter_call (codeAny_mono (spec_call (cl := classAt s₀.heap) (ans := ans) KX G.T.g G.T.b G.T.builtins G.T.nolimit hg hwl hfit hr (F w mg _ KX G.T.g) hmg hul (hsp w)) fun res s' hq => ?_)
  obtain ⟨⟨u, bs, rfl, hrd'⟩, h2, h3, h4⟩ := hq
  exact ⟨.inl ⟨u, _, bs, rfl, fun _ => rfl, hrd', osPost hpost, fun hu => by cases hu⟩, h2, h3, h4⟩
/-! ### reading the request -/
theorem dec_cons {c : Codec} {cs : List Codec} {ds : List WData} {a : c.denote} {r : Codec.denoteAll cs} (h : Codec.decAll (c :: cs) ds = some (a, r)) : ∃ d ds', ds = d :: ds' ∧ c.dec d = some a ∧ Codec.decAll cs ds' = some r := by
  cases ds with
  | nil => cases h
  | cons d ds =>
    have e : Codec.decAll (c :: cs) (d :: ds) = Codec.both Prod.mk (c.dec d) (Codec.decAll cs ds) := rfl
    rw [e] at h
    cases h1 : c.dec d with
    | none => rw [h1] at h; cases h
    | some a' =>
      cases h2 : Codec.decAll cs ds with
      | none => rw [h1, h2] at h; cases h
      | some r' =>
        rw [h1, h2] at h
        cases h
        exact ⟨d, ds, rfl, h1, h2⟩
theorem dec_nil {ds : List WData} {r : Codec.denoteAll []} (h : Codec.decAll [] ds = some r) : ds = [] := by
  cases ds with
  | nil => rfl
  | cons d ds => cases h
theorem dec_int {lo hi : Int} {d : WData} {k : Int} (h : (Codec.int lo hi).dec d = some k) : d = .int k ∧ lo ≤ k ∧ k ≤ hi := by
  have h : Codec.decInt lo hi d = some k := h
  cases d with
  | int z =>
    have h : (if Codec.inInt lo hi z = true then some z else none) = some k := h
    by_cases hc : Codec.inInt lo hi z = true
    · rw [if_pos hc] at h
      cases h
      unfold Codec.inInt at hc
      simp only [Bool.and_eq_true, decide_eq_true_eq] at hc
      exact ⟨rfl, hc.1, hc.2⟩
    · rw [if_neg hc] at h
      cases h
  | _ => cases h
theorem dec_items {lo hi : Int} : ∀ {ds : List WData} {ns : List Int}, Codec.decItems (Codec.decInt lo hi) ds = some ns → ds = ns.map WData.int ∧ ∀ x ∈ ns, lo ≤ x ∧ x ≤ hi
  | [], ns, h => by cases h; exact ⟨rfl, fun _ h => nomatch h⟩
  | d :: ds, ns, h => by
    have h : Codec.both List.cons (Codec.decInt lo hi d) (Codec.decItems (Codec.decInt lo hi) ds) = some ns := h
    cases h1 : Codec.decInt lo hi d with
    | none => rw [h1] at h; cases h
    | some a =>
      cases h2 : Codec.decItems (Codec.decInt lo hi) ds with
      | none => rw [h1, h2] at h; cases h
      | some r =>
        rw [h1, h2] at h
        cases h
        obtain ⟨e1, b1, b2⟩ := dec_int (lo := lo) (hi := hi) h1
        obtain ⟨e2, b3⟩ := dec_items h2
        refine ⟨by rw [e1, e2]; rfl, fun x hx => ?_⟩
        rcases List.mem_cons.mp hx with rfl | hx
        · exact ⟨b1, b2⟩
        · exact b3 x hx
theorem dec_list {least most : Nat} {lo hi : Int} {d : WData} {ns : List Int} (h : (Codec.list least most (.int lo hi)).dec d = some ns) : d = .list (ns.map WData.int) ∧ ns.length ≤ most ∧ ∀ x ∈ ns, lo ≤ x ∧ x ≤ hi := by
  have h : Codec.decList least most (Codec.decInt lo hi) d = some ns := h
  cases d with
  | list ds =>
    have h : (if Codec.inLen least most ds = true then Codec.decItems (Codec.decInt lo hi) ds else none) = some ns := h
    by_cases hc : Codec.inLen least most ds = true
    · rw [if_pos hc] at h
      obtain ⟨e, b⟩ := dec_items h
      unfold Codec.inLen Codec.inNat at hc
      simp only [Bool.and_eq_true, decide_eq_true_eq] at hc
      refine ⟨by rw [e], ?_, b⟩
      rw [e, List.length_map] at hc
      exact hc.2
    · rw [if_neg hc] at h
      cases h
  | _ => cases h
theorem post_list {r : OpenSpec} {as : List WData} {a : Codec.denoteAll r.args} {k : List Int} (h1 : Codec.decAll r.args as = some a) (h2 : r.ret.enc (Codec.app r.args r.f a) = .list (k.map WData.int)) : r.post as (.list (k.map WData.int)) = true := by
  refine os_post h1 ?_
  rw [h2]
  exact same_self _
end KL

set_option Elab.async false
set_option linter.all false
set_option maxRecDepth 100000
namespace KL
open PySem PySem.W PyProof.Rows L2
/-- bytes (naturals) as the layer's values -/
def vb (l : List Nat) : List V := l.map fun n : Nat => V.int (n : Int)
theorem vb_length (l : List Nat) : (vb l).length = l.length := List.length_map _
theorem vb_append (a b : List Nat) : vb (a ++ b) = vb a ++ vb b := List.map_append
theorem vb_get {l : List Nat} {i : Nat} {v : V} (h : (vb l)[i]? = some v) : ∃ n, l[i]? = some n ∧ v = V.int (n : Int) := by
  unfold vb at h
  rw [List.getElem?_map] at h
  cases e : l[i]? with
  | none => rw [e] at h; cases h
  | some n => rw [e] at h; exact ⟨n, rfl, (Option.some.inj h).symm⟩
theorem vb_nats {ns : List Int} (h : ∀ x ∈ ns, 0 ≤ x) : ns.map V.int = vb (ns.map Int.toNat) := by
  unfold vb
  rw [List.map_map]
  refine List.map_congr_left fun x hx => ?_
  show V.int x = V.int ((x.toNat : Nat) : Int)
  rw [Int.toNat_of_nonneg (h x hx)]
theorem xor_nat (a b : Nat) : Builtin.bitXor (a : Int) (b : Int) = ((a ^^^ b : Nat) : Int) := by
  rw [bitXor_and]
  have e : Builtin.bitAnd (a : Int) (b : Int) = ((a &&& b : Nat) : Int) := by
    unfold Builtin.bitAnd
    have h1 : decide ((0 : Int) ≤ (a : Int)) = true := by simp
    have h2 : decide ((0 : Int) ≤ (b : Int)) = true := by simp
    rw [h1, h2]
    rfl
  rw [e]
  have := My.xor_and a b
  omega
theorem and_nat (a b : Nat) : Builtin.bitAnd (a : Int) (b : Int) = ((a &&& b : Nat) : Int) := by
  unfold Builtin.bitAnd
  have h1 : decide ((0 : Int) ≤ (a : Int)) = true := by simp
  have h2 : decide ((0 : Int) ≤ (b : Int)) = true := by simp
  rw [h1, h2]
  rfl
theorem or_nat (a b : Nat) : Builtin.bitOr (a : Int) (b : Int) = ((a ||| b : Nat) : Int) := by
  have h : Builtin.bitXor (a : Int) (b : Int) = Builtin.bitOr (a : Int) (b : Int) - Builtin.bitAnd (a : Int) (b : Int) := rfl
  rw [xor_nat, and_nat] at h
  have h1 := My.xor_and a b
  have h2 := My.or_and a b
  omega
theorem and15 (a : Nat) : Builtin.bitAnd (a : Int) 15 = ((a % 16 : Nat) : Int) := by
  rw [bitAnd_m4]
  omega
theorem shr4 (a : Nat) : (a : Int) / 2 ^ (4 : Int).toNat = ((a / 16 : Nat) : Int) := by
  show (a : Int) / 16 = _
  omega
end KL
/-! ### classes of the text, bundled -/
namespace KL
open PySem PySem.W PyProof.Rows L2
structure Mtx (P : Program) (w : World) (K : Frag) (mg : Str → Option Value) (base : Heap) (C : Addr) (m : Str) (k : Nat) (ps : List Str) (sp : Sp) : Prop where
  ex : ∃ f fd, Cls K C ∧ Meth K C m f ∧ Binds K fd ps [] ∧ FnOk P w K mg base CX0 k f fd ps sp
structure Mkx (P : Program) (w : World) (K : Frag) (mg : Str → Option Value) (base : Heap) (x : Str) (C : Addr) (k : Nat) (ps : List Str) (sp : Sp) : Prop where
  ex : ∃ f fd, mg x = some (.ref C) ∧ Mk K C f ∧ Binds K fd ps [] ∧ FnOk P w K mg base CX0 k f fd ps sp
theorem pe_mx {X : Cx} {x : Str} {C : Addr} {k : Nat} {ps : List Str} {sp : Sp} {p pos : Pos} {e : Expr} {es : List Expr} {t : TA} (M : Mkx X.prog X.w X.K X.mg X.base x C k ps sp) (hr : Room (k + 1) X.A) (hg : Gl X x) (ha : PA X (e :: es) t)
    (hdb : (x == ("__debug__" : Str)) = false := by decide) (he : starEach (e :: es) X.env = (false, eval e X.env) :: starEach es X.env := by rfl) (hpl : (backTo pos (starEach es X.env)).any (·.1) = false := by rfl) :
    PE X (.Call (.Name x p) (e :: es) [] pos) (tMake C sp [] E0 t) := by
  obtain ⟨f, fd, hm, hk, hb, G⟩ := M.ex
  exact pe_make hk G hr hg hm hb .nil pass0 ha hdb he hpl
theorem pe_mx0 {X : Cx} {x : Str} {C : Addr} {k : Nat} {ps : List Str} {sp : Sp} {p pos : Pos} (M : Mkx X.prog X.w X.K X.mg X.base x C k ps sp) (hr : Room (k + 1) X.A) (hg : Gl X x)
    (hdb : (x == ("__debug__" : Str)) = false := by decide) : PE X (.Call (.Name x p) [] [] pos) (tMake C sp [] E0 tNil) := by
  obtain ⟨f, fd, hm, hk, hb, G⟩ := M.ex
  exact pe_make0 hk G hr hg hm hb .nil pass0 hdb
theorem pe_mt {X : Cx} {o e : Expr} {es : List Expr} {C : Addr} {m : Str} {k : Nat} {ps : List Str} {sp : Sp} {apos pos : Pos} {ta : TE} {t : TA} {pl : Sem Bool} (he : PE X o ta) (M : Mtx X.prog X.w X.K X.mg X.base C m k ps sp) (hr : Room k X.A) (ha : PA X (e :: es) t)
    (hst : starEach (e :: es) X.env = (false, eval e X.env) :: starEach es X.env := by rfl) (hpl : (backTo pos (starEach es X.env)).any (·.1) = false := by rfl)
    (ht : eval (.Call (.Attribute o m apos) (e :: es) [] pos) X.env = (do
      let ov ← eval o X.env
      standAt apos.atName
      let (f, first) ← holding [ov] (getMethod ov m pl)
      callWith pos f first (backTo pos (starEach (e :: es) X.env)) (backToKw pos (keywordEach [] X.env))) := by rfl) :
    PE X (.Call (.Attribute o m apos) (e :: es) [] pos) (tMeth C m sp [] E0 ta t) := by
  obtain ⟨f, fd, hc, hm, hb, G⟩ := M.ex
  exact pe_meth he hc hm G hr hb .nil pass0 ha hst hpl ht
theorem pe_mt0 {X : Cx} {o : Expr} {C : Addr} {m : Str} {k : Nat} {ps : List Str} {sp : Sp} {apos pos : Pos} {ta : TE} {pl : Sem Bool} (he : PE X o ta) (M : Mtx X.prog X.w X.K X.mg X.base C m k ps sp) (hr : Room k X.A)
    (ht : eval (.Call (.Attribute o m apos) [] [] pos) X.env = (do
      let ov ← eval o X.env
      standAt apos.atName
      let (f, first) ← holding [ov] (getMethod ov m pl)
      callWith pos f first (backTo pos (starEach [] X.env)) (backToKw pos (keywordEach [] X.env))) := by rfl) :
    PE X (.Call (.Attribute o m apos) [] [] pos) (tMeth C m sp [] E0 ta tNil) := by
  obtain ⟨f, fd, hc, hm, hb, G⟩ := M.ex
  exact pe_meth0 he hc hm G hr hb .nil pass0 ht
/-! ### heaps: what is done with stays -/
theorem Same.upd {G H : Hp} {l : Addr} {o : HO} (s : Same G H) (h : G l = none) : Same G (L2.upd H l o) := fun b u e => by
  rw [upd_ne (ne_of_none e h)]
  exact s b u e
theorem Same.new {G H : Hp} {l : Addr} {o : HO} (s : Same G H) (h : H l = none) : Same G (L2.upd H l o) := Same.upd s (s.free h)
theorem Same.grow {G H : Hp} {l : Addr} {o : HO} (s : Same G H) (h : H l = some o) : Same (L2.upd G l o) H := fun b u e => by
  by_cases hb : b = l
  · subst hb
    rw [upd_same] at e
    rw [h, e]
  · rw [upd_ne hb] at e
    exact s b u e
theorem Same.at {G H : Hp} {l : Addr} {o : HO} (s : Same G H) (h : G l = some o) : H l = some o := s l o h
end KL
namespace KL
open PySem PySem.W PyProof.Rows L2
theorem pe_gint {X : Cx} {x : Str} {i : Int} {pos : Pos} (hg : Gl X x) (hm : ∃ t, X.mg x = some (.int i t)) (hd : (x == ("__debug__" : Str)) = false := by decide) : PE X (.Name x pos) (tC (.int i)) := by
  obtain ⟨t, hm⟩ := hm
  exact pe_glob (v := .int i) hg hm ⟨t, rfl⟩ hd
theorem pe_gstr {X : Cx} {x : Str} {i : Str} {pos : Pos} (hg : Gl X x) (hm : ∃ t, X.mg x = some (.str i t)) (hd : (x == ("__debug__" : Str)) = false := by decide) : PE X (.Name x pos) (tC (.str i)) := by
  obtain ⟨t, hm⟩ := hm
  exact pe_glob (v := .str i) hg hm ⟨t, rfl⟩ hd
theorem pe_gref {X : Cx} {x : Str} {a : Addr} {pos : Pos} (hg : Gl X x) (hm : X.mg x = some (.ref a)) (hd : (x == ("__debug__" : Str)) = false := by decide) : PE X (.Name x pos) (tC (.ref a)) :=
  pe_glob (v := .ref a) hg hm rfl hd
end KL

set_option Elab.async false
set_option linter.all false
set_option maxRecDepth 100000
namespace KL
open PySem PyProof.Rows
/-- by the first that differs; where one has ended, by their lengths -/
def lexBy (d : Int → Int → Bool) (e : Nat → Nat → Bool) : List Int → List Int → Bool
  | x :: xs, y :: ys => if x = y then lexBy d e xs ys else d x y
  | [], ys => e 0 ys.length
  | xs, [] => e xs.length 0
section
open PySem.SeqAt
open PySem.AutoSeq1 (wpAny_loadPart')
open PySem.MeetsSeq PySem.MeetsSeq2 PySem.MeetsSeq3
theorem ints_get {vs : List Value} {ns : List Int} (h : IntsAre vs ns) : ∀ {i : Nat} {n : Int}, ns[i]? = some n → ∃ t, vs[i]? = some (.int n t) := by
  induction h with
  | nil => intro i n e; simp at e
  | cons m t _ ih =>
    intro i n e
    cases i with
    | zero => simp at e; subst e; exact ⟨t, rfl⟩
    | succ i => exact ih (by simpa using e)
theorem lexBy_end (d : Int → Int → Bool) (e : Nat → Nat → Bool) (ns ms : List Int) (h : ns = [] ∨ ms = []) : lexBy d e ns ms = e ns.length ms.length := by
  rcases h with rfl | rfl
  · cases ms <;> rfl
  · cases ns <;> rfl
theorem lexBy_step (d : Int → Int → Bool) (e : Nat → Nat → Bool) (ns ms : List Int) (i : Nat) {x y : Int} (hx : ns[i]? = some x) (hy : ms[i]? = some y) : lexBy d e (ns.drop i) (ms.drop i) = if x = y then lexBy d e (ns.drop (i + 1)) (ms.drop (i + 1)) else d x y := by
  obtain ⟨h1, e1⟩ := List.getElem?_eq_some_iff.mp hx
  obtain ⟨h2, e2⟩ := List.getElem?_eq_some_iff.mp hy
  rw [List.drop_eq_getElem_cons h1, List.drop_eq_getElem_cons h2, e1, e2]
  rfl
theorem le_loop (l b : Addr) (items items2 : Array Value) (n n2 : Nat) (dd dd2 : Option Addr) (sl sl2 : Array (Option Value)) (ns ms : List Int) (hi : IntsAre items.toList ns) (hj : IntsAre items2.toList ms) (k : Nat) :
    ∀ i : Nat, items.size - i = k → (i ≤ items.size ∧ i ≤ items2.size) → Meets (Builtin.«list.__eq__.loop» ⟨[.ref l, .ref b, rawInt i, rawInt 1], []⟩)
      (fun A R s => s.heap.get? l = some { cls := .type "list", dict := dd, data := .seq items n, slots := sl } ∧ s.heap.get? b = some { cls := .type "list", dict := dd2, data := .seq items2 n2, slots := sl2 } ∧
        R (.ok (.ret (.bool (lexBy (fun x y => decide (x ≤ y)) (fun x y => decide (x ≤ y)) (ns.drop i) (ms.drop i))))) s) := by
  have z1 : items.size = ns.length := by rw [← hi.length]; simp
  have z2 : items2.size = ms.length := by rw [← hj.length]; simp
  induction k with
  | zero =>
    intro i hk hle prog w A R s h
    obtain ⟨hp, g, d, tk, os⟩ := s; obtain ⟨hl, hb, h⟩ := h
    wp_walk using wpAny_loadPart' hl, wpAny_loadPart' hb
    have hi1 : items[((i : Nat) : Int).toNat]? = none := by simp; omega
    have hd : ns.drop i = [] := by simp; omega
    rw [hi1]
    rw [lexBy_end _ _ _ _ (.inl hd), List.length_drop, List.length_drop] at h
    have e : decide (ns.length - i ≤ ms.length - i) = decide (items.size ≤ items2.size) := by
      rw [z1, z2]
      have h1 := hle.1
      have h2 := hle.2
      rw [z1] at h1
      rw [z2] at h2
      by_cases q : ns.length ≤ ms.length
      · rw [decide_eq_true q, decide_eq_true (by omega)]
      · rw [decide_eq_false q, decide_eq_false (by omega)]
    rw [e] at h
    wp_walk using wpAny_loadPart' hl, wpAny_loadPart' hb
    exact h
  | succ k ih =>
    intro i hk hle prog w A R s h
    obtain ⟨hp, g, d, tk, os⟩ := s; obtain ⟨hl, hb, h⟩ := h
    wp_walk using wpAny_loadPart' hl, wpAny_loadPart' hb
    have hlt : i < items.size := by omega
    have hx : ns[i]? = some ns[i] := List.getElem?_eq_getElem (by omega)
    obtain ⟨t, ht⟩ := ints_get hi hx
    have hi1 : items[((i : Nat) : Int).toNat]? = some (.int ns[i] t) := by
      rw [← ht]; simp
    by_cases hlt2 : i < items2.size
    · have hy : ms[i]? = some ms[i] := List.getElem?_eq_getElem (by omega)
      obtain ⟨u, hu⟩ := ints_get hj hy
      have hi2 : items2[((i : Nat) : Int).toNat]? = some (.int ms[i] u) := by
        rw [← hu]; simp
      have hc : ((i : Int) + 1) = ((i + 1 : Nat) : Int) := by push_cast; rfl
      rw [lexBy_step _ _ _ _ _ hx hy] at h
      rw [hi1, hi2]
      refine wpAny_bind (SeqAt.EqAt.int_int ns[i] t ms[i] u prog w _ _ ?_)
      by_cases q : ns[i] = ms[i]
      · rw [if_pos q] at h
        have q' : (ns[i] == ms[i]) = true := by simp [q]
        rw [q']
        wp_walk
        rw [hc]
        exact ⟨plainId_quiet plain_eq_loop _, codeAny_builtin entry_eq_loop (by
          rw [Around.under_plainId plain_eq_loop _]
          exact ih (i + 1) (by omega) ⟨by omega, by omega⟩ prog w A R _ ⟨hl, hb, h⟩)⟩
      · rw [if_neg q] at h
        have q' : (ns[i] == ms[i]) = false := by simp [q]
        rw [q']
        wp_walk using wpAny_loadPart' hl, wpAny_loadPart' hb
        rw [hi1, hi2]
        have hle' : ∀ (A : Around) (s : Shared) (E : Value → Shared → Prop) (Q : Value → Shared → Prop), Q (.bool (decide (ns[i] ≤ ms[i]))) s → wpAny (model prog w) A (richCompare .LtE (.int ns[i] t) (.int ms[i] u)) Q E s :=
          fun A s E Q h => (PyProof.Rows.le_int h : wpAny (model prog w) A (compareOp .LtE (.int ns[i] t) (.int ms[i] u)) Q E s)
        wp_walk using hle'
        exact h
    · have hi2 : items2[((i : Nat) : Int).toNat]? = none := by simp; omega
      have hd : ms.drop i = [] := by simp; omega
      rw [hi1, hi2]
      rw [lexBy_end _ _ _ _ (.inr hd), List.length_drop, List.length_drop] at h
      have e : decide (ns.length - i ≤ ms.length - i) = decide (items.size ≤ items2.size) := by
        rw [z1, z2, decide_eq_false (by omega), decide_eq_false (by omega)]
      rw [e] at h
      wp_walk using wpAny_loadPart' hl, wpAny_loadPart' hb
      exact h
theorem list_le_ints (l b : Addr) (items items2 : Array Value) (n n2 : Nat) (dd dd2 : Option Addr) (sl sl2 : Array (Option Value)) (ns ms : List Int) (hi : IntsAre items.toList ns) (hj : IntsAre items2.toList ms) :
    Meets (Builtin.«list.__le__» ⟨[.ref l, .ref b], []⟩)
      (fun _ R s => s.heap.get? l = some { cls := .type "list", dict := dd, data := .seq items n, slots := sl } ∧ s.heap.get? b = some { cls := .type "list", dict := dd2, data := .seq items2 n2, slots := sl2 } ∧
        R (.ok (.ret (.bool (lexBy (fun x y => decide (x ≤ y)) (fun x y => decide (x ≤ y)) ns ms)))) s) := by
  intro prog w A R s h
  obtain ⟨hp, g, d, tk, os⟩ := s; obtain ⟨hl, hb, h⟩ := h
  have f3 := AutoSeq1.sub_list_list
  wp_walk using wpAny_loadPart' hl, wpAny_loadPart' hb
  exact ⟨plainId_quiet plain_eq_loop _, codeAny_builtin entry_eq_loop (by
    rw [Around.under_plainId plain_eq_loop _]
    exact le_loop l b items items2 n n2 dd dd2 sl sl2 ns ms hi hj _ 0 rfl ⟨Nat.zero_le _, Nat.zero_le _⟩ prog w A R _ ⟨hl, hb, h⟩)⟩
end
end KL

set_option Elab.async false
set_option linter.all false
set_option maxRecDepth 100000
namespace KL
open PySem PySem.W PyProof.Rows L2
/-! ### loops over zip and enumerate -/
theorem for_zip {K : Frag} {a b : Addr} {xs ys : List V} {g : TG} {tb : TS} {D : Ends} {σ : L2.St} {H : Hp} (Pv : Nat → L2.St → Hp → Prop) (h0 : Pv 0 σ H) (hl : ∀ i σ H, Pv i σ H → SqL K H a xs ∧ SqL K H b ys)
    (hs : ∀ i x y T σ H, xs[i]? = some x → ys[i]? = some y → H T = none → Pv i σ H → g (.ref T) σ (upd H T (.tup [x, y])) fun σ2 H2 => tb { D with nx := Pv (i + 1), ct := Pv (i + 1), bk := D.nx } σ2 H2)
    (hd : ∀ i σ H, (i = xs.length ∧ i ≤ ys.length ∨ i = ys.length ∧ i ≤ xs.length) → Pv i σ H → D.nx σ H) :
    ∃ W : Nat → Nat → L2.St → Hp → Prop, (∃ m, W 0 m σ H) ∧ ∀ i m σ H, W i m σ H →
      ((Itz K a b).stop i H ∧ D.nx σ H) ∨ ((Itz K a b).go i H ∧ ∃ N : L2.St → Hp → Prop, (∀ σ' H', N σ' H' → ∃ m', m' < m ∧ W (i + 1) m' σ' H') ∧ ∀ x H', (Itz K a b).yld i H x H' → g x σ H' fun σ2 H2 => tb { D with nx := N, ct := N, bk := D.nx } σ2 H2) := by
  refine ⟨fun i m σ H => m = xs.length - i ∧ i ≤ xs.length ∧ i ≤ ys.length ∧ Pv i σ H, ⟨xs.length, by simp, Nat.zero_le _, Nat.zero_le _, h0⟩, ?_⟩
  rintro i m σ H ⟨rfl, hi, hj, p⟩
  obtain ⟨q1, q2⟩ := hl i σ H p
  by_cases hlt : i < xs.length
  · by_cases hlt2 : i < ys.length
    · refine .inr ⟨⟨xs, ys, xs[i], ys[i], q1, q2, by simp [hlt], by simp [hlt2]⟩, Pv (i + 1), fun σ' H' p' => ⟨xs.length - (i + 1), by omega, rfl, hlt, hlt2, p'⟩, fun x H' y => ?_⟩
      obtain ⟨T, u, v, rfl, hT, rfl, e1, e2⟩ := y
      exact hs i u v T σ H (e1 xs q1) (e2 ys q2) hT p
    · exact .inl ⟨⟨xs, ys, q1, q2, .inr (by omega)⟩, hd i σ H (.inr ⟨by omega, hi⟩) p⟩
  · exact .inl ⟨⟨xs, ys, q1, q2, .inl (by omega)⟩, hd i σ H (.inl ⟨by omega, hj⟩) p⟩
theorem for_enum {K : Frag} {a : Addr} {xs : List V} {g : TG} {tb : TS} {D : Ends} {σ : L2.St} {H : Hp} (Pv : Nat → L2.St → Hp → Prop) (h0 : Pv 0 σ H) (hl : ∀ i σ H, Pv i σ H → SqL K H a xs)
    (hs : ∀ i x T σ H, xs[i]? = some x → H T = none → Pv i σ H → g (.ref T) σ (upd H T (.tup [.int (i : Nat), x])) fun σ2 H2 => tb { D with nx := Pv (i + 1), ct := Pv (i + 1), bk := D.nx } σ2 H2)
    (hd : ∀ σ H, Pv xs.length σ H → D.nx σ H) :
    ∃ W : Nat → Nat → L2.St → Hp → Prop, (∃ m, W 0 m σ H) ∧ ∀ i m σ H, W i m σ H →
      ((Ite K a).stop i H ∧ D.nx σ H) ∨ ((Ite K a).go i H ∧ ∃ N : L2.St → Hp → Prop, (∀ σ' H', N σ' H' → ∃ m', m' < m ∧ W (i + 1) m' σ' H') ∧ ∀ x H', (Ite K a).yld i H x H' → g x σ H' fun σ2 H2 => tb { D with nx := N, ct := N, bk := D.nx } σ2 H2) := by
  refine ⟨fun i m σ H => m = xs.length - i ∧ i ≤ xs.length ∧ Pv i σ H, ⟨xs.length, by simp, Nat.zero_le _, h0⟩, ?_⟩
  rintro i m σ H ⟨rfl, hi, p⟩
  have q := hl i σ H p
  by_cases hlt : i < xs.length
  · refine .inr ⟨⟨xs, xs[i], q, by simp [hlt]⟩, Pv (i + 1), fun σ' H' p' => ⟨xs.length - (i + 1), by omega, rfl, hlt, p'⟩, fun x H' y => ?_⟩
    obtain ⟨T, u, rfl, hT, rfl, e1⟩ := y
    exact hs i u T σ H (e1 xs q) hT p
  · have e : i = xs.length := by omega
    subst e
    exact .inl ⟨⟨xs, q, Nat.le_refl _⟩, hd σ H p⟩
/-! ### <= of lists of ints -/
def rLeL (K : Frag) : R2 := fun x y H Q => ∃ (a b : Addr) (ns ms : List Int), x = .ref a ∧ y = .ref b ∧ SqL K H a (ns.map V.int) ∧ SqL K H b (ms.map V.int) ∧ Q (.bl (lexBy (fun x y => decide (x ≤ y)) (fun x y => decide (x ≤ y)) ns ms)) H
theorem op_leL {X : Cx} (hu : X.A.units < cLine) : OpR X (compareOp .LtE) (rLeL X.K) := by
  intro pins s σ H x y v u Q I rx ry h
  obtain ⟨a, b, ns, ms, rfl, rfl, ha, hb, q⟩ := h
  cases rx
  cases ry
  obtain ⟨its, r1, p1, _⟩ := I.list ha
  obtain ⟨its2, r2, p2, _⟩ := I.list hb
  have i1 : IntsAre its.toArray.toList ns := intsAre_of r1
  have i2 : IntsAre its2.toArray.toList ms := intsAre_of r2
  obtain ⟨⟨cls, dd, data, sl⟩, ho, hc, n, hd⟩ := id p1.isList
  obtain ⟨⟨cls2, dd2, data2, sl2⟩, ho2, hc2, n2, hd2⟩ := id p2.isList
  simp only at hc hd hc2 hd2
  subst hc hd hc2 hd2
  exact richCompare_meets_room (op := .LtE) ⟨_, ho, rfl⟩ ⟨_, ho2, rfl⟩ PySem.F.slot_list_le PySem.F.entry_list_le (PySem.F.args_list_le_2 _ _) (list_le_ints a b its.toArray its2.toArray n n2 dd dd2 sl sl2 ns ms i1 i2)
    ⟨ho, ho2, (fun x => nomatch x), .bl _, H, I, rfl, q⟩ hu
theorem lexBy_before : ∀ a b : List Nat, lexBy (fun x y => decide (x ≤ y)) (fun x y => decide (x ≤ y)) (a.map fun n : Nat => (n : Int)) (b.map fun n : Nat => (n : Int)) = !Sv13.before b a
  | [], b => by cases b <;> rfl
  | x :: r, [] => rfl
  | x :: r, y :: s => by
    show (if (x : Int) = (y : Int) then lexBy _ _ (r.map _) (s.map _) else decide ((x : Int) ≤ (y : Int))) = !(decide (y < x) || (y == x && Sv13.before s r))
    by_cases h : x = y
    · subst h
      rw [if_pos rfl, lexBy_before r s]
      simp
    · have h' : ¬ (x : Int) = (y : Int) := by omega
      have h2 : (y == x) = false := by simp; omega
      rw [if_neg h', h2]
      by_cases hl : y < x
      · rw [decide_eq_true hl, decide_eq_false (by omega)]; rfl
      · rw [decide_eq_false hl, decide_eq_true (by omega)]; rfl
end KL

set_option Elab.async false
set_option linter.all false
set_option maxRecDepth 100000
namespace KL
open PySem PySem.W PyProof.Rows L2
/-! ### xs == [], xs != [] -/
def rEqE (K : Frag) (neg : Bool) : R2 := fun x y H Q => ∃ (a b : Addr) (xs : List V), x = .ref a ∧ y = .ref b ∧ SqL K H a xs ∧ SqL K H b [] ∧ Q (.bl (if neg then !xs.isEmpty else xs.isEmpty)) H
theorem op_eqE {X : Cx} (hu : X.A.units < cLine) : OpR X (compareOp .Eq) (rEqE X.K false) := by
  intro pins s σ H x y v u Q I rx ry h
  obtain ⟨a, b, xs, rfl, rfl, ha, hb, q⟩ := h
  cases rx
  cases ry
  obtain ⟨its, r1, p1, _⟩ := I.list ha
  obtain ⟨its2, r2, p2, _⟩ := I.list hb
  cases r2
  have hlen := r1.length
  cases xs with
  | nil =>
    have : its = [] := List.length_eq_zero_iff.mp hlen.symm
    subst this
    exact SeqAt.RcAt.lists (e := fun _ => true) p1.isList p2.isList rfl hu (fun j h1 => absurd h1 (by simp)) _ _ _ _ ⟨.bl true, H, I, rfl, q⟩
  | cons z zs =>
    exact SeqAt.RcAt.lists_lengths p1.isList p2.isList (by rw [List.length_cons] at hlen; simp only [List.size_toArray, ← hlen]; rfl) hu _ _ _ _ ⟨.bl false, H, I, rfl, q⟩
theorem op_neE {X : Cx} (hu : X.A.units < cLine) : OpR X (compareOp .NotEq) (rEqE X.K true) := by
  intro pins s σ H x y v u Q I rx ry h
  obtain ⟨a, b, xs, rfl, rfl, ha, hb, q⟩ := h
  cases rx
  cases ry
  obtain ⟨its, r1, p1, _⟩ := I.list ha
  obtain ⟨its2, r2, p2, _⟩ := I.list hb
  cases r2
  have hlen := r1.length
  cases xs with
  | nil =>
    have : its = [] := List.length_eq_zero_iff.mp hlen.symm
    subst this
    exact SeqAt.RcNeAt.lists (e := fun _ => true) p1.isList p2.isList rfl hu (fun j h1 => absurd h1 (by simp)) _ _ _ _ ⟨.bl false, H, I, rfl, q⟩
  | cons z zs =>
    exact SeqAt.RcNeAt.lists_lengths p1.isList p2.isList (by rw [List.length_cons] at hlen; simp only [List.size_toArray, ← hlen]; rfl) hu _ _ _ _ ⟨.bl true, H, I, rfl, q⟩
end KL

set_option Elab.async false
set_option linter.all false
set_option maxRecDepth 100000
namespace KL
open PySem PySem.W PyProof.Rows L2
def top (i : Nat) : Stmt := PySem.Challenge.pw_keylogs_s02_make.main.body.getD i (.Pass ⟨0, 0, 0, 0⟩)
def isByte (l : List Nat) : Prop := ∀ x ∈ l, x < 256
/-- what a call that makes a new list promises -/
def newL (xs : List V) (H : Hp) (Q : VK) : Prop := ∀ (l : Addr) (H' : Hp), Same H H' → H l = none → H' l = some (.lst xs) → Q (.ref l) H'
/-- what a call promises that gives a list, new or not -/
def anyL (K : Frag) (xs : List V) (H : Hp) (Q : VK) : Prop := ∀ (l : Addr) (H' : Hp), Same H H' → SqL K H' l xs → Q (.ref l) H'
/-- what a call promises that gives the list at a or a new one -/
def anyT (a : Addr) (xs : List V) (H : Hp) (Q : VK) : Prop := ∀ (l : Addr) (H' : Hp), Same H H' → (l = a ∨ H l = none) → H' l = some (.lst xs) → Q (.ref l) H'
/-- the module's constants and the names that it leaves -/
structure Consts (K : Frag) (mg : Str → Option Value) : Prop where
  OUT_OF_RANGE : ∃ t, mg "OUT_OF_RANGE" = some (.int (-2) t)
  NO_ROWS : ∃ t, mg "NO_ROWS" = some (.int (-4) t)
  TOO_LONG : ∃ t, mg "TOO_LONG" = some (.int (-7) t)
  ALL_ONES : ∃ t, mg "ALL_ONES" = some (.int 4294967295 t)
  MASK_ADDEND : ∃ t, mg "MASK_ADDEND" = some (.int 2726488792 t)
  REMAINDERS : ∃ a, mg "REMAINDERS" = some (.ref a) ∧ ∀ H, SqT K H a (vb My.tab)
  LONGEST : ∃ t, mg "LONGEST" = some (.int 16777216 t)
  STRETCH_BITS : ∃ t, mg "STRETCH_BITS" = some (.int 11 t)
  STRETCH : ∃ t, mg "STRETCH" = some (.int 2048 t)
  WORD : ∃ t, mg "WORD" = some (.int 4294967295 t)
  HASH_BEGIN : ∃ t, mg "HASH_BEGIN" = some (.int 3164544308 t)
  HASH_FACTOR : ∃ t, mg "HASH_FACTOR" = some (.int 3332679571 t)
  KEY_WIDTH : ∃ t, mg "KEY_WIDTH" = some (.int 2 t)
  VALUE_WIDTH : ∃ t, mg "VALUE_WIDTH" = some (.int 4 t)
  HANDLES_WIDTH : ∃ t, mg "HANDLES_WIDTH" = some (.int 40 t)
  MAGIC : ∃ t, mg "MAGIC" = some (.int 15800726617472432983 t)
  FILTER_NAME : ∃ t, mg "FILTER_NAME" = some (.str "filter.leveldb.BuiltinBloomFilter2" t)
  nlen : mg "len" = none
  nrange : mg "range" = none
  nzip : mg "zip" = none
  nenumerate : mg "enumerate" = none
  nlist : mg "list" = none
  nmin : mg "min" = none
  nmax : mg "max" = none
  nord : mg "ord" = none
theorem vb_snoc (l : List Nat) {z : Int} {n : Nat} (e : z = (n : Int)) : some (HO.lst (vb l ++ [V.int z])) = some (HO.lst (vb (l ++ [n]))) := by
  rw [vb_append, e]
  rfl
theorem pow8 (i : Nat) : (2 : Int) ^ (8 * i) = ((256 ^ i : Nat) : Int) := by
  rw [show (256 : Nat) ^ i = 2 ^ (8 * i) from (Nat.pow_mul 2 8 i).symm]
  simp
theorem lt_size {n : Nat} (h : n ≤ 16777215) : n < sizeLine := by
  show n < 2 ^ 24
  omega
theorem le_size {n : Nat} (h : n ≤ 16777216) : n ≤ sizeLine := by
  show n ≤ 2 ^ 24
  omega
section
variable {P : Program} {w : World} {K : Frag} {mg : Str → Option Value} {base : Heap}
/-! ### packing -/
abbrev s_fixed : Stmt := top 21
abbrev s_number_at : Stmt := top 22
abbrev s_varint : Stmt := top 23
def sp_fixed : Sp := fun vs H Q _ => ∃ n k : Nat, vs = [.int (n : Int), .int (k : Int)] ∧ k ≤ 8 ∧ newL (vb (Sv13.little k n)) H Q
theorem sc_fixed : FnScope ["number", "width", "packed", "rest", "place"] ["number", "width"] (defScope s_fixed) := ⟨rfl, rfl, rfl, by decide +kernel, rfl, by decide +kernel, by decide +kernel⟩
theorem fx_fixed (D : DefAt K mg "fixed" s_fixed) (C : Consts K mg) : Fx P w K mg base "fixed" 1 ["number", "width"] sp_fixed := by
  refine D.fx sc_fixed (fun _ _ _ _ _ _ us hl => match us, hl with | [_, _], _ => rfl) (fun vs H Q E h => ?_) (fun f cdv A outer s H vs Q E hr h => ?_)
  · obtain ⟨n, k, rfl, _⟩ := h
    rfl
  · obtain ⟨n, k, rfl, hk, q⟩ := h
    refine ⟨_, (pss_cons (ps_set (i := 2) sc_fixed.nd rfl (Or.inl rfl) (pe_lst pa_nil))
      (pss_cons (ps_set (i := 3) sc_fixed.nd rfl (Or.inl rfl) (pv 0))
      (pss_cons (ps_for PassesOwn.never rfl (pi_range1 rfl C.nrange (pa_cons (pv 1) pa_nil)) (pg_name (i := 4) sc_fixed.nd rfl (Or.inl rfl)) (pss_cons (ps_expr (pe_bm PySem.F.plainAttrs_list PySem.F.slot_list_append PySem.F.type_list_append mt_append (pv 2) (pa_cons (pe_op op_and (pv 3) pe_int) pa_nil)))
      (pss_one (ps_set (i := 3) sc_fixed.nd rfl (Or.inl rfl) (pe_op op_shr (pv 3) pe_int)))))
      (pss_one (ps_ret (pv 2)))))), ?_⟩
    refine ⟨Nat.zero_le _, fun l hl => ?_⟩
    refine ⟨_, rfl, _, rfl, (k : Int), rfl, by omega, by omega, for_range (n := (k : Int).toNat) (fun i σ H2 => Same H H2 ∧ H2 l = some (.lst (vb (Sv13.little i n))) ∧ ∃ v, σ = [some (.int (n : Int)), some (.int (k : Int)), some (.ref l), some (.int ((n / 256 ^ i : Nat) : Int)), v])
      ⟨Same.new (Same.refl H) hl, upd_same, none, ?_⟩ ?_ ?_⟩
    · show _ = [some (V.int (n : Int)), some (V.int (k : Int)), some (V.ref l), some (V.int ((n / 1 : Nat) : Int)), none]
      rw [Nat.div_one]
      rfl
    · rintro i σ H2 hi ⟨hs, h2, v, rfl⟩
      have hi : i < k := hi
      refine ⟨_, rfl, .inl ⟨rfl, _, SqL.of h2⟩, _, rfl, _, _, rfl, rfl, l, _, _, rfl, rfl, h2, lt_size (by rw [vb_length, My.little_length]; omega), ?_⟩
      refine ⟨_, rfl, _, _, rfl, rfl, (by show (0 : Int) ≤ 8; decide), ?_⟩
      refine ⟨Same.upd hs hl, ?_, some (V.int (0 + (i : Int))), ?_⟩
      · rw [upd_same, My.little_succ]
        have e : Builtin.bitAnd ((n / 256 ^ i : Nat) : Int) 255 = ((n / 256 ^ i % 256 : Nat) : Int) := by
          rw [bitAnd_m8]
          omega
        exact vb_snoc _ e
      · have e : ((n / 256 ^ i : Nat) : Int) / 2 ^ (8 : Int).toNat = ((n / 256 ^ (i + 1) : Nat) : Int) := by
          rw [My.div_pow_succ]
          show ((n / 256 ^ i : Nat) : Int) / 256 = _
          omega
        show [some (V.int (n : Int)), some (V.int (k : Int)), some (V.ref l), some (V.int (((n / 256 ^ i : Nat) : Int) / 2 ^ (8 : Int).toNat)), some (V.int (0 + (i : Int)))] = _
        rw [e]
    · rintro σ H2 ⟨hs, h2, v, rfl⟩
      exact ⟨_, rfl, q l H2 hs hl h2⟩
def sp_number_at (K : Frag) : Sp := fun vs H Q _ => ∃ (a : Addr) (bs : List Nat) (b n : Nat), vs = [.ref a, .int (b : Int), .int (n : Int)] ∧ SqL K H a (vb bs) ∧ isByte bs ∧ b + n ≤ bs.length ∧ n ≤ 8 ∧ Q (.int ((Sv13.ofLittle (Sv13.slice bs b n) : Nat) : Int)) H
theorem sc_number_at : FnScope ["data", "begin", "width", "number", "place"] ["data", "begin", "width"] (defScope s_number_at) := ⟨rfl, rfl, rfl, by decide +kernel, rfl, by decide +kernel, by decide +kernel⟩
theorem fx_number_at (D : DefAt K mg "number_at" s_number_at) (C : Consts K mg) : Fx P w K mg base "number_at" 1 ["data", "begin", "width"] (sp_number_at K) := by
  refine D.fx sc_number_at (fun _ _ _ _ _ _ us hl => match us, hl with | [_, _, _], _ => rfl) (fun vs H Q E h => ?_) (fun f cdv A outer s H vs Q E hr h => ?_)
  · obtain ⟨a, bs, b, n, rfl, _⟩ := h
    rfl
  · obtain ⟨a, bs, b, n, rfl, ha, hby, hle, hn, q⟩ := h
    refine ⟨_, (pss_cons (ps_set (i := 3) sc_number_at.nd rfl (Or.inl rfl) pe_int)
      (pss_cons (ps_for PassesOwn.never rfl (pi_range1 rfl C.nrange (pa_cons (pv 2) pa_nil)) (pg_name (i := 4) sc_number_at.nd rfl (Or.inl rfl)) (pss_one (ps_aug (i := 3) sc_number_at.nd rfl (Or.inl rfl) (pe_op op_shl (pe_ix ix_list (pv 0) (pe_op op_add (pv 1) (pv 4)) (fun _ _ => rfl)) (pe_op op_mul pe_int (pv 4))) ip_add)))
      (pss_one (ps_ret (pv 3))))), ?_⟩
    refine ⟨_, rfl, (n : Int), rfl, by omega, by omega, for_range (n := (n : Int).toNat) (fun i σ H2 => H2 = H ∧ ∃ v, σ = [some (.ref a), some (.int (b : Int)), some (.int (n : Int)), some (.int ((Sv13.ofLittle (Sv13.slice bs b i) : Nat) : Int)), v])
      ⟨rfl, none, rfl⟩ ?_ ?_⟩
    · rintro i σ H2 hi ⟨rfl, v, rfl⟩
      have hi : i < n := hi
      have hx : bs[b + i]? = some bs[b + i] := List.getElem?_eq_getElem (by omega)
      have hlt : bs[b + i] < 256 := hby _ (List.getElem_mem _)
      refine ⟨_, rfl, _, rfl, _, rfl, _, rfl, _, _, rfl, rfl, a, _, _, _, rfl, rfl, ha, at_of (j := b + i) (v := V.int ((bs[b + i] : Nat) : Int)) ?_ ?_, _, rfl, _, _, rfl, rfl, .inl ⟨by decide, by decide⟩, _, _, rfl, rfl, ⟨?_, ?_, ?_⟩, _, _, rfl, rfl, ?_⟩
      · omega
      · unfold vb
        rw [List.getElem?_map, hx]
        rfl
      · omega
      · omega
      · show (((bs[b + i] : Nat) : Int)).natAbs < 2 ^ 64
        rw [Int.natAbs_natCast]
        omega
      · refine ⟨rfl, some (V.int (0 + (i : Int))), ?_⟩
        have e1 : ((8 : Int) * (0 + (i : Int))).toNat = 8 * i := by omega
        have e2 : ((bs[b + i] : Nat) : Int) * 2 ^ ((8 : Int) * (0 + (i : Int))).toNat = ((bs[b + i] * 256 ^ i : Nat) : Int) := by
          rw [e1, pow8]
          simp
        show [some (V.ref a), some (V.int (b : Int)), some (V.int (n : Int)), some (V.int (((Sv13.ofLittle (Sv13.slice bs b i) : Nat) : Int) + ((bs[b + i] : Nat) : Int) * 2 ^ ((8 : Int) * (0 + (i : Int))).toNat)), some (V.int (0 + (i : Int)))] = _
        rw [e2, My.ofLittle_slice hx hlt]
        simp
    · rintro σ H2 ⟨rfl, v, rfl⟩
      exact ⟨_, rfl, q⟩
def sp_varint : Sp := fun vs H Q _ => ∃ n : Nat, vs = [.int (n : Int)] ∧ n < 128 ^ 10 ∧ newL (vb (Sv13.varint n)) H Q
theorem sc_varint : FnScope ["number", "packed", "rest"] ["number"] (defScope s_varint) := ⟨rfl, rfl, rfl, by decide +kernel, rfl, by decide +kernel, by decide +kernel⟩
theorem fx_varint (D : DefAt K mg "varint" s_varint) (C : Consts K mg) : Fx P w K mg base "varint" 1 ["number"] sp_varint := by
  refine D.fx sc_varint (fun _ _ _ _ _ _ us hl => match us, hl with | [_], _ => rfl) (fun vs H Q E h => ?_) (fun f cdv A outer s H vs Q E hr h => ?_)
  · obtain ⟨n, rfl, _⟩ := h
    rfl
  · obtain ⟨n, rfl, hn, q⟩ := h
    refine ⟨_, (pss_cons (ps_set (i := 1) sc_varint.nd rfl (Or.inl rfl) (pe_lst pa_nil))
      (pss_cons (ps_set (i := 2) sc_varint.nd rfl (Or.inl rfl) (pv 0))
      (pss_cons (ps_while PassesOwn.never (pt_cmpR op_gt (pv 2) pe_int (nomark _)) (pss_cons (ps_expr (pe_bm PySem.F.plainAttrs_list PySem.F.slot_list_append PySem.F.type_list_append mt_append (pv 1) (pa_cons (pe_op op_add pe_int (pe_op op_and (pv 2) pe_int)) pa_nil)))
      (pss_one (ps_set (i := 2) sc_varint.nd rfl (Or.inl rfl) (pe_op op_shr (pv 2) pe_int)))))
      (pss_cons (ps_expr (pe_bm PySem.F.plainAttrs_list PySem.F.slot_list_append PySem.F.type_list_append mt_append (pv 1) (pa_cons (pv 2) pa_nil)))
      (pss_one (ps_ret (pv 1))))))), ?_⟩
    refine ⟨Nat.zero_le _, fun l hl => ⟨_, rfl, ?_⟩⟩
    refine ⟨fun m σ H2 => ∃ (done : List Nat), Same H H2 ∧ H2 l = some (.lst (vb done)) ∧ My.Sev n done m ∧ done.length ≤ 10 ∧ σ = [some (.int (n : Int)), some (.ref l), some (.int (m : Int))],
      ⟨n, [], Same.new (Same.refl H) hl, upd_same, My.sev_start hn, Nat.zero_le _, rfl⟩, ?_⟩
    rintro m σ H2 ⟨done, hs, h2, hv, hd, rfl⟩
    refine ⟨_, rfl, _, _, rfl, rfl, _, rfl, ?_⟩
    have hd' : done.length ≤ 9 := by
      obtain ⟨f, e, hlt⟩ := hv
      have h1 := congrArg List.length e
      rw [List.length_append] at h1
      have h2 := My.sevens_length 10 n
      have h3 := My.sevens_pos f m
      omega
    by_cases hr : 127 < m
    · have c : decide ((127 : Int) < (m : Int)) = true := decide_eq_true (by omega)
      rw [c]
      refine iteT ⟨fun σ' H' => ∃ m', m' < m ∧ ∃ (done : List Nat), Same H H' ∧ H' l = some (.lst (vb done)) ∧ My.Sev n done m' ∧ done.length ≤ 10 ∧ σ' = [some (.int (n : Int)), some (.ref l), some (.int (m' : Int))], fun σ' H' h => h, ?_⟩
      refine ⟨_, rfl, .inl ⟨rfl, _, SqL.of h2⟩, _, rfl, _, _, rfl, rfl, _, _, rfl, rfl, l, _, _, rfl, rfl, h2, lt_size (by rw [vb_length]; omega), ?_⟩
      refine ⟨_, rfl, _, _, rfl, rfl, (by show (0 : Int) ≤ 7; decide), ?_⟩
      have e1 : (128 : Int) + Builtin.bitAnd (m : Int) 127 = ((128 + m % 128 : Nat) : Int) := by
        rw [bitAnd_m7]
        omega
      have e2 : (m : Int) / 2 ^ (7 : Int).toNat = ((m / 128 : Nat) : Int) := by
        show (m : Int) / 128 = _
        omega
      refine ⟨m / 128, by omega, done ++ [128 + m % 128], Same.upd hs hl, ?_, My.sev_step hv hr, by rw [List.length_append, List.length_singleton]; omega, ?_⟩
      · rw [upd_same]
        exact vb_snoc _ e1
      · show [some (V.int (n : Int)), some (V.ref l), some (V.int ((m : Int) / 2 ^ (7 : Int).toNat))] = _
        rw [e2]
    · have c : decide ((127 : Int) < (m : Int)) = false := decide_eq_false (by omega)
      rw [c]
      refine iteF ?_
      refine ⟨_, rfl, .inl ⟨rfl, _, SqL.of h2⟩, _, rfl, l, _, _, rfl, rfl, h2, lt_size (by rw [vb_length]; omega), _, rfl, ?_⟩
      refine q l _ (Same.upd hs hl) hl ?_
      rw [upd_same, My.sev_end hv (by omega)]
      exact vb_snoc _ rfl
end
end KL

set_option Elab.async false
set_option linter.all false
set_option maxRecDepth 100000
namespace KL
open PySem PySem.W PyProof.Rows L2
abbrev s_sum_from : Stmt := top 9
abbrev s_masked : Stmt := top 10
abbrev s_within : Stmt := top 13
abbrev s_is_length : Stmt := top 14
abbrev s_is_shape : Stmt := top 15
abbrev s_shared_length : Stmt := top 17
abbrev s_key_between : Stmt := top 18
abbrev s_key_behind : Stmt := top 19
section
variable {P : Program} {w : World} {K : Frag} {mg : Str → Option Value} {base : Heap}
/-! ### keys in order -/
theorem common_at : ∀ (a b : List Nat) (i : Nat), (∀ j, j < i → a[j]? = b[j]? ∧ a[j]? ≠ none) → Sv13.common a b = i + Sv13.common (a.drop i) (b.drop i)
  | a, b, 0, _ => by simp
  | a, b, i + 1, h => by
    cases a with
    | nil => exact absurd rfl (h 0 (by omega)).2
    | cons x r =>
      cases b with
      | nil =>
        have := (h 0 (by omega)).1
        simp at this
      | cons y s =>
        have e : x = y := by
          have := (h 0 (by omega)).1
          simpa using this
        subst e
        have ih := common_at r s i fun j hj => by
          have := h (j + 1) (by omega)
          simpa using this
        show (if x = x then Sv13.common r s + 1 else 0) = i + 1 + Sv13.common (r.drop i) (s.drop i)
        rw [if_pos rfl, ih]
        omega
theorem common_ne {a b : List Nat} {i x y : Nat} (h : ∀ j, j < i → a[j]? = b[j]? ∧ a[j]? ≠ none) (hx : a[i]? = some x) (hy : b[i]? = some y) (hne : x ≠ y) : Sv13.common a b = i := by
  rw [common_at a b i h]
  obtain ⟨h1, e1⟩ := List.getElem?_eq_some_iff.mp hx
  obtain ⟨h2, e2⟩ := List.getElem?_eq_some_iff.mp hy
  rw [List.drop_eq_getElem_cons h1, List.drop_eq_getElem_cons h2, e1, e2]
  unfold Sv13.common
  rw [if_neg hne]
  rfl
theorem common_end {a b : List Nat} {i : Nat} (h : ∀ j, j < i → a[j]? = b[j]? ∧ a[j]? ≠ none) (he : a.length ≤ i ∨ b.length ≤ i) : Sv13.common a b = i := by
  rw [common_at a b i h]
  rcases he with he | he
  · rw [List.drop_eq_nil_of_le he]
    rfl
  · rw [List.drop_eq_nil_of_le he]
    cases a.drop i <;> rfl
def sp_shared_length (K : Frag) : Sp := fun vs H Q _ => ∃ (a b : Addr) (x y : List Nat), vs = [.ref a, .ref b] ∧ SqL K H a (vb x) ∧ SqL K H b (vb y) ∧ ∀ H', Same H H' → Q (.int ((Sv13.common x y : Nat) : Int)) H'
theorem sc_shared_length : FnScope ["one", "other", "shared", "mine", "yours"] ["one", "other"] (defScope s_shared_length) := ⟨rfl, rfl, rfl, by decide +kernel, rfl, by decide +kernel, by decide +kernel⟩
theorem fx_shared_length (D : DefAt K mg "shared_length" s_shared_length) (C : Consts K mg) : Fx P w K mg base "shared_length" 1 ["one", "other"] (sp_shared_length K) := by
  refine D.fx sc_shared_length (fun _ _ _ _ _ _ us hl => match us, hl with | [_, _], _ => rfl) (fun vs H Q E h => ?_) (fun f cdv A outer s H vs Q E hr h => ?_)
  · obtain ⟨a, b, x, y, rfl, _⟩ := h
    rfl
  · obtain ⟨a, b, x, y, rfl, ha, hb, q⟩ := h
    refine ⟨_, (pss_cons (ps_set (i := 2) sc_shared_length.nd rfl (Or.inl rfl) pe_int)
      (pss_cons (ps_for PassesOwn.never rfl (pi_zip rfl C.nzip (pa_cons (pv 0) (pa_cons (pv 1) pa_nil))) (pg_tup rfl (pgs_cons (pg_name (i := 3) sc_shared_length.nd rfl (Or.inl rfl)) (pgs_cons (pg_name (i := 4) sc_shared_length.nd rfl (Or.inl rfl)) pgs_nil))) (pss_cons (ps_if (pt_cmpR op_ne (pv 3) (pv 4) (nomark _)) (pss_one ps_break) pss_nil)
      (pss_one (ps_aug (i := 2) sc_shared_length.nd rfl (Or.inl rfl) pe_int ip_add))))
      (pss_one (ps_ret (pv 2))))), ?_⟩
    refine ⟨_, rfl, _, rfl, a, b, _, _, rfl, ha, hb, for_zip (K := K) (a := a) (b := b) (xs := vb x) (ys := vb y) (fun i σ H2 => Same H H2 ∧ (∀ j, j < i → x[j]? = y[j]? ∧ x[j]? ≠ none) ∧ ∃ v u, σ = [some (.ref a), some (.ref b), some (.int (i : Int)), v, u])
      ⟨Same.refl H, fun j hj => absurd hj (Nat.not_lt_zero _), none, none, rfl⟩ (fun i σ H2 ⟨hs, _⟩ => ⟨hs.seq ha, hs.seq hb⟩) ?_ ?_⟩
    · rintro i u v T σ H2 hu hv hT ⟨hs, heq, v3, v4, rfl⟩
      obtain ⟨m, hm, rfl⟩ := vb_get hu
      obtain ⟨n, hn, rfl⟩ := vb_get hv
      refine ⟨T, _, rfl, .inl (.inl upd_same), rfl, _, _, rfl, _, _, rfl, rfl, ?_⟩
      refine ⟨_, rfl, _, rfl, rfl, _, rfl, ?_⟩
      by_cases hmn : m = n
      · have c : (!decide (V.int (m : Int) = V.int (n : Int))) = false := by
          rw [decide_eq_true (by rw [hmn])]
          rfl
        rw [c]
        refine iteF ?_
        refine ⟨_, rfl, _, _, rfl, rfl, ?_⟩
        refine ⟨Same.new hs hT, fun j hj => ?_, _, _, rfl⟩
        by_cases hji : j < i
        · exact heq j hji
        · have : j = i := by omega
          subst this
          rw [hm, hn, hmn]
          exact ⟨rfl, by simp⟩
      · have c : (!decide (V.int (m : Int) = V.int (n : Int))) = true := by
          rw [decide_eq_false]
          · rfl
          · intro e
            injection e with e
            omega
        rw [c]
        refine iteT ?_
        refine ⟨_, rfl, ?_⟩
        rw [← common_ne heq hm hn hmn]
        exact q _ (Same.new hs hT)
    · rintro i σ H2 he ⟨hs, heq, v3, v4, rfl⟩
      refine ⟨_, rfl, ?_⟩
      rw [vb_length, vb_length] at he
      rw [← common_end heq (by omega)]
      exact q _ hs
theorem cut_to {xs : List V} {n : Nat} : cutV xs none (some (n : Int)) = xs.take n := by
  unfold cutV
  show (xs.drop 0).take ((if (n : Int) < 0 then ((n : Int) + (xs.length : Int)).toNat else min (n : Int).toNat xs.length) - 0) = _
  rw [if_neg (by omega), List.drop_zero, Nat.sub_zero]
  have e : (n : Int).toNat = n := Int.toNat_natCast n
  rw [e]
  by_cases h : n ≤ xs.length
  · rw [Nat.min_eq_left h]
  · rw [Nat.min_eq_right (by omega), List.take_of_length_le (Nat.le_refl _), List.take_of_length_le (by omega)]
theorem cut_from {xs : List V} {n : Nat} : cutV xs (some (n : Int)) none = xs.drop n := by
  unfold cutV
  show (xs.drop (if (n : Int) < 0 then ((n : Int) + (xs.length : Int)).toNat else min (n : Int).toNat xs.length)).take (xs.length - (if (n : Int) < 0 then ((n : Int) + (xs.length : Int)).toNat else min (n : Int).toNat xs.length)) = _
  rw [if_neg (by omega)]
  have e : (n : Int).toNat = n := Int.toNat_natCast n
  rw [e]
  by_cases h : n ≤ xs.length
  · rw [Nat.min_eq_left h, List.take_of_length_le (by rw [List.length_drop]; omega)]
  · rw [Nat.min_eq_right (by omega), List.drop_eq_nil_of_le (Nat.le_refl _), List.drop_eq_nil_of_le (by omega), List.take_nil]
theorem cut_both {xs : List V} {i j : Nat} (hij : i ≤ j) (hj : j ≤ xs.length) : cutV xs (some (i : Int)) (some (j : Int)) = (xs.drop i).take (j - i) := by
  unfold cutV
  show (xs.drop (if (i : Int) < 0 then ((i : Int) + (xs.length : Int)).toNat else min (i : Int).toNat xs.length)).take ((if (j : Int) < 0 then ((j : Int) + (xs.length : Int)).toNat else min (j : Int).toNat xs.length) - (if (i : Int) < 0 then ((i : Int) + (xs.length : Int)).toNat else min (i : Int).toNat xs.length)) = _
  rw [if_neg (by omega), if_neg (by omega)]
  have e : (i : Int).toNat = i := Int.toNat_natCast i
  have e2 : (j : Int).toNat = j := Int.toNat_natCast j
  rw [e, e2, Nat.min_eq_left (show i ≤ xs.length by omega), Nat.min_eq_left hj]
theorem vb_take (l : List Nat) (n : Nat) : vb (l.take n) = (vb l).take n := List.map_take
theorem vb_drop (l : List Nat) (n : Nat) : vb (l.drop n) = (vb l).drop n := List.map_drop
theorem vb_slice (l : List Nat) (i n : Nat) : vb (Sv13.slice l i n) = ((vb l).drop i).take n := by
  unfold Sv13.slice
  rw [vb_take, vb_drop]
theorem vb_at {l : List Nat} {i x : Nat} (h : l[i]? = some x) : atI (vb l) (i : Int) = some (V.int (x : Int)) := by
  refine atI_nat ?_
  unfold vb
  rw [List.getElem?_map, h]
  rfl
def sp_sum_from (K : Frag) : Sp := fun vs H Q _ => ∃ (st : Nat) (a : Addr) (bs : List Nat), vs = [.int (st : Int), .ref a] ∧ SqL K H a (vb bs) ∧ Q (.int ((Sv13.crc bs st : Nat) : Int)) H
def sp_within : Sp := fun vs H Q _ => ∃ n lo hi : Int, vs = [.int n, .int lo, .int hi] ∧ Q (.bl (decide (lo ≤ n) && decide (n ≤ hi))) H
def sp_is_length : Sp := fun vs H Q _ => ∃ n : Int, vs = [.int n] ∧ Q (.bl (decide (0 ≤ n) && decide (n ≤ 16777216))) H
theorem crc_snoc (bs : List Nat) (b c : Nat) : (bs ++ [b]).foldl Sv13.crcByte c = Sv13.crcByte (bs.foldl Sv13.crcByte c) b := by rw [List.foldl_append]; rfl
theorem tab_at {x : Nat} : atI (vb My.tab) ((x % 16 : Nat) : Int) = some (V.int ((My.tab.getD (x % 16) 0 : Nat) : Int)) := by
  have hx : x % 16 < 16 := Nat.mod_lt _ (by decide)
  refine atI_nat ?_
  have : My.tab.length = 16 := rfl
  unfold vb
  rw [List.getElem?_map]
  simp [List.getD, this, hx]
theorem sc_sum_from : FnScope ["start", "data", "left", "byte"] ["start", "data"] (defScope s_sum_from) := ⟨rfl, rfl, rfl, by decide +kernel, rfl, by decide +kernel, by decide +kernel⟩
theorem fx_sum_from (D : DefAt K mg "sum_from" s_sum_from) (C : Consts K mg) : Fx P w K mg base "sum_from" 1 ["start", "data"] (sp_sum_from K) := by
  obtain ⟨ra, hrem, hS⟩ := C.REMAINDERS
  refine D.fx sc_sum_from (fun _ _ _ _ _ _ us hl => match us, hl with | [_, _], _ => rfl) (fun vs H Q E h => ?_) (fun f cdv A outer s H vs Q E hr h => ?_)
  · obtain ⟨st, a, bs, rfl, _⟩ := h
    rfl
  · obtain ⟨st, a, bs, rfl, ha, k⟩ := h
    refine ⟨_, pss_cons (ps_set (i := 2) sc_sum_from.nd rfl (Or.inl rfl) (pe_op op_xor (pv 0) (pe_gint rfl C.ALL_ONES)))
      (pss_cons (ps_for PassesOwn.never rfl (pi_list (pv 1)) (pg_name (i := 3) sc_sum_from.nd rfl (Or.inl rfl))
        (pss_cons (ps_set (i := 2) sc_sum_from.nd rfl (Or.inl rfl) (pe_op op_xor (pv 2) (pv 3)))
        (pss_cons (ps_set (i := 2) sc_sum_from.nd rfl (Or.inl rfl) (pe_op op_xor (pe_op op_shr (pv 2) pe_int) (pe_ix ix_tup (pe_gref rfl hrem) (pe_op op_and (pv 2) pe_int) (fun _ _ => rfl))))
        (pss_one (ps_set (i := 2) sc_sum_from.nd rfl (Or.inl rfl) (pe_op op_xor (pe_op op_shr (pv 2) pe_int) (pe_ix ix_tup (pe_gref rfl hrem) (pe_op op_and (pv 2) pe_int) (fun _ _ => rfl))))))))
      (pss_one (ps_ret (pe_op op_xor (pv 2) (pe_gint rfl C.ALL_ONES))))), ?_⟩
    refine ⟨_, rfl, _, _, rfl, rfl, ?_⟩
    refine ⟨_, rfl, a, rfl, ⟨_, ha⟩, for_list (K := K) (a := a) (xs := vb bs) (fun i σ H2 => H2 = H ∧ ∃ v, σ = [some (.int (st : Int)), some (.ref a), some (.int (((bs.take i).foldl Sv13.crcByte (Nat.xor st (2 ^ 32 - 1)) : Nat) : Int)), v])
      ⟨rfl, none, ?_⟩ (fun i σ H2 _ ⟨e, _⟩ => by rw [e]; exact ha) ?_ ?_⟩
    · have e : Builtin.bitXor (st : Int) 4294967295 = ((Nat.xor st (2 ^ 32 - 1) : Nat) : Int) := xor_nat st 4294967295
      show [some (V.int (st : Int)), some (V.ref a), some (V.int (Builtin.bitXor (st : Int) 4294967295)), none] = _
      rw [e]
      rfl
    · rintro i x σ H2 hx ⟨rfl, v, rfl⟩
      obtain ⟨b, hb, rfl⟩ := vb_get hx
      generalize hc : (bs.take i).foldl Sv13.crcByte (Nat.xor st (2 ^ 32 - 1)) = c
      have hnext : (bs.take (i + 1)).foldl Sv13.crcByte (Nat.xor st (2 ^ 32 - 1)) = My.turn c b := by
        rw [List.take_succ, hb]
        show ((bs.take i) ++ [b]).foldl Sv13.crcByte (Nat.xor st (2 ^ 32 - 1)) = _
        rw [crc_snoc, hc, My.turn_crc]
      have step : ∀ y : Nat, Builtin.bitXor (((y : Nat) : Int) / 2 ^ (4 : Int).toNat) ((My.tab.getD (y % 16) 0 : Nat) : Int) = ((My.nib y : Nat) : Int) := fun y => by
        rw [shr4, xor_nat]
        rfl
      refine ⟨_, rfl, _, rfl, _, _, rfl, rfl, ?_⟩
      have a1 : atI (vb My.tab) (Builtin.bitAnd (Builtin.bitXor (c : Int) (b : Int)) 15) = some (V.int ((My.tab.getD ((c ^^^ b) % 16) 0 : Nat) : Int)) := by
        rw [xor_nat, and15]
        exact tab_at
      have a2 : atI (vb My.tab) (Builtin.bitAnd (Builtin.bitXor ((Builtin.bitXor (c : Int) (b : Int)) / 2 ^ (4 : Int).toNat) ((My.tab.getD ((c ^^^ b) % 16) 0 : Nat) : Int)) 15) = some (V.int ((My.tab.getD (My.nib (c ^^^ b) % 16) 0 : Nat) : Int)) := by
        rw [xor_nat c b, step, and15]
        exact tab_at
      refine ⟨_, rfl, _, _, rfl, rfl, (by show (0 : Int) ≤ 4; decide), _, rfl, _, _, rfl, rfl, ra, _, _, _, rfl, rfl, hS _, a1, _, _, rfl, rfl, ?_⟩
      refine ⟨_, rfl, _, _, rfl, rfl, (by show (0 : Int) ≤ 4; decide), _, rfl, _, _, rfl, rfl, ra, _, _, _, rfl, rfl, hS _, a2, _, _, rfl, rfl, ?_⟩
      refine ⟨rfl, some (V.int (b : Int)), ?_⟩
      rw [hnext]
      show [some (V.int (st : Int)), some (V.ref a), some (V.int (Builtin.bitXor ((Builtin.bitXor ((Builtin.bitXor (c : Int) (b : Int)) / 2 ^ (4 : Int).toNat) ((My.tab.getD ((c ^^^ b) % 16) 0 : Nat) : Int)) / 2 ^ (4 : Int).toNat) ((My.tab.getD (My.nib (c ^^^ b) % 16) 0 : Nat) : Int))), some (V.int (b : Int))] = _
      rw [xor_nat c b, step, step]
      rfl
    · rintro σ H2 ⟨rfl, v, rfl⟩
      refine ⟨_, rfl, _, _, rfl, rfl, ?_⟩
      have e : (bs.take (vb bs).length) = bs := by rw [vb_length, List.take_length]
      rw [e]
      have e2 : Builtin.bitXor ((bs.foldl Sv13.crcByte (Nat.xor st (2 ^ 32 - 1)) : Nat) : Int) 4294967295 = ((Sv13.crc bs st : Nat) : Int) := xor_nat _ 4294967295
      show Q (V.int (Builtin.bitXor ((bs.foldl Sv13.crcByte (Nat.xor st (2 ^ 32 - 1)) : Nat) : Int) 4294967295)) _
      rw [e2]
      exact k
theorem sc_within : FnScope ["number", "low", "high"] ["number", "low", "high"] (defScope s_within) := ⟨rfl, rfl, rfl, by decide +kernel, rfl, by decide +kernel, by decide +kernel⟩
theorem fx_within (D : DefAt K mg "within" s_within) : Fx P w K mg base "within" 1 ["number", "low", "high"] sp_within := by
  refine D.fx sc_within (fun _ _ _ _ _ _ us hl => match us, hl with | [_, _, _], _ => rfl) (fun vs H Q E h => ?_) (fun f cdv A outer s H vs Q E hr h => ?_)
  · obtain ⟨n, lo, hi, rfl, _⟩ := h
    rfl
  · obtain ⟨n, lo, hi, rfl, k⟩ := h
    refine ⟨_, pss_one (ps_ret (pe_chain op_le op_le (pv 1) (pv 0) (pv 2))), ?_⟩
    refine ⟨_, rfl, _, rfl, _, _, rfl, rfl, _, rfl, ?_⟩
    by_cases h1 : lo ≤ n
    · rw [decide_eq_true h1]
      refine iteT ⟨_, rfl, _, _, rfl, rfl, ?_⟩
      rw [decide_eq_true h1, Bool.true_and] at k
      exact k
    · rw [decide_eq_false h1]
      refine iteF ?_
      rw [decide_eq_false h1, Bool.false_and] at k
      exact k
theorem sc_is_length : FnScope ["number"] ["number"] (defScope s_is_length) := ⟨rfl, rfl, rfl, by decide +kernel, rfl, by decide +kernel, by decide +kernel⟩
theorem fx_is_length (D : DefAt K mg "is_length" s_is_length) (C : Consts K mg) (F : Fx P w K mg base "within" 1 ["number", "low", "high"] sp_within) : Fx P w K mg base "is_length" 2 ["number"] sp_is_length := by
  refine D.fx sc_is_length (fun _ _ _ _ _ _ us hl => match us, hl with | [_], _ => rfl) (fun vs H Q E h => ?_) (fun f cdv A outer s H vs Q E hr h => ?_)
  · obtain ⟨n, rfl, _⟩ := h
    rfl
  · obtain ⟨n, rfl, k⟩ := h
    refine ⟨_, pss_one (ps_ret (pe_fx F hr rfl (pa_cons (pv 0) (pa_cons pe_int (pa_cons (pe_gint rfl C.LONGEST) pa_nil))))), ?_⟩
    exact ⟨_, rfl, n, 0, 16777216, rfl, k⟩
def sp_is_shape : Sp := fun vs H Q _ => ∃ i b f : Int, vs = [.int i, .int b, .int f] ∧ Q (.bl (Sv13.good i b f)) H
theorem sc_is_shape : FnScope ["interval", "block", "bits"] ["interval", "block", "bits"] (defScope s_is_shape) := ⟨rfl, rfl, rfl, by decide +kernel, rfl, by decide +kernel, by decide +kernel⟩
theorem fx_is_shape (D : DefAt K mg "is_shape" s_is_shape) (F_within : Fx P w K mg base "within" 1 ["number", "low", "high"] sp_within) : Fx P w K mg base "is_shape" 2 ["interval", "block", "bits"] sp_is_shape := by
  refine D.fx sc_is_shape (fun _ _ _ _ _ _ us hl => match us, hl with | [_, _, _], _ => rfl) (fun vs H Q E h => ?_) (fun f cdv A outer s H vs Q E hr h => ?_)
  · obtain ⟨i, b, f, rfl, _⟩ := h
    rfl
  · obtain ⟨i, b, f, rfl, k⟩ := h
    refine ⟨_, (pss_one (ps_ret (pe_and (pe_fx F_within (hr.mono (by decide)) rfl (pa_cons (pv 0) (pa_cons pe_int (pa_cons pe_int pa_nil)))) (pe_and (pe_fx F_within (hr.mono (by decide)) rfl (pa_cons (pv 1) (pa_cons pe_int (pa_cons pe_int pa_nil)))) (pe_one (pe_fx F_within (hr.mono (by decide)) rfl (pa_cons (pv 2) (pa_cons pe_int (pa_cons pe_int pa_nil))))))))), ?_⟩
    refine ⟨_, rfl, i, 1, 64, rfl, _, rfl, ?_⟩
    have hg : Sv13.good i b f = ((decide (1 ≤ i) && decide (i ≤ 64)) && ((decide (64 ≤ b) && decide (b ≤ 65536)) && (decide (0 ≤ f) && decide (f ≤ 20)))) := rfl
    rw [hg] at k
    cases h1 : (decide (1 ≤ i) && decide (i ≤ 64)) with
    | false =>
      rw [h1] at k
      exact iteF k
    | true =>
      rw [h1, Bool.true_and] at k
      refine iteT ⟨_, rfl, b, 64, 65536, rfl, _, rfl, ?_⟩
      cases h2 : (decide (64 ≤ b) && decide (b ≤ 65536)) with
      | false =>
        rw [h2] at k
        exact iteF k
      | true =>
        rw [h2, Bool.true_and] at k
        exact iteT ⟨_, rfl, f, 0, 20, rfl, k⟩
def sp_masked : Sp := fun vs H Q _ => ∃ c : Nat, vs = [.int (c : Int)] ∧ c < 2 ^ 32 ∧ Q (.int ((Sv13.masked c : Nat) : Int)) H
theorem sc_masked : FnScope ["number", "turned"] ["number"] (defScope s_masked) := ⟨rfl, rfl, rfl, by decide +kernel, rfl, by decide +kernel, by decide +kernel⟩
theorem and32 (a : Nat) : Builtin.bitAnd (a : Int) 4294967295 = ((a % 2 ^ 32 : Nat) : Int) := by
  rw [bitAnd_m32]
  omega
theorem masked_eq {c : Nat} (hc : c < 2 ^ 32) : Builtin.bitAnd (Builtin.bitOr ((c : Int) / 2 ^ (15 : Int).toNat) (Builtin.bitAnd ((c : Int) * 2 ^ (17 : Int).toNat) 4294967295) + 2726488792) 4294967295 = ((Sv13.masked c : Nat) : Int) := by
  have e1 : (c : Int) / 2 ^ (15 : Int).toNat = ((c / 2 ^ 15 : Nat) : Int) := by
    show (c : Int) / 32768 = _
    omega
  have e2 : (c : Int) * 2 ^ (17 : Int).toNat = ((c * 2 ^ 17 : Nat) : Int) := by
    show (c : Int) * 131072 = _
    omega
  rw [e1, e2, and32, or_nat, My.turn_or hc (by decide) rfl]
  have e3 : ((c / 2 ^ 15 + c * 2 ^ 17 % 2 ^ 32 : Nat) : Int) + 2726488792 = ((c / 2 ^ 15 + c * 2 ^ 17 % 2 ^ 32 + 2726488792 : Nat) : Int) := by omega
  rw [e3, and32]
  rfl
theorem fx_masked (D : DefAt K mg "masked" s_masked) (C : Consts K mg) : Fx P w K mg base "masked" 1 ["number"] sp_masked := by
  refine D.fx sc_masked (fun _ _ _ _ _ _ us hl => match us, hl with | [_], _ => rfl) (fun vs H Q E h => ?_) (fun f cdv A outer s H vs Q E hr h => ?_)
  · obtain ⟨c, rfl, _⟩ := h
    rfl
  · obtain ⟨c, rfl, hc, k⟩ := h
    refine ⟨_, (pss_cons (ps_set (i := 1) sc_masked.nd rfl (Or.inl rfl) (pe_op op_or (pe_op op_shr (pv 0) pe_int) (pe_op op_and (pe_op op_shl (pv 0) pe_int) (pe_gint rfl C.ALL_ONES))))
      (pss_one (ps_ret (pe_op op_and (pe_op op_add (pv 1) (pe_gint rfl C.MASK_ADDEND)) (pe_gint rfl C.ALL_ONES))))), ?_⟩
    refine ⟨_, rfl, _, _, rfl, rfl, (by show (0 : Int) ≤ 15; decide), _, rfl, _, _, rfl, rfl, ⟨(by decide), (by decide), ?_⟩, _, _, rfl, rfl, _, _, rfl, rfl, ?_⟩
    · rw [Int.natAbs_natCast]
      omega
    · refine ⟨_, rfl, _, _, rfl, rfl, _, _, rfl, rfl, ?_⟩
      rw [← masked_eq hc] at k
      exact k
/-- where a key's bytes are below 256 the next byte is, too -/
theorem between_eq {a b : List Nat} (hb : isByte b) : Sv13.between a b = if a.length ≤ Sv13.common a b ∨ b.length ≤ Sv13.common a b then a else if a.getD (Sv13.common a b) 0 + 1 < b.getD (Sv13.common a b) 0 then a.take (Sv13.common a b) ++ [a.getD (Sv13.common a b) 0 + 1] else a := by
  show (if a.length ≤ Sv13.common a b ∨ b.length ≤ Sv13.common a b then a else if a.getD (Sv13.common a b) 0 + 1 < b.getD (Sv13.common a b) 0 ∧ a.getD (Sv13.common a b) 0 < 255 then a.take (Sv13.common a b) ++ [a.getD (Sv13.common a b) 0 + 1] else a) = _
  split
  · rfl
  · rename_i h
    have hl : Sv13.common a b < b.length := by omega
    have h1 : b.getD (Sv13.common a b) 0 < 256 := by
      have : b.getD (Sv13.common a b) 0 = b[Sv13.common a b] := by simp [List.getD, hl]
      rw [this]
      exact hb _ (List.getElem_mem _)
    by_cases h2 : a.getD (Sv13.common a b) 0 + 1 < b.getD (Sv13.common a b) 0
    · rw [if_pos h2, if_pos ⟨h2, by omega⟩]
    · rw [if_neg h2, if_neg fun z => h2 z.1]
def sp_key_between : Sp := fun vs H Q _ => ∃ (a b : Addr) (x y : List Nat), vs = [.ref a, .ref b] ∧ H a = some (.lst (vb x)) ∧ H b = some (.lst (vb y)) ∧ isByte y ∧ x.length ≤ 1000000 ∧ anyT a (vb (Sv13.between x y)) H Q
theorem sc_key_between : FnScope ["last", "following", "shared", "ended"] ["last", "following"] (defScope s_key_between) := ⟨rfl, rfl, rfl, by decide +kernel, rfl, by decide +kernel, by decide +kernel⟩
theorem fx_key_between (D : DefAt K mg "key_between" s_key_between) (C : Consts K mg) (F_shared_length : Fx P w K mg base "shared_length" 1 ["one", "other"] (sp_shared_length K)) : Fx P w K mg base "key_between" 2 ["last", "following"] sp_key_between := by
  refine D.fx sc_key_between (fun _ _ _ _ _ _ us hl => match us, hl with | [_, _], _ => rfl) (fun vs H Q E h => ?_) (fun f cdv A outer s H vs Q E hr h => ?_)
  · obtain ⟨a, b, x, y, rfl, _⟩ := h
    rfl
  · obtain ⟨a, b, x, y, rfl, ha0, hb0, hy, hxl, q⟩ := h
    have ha : SqL K H a (vb x) := SqL.of ha0
    have hb : SqL K H b (vb y) := SqL.of hb0
    refine ⟨_, (pss_cons (ps_set (i := 2) sc_key_between.nd rfl (Or.inl rfl) (pe_fx F_shared_length (hr.mono (by decide)) rfl (pa_cons (pv 0) (pa_cons (pv 1) pa_nil))))
      (pss_cons (ps_set (i := 3) sc_key_between.nd rfl (Or.inl rfl) (pe_or (pe_cmpR op_eq (pv 2) (pe_callB call_len_seq rfl C.nlen PySem.boot_len (pa_cons (pv 0) pa_nil)) (nomark _)) (pe_one (pe_cmpR op_eq (pv 2) (pe_callB call_len_seq rfl C.nlen PySem.boot_len (pa_cons (pv 1) pa_nil)) (nomark _)))))
      (pss_cons (ps_if (PW.pt (pw_and (pt_not (pt_val (pv 3))) (pw_and1 (pt_cmpR op_lt (pe_op op_add (pe_ix ix_list (pv 0) (pv 2) (fun _ _ => rfl)) pe_int) (pe_ix ix_list (pv 1) (pv 2) (fun _ _ => rfl)) (nomark _))))) (pss_one (ps_ret (pe_op op_cat (pe_slice sl_list (pv 0) po_none (po_some (pv 2))) (pe_lst (pa_cons (pe_op op_add (pe_ix ix_list (pv 0) (pv 2) (fun _ _ => rfl)) pe_int) pa_nil))))) pss_nil)
      (pss_one (ps_ret (pv 0)))))), ?_⟩
    have hc := My.common_le x y
    rw [between_eq hy] at q
    generalize hd : Sv13.common x y = d at q hc
    refine ⟨_, rfl, _, rfl, a, b, x, y, rfl, ha, hb, fun H1 s1 => ?_⟩
    rw [hd]
    have ha1 := s1.seq ha
    have hb1 := s1.seq hb
    refine ⟨_, rfl, _, rfl, a, _, rfl, .inl ha1, rfl, _, rfl, ?_⟩
    have back : (if x.length ≤ d ∨ y.length ≤ d then x else if x.getD d 0 + 1 < y.getD d 0 then x.take d ++ [x.getD d 0 + 1] else x) = x → Q (.ref a) H1 := fun e => by
      rw [e] at q
      exact q a H1 s1 (.inl rfl) (s1 _ _ ha0)
    by_cases h1 : d = x.length
    · have c1 : decide (V.int (d : Int) = V.int (((vb x).length : Nat) : Int)) = true := decide_eq_true (by rw [vb_length, h1])
      rw [c1]
      refine iteT ?_
      refine ⟨_, rfl, _, rfl, ?_⟩
      refine iteF (iteF ?_)
      refine ⟨_, rfl, back ?_⟩
      rw [if_pos (.inl (by omega))]
    · have c1 : decide (V.int (d : Int) = V.int (((vb x).length : Nat) : Int)) = false := decide_eq_false (by
        intro e
        injection e with e
        rw [vb_length] at e
        omega)
      rw [c1]
      refine iteF ?_
      refine ⟨_, rfl, _, rfl, b, _, rfl, .inl hb1, rfl, ?_⟩
      by_cases h2 : d = y.length
      · have c2 : decide (V.int (d : Int) = V.int (((vb y).length : Nat) : Int)) = true := decide_eq_true (by rw [vb_length, h2])
        rw [c2]
        refine ⟨_, rfl, _, rfl, ?_⟩
        refine iteF (iteF ?_)
        refine ⟨_, rfl, back ?_⟩
        rw [if_pos (.inr (by omega))]
      · have c2 : decide (V.int (d : Int) = V.int (((vb y).length : Nat) : Int)) = false := decide_eq_false (by
          intro e
          injection e with e
          rw [vb_length] at e
          omega)
        rw [c2]
        have hx : x[d]? = some x[d] := List.getElem?_eq_getElem (by omega)
        have hy' : y[d]? = some y[d] := List.getElem?_eq_getElem (by omega)
        have ex : x.getD d 0 = x[d] := by simp [List.getD, hx]
        have ey : y.getD d 0 = y[d] := by simp [List.getD, hy']
        rw [ex, ey] at back q
        refine ⟨_, rfl, _, rfl, ?_⟩
        refine iteT ?_
        refine ⟨_, rfl, _, rfl, a, _, _, _, rfl, rfl, ha1, vb_at hx, _, _, rfl, rfl, _, rfl, _, rfl, b, _, _, _, rfl, rfl, hb1, vb_at hy', _, _, rfl, rfl, _, rfl, ?_⟩
        by_cases h3 : x[d] + 1 < y[d]
        · have c3 : decide (((x[d] : Nat) : Int) + 1 < ((y[d] : Nat) : Int)) = true := decide_eq_true (by omega)
          rw [c3]
          refine iteT ?_
          rw [if_neg (by omega), if_pos h3] at q
          refine ⟨_, rfl, _, rfl, _, rfl, a, _, rfl, ha1, fun p hp => ?_⟩
          have s2 : Same H1 (upd H1 p (.lst (cutV (vb x) none (some (d : Int))))) := Same.new (Same.refl H1) hp
          refine ⟨_, rfl, _, rfl, a, _, _, _, rfl, rfl, s2.seq ha1, vb_at hx, _, _, rfl, rfl, (by show 1 ≤ sizeLine; decide), fun p2 hp2 => ?_⟩
          have np : p ≠ p2 := ne_of_none upd_same hp2
          refine ⟨p, p2, _, _, rfl, rfl, (by rw [upd_ne np]; exact upd_same), upd_same, le_size ?_, fun p3 hp3 => ?_⟩
          · have := cutV_length (vb x) none (some (d : Int))
            rw [vb_length] at this
            show (cutV (vb x) none (some (d : Int))).length + 1 ≤ _
            omega
          · refine q p3 _ (s1.trans (s2.trans (Same.new (Same.new (Same.refl _) hp2) hp3))) (.inr ((s1.trans (s2.trans (Same.new (Same.refl _) hp2))).free hp3)) ?_
            rw [upd_same, cut_to, vb_append, vb_take]
            rfl
        · have c3 : decide (((x[d] : Nat) : Int) + 1 < ((y[d] : Nat) : Int)) = false := decide_eq_false (by omega)
          rw [c3]
          refine iteF ?_
          refine ⟨_, rfl, back ?_⟩
          rw [if_neg (by omega), if_neg h3]
end
end KL

set_option Elab.async false
set_option linter.all false
set_option maxRecDepth 100000
namespace KL
open PySem PySem.W PyProof.Rows L2
abbrev s_key_hash : Stmt := top 33
abbrev s_bit_places : Stmt := top 34
abbrev s_probes_for : Stmt := top 35
abbrev s_piece_of : Stmt := top 36
section
variable {P : Program} {w : World} {K : Frag} {mg : Str → Option Value} {base : Heap}
theorem behind_at {a : List Nat} {i x : Nat} (h : ∀ j, j < i → a[j]? = some 255) (hx : a[i]? = some x) (hne : x ≠ 255) : Sv13.behind a = a.take i ++ [x + 1] := by
  have hi : i < a.length := (List.getElem?_eq_some_iff.mp hx).1
  have e : a[i] = x := (List.getElem?_eq_some_iff.mp hx).2
  have hf : a.findIdx? (fun c => c != 255) = some i := by
    rw [List.findIdx?_eq_some_iff_getElem]
    refine ⟨hi, by rw [e]; simp [hne], fun j hj => ?_⟩
    have h1 := h j hj
    have e1 : a[j] = 255 := (List.getElem?_eq_some_iff.mp h1).2
    simp [e1]
  unfold Sv13.behind
  rw [hf]
  simp [List.getD, hx]
theorem behind_all {a : List Nat} (h : ∀ j, j < a.length → a[j]? = some 255) : Sv13.behind a = a := by
  have hf : a.findIdx? (fun c => c != 255) = none := by
    rw [List.findIdx?_eq_none_iff]
    intro x hx
    obtain ⟨j, hj, e⟩ := List.mem_iff_getElem.mp hx
    have h1 := h j hj
    have e1 : a[j] = 255 := (List.getElem?_eq_some_iff.mp h1).2
    rw [← e, e1]
    rfl
  unfold Sv13.behind
  rw [hf]
def sp_key_behind : Sp := fun vs H Q _ => ∃ (a : Addr) (x : List Nat), vs = [.ref a] ∧ H a = some (.lst (vb x)) ∧ x.length ≤ 1000000 ∧ anyT a (vb (Sv13.behind x)) H Q
theorem sc_key_behind : FnScope ["last", "place", "byte"] ["last"] (defScope s_key_behind) := ⟨rfl, rfl, rfl, by decide +kernel, rfl, by decide +kernel, by decide +kernel⟩
theorem fx_key_behind (D : DefAt K mg "key_behind" s_key_behind) (C : Consts K mg) : Fx P w K mg base "key_behind" 1 ["last"] sp_key_behind := by
  refine D.fx sc_key_behind (fun _ _ _ _ _ _ us hl => match us, hl with | [_], _ => rfl) (fun vs H Q E h => ?_) (fun f cdv A outer s H vs Q E hr h => ?_)
  · obtain ⟨a, x, rfl, _⟩ := h
    rfl
  · obtain ⟨a, x, rfl, ha0, hxl, q⟩ := h
    have ha : SqL K H a (vb x) := SqL.of ha0
    refine ⟨_, (pss_cons (ps_for PassesOwn.never rfl (pi_enum rfl C.nenumerate (pa_cons (pv 0) pa_nil)) (pg_tup rfl (pgs_cons (pg_name (i := 1) sc_key_behind.nd rfl (Or.inl rfl)) (pgs_cons (pg_name (i := 2) sc_key_behind.nd rfl (Or.inl rfl)) pgs_nil))) (pss_one (ps_if (pt_cmpR op_ne (pv 2) pe_int (nomark _)) (pss_one (ps_ret (pe_op op_cat (pe_slice sl_list (pv 0) po_none (po_some (pv 1))) (pe_lst (pa_cons (pe_op op_add (pv 2) pe_int) pa_nil))))) pss_nil)))
      (pss_one (ps_ret (pv 0)))), ?_⟩
    refine ⟨_, rfl, a, _, rfl, ha, for_enum (K := K) (a := a) (xs := vb x) (fun i σ H2 => Same H H2 ∧ (∀ j, j < i → x[j]? = some 255) ∧ ∃ v u, σ = [some (.ref a), v, u])
      ⟨Same.refl H, fun j hj => absurd hj (Nat.not_lt_zero _), none, none, rfl⟩ (fun i σ H2 ⟨hs, _⟩ => hs.seq ha) ?_ ?_⟩
    · rintro i v T σ H2 hv hT ⟨hs, heq, v1, v2, rfl⟩
      obtain ⟨m, hm, rfl⟩ := vb_get hv
      refine ⟨T, _, rfl, .inl (.inl upd_same), rfl, _, _, rfl, _, _, rfl, rfl, ?_⟩
      have hs1 : Same H (upd H2 T (.tup [V.int (i : Int), V.int (m : Int)])) := Same.new hs hT
      refine ⟨_, rfl, rfl, _, rfl, ?_⟩
      by_cases hm2 : m = 255
      · have c : (!decide (V.int (m : Int) = V.int 255)) = false := by
          rw [decide_eq_true (by rw [hm2]; rfl)]
          rfl
        rw [c]
        refine iteF ?_
        refine ⟨hs1, fun j hj => ?_, _, _, rfl⟩
        by_cases hji : j < i
        · exact heq j hji
        · have : j = i := by omega
          subst this
          rw [hm, hm2]
      · have c : (!decide (V.int (m : Int) = V.int 255)) = true := by
          rw [decide_eq_false]
          · rfl
          · intro e
            injection e with e
            omega
        rw [c]
        refine iteT ?_
        rw [behind_at heq hm hm2] at q
        refine ⟨_, rfl, _, rfl, _, rfl, a, _, rfl, hs1.seq ha, fun p hp => ?_⟩
        refine ⟨_, rfl, _, _, rfl, rfl, (by show 1 ≤ sizeLine; decide), fun p2 hp2 => ?_⟩
        have np : p ≠ p2 := ne_of_none upd_same hp2
        refine ⟨p, p2, _, _, rfl, rfl, (by rw [upd_ne np]; exact upd_same), upd_same, le_size ?_, fun p3 hp3 => ?_⟩
        · have := cutV_length (vb x) none (some (i : Int))
          rw [vb_length] at this
          show (cutV (vb x) none (some (i : Int))).length + 1 ≤ _
          omega
        · refine q p3 _ (hs1.trans (Same.new (Same.new (Same.new (Same.refl _) hp) hp2) hp3)) (.inr ((hs1.trans (Same.new (Same.new (Same.refl _) hp) hp2)).free hp3)) ?_
          rw [upd_same, cut_to, vb_append, vb_take]
          rfl
    · rintro σ H2 ⟨hs, heq, v1, v2, rfl⟩
      rw [vb_length] at heq
      rw [behind_all heq] at q
      exact ⟨_, rfl, q a H2 hs (.inl rfl) (hs _ _ ha0)⟩
/-! ### the filter -/
def sp_probes_for : Sp := fun vs H Q _ => ∃ b : Nat, vs = [.int (b : Int)] ∧ Q (.int ((Sv13.probes b : Nat) : Int)) H
theorem sc_probes_for : FnScope ["bits"] ["bits"] (defScope s_probes_for) := ⟨rfl, rfl, rfl, by decide +kernel, rfl, by decide +kernel, by decide +kernel⟩
theorem fx_probes_for (D : DefAt K mg "probes_for" s_probes_for) (C : Consts K mg) : Fx P w K mg base "probes_for" 1 ["bits"] sp_probes_for := by
  refine D.fx sc_probes_for (fun _ _ _ _ _ _ us hl => match us, hl with | [_], _ => rfl) (fun vs H Q E h => ?_) (fun f cdv A outer s H vs Q E hr h => ?_)
  · obtain ⟨b, rfl, _⟩ := h
    rfl
  · obtain ⟨b, rfl, q⟩ := h
    refine ⟨_, (pss_one (ps_ret (pe_callB (call_min2 rfl) rfl C.nmin boot_min (pa_cons (pe_callB (call_max2 rfl) rfl C.nmax boot_max (pa_cons (pe_op op_fdiv (pe_op op_mul pe_int (pv 0)) pe_int) (pa_cons pe_int pa_nil))) (pa_cons pe_int pa_nil))))), ?_⟩
    refine ⟨_, rfl, _, _, rfl, rfl, .inl ⟨by decide, by decide⟩, _, _, rfl, rfl, ⟨by decide, by decide⟩, _, _, rfl, _, _, rfl, ?_⟩
    have e : (if (30 : Int) < (if (1 : Int) > (69 : Int) * (b : Int) / 100 then (1 : Int) else (69 : Int) * (b : Int) / 100) then (30 : Int) else (if (1 : Int) > (69 : Int) * (b : Int) / 100 then (1 : Int) else (69 : Int) * (b : Int) / 100)) = ((Sv13.probes b : Nat) : Int) := by
      have h1 : Sv13.probes b = max 1 (min 30 (69 * b / 100)) := rfl
      rw [h1]
      split <;> split <;> omega
    rw [← e] at q
    exact q
def sp_key_hash (K : Frag) : Sp := fun vs H Q _ => ∃ (a : Addr) (x : List Nat), vs = [.ref a] ∧ SqL K H a (vb x) ∧ isByte x ∧ x.length ≤ 1000000 ∧ Q (.int ((Sv13.hash x : Nat) : Int)) H
theorem sc_key_hash : FnScope ["key", "mixed", "over", "whole", "begin"] ["key"] (defScope s_key_hash) := ⟨rfl, rfl, rfl, by decide +kernel, rfl, by decide +kernel, by decide +kernel⟩
theorem size4 {n : Nat} : Builtin.Range.rangeSize 0 ((4 * n : Nat) : Int) 4 = (n : Int) := by
  unfold Builtin.Range.rangeSize
  rw [if_pos (by decide)]
  by_cases h0 : n = 0
  · subst h0
    rfl
  · rw [if_pos (by omega)]
    omega
theorem rg4 {n : Nat} (h : n ≤ 1000000) : RgC 0 ((4 * n : Nat) : Int) 4 n := by
  refine ⟨by decide, by decide, ?_, size4⟩
  unfold Builtin.Range.small
  rw [size4]
  have b1 : (0 : Int) ≤ ((4 * n : Nat) : Int) ∧ ((4 * n : Nat) : Int) ≤ 4000000 := by omega
  have b2 : (0 : Int) ≤ (n : Int) ∧ (n : Int) ≤ 1000000 := by omega
  generalize ((4 * n : Nat) : Int) = z at *
  generalize (n : Int) = k at *
  simp only [Builtin.Range.rangeFitsLong, Bool.and_eq_true, Bool.or_eq_true, decide_eq_true_eq, beq_iff_eq, show (4 : Int) > 0 by decide, if_true]
  omega
theorem mul_and (h x : Nat) : Builtin.bitAnd ((((h : Nat) : Int) + ((x : Nat) : Int)) * 3332679571) 4294967295 = ((Sv13.word ((h + x) * 0xC6A4A793) : Nat) : Int) := by
  have e : (((h : Nat) : Int) + ((x : Nat) : Int)) * 3332679571 = (((h + x) * 3332679571 : Nat) : Int) := by
    rw [Int.natCast_mul, Int.natCast_add]
    rfl
  rw [e, and32]
  rfl
theorem xsh16 (y : Nat) : Builtin.bitXor ((y : Nat) : Int) (((y : Nat) : Int) / 2 ^ (16 : Int).toNat) = ((Nat.xor y (y / 2 ^ 16) : Nat) : Int) := by
  have e : ((y : Nat) : Int) / 2 ^ (16 : Int).toNat = ((y / 2 ^ 16 : Nat) : Int) := by
    show ((y : Nat) : Int) / 65536 = _
    omega
  rw [e, xor_nat]
  rfl
theorem xsh24 (y : Nat) : Builtin.bitXor ((y : Nat) : Int) (((y : Nat) : Int) / 2 ^ (24 : Int).toNat) = ((Nat.xor y (y / 2 ^ 24) : Nat) : Int) := by
  have e : ((y : Nat) : Int) / 2 ^ (24 : Int).toNat = ((y / 2 ^ 24 : Nat) : Int) := by
    show ((y : Nat) : Int) / 16777216 = _
    omega
  rw [e, xor_nat]
  rfl
theorem fx_key_hash (D : DefAt K mg "key_hash" s_key_hash) (C : Consts K mg) (F_number_at : Fx P w K mg base "number_at" 1 ["data", "begin", "width"] (sp_number_at K)) : Fx P w K mg base "key_hash" 2 ["key"] (sp_key_hash K) := by
  refine D.fx sc_key_hash (fun _ _ _ _ _ _ us hl => match us, hl with | [_], _ => rfl) (fun vs H Q E h => ?_) (fun f cdv A outer s H vs Q E hr h => ?_)
  · obtain ⟨a, x, rfl, _⟩ := h
    rfl
  · obtain ⟨a, x, rfl, ha, hby, hxl, q⟩ := h
    refine ⟨_, (pss_cons (ps_set (i := 1) sc_key_hash.nd rfl (Or.inl rfl) (pe_op op_xor (pe_gint rfl C.HASH_BEGIN) (pe_op op_and (pe_op op_mul (pe_callB call_len_seq rfl C.nlen PySem.boot_len (pa_cons (pv 0) pa_nil)) (pe_gint rfl C.HASH_FACTOR)) (pe_gint rfl C.WORD))))
      (pss_cons (ps_set (i := 2) sc_key_hash.nd rfl (Or.inl rfl) (pe_op op_mod (pe_callB call_len_seq rfl C.nlen PySem.boot_len (pa_cons (pv 0) pa_nil)) pe_int))
      (pss_cons (ps_set (i := 3) sc_key_hash.nd rfl (Or.inl rfl) (pe_op op_sub (pe_callB call_len_seq rfl C.nlen PySem.boot_len (pa_cons (pv 0) pa_nil)) (pv 2)))
      (pss_cons (ps_for PassesOwn.never rfl (pi_range3 rfl C.nrange (pa_cons pe_int (pa_cons (pv 3) (pa_cons pe_int pa_nil)))) (pg_name (i := 4) sc_key_hash.nd rfl (Or.inl rfl)) (pss_cons (ps_set (i := 1) sc_key_hash.nd rfl (Or.inl rfl) (pe_op op_and (pe_op op_mul (pe_op op_add (pv 1) (pe_fx F_number_at (hr.mono (by decide)) rfl (pa_cons (pv 0) (pa_cons (pv 4) (pa_cons pe_int pa_nil))))) (pe_gint rfl C.HASH_FACTOR)) (pe_gint rfl C.WORD)))
      (pss_one (ps_set (i := 1) sc_key_hash.nd rfl (Or.inl rfl) (pe_op op_xor (pv 1) (pe_op op_shr (pv 1) pe_int))))))
      (pss_cons (ps_if (pt_cmpR op_gt (pv 2) pe_int (nomark _)) (pss_cons (ps_set (i := 1) sc_key_hash.nd rfl (Or.inl rfl) (pe_op op_and (pe_op op_mul (pe_op op_add (pv 1) (pe_fx F_number_at (hr.mono (by decide)) rfl (pa_cons (pv 0) (pa_cons (pv 3) (pa_cons (pv 2) pa_nil))))) (pe_gint rfl C.HASH_FACTOR)) (pe_gint rfl C.WORD)))
      (pss_one (ps_set (i := 1) sc_key_hash.nd rfl (Or.inl rfl) (pe_op op_xor (pv 1) (pe_op op_shr (pv 1) pe_int))))) pss_nil)
      (pss_one (ps_ret (pv 1)))))))), ?_⟩
    have hlen : (vb x).length = x.length := vb_length x
    obtain ⟨m, hm⟩ : ∃ m, m = x.length / 4 := ⟨_, rfl⟩
    refine ⟨_, rfl, a, _, rfl, .inl ha, _, _, rfl, rfl, .inl ⟨by rw [hlen]; omega, by rw [hlen]; omega⟩, _, _, rfl, rfl, _, _, rfl, rfl, ?_⟩
    refine ⟨_, rfl, a, _, rfl, .inl ha, _, _, rfl, rfl, (by show (0 : Int) < 4; decide), ?_⟩
    refine ⟨_, rfl, a, _, rfl, .inl ha, _, rfl, _, _, rfl, rfl, ?_⟩
    have e0 : Builtin.bitXor 3164544308 (Builtin.bitAnd ((((vb x).length : Nat) : Int) * 3332679571) 4294967295) = ((Nat.xor 0xBC9F1D34 (Sv13.word (x.length * 0xC6A4A793)) : Nat) : Int) := by
      have e : (((vb x).length : Nat) : Int) * 3332679571 = ((x.length * 3332679571 : Nat) : Int) := by
        rw [hlen, Int.natCast_mul]
        rfl
      rw [e, and32]
      exact xor_nat 3164544308 _
    have e1 : ((((vb x).length : Nat) : Int) % 4) = ((x.length % 4 : Nat) : Int) := by rw [hlen]; omega
    have e2 : (((vb x).length : Nat) : Int) - ((((vb x).length : Nat) : Int) % 4) = ((4 * m : Nat) : Int) := by rw [hlen]; omega
    refine ⟨_, rfl, (0 : Int), ((4 * m : Nat) : Int), (4 : Int), m, ?_, rg4 (by omega), for_rangeC (fun i σ H2 => H2 = H ∧ ∃ (hh : Nat) (v : Option V), My.HashAt x i hh ∧ σ = [some (.ref a), some (.int (hh : Int)), some (.int ((x.length % 4 : Nat) : Int)), some (.int ((4 * m : Nat) : Int)), v])
      ⟨rfl, _, none, My.hashAt_start x, ?_⟩ ?_ ?_⟩
    · show [V.int 0, V.int ((((vb x).length : Nat) : Int) - ((((vb x).length : Nat) : Int) % 4)), V.int 4] = _
      rw [e2]
    · show [some (V.ref a), some (V.int (Builtin.bitXor 3164544308 (Builtin.bitAnd ((((vb x).length : Nat) : Int) * 3332679571) 4294967295))), some (V.int ((((vb x).length : Nat) : Int) % 4)), some (V.int ((((vb x).length : Nat) : Int) - ((((vb x).length : Nat) : Int) % 4))), none] = _
      rw [e0, e2, e1]
    · rintro i σ H2 hi ⟨rfl, hh, v, hq, rfl⟩
      have e4 : (0 : Int) + (i : Nat) * 4 = ((4 * i : Nat) : Int) := by omega
      refine ⟨_, rfl, _, rfl, _, rfl, a, x, 4 * i, 4, ?_, ha, hby, by omega, by decide, _, _, rfl, rfl, _, _, rfl, rfl, .inr ⟨by decide, by decide⟩, _, _, rfl, rfl, ?_⟩
      · show [V.ref a, V.int ((0 : Int) + (i : Nat) * 4), V.int 4] = _
        rw [e4]
        rfl
      · refine ⟨_, rfl, _, rfl, _, _, rfl, rfl, (by show (0 : Int) ≤ 16; decide), _, _, rfl, rfl, ?_⟩
        refine ⟨rfl, _, some (V.int ((0 : Int) + (i : Nat) * 4)), My.hashAt_step hby (by omega) hq, ?_⟩
        · show [some (V.ref a), some (V.int (Builtin.bitXor (Builtin.bitAnd ((((hh : Nat) : Int) + ((Sv13.ofLittle (Sv13.slice x (4 * i) 4) : Nat) : Int)) * 3332679571) 4294967295) ((Builtin.bitAnd ((((hh : Nat) : Int) + ((Sv13.ofLittle (Sv13.slice x (4 * i) 4) : Nat) : Int)) * 3332679571) 4294967295) / 2 ^ (16 : Int).toNat))), some (V.int ((x.length % 4 : Nat) : Int)), some (V.int ((4 * m : Nat) : Int)), some (V.int ((0 : Int) + (i : Nat) * 4))] = _
          rw [mul_and, xsh16]
          rfl
    · rintro σ H2 ⟨rfl, hh, v, hq, rfl⟩
      refine ⟨_, rfl, _, _, rfl, rfl, _, rfl, ?_⟩
      by_cases h0 : 0 < x.length % 4
      · have c : decide ((0 : Int) < ((x.length % 4 : Nat) : Int)) = true := decide_eq_true (by omega)
        rw [c]
        refine iteT ?_
        refine ⟨_, rfl, _, rfl, _, rfl, _, rfl, a, x, 4 * m, x.length % 4, rfl, ha, hby, by omega, by omega, _, _, rfl, rfl, _, _, rfl, rfl, .inr ⟨by decide, by decide⟩, _, _, rfl, rfl, ?_⟩
        refine ⟨_, rfl, _, rfl, _, _, rfl, rfl, (by show (0 : Int) ≤ 24; decide), _, _, rfl, rfl, _, rfl, ?_⟩
        have e5 : x.length - 4 * m = x.length % 4 := by omega
        have e6 := My.hashAt_end (by omega) (by omega) hq
        rw [e5] at e6
        show Q (V.int (Builtin.bitXor (Builtin.bitAnd ((((hh : Nat) : Int) + ((Sv13.ofLittle (Sv13.slice x (4 * m) (x.length % 4)) : Nat) : Int)) * 3332679571) 4294967295) ((Builtin.bitAnd ((((hh : Nat) : Int) + ((Sv13.ofLittle (Sv13.slice x (4 * m) (x.length % 4)) : Nat) : Int)) * 3332679571) 4294967295) / 2 ^ (24 : Int).toNat))) _
        rw [mul_and, xsh24, ← e6]
        exact q
      · have c : decide ((0 : Int) < ((x.length % 4 : Nat) : Int)) = false := decide_eq_false (by omega)
        rw [c]
        refine iteF ?_
        refine ⟨_, rfl, ?_⟩
        rw [← My.hashAt_end0 (by omega) hq]
        exact q
def sp_bit_places (K : Frag) : Sp := fun vs H Q _ => ∃ (a : Addr) (x : List Nat) (p n : Nat), vs = [.ref a, .int (p : Int), .int (n : Int)] ∧ SqL K H a (vb x) ∧ isByte x ∧ x.length ≤ 1000000 ∧ p ≤ 255 ∧ 0 < n ∧ newL (vb (Sv13.marks p n x)) H Q
theorem sc_bit_places : FnScope ["key", "probes", "total", "place", "step", "places", "probe"] ["key", "probes", "total"] (defScope s_bit_places) := ⟨rfl, rfl, rfl, by decide +kernel, rfl, by decide +kernel, by decide +kernel⟩
theorem fx_bit_places (D : DefAt K mg "bit_places" s_bit_places) (C : Consts K mg) (F_key_hash : Fx P w K mg base "key_hash" 2 ["key"] (sp_key_hash K)) : Fx P w K mg base "bit_places" 3 ["key", "probes", "total"] (sp_bit_places K) := by
  refine D.fx sc_bit_places (fun _ _ _ _ _ _ us hl => match us, hl with | [_, _, _], _ => rfl) (fun vs H Q E h => ?_) (fun f cdv A outer s H vs Q E hr h => ?_)
  · obtain ⟨a, x, p, n, rfl, _⟩ := h
    rfl
  · obtain ⟨a, x, p, n, rfl, ha, hby, hxl, hp, hn, q⟩ := h
    refine ⟨_, (pss_cons (ps_set (i := 3) sc_bit_places.nd rfl (Or.inl rfl) (pe_fx F_key_hash (hr.mono (by decide)) rfl (pa_cons (pv 0) pa_nil)))
      (pss_cons (ps_set (i := 4) sc_bit_places.nd rfl (Or.inl rfl) (pe_op op_or (pe_op op_shr (pv 3) pe_int) (pe_op op_and (pe_op op_shl (pv 3) pe_int) (pe_gint rfl C.WORD))))
      (pss_cons (ps_set (i := 5) sc_bit_places.nd rfl (Or.inl rfl) (pe_lst pa_nil))
      (pss_cons (ps_for PassesOwn.never rfl (pi_range1 rfl C.nrange (pa_cons (pv 1) pa_nil)) (pg_name (i := 6) sc_bit_places.nd rfl (Or.inl rfl)) (pss_cons (ps_expr (pe_bm PySem.F.plainAttrs_list PySem.F.slot_list_append PySem.F.type_list_append mt_append (pv 5) (pa_cons (pe_op op_mod (pv 3) (pv 2)) pa_nil)))
      (pss_one (ps_set (i := 3) sc_bit_places.nd rfl (Or.inl rfl) (pe_op op_and (pe_op op_add (pv 3) (pv 4)) (pe_gint rfl C.WORD))))))
      (pss_one (ps_ret (pv 5))))))), ?_⟩
    have hlt := My.hash_lt hby
    generalize hh : Sv13.hash x = h at hlt
    refine ⟨_, rfl, a, x, rfl, ha, hby, hxl, ?_⟩
    rw [hh]
    refine ⟨_, rfl, _, _, rfl, rfl, (by show (0 : Int) ≤ 17; decide), _, rfl, _, _, rfl, rfl, ⟨by decide, by decide, by rw [Int.natAbs_natCast]; omega⟩, _, _, rfl, rfl, _, _, rfl, rfl, ?_⟩
    refine ⟨Nat.zero_le _, fun l hl => ?_⟩
    have es : Builtin.bitOr ((h : Int) / 2 ^ (17 : Int).toNat) (Builtin.bitAnd ((h : Int) * 2 ^ (15 : Int).toNat) 4294967295) = ((My.stride h : Nat) : Int) := by
      have e1 : (h : Int) / 2 ^ (17 : Int).toNat = ((h / 2 ^ 17 : Nat) : Int) := by
        show (h : Int) / 131072 = _
        omega
      have e2 : (h : Int) * 2 ^ (15 : Int).toNat = ((h * 2 ^ 15 : Nat) : Int) := by
        show (h : Int) * 32768 = _
        omega
      rw [e1, e2, and32, or_nat, My.stride_eq hlt]
    refine ⟨_, rfl, (p : Int), rfl, by omega, by omega, for_range (n := (p : Int).toNat) (fun i σ H2 => Same H H2 ∧ H2 l = some (.lst (vb (Sv13.marks i n x))) ∧ ∃ v, σ = [some (.ref a), some (.int (p : Int)), some (.int (n : Int)), some (.int ((Sv13.word (h + i * My.stride h) : Nat) : Int)), some (.int ((My.stride h : Nat) : Int)), some (.ref l), v])
      ⟨Same.new (Same.refl H) hl, ?_, none, ?_⟩ ?_ ?_⟩
    · rw [upd_same, My.marks_eq]
      rfl
    · have ew : Sv13.word (h + 0 * My.stride h) = h := by
        rw [Nat.zero_mul, Nat.add_zero]
        exact Nat.mod_eq_of_lt hlt
      rw [ew, ← es]
      rfl
    · rintro i σ H2 hi ⟨hs, h2, v, rfl⟩
      have hi : i < p := hi
      refine ⟨_, rfl, .inl ⟨rfl, _, SqL.of h2⟩, _, rfl, _, rfl, _, _, rfl, rfl, (by omega), l, _, _, rfl, rfl, h2, lt_size (by rw [vb_length, My.marks_length]; omega), ?_⟩
      refine ⟨_, rfl, _, rfl, _, _, rfl, rfl, _, _, rfl, rfl, ?_⟩
      refine ⟨Same.upd hs hl, ?_, some (V.int (0 + (i : Int))), ?_⟩
      · rw [upd_same, My.marks_succ]
        refine vb_snoc _ ?_
        rw [hh]
        show ((Sv13.word (h + i * My.stride h) : Nat) : Int) % (n : Int) = ((Sv13.word (h + i * My.stride h) % n : Nat) : Int)
        omega
      · have e : Builtin.bitAnd (((Sv13.word (h + i * My.stride h) : Nat) : Int) + ((My.stride h : Nat) : Int)) 4294967295 = ((Sv13.word (h + (i + 1) * My.stride h) : Nat) : Int) := by
          have e' : ((Sv13.word (h + i * My.stride h) : Nat) : Int) + ((My.stride h : Nat) : Int) = ((Sv13.word (h + i * My.stride h) + My.stride h : Nat) : Int) := by omega
          rw [e', and32, My.word_step]
        show [some (V.ref a), some (V.int (p : Int)), some (V.int (n : Int)), some (V.int (Builtin.bitAnd (((Sv13.word (h + i * My.stride h) : Nat) : Int) + ((My.stride h : Nat) : Int)) 4294967295)), some (V.int ((My.stride h : Nat) : Int)), some (V.ref l), some (V.int (0 + (i : Int)))] = _
        rw [e]
    · rintro σ H2 ⟨hs, h2, v, rfl⟩
      exact ⟨_, rfl, q l H2 hs hl h2⟩
end
end KL

set_option Elab.async false
set_option linter.all false
set_option maxRecDepth 100000
namespace KL
open PySem PySem.W PyProof.Rows L2
/-- a statement, then the rest, by what holds between them -/
theorem seq_cut {t u : TS} {D : Ends} {σ : L2.St} {H : Hp} (M : L2.St → Hp → Prop) (h2 : ∀ σ' H', M σ' H' → u D σ' H') (h1 : (∀ σ' H', M σ' H' → u D σ' H') → t { D with nx := u D } σ H) : tSeq t u D σ H := h1 h2
/-- a list of keys: the addresses of lists of bytes -/
def KeysAt (H : Hp) (rs : List Addr) (ks : List (List Nat)) : Prop := rs.length = ks.length ∧ ∀ (i : Nat) (r : Addr) (k : List Nat), rs[i]? = some r → ks[i]? = some k → H r = some (.lst (vb k))
theorem KeysAt.same {H H' : Hp} {rs : List Addr} {ks : List (List Nat)} (k : KeysAt H rs ks) (s : Same H H') : KeysAt H' rs ks := ⟨k.1, fun i r x h1 h2 => s _ _ (k.2 i r x h1 h2)⟩
theorem KeysAt.snoc {H : Hp} {rs : List Addr} {ks : List (List Nat)} {r : Addr} {x : List Nat} (k : KeysAt H rs ks) (h : H r = some (.lst (vb x))) : KeysAt H (rs ++ [r]) (ks ++ [x]) := by
  refine ⟨by rw [List.length_append, List.length_append, k.1]; rfl, fun i a y h1 h2 => ?_⟩
  by_cases hi : i < rs.length
  · rw [List.getElem?_append_left hi] at h1
    rw [List.getElem?_append_left (by rw [← k.1]; exact hi)] at h2
    exact k.2 i a y h1 h2
  · have hi' : rs.length ≤ i := by omega
    rw [List.getElem?_append_right hi'] at h1
    rw [List.getElem?_append_right (by rw [← k.1]; exact hi'), ← k.1] at h2
    cases hz : i - rs.length with
    | zero =>
      rw [hz] at h1 h2
      cases h1
      cases h2
      exact h
    | succ n =>
      rw [hz] at h1
      cases h1
theorem KeysAt.nil {H : Hp} : KeysAt H [] [] := ⟨rfl, fun i r k h => by cases h⟩
theorem ref_get {rs : List Addr} {i : Nat} {v : V} (h : (rs.map V.ref)[i]? = some v) : ∃ r, rs[i]? = some r ∧ v = V.ref r := by
  rw [List.getElem?_map] at h
  cases e : rs[i]? with
  | none => rw [e] at h; cases h
  | some r => rw [e] at h; exact ⟨r, rfl, (Option.some.inj h).symm⟩
section
variable {P : Program} {w : World} {K : Frag} {mg : Str → Option Value} {base : Heap}
def sp_piece_of (K : Frag) : Sp := fun vs H Q _ => ∃ (a : Addr) (rs : List Addr) (ks : List (List Nat)) (b : Nat), vs = [.ref a, .int (b : Int)] ∧ SqL K H a (rs.map V.ref) ∧ KeysAt H rs ks ∧ (∀ k ∈ ks, isByte k ∧ k.length ≤ 1000000) ∧ ks.length ≤ 1000000 ∧ b ≤ 20 ∧ newL (vb (My.pc b ks)) H Q
theorem sc_piece_of : FnScope ["keys", "bits", "size", "probes", "piece", "key", "place"] ["keys", "bits"] (defScope s_piece_of) := ⟨rfl, rfl, rfl, by decide +kernel, rfl, by decide +kernel, by decide +kernel⟩
theorem rep_zero (n : Nat) : (List.replicate n [V.int 0]).flatten = vb (List.replicate n 0) := by
  induction n with
  | zero => rfl
  | succ n ih => rw [List.replicate_succ, List.flatten_cons, ih, List.replicate_succ]; rfl
theorem vb_setBit (piece : List Nat) (m : Nat) : vb (My.setBit piece m) = (vb piece).set (m / 8) (V.int ((piece.getD (m / 8) 0 ||| 2 ^ (m % 8) : Nat) : Int)) := by
  unfold My.setBit vb
  rw [List.map_set]
theorem marks_snoc (b n : Nat) (ks : List (List Nat)) (k : List Nat) : My.allMarks b n (ks ++ [k]) = My.allMarks b n ks ++ Sv13.marks (Sv13.probes b) n k := by
  simp [My.allMarks]
theorem fx_piece_of (D : DefAt K mg "piece_of" s_piece_of) (C : Consts K mg) (F_probes_for : Fx P w K mg base "probes_for" 1 ["bits"] sp_probes_for) (F_bit_places : Fx P w K mg base "bit_places" 3 ["key", "probes", "total"] (sp_bit_places K)) :
    Fx P w K mg base "piece_of" 4 ["keys", "bits"] (sp_piece_of K) := by
  refine D.fx sc_piece_of (fun _ _ _ _ _ _ us hl => match us, hl with | [_, _], _ => rfl) (fun vs H Q E h => ?_) (fun f cdv A outer s H vs Q E hr h => ?_)
  · obtain ⟨a, rs, ks, b, rfl, _⟩ := h
    rfl
  · obtain ⟨a, rs, ks, b, rfl, ha, hk, hby, hkl, hb, q⟩ := h
    refine ⟨_, (pss_cons (ps_if (pt_cmpR (op_eqE hr.units0) (pv 0) (pe_lst pa_nil) (nomark _)) (pss_one (ps_ret (pe_lst pa_nil))) pss_nil)
      (pss_cons (ps_set (i := 2) sc_piece_of.nd rfl (Or.inl rfl) (pe_op op_fdiv (pe_op op_add (pe_callB (call_max2 rfl) rfl C.nmax boot_max (pa_cons pe_int (pa_cons (pe_op op_mul (pe_callB call_len_seq rfl C.nlen PySem.boot_len (pa_cons (pv 0) pa_nil)) (pv 1)) pa_nil))) pe_int) pe_int))
      (pss_cons (ps_set (i := 3) sc_piece_of.nd rfl (Or.inl rfl) (pe_fx F_probes_for (hr.mono (by decide)) rfl (pa_cons (pv 1) pa_nil)))
      (pss_cons (ps_set (i := 4) sc_piece_of.nd rfl (Or.inl rfl) (pe_op op_rep (pe_lst (pa_cons pe_int pa_nil)) (pv 2)))
      (pss_cons (ps_for PassesOwn.never rfl (pi_list (pv 0)) (pg_name (i := 5) sc_piece_of.nd rfl (Or.inl rfl)) (pss_one (ps_for PassesOwn.never rfl (pi_list (pe_fx F_bit_places (hr.mono (by decide)) rfl (pa_cons (pv 5) (pa_cons (pv 3) (pa_cons (pe_op op_mul pe_int (pv 2)) pa_nil))))) (pg_name (i := 6) sc_piece_of.nd rfl (Or.inl rfl)) (pss_one (ps_asg (pe_op op_or (pe_ix ix_list (pv 4) (pe_op op_fdiv (pv 6) pe_int) (fun _ _ => rfl)) (pe_op op_shl pe_int (pe_op op_mod (pv 6) pe_int))) (pg_sub (pv 4) (pe_op op_fdiv (pv 6) pe_int) set_list))))))
      (pss_cons (ps_expr (pe_bm PySem.F.plainAttrs_list PySem.F.slot_list_append PySem.F.type_list_append mt_append (pv 4) (pa_cons (pv 3) pa_nil)))
      (pss_one (ps_ret (pv 4))))))))), ?_⟩
    have hrl : (rs.map V.ref).length = ks.length := by rw [List.length_map, hk.1]
    refine ⟨_, rfl, Nat.zero_le _, fun l0 hl0 => ?_⟩
    have s0 : Same H (upd H l0 (.lst [])) := Same.new (Same.refl H) hl0
    refine ⟨a, l0, _, rfl, rfl, s0.seq ha, SqL.of upd_same, _, rfl, ?_⟩
    by_cases hks : ks = []
    · have hrs : rs = [] := List.length_eq_zero_iff.mp (by rw [hk.1, hks]; rfl)
      subst hrs
      refine iteT ?_
      refine ⟨Nat.zero_le _, fun l1 hl1 => ?_⟩
      refine q l1 _ (s0.trans (Same.new (Same.refl _) hl1)) (s0.free hl1) ?_
      rw [upd_same]
      unfold My.pc
      rw [if_pos hks]
      rfl
    · have hrs : rs ≠ [] := fun e => hks (List.length_eq_zero_iff.mp (by rw [← hk.1, e]; rfl))
      have c0 : (if false = true then !(rs.map V.ref).isEmpty else (rs.map V.ref).isEmpty) = false := by
        cases rs with
        | nil => exact absurd rfl hrs
        | cons => rfl
      rw [c0]
      refine iteF ?_
      have e1 : (if (((rs.map V.ref).length : Nat) : Int) * (b : Int) > 64 then (((rs.map V.ref).length : Nat) : Int) * (b : Int) else 64) = ((max 64 (ks.length * b) : Nat) : Int) := by
        rw [hrl]
        have e : ((ks.length : Nat) : Int) * (b : Int) = ((ks.length * b : Nat) : Int) := (Int.natCast_mul _ _).symm
        rw [e]
        generalize ks.length * b = z
        split <;> omega
      have e2 : ((max 64 (ks.length * b) : Nat) : Int) + 7 = ((max 64 (ks.length * b) + 7 : Nat) : Int) := by omega
      have e3 : ((max 64 (ks.length * b) + 7 : Nat) : Int) / 8 = ((My.pieceSize b ks : Nat) : Int) := by
        unfold My.pieceSize
        omega
      have e4 : ((if (((rs.map V.ref).length : Nat) : Int) * (b : Int) > 64 then (((rs.map V.ref).length : Nat) : Int) * (b : Int) else 64) + 7) / 8 = ((My.pieceSize b ks : Nat) : Int) := by
        rw [e1, e2, e3]
      have hsz := My.pieceSize_le hb ks
      have hpos := My.pieceSize_pos b ks
      generalize hz : My.pieceSize b ks = z at e4 hsz hpos
      refine ⟨_, rfl, a, _, rfl, .inl (s0.seq ha), _, rfl, _, _, rfl, rfl, .inl ⟨by rw [hrl]; omega, by rw [hrl]; omega⟩, _, _, rfl, _, _, rfl, rfl, _, _, rfl, rfl, ⟨by decide, by decide⟩, ?_⟩
      refine ⟨_, rfl, b, rfl, ?_⟩
      refine ⟨(by show 1 ≤ sizeLine; decide), fun l1 hl1 => ?_⟩
      have s1 : Same H (upd (upd H l0 (.lst [])) l1 (.lst [V.int 0])) := s0.trans (Same.new (Same.refl _) hl1)
      refine ⟨_, rfl, l1, (z : Int), _, rfl, ?_, upd_same, by omega, by omega, le_size ?_, fun p hp => ?_⟩
      · show V.int (((if (((rs.map V.ref).length : Nat) : Int) * (b : Int) > 64 then (((rs.map V.ref).length : Nat) : Int) * (b : Int) else 64) + 7) / 8) = _
        rw [e4]
      · show 1 * (z : Int).toNat ≤ _
        omega
      have hz2 : (z : Int).toNat = z := Int.toNat_natCast z
      rw [hz2, rep_zero]
      have hpH : H p = none := s1.free hp
      have s2 : Same H (upd (upd (upd H l0 (.lst [])) l1 (.lst [V.int 0])) p (.lst (vb (List.replicate z 0)))) := s1.trans (Same.new (Same.refl _) hp)
      refine ⟨_, rfl, a, rfl, ⟨_, s2.seq ha⟩, for_list (K := K) (a := a) (xs := rs.map V.ref) (fun i σ H2 => Same H H2 ∧ H2 p = some (.lst (vb ((My.allMarks b (8 * z) (ks.take i)).foldl My.setBit (List.replicate z 0)))) ∧
        ∃ v u, σ = [some (.ref a), some (.int (b : Int)), some (.int (z : Int)), some (.int ((Sv13.probes b : Nat) : Int)), some (.ref p), v, u])
        ⟨s2, upd_same, none, none, ?_⟩ (fun i σ H2 _ ⟨hs, _⟩ => hs.seq ha) ?_ ?_⟩
      · show [some (V.ref a), some (V.int (b : Int)), some (V.int (((if (((rs.map V.ref).length : Nat) : Int) * (b : Int) > 64 then (((rs.map V.ref).length : Nat) : Int) * (b : Int) else 64) + 7) / 8)), some (V.int ((Sv13.probes b : Nat) : Int)), some (V.ref p), none, none] = _
        rw [e4]
      · rintro i x σ H2 hx ⟨hs, h2, v, u, rfl⟩
        obtain ⟨r, hr', rfl⟩ := ref_get hx
        have hi : i < ks.length := by
          rw [← hk.1]
          exact (List.getElem?_eq_some_iff.mp hr').1
        have hkey : ks[i]? = some ks[i] := List.getElem?_eq_getElem hi
        have hkb := hby ks[i] (List.getElem_mem _)
        have hrk := hs _ _ (hk.2 i r _ hr' hkey)
        have e8 : (8 : Int) * (z : Int) = ((8 * z : Nat) : Int) := by omega
        refine ⟨_, rfl, _, rfl, _, rfl, _, _, rfl, rfl, .inl ⟨by decide, by decide⟩, r, ks[i], Sv13.probes b, 8 * z, ?_, SqL.of hrk, hkb.1, hkb.2, ?_, by omega, ?_⟩
        · show [V.ref r, V.int ((Sv13.probes b : Nat) : Int), V.int ((8 : Int) * (z : Int))] = _
          rw [e8]
        · have : Sv13.probes b = max 1 (min 30 (69 * b / 100)) := rfl
          omega
        · intro lm H3 s3 hlm h3
          have npm : p ≠ lm := ne_of_none h2 hlm
          have hmk : ∀ m ∈ Sv13.marks (Sv13.probes b) (8 * z) ks[i], m < 8 * z := My.marks_lt (by omega)
          generalize hcur : (My.allMarks b (8 * z) (ks.take i)).foldl My.setBit (List.replicate z 0) = cur at h2
          have hcl : cur.length = z := by rw [← hcur, My.setBits_length, List.length_replicate]
          have hnext : (My.allMarks b (8 * z) (ks.take (i + 1))).foldl My.setBit (List.replicate z 0) = (Sv13.marks (Sv13.probes b) (8 * z) ks[i]).foldl My.setBit cur := by
            rw [List.take_succ, hkey]
            show (My.allMarks b (8 * z) (ks.take i ++ [ks[i]])).foldl My.setBit _ = _
            rw [marks_snoc, List.foldl_append, hcur]
          generalize Sv13.marks (Sv13.probes b) (8 * z) ks[i] = ms at h3 hmk hnext
          refine ⟨lm, rfl, ⟨_, SqL.of h3⟩, for_list (K := K) (a := lm) (xs := vb ms) (fun j σ H4 => Same H H4 ∧ H4 lm = some (.lst (vb ms)) ∧ H4 p = some (.lst (vb ((ms.take j).foldl My.setBit cur))) ∧
            ∃ u, σ = [some (.ref a), some (.int (b : Int)), some (.int (z : Int)), some (.int ((Sv13.probes b : Nat) : Int)), some (.ref p), some (.ref r), u])
            ⟨hs.trans s3, h3, s3 _ _ h2, u, rfl⟩ (fun j σ H4 _ ⟨_, h4, _⟩ => SqL.of h4) ?_ ?_⟩
          · rintro j x σ H4 hx ⟨hs4, h4, h5, u, rfl⟩
            obtain ⟨m, hm, rfl⟩ := vb_get hx
            have hml : m < 8 * z := hmk m (List.mem_of_getElem? hm)
            generalize hc2 : (ms.take j).foldl My.setBit cur = c2 at h5
            have hc2l : c2.length = z := by rw [← hc2, My.setBits_length, hcl]
            have hidx : m / 8 < c2.length := by omega
            have hg : c2[m / 8]? = some (c2.getD (m / 8) 0) := by simp [List.getD, hidx]
            have ed : (m : Int) / 8 = ((m / 8 : Nat) : Int) := by omega
            have em : (m : Int) % 8 = ((m % 8 : Nat) : Int) := by omega
            have ev : Builtin.bitOr ((c2.getD (m / 8) 0 : Nat) : Int) (1 * 2 ^ ((m : Int) % 8).toNat) = ((c2.getD (m / 8) 0 ||| 2 ^ (m % 8) : Nat) : Int) := by
              have e : (1 : Int) * 2 ^ ((m : Int) % 8).toNat = ((2 ^ (m % 8) : Nat) : Int) := by
                rw [em, Int.toNat_natCast, Int.one_mul]
                simp
              rw [e, or_nat]
            refine ⟨_, rfl, _, rfl, _, _, rfl, rfl, ⟨by decide, by decide⟩, p, _, _, _, rfl, rfl, SqL.of h5, at_of ed (by unfold vb; rw [List.getElem?_map, hg]; rfl), _, rfl, _, _, rfl, rfl, (by show (0 : Int) < 8; decide), _, _, rfl, rfl, ⟨by omega, by omega, by decide⟩, _, _, rfl, rfl, ?_⟩
            refine ⟨_, rfl, _, rfl, _, _, rfl, rfl, ⟨by decide, by decide⟩, p, _, _, m / 8, rfl, rfl, h5, ?_, ?_⟩
            · unfold ixN
              rw [if_pos (by omega), if_pos (by rw [vb_length]; omega)]
              congr 1
            · refine ⟨Same.upd hs4 hpH, by rw [upd_ne npm.symm]; exact h4, ?_, some (V.int (m : Int)), rfl⟩
              rw [upd_same, List.take_succ, hm]
              show _ = some (HO.lst (vb ((ms.take j ++ [m]).foldl My.setBit cur)))
              rw [List.foldl_append, hc2]
              show _ = some (HO.lst (vb (My.setBit c2 m)))
              rw [vb_setBit]
              show some (HO.lst ((vb c2).set (m / 8) (V.int (Builtin.bitOr ((c2.getD (m / 8) 0 : Nat) : Int) (1 * 2 ^ ((m : Int) % 8).toNat))))) = _
              rw [ev]
          · rintro σ H4 ⟨hs4, h4, h5, u, rfl⟩
            rw [vb_length, List.take_length] at h5
            refine ⟨hs4, ?_, _, _, rfl⟩
            rw [hnext]
            exact h5
      · rintro σ H2 ⟨hs, h2, v, u, rfl⟩
        rw [hrl, List.take_length] at h2
        have hpl : (My.pieceBits b ks).length = z := by rw [My.pieceBits_length, hz]
        have hpb : (My.allMarks b (8 * z) ks).foldl My.setBit (List.replicate z 0) = My.pieceBits b ks := by
          unfold My.pieceBits
          rw [hz]
        rw [hpb] at h2
        refine ⟨_, rfl, .inl ⟨rfl, _, SqL.of h2⟩, _, rfl, p, _, _, rfl, rfl, h2, lt_size (by rw [vb_length, hpl]; omega), _, rfl, ?_⟩
        refine q p _ (Same.upd hs hpH) hpH ?_
        rw [upd_same]
        unfold My.pc
        rw [if_neg hks, My.filter_eq]
        exact vb_snoc _ rfl
end
end KL

set_option Elab.async false
set_option linter.all false
set_option maxRecDepth 100000
namespace KL
open PySem PySem.W PyProof.Rows L2
abbrev s_W_init : Stmt := inClass (top 25) 0
abbrev s_W_put : Stmt := inClass (top 25) 1
abbrev s_W_size : Stmt := inClass (top 25) 2
abbrev s_W_content : Stmt := inClass (top 25) 3
abbrev s_append_block : Stmt := top 26
/-! ### a block writer's attributes -/
def fsW (iv : Nat) (lb lr : Addr) (n : Nat) (lk : Addr) : List (Str × V) := [("interval", .int (iv : Int)), ("body", .ref lb), ("restarts", .ref lr), ("entries", .int (n : Int)), ("last_key", .ref lk)]
theorem nIB : ¬ (("interval" : Str) = "body") := by decide +kernel
theorem nIR : ¬ (("interval" : Str) = "restarts") := by decide +kernel
theorem nIE : ¬ (("interval" : Str) = "entries") := by decide +kernel
theorem nIL : ¬ (("interval" : Str) = "last_key") := by decide +kernel
theorem nBR : ¬ (("body" : Str) = "restarts") := by decide +kernel
theorem nBE : ¬ (("body" : Str) = "entries") := by decide +kernel
theorem nBL : ¬ (("body" : Str) = "last_key") := by decide +kernel
theorem nRE : ¬ (("restarts" : Str) = "entries") := by decide +kernel
theorem nRL : ¬ (("restarts" : Str) = "last_key") := by decide +kernel
theorem nEL : ¬ (("entries" : Str) = "last_key") := by decide +kernel
theorem bne {a b : Str} (h : ¬ a = b) : (a == b) = false := beq_eq_false_iff_ne.mpr h
theorem bne' {a b : Str} (h : ¬ a = b) : (b == a) = false := beq_eq_false_iff_ne.mpr fun e => h e.symm
theorem fsW_interval {iv n : Nat} {lb lr lk : Addr} : (fsW iv lb lr n lk).lookup ("interval" : Str) = some (.int (iv : Int)) := by simp only [fsW, List.lookup, beq_self_eq_true]
theorem fsW_body {iv n : Nat} {lb lr lk : Addr} : (fsW iv lb lr n lk).lookup ("body" : Str) = some (.ref lb) := by simp only [fsW, List.lookup, beq_self_eq_true, bne' nIB]
theorem fsW_restarts {iv n : Nat} {lb lr lk : Addr} : (fsW iv lb lr n lk).lookup ("restarts" : Str) = some (.ref lr) := by simp only [fsW, List.lookup, beq_self_eq_true, bne' nIR, bne' nBR]
theorem fsW_entries {iv n : Nat} {lb lr lk : Addr} : (fsW iv lb lr n lk).lookup ("entries" : Str) = some (.int (n : Int)) := by simp only [fsW, List.lookup, beq_self_eq_true, bne' nIE, bne' nBE, bne' nRE]
theorem fsW_last {iv n : Nat} {lb lr lk : Addr} : (fsW iv lb lr n lk).lookup ("last_key" : Str) = some (.ref lk) := by simp only [fsW, List.lookup, beq_self_eq_true, bne' nIL, bne' nBL, bne' nRL, bne' nEL]
theorem fsW_no {iv n : Nat} {lb lr lk : Addr} {m : Str} (h1 : ¬ m = "interval") (h2 : ¬ m = "body") (h3 : ¬ m = "restarts") (h4 : ¬ m = "entries") (h5 : ¬ m = "last_key") : (fsW iv lb lr n lk).lookup m = none := by
  simp only [fsW, List.lookup, bne h1, bne h2, bne h3, bne h4, bne h5]
theorem put_entries {iv n m : Nat} {lb lr lk : Addr} {z : Int} (e : z = (m : Int)) : putF "entries" (.int z) (fsW iv lb lr n lk) = fsW iv lb lr m lk := by
  subst e
  simp only [fsW, putF, if_neg nIE, if_neg nBE, if_neg nRE, if_pos]
theorem put_last {iv n : Nat} {lb lr lk lk' : Addr} : putF "last_key" (.ref lk') (fsW iv lb lr n lk) = fsW iv lb lr n lk' := by
  simp only [fsW, putF, if_neg nIL, if_neg nBL, if_neg nRL, if_neg nEL, if_pos]
/-- what the walk asks of the class -/
structure WCls (K : Frag) (mg : Str → Option Value) (C : Addr) : Prop where
  cl : Cls K C
  nI : NoAttr K C "interval"
  nB : NoAttr K C "body"
  nR : NoAttr K C "restarts"
  nE : NoAttr K C "entries"
  nL : NoAttr K C "last_key"
/-- a block writer stands at p, its lists at lb and lr -/
structure WAt (C : Addr) (H : Hp) (p lb lr lk : Addr) (iv : Nat) (b : My.BW) : Prop where
  ob : ∃ dx, H p = some (.ins C dx (fsW iv lb lr b.n lk)) ∧ H lk = some (.lst (vb b.last)) ∧ lk ≠ lb ∧ lk ≠ lr
  hb : H lb = some (.lst (vb b.body))
  hr : H lr = some (.lst (vb b.rs))
  ne : lb ≠ lr
/-- all is kept but these three -/
def Kept3 (H H' : Hp) (p lb lr : Addr) : Prop := ∀ b o, H b = some o → b ≠ p → b ≠ lb → b ≠ lr → H' b = some o
theorem Kept3.same {G H H' : Hp} {p lb lr : Addr} (k : Kept3 H H' p lb lr) (s : Same G H) (h1 : G p = none) (h2 : G lb = none) (h3 : G lr = none) : Same G H' := fun b o e =>
  k b o (s b o e) (ne_of_none e h1) (ne_of_none e h2) (ne_of_none e h3)
theorem WAt.same {C : Addr} {H H' : Hp} {p lb lr lk : Addr} {iv : Nat} {b : My.BW} (h : WAt C H p lb lr lk iv b) (s : Same H H') : WAt C H' p lb lr lk iv b := by
  obtain ⟨⟨dx, h1, h2, h3, h4⟩, h5, h6, h7⟩ := h
  exact ⟨⟨dx, s _ _ h1, s _ _ h2, h3, h4⟩, s _ _ h5, s _ _ h6, h7⟩
section
variable {P : Program} {w : World} {K : Frag} {mg : Str → Option Value} {base : Heap}
/-- a method of the class as it stands behind the top -/
structure MethAt (K : Frag) (C : Addr) (m qual : Str) (st : Stmt) : Prop where
  ex : ∃ f fd, Meth K C m f ∧ Fun K m qual st f fd
theorem MethAt.mx {C : Addr} {m qual : Str} {st : Stmt} {N ps : List Str} {k : Nat} {sp : Sp} (D : MethAt K C m qual st) (c : Cls K C) (S : FnScope N ps (defScope st))
    (hb : ∀ (kV doc pm : Value) (an : Option Addr) (cdv ct : Value) (us : List Value), us.length = ps.length → bindArgs (fnOf m qual (defArgs st) (defBody st) (defScope st) .none kV doc pm an cdv ct) ⟨us, []⟩ = pure (ps.zip us))
    (len : ∀ vs H Q E, sp vs H Q E → vs.length = ps.length)
    (hbody : ∀ (f : Addr) (cdv : Value) (A : Around) (outer : List Env) (s : Shared) (H : Hp) (vs : List V) (Q : VK) (E : XK), Room k (A.deeper (envOfC qual (defScope st) s.heap.objs.size f cdv)) → sp vs H Q E →
      ∃ t, PSs (cxOf CX0 P w K mg base N qual (defScope st) f cdv A outer s H E).nox (defBody st) t ∧ t { nx := fun _ H' => Q .non H', rt := Q } (start N vs) H) : Mtx P w K mg base C m (k + 1) ps sp := by
  obtain ⟨f, fd, hm, F⟩ := D.ex
  exact ⟨f, fd, c, hm, F.binds hb, F.ok S len fun cdv A outer s H vs Q E hr h => hbody f cdv A outer s H vs Q E hr h⟩
/-- the class is made by its __init__ -/
structure MakeAt (K : Frag) (mg : Str → Option Value) (x : Str) (C : Addr) (qual : Str) (st : Stmt) : Prop where
  ex : ∃ f fd, mg x = some (.ref C) ∧ Mk K C f ∧ Fun K "__init__" qual st f fd
theorem MakeAt.mx {x : Str} {C : Addr} {qual : Str} {st : Stmt} {N ps : List Str} {k : Nat} {sp : Sp} (D : MakeAt K mg x C qual st) (S : FnScope N ps (defScope st))
    (hb : ∀ (kV doc pm : Value) (an : Option Addr) (cdv ct : Value) (us : List Value), us.length = ps.length → bindArgs (fnOf "__init__" qual (defArgs st) (defBody st) (defScope st) .none kV doc pm an cdv ct) ⟨us, []⟩ = pure (ps.zip us))
    (len : ∀ vs H Q E, sp vs H Q E → vs.length = ps.length)
    (hbody : ∀ (f : Addr) (cdv : Value) (A : Around) (outer : List Env) (s : Shared) (H : Hp) (vs : List V) (Q : VK) (E : XK), Room k (A.deeper (envOfC qual (defScope st) s.heap.objs.size f cdv)) → sp vs H Q E →
      ∃ t, PSs (cxOf CX0 P w K mg base N qual (defScope st) f cdv A outer s H E).nox (defBody st) t ∧ t { nx := fun _ H' => Q .non H', rt := Q } (start N vs) H) : Mkx P w K mg base x C (k + 1) ps sp := by
  obtain ⟨f, fd, h0, hm, F⟩ := D.ex
  exact ⟨f, fd, h0, hm, F.binds hb, F.ok S len fun cdv A outer s H vs Q E hr h => hbody f cdv A outer s H vs Q E hr h⟩
def sp_W_init (C : Addr) : Sp := fun vs H Q _ => ∃ (p dx : Addr) (iv : Nat), vs = [.ref p, .int (iv : Int)] ∧ H p = some (.ins C dx []) ∧
  ∀ (lb lr lk : Addr) (H' : Hp), WAt C H' p lb lr lk iv My.BW.new → H lb = none → H lr = none → H lk = none → (∀ b o, H b = some o → b ≠ p → H' b = some o) → Q .non H'
theorem sc_W_init : FnScope ["self", "interval"] ["self", "interval"] (defScope s_W_init) := ⟨rfl, rfl, rfl, by decide +kernel, rfl, by decide +kernel, by decide +kernel⟩
theorem fsW_made {iv : Nat} {lb lr lk : Addr} : putF "last_key" (.ref lk) (putF "entries" (.int 0) (putF "restarts" (.ref lr) (putF "body" (.ref lb) (putF "interval" (.int (iv : Int)) [])))) = fsW iv lb lr 0 lk := by
  simp only [fsW, putF, if_neg nIB, if_neg nIR, if_neg nIE, if_neg nIL, if_neg nBR, if_neg nBE, if_neg nBL, if_neg nRE, if_neg nRL, if_neg nEL]
  rfl
theorem mx_W_init {C : Addr} (D : MakeAt K mg "BlockWriter" C "BlockWriter.__init__" s_W_init) (T : WCls K mg C) : Mkx P w K mg base "BlockWriter" C 1 ["self", "interval"] (sp_W_init C) := by
  refine D.mx sc_W_init (fun _ _ _ _ _ _ us hl => match us, hl with | [_, _], _ => rfl) (fun vs H Q E h => ?_) (fun f cdv A outer s H vs Q E hr h => ?_)
  · obtain ⟨p, dx, iv, rfl, _⟩ := h
    rfl
  · obtain ⟨p, dx, iv, rfl, hp, q⟩ := h
    refine ⟨_, (pss_cons (ps_fld (pv 0) (pv 1) rfl)
      (pss_cons (ps_fld (pv 0) (pe_lst pa_nil) rfl)
      (pss_cons (ps_fld (pv 0) (pe_lst (pa_cons pe_int pa_nil)) rfl)
      (pss_cons (ps_fld (pv 0) pe_int rfl)
      (pss_one (ps_fld (pv 0) (pe_lst pa_nil) rfl)))))), ?_⟩
    refine ⟨_, rfl, _, rfl, p, C, dx, [], rfl, hp, T.cl, T.nI, (by show 0 < 1000; decide), ?_⟩
    refine ⟨Nat.zero_le _, fun lb hlb => ?_⟩
    have nb : p ≠ lb := ne_of_none upd_same hlb
    refine ⟨_, rfl, p, C, dx, _, rfl, (by rw [upd_ne nb]; exact upd_same), T.cl, T.nB, (by show 1 < 1000; decide), ?_⟩
    refine ⟨(by show 1 ≤ sizeLine; decide), fun lr hlr => ?_⟩
    have nr : p ≠ lr := ne_of_none upd_same hlr
    have nbr : lb ≠ lr := ne_of_none (by rw [upd_ne nb.symm]; exact upd_same) hlr
    refine ⟨_, rfl, p, C, dx, _, rfl, (by rw [upd_ne nr]; exact upd_same), T.cl, T.nR, (by show 2 < 1000; decide), ?_⟩
    refine ⟨_, rfl, p, C, dx, _, rfl, upd_same, T.cl, T.nE, (by show 3 < 1000; decide), ?_⟩
    refine ⟨Nat.zero_le _, fun lk hlk => ?_⟩
    have nk : p ≠ lk := ne_of_none upd_same hlk
    have nbk : lb ≠ lk := ne_of_none (by rw [upd_ne nb.symm, upd_ne nb.symm, upd_ne nbr, upd_ne nb.symm]; exact upd_same) hlk
    have nrk : lr ≠ lk := ne_of_none (by rw [upd_ne nr.symm, upd_ne nr.symm]; exact upd_same) hlk
    refine ⟨_, rfl, p, C, dx, _, rfl, (by rw [upd_ne nk]; exact upd_same), T.cl, T.nL, (by show 4 < 1000; decide), ?_⟩
    refine q lb lr lk _ ⟨⟨dx, ?_, ?_, nbk.symm, nrk.symm⟩, ?_, ?_, nbr⟩ ?_ ?_ ?_ fun b o e hb => ?_
    · rw [upd_same, fsW_made]
      rfl
    · rw [upd_ne nk.symm]
      exact upd_same
    · rw [upd_ne nb.symm, upd_ne nbk, upd_ne nb.symm, upd_ne nb.symm, upd_ne nbr, upd_ne nb.symm]
      exact upd_same
    · rw [upd_ne nr.symm, upd_ne nrk, upd_ne nr.symm, upd_ne nr.symm]
      exact upd_same
    · rw [upd_ne nb.symm] at hlb
      exact hlb
    · rw [upd_ne nr.symm, upd_ne nbr.symm, upd_ne nr.symm] at hlr
      exact hlr
    · rw [upd_ne nk.symm, upd_ne nk.symm, upd_ne nrk.symm, upd_ne nk.symm, upd_ne nbk.symm, upd_ne nk.symm] at hlk
      exact hlk
    · have e1 : b ≠ lb := fun z => by
        rw [upd_ne nb.symm] at hlb
        rw [z, hlb] at e
        cases e
      have e2 : b ≠ lr := fun z => by
        rw [upd_ne nr.symm, upd_ne nbr.symm, upd_ne nr.symm] at hlr
        rw [z, hlr] at e
        cases e
      have e3 : b ≠ lk := fun z => by
        rw [upd_ne nk.symm, upd_ne nk.symm, upd_ne nrk.symm, upd_ne nk.symm, upd_ne nbk.symm, upd_ne nk.symm] at hlk
        rw [z, hlk] at e
        cases e
      rw [upd_ne hb, upd_ne e3, upd_ne hb, upd_ne hb, upd_ne e2, upd_ne hb, upd_ne e1, upd_ne hb]
      exact e
def sp_W_size (C : Addr) : Sp := fun vs H Q _ => ∃ (p lb lr lk : Addr) (iv : Nat) (b : My.BW), vs = [.ref p] ∧ WAt C H p lb lr lk iv b ∧ Q (.int ((b.size : Nat) : Int)) H
theorem sc_W_size : FnScope ["self"] ["self"] (defScope s_W_size) := ⟨rfl, rfl, rfl, by decide +kernel, rfl, by decide +kernel, by decide +kernel⟩
theorem mx_W_size {C : Addr} (D : MethAt K C "size" "BlockWriter.size" s_W_size) (T : WCls K mg C) (Cs : Consts K mg) : Mtx P w K mg base C "size" 1 ["self"] (sp_W_size C) := by
  refine D.mx T.cl sc_W_size (fun _ _ _ _ _ _ us hl => match us, hl with | [_], _ => rfl) (fun vs H Q E h => ?_) (fun f cdv A outer s H vs Q E hr h => ?_)
  · obtain ⟨p, lb, lr, lk, iv, b, rfl, _⟩ := h
    rfl
  · obtain ⟨p, lb, lr, lk, iv, b, rfl, ⟨⟨dx, h1, h2, h3, h4⟩, h5, h6, h7⟩, q⟩ := h
    refine ⟨_, (pss_one (ps_ret (pe_op op_add (pe_op op_add (pe_callB call_len_seq rfl Cs.nlen PySem.boot_len (pa_cons (pe_fld (pv 0) rfl) pa_nil)) (pe_op op_mul pe_int (pe_callB call_len_seq rfl Cs.nlen PySem.boot_len (pa_cons (pe_fld (pv 0) rfl) pa_nil)))) pe_int))), ?_⟩
    refine ⟨_, rfl, p, C, dx, _, _, rfl, h1, T.cl, T.nB, fsW_body, lb, _, rfl, .inl (SqL.of h5), _, rfl, p, C, dx, _, _, rfl, h1, T.cl, T.nR, fsW_restarts, lr, _, rfl, .inl (SqL.of h6), _, _, rfl, rfl, .inl ⟨by decide, by decide⟩, _, _, rfl, rfl, _, _, rfl, rfl, ?_⟩
    have e : (((vb b.body).length : Nat) : Int) + 4 * (((vb b.rs).length : Nat) : Int) + 4 = ((b.size : Nat) : Int) := by
      rw [vb_length, vb_length]
      unfold My.BW.size
      omega
    rw [← e] at q
    exact q
def sp_W_content (C : Addr) : Sp := fun vs H Q _ => ∃ (p lb lr lk : Addr) (iv : Nat) (b : My.BW), vs = [.ref p] ∧ WAt C H p lb lr lk iv b ∧ b.size ≤ 10000000 ∧ newL (vb b.content) H Q
theorem sc_W_content : FnScope ["self", "content", "restart"] ["self"] (defScope s_W_content) := ⟨rfl, rfl, rfl, by decide +kernel, rfl, by decide +kernel, by decide +kernel⟩
theorem flat_len (l : List Nat) : (l.flatMap (Sv13.little 4)).length = 4 * l.length := by
  induction l with
  | nil => rfl
  | cons x r ih => rw [List.flatMap_cons, List.length_append, ih, My.little_length, List.length_cons]; omega
theorem flat_snoc (l : List Nat) (x : Nat) : (l ++ [x]).flatMap (Sv13.little 4) = l.flatMap (Sv13.little 4) ++ Sv13.little 4 x := by simp
theorem mx_W_content {C : Addr} (D : MethAt K C "content" "BlockWriter.content" s_W_content) (T : WCls K mg C) (Cs : Consts K mg) (F_fixed : Fx P w K mg base "fixed" 1 ["number", "width"] sp_fixed) : Mtx P w K mg base C "content" 2 ["self"] (sp_W_content C) := by
  refine D.mx T.cl sc_W_content (fun _ _ _ _ _ _ us hl => match us, hl with | [_], _ => rfl) (fun vs H Q E h => ?_) (fun f cdv A outer s H vs Q E hr h => ?_)
  · obtain ⟨p, lb, lr, lk, iv, b, rfl, _⟩ := h
    rfl
  · obtain ⟨p, lb, lr, lk, iv, b, rfl, ⟨⟨dx, h1, h2, h3, h4⟩, h5, h6, h7⟩, hsz, q⟩ := h
    have hsz' : b.body.length + 4 * b.rs.length + 4 ≤ 10000000 := hsz
    refine ⟨_, (pss_cons (ps_set (i := 1) sc_W_content.nd rfl (Or.inl rfl) (pe_callTy call_list_of rfl Cs.nlist PyProof.Rows.boot_list (pa_cons (pe_fld (pv 0) rfl) pa_nil)))
      (pss_cons (ps_for PassesOwn.never rfl (pi_list (pe_fld (pv 0) rfl)) (pg_name (i := 2) sc_W_content.nd rfl (Or.inl rfl)) (pss_one (ps_expr (pe_bm PySem.F.plainAttrs_list PySem.F.slot_list_extend PySem.F.type_list_extend mt_extend (pv 1) (pa_cons (pe_fx F_fixed (hr.mono (by decide)) rfl (pa_cons (pv 2) (pa_cons pe_int pa_nil))) pa_nil)))))
      (pss_cons (ps_expr (pe_bm PySem.F.plainAttrs_list PySem.F.slot_list_extend PySem.F.type_list_extend mt_extend (pv 1) (pa_cons (pe_fx F_fixed (hr.mono (by decide)) rfl (pa_cons (pe_callB call_len_seq rfl Cs.nlen PySem.boot_len (pa_cons (pe_fld (pv 0) rfl) pa_nil)) (pa_cons pe_int pa_nil))) pa_nil)))
      (pss_one (ps_ret (pv 1)))))), ?_⟩
    refine ⟨_, rfl, p, C, dx, _, _, rfl, h1, T.cl, T.nB, fsW_body, lb, _, rfl, .inl (SqL.of h5), fun l hl => ?_⟩
    have s0 : Same H (upd H l (.lst (vb b.body))) := Same.new (Same.refl H) hl
    refine ⟨_, rfl, p, C, dx, _, _, rfl, s0 _ _ h1, T.cl, T.nR, fsW_restarts, lr, rfl, ⟨_, SqL.of (s0 _ _ h6)⟩, for_list (K := K) (a := lr) (xs := vb b.rs) (fun i σ H2 => Same H H2 ∧ H2 l = some (.lst (vb (b.body ++ (b.rs.take i).flatMap (Sv13.little 4)))) ∧ ∃ v, σ = [some (.ref p), some (.ref l), v])
      ⟨s0, ?_, none, rfl⟩ (fun i σ H2 _ ⟨hs, _⟩ => SqL.of (hs _ _ h6)) ?_ ?_⟩
    · rw [upd_same]
      simp
    · rintro i x σ H2 hx ⟨hs, hl2, v, rfl⟩
      obtain ⟨m, hm, rfl⟩ := vb_get hx
      have hi : i < b.rs.length := (List.getElem?_eq_some_iff.mp hm).1
      refine ⟨_, rfl, .inl ⟨rfl, _, SqL.of hl2⟩, _, rfl, m, 4, rfl, by decide, fun l2 H3 s3 hn h3 => ?_⟩
      refine ⟨l, l2, _, _, rfl, rfl, s3 _ _ hl2, h3, le_size ?_, ?_⟩
      · rw [vb_length, vb_length, My.little_length, List.length_append, flat_len, List.length_take]
        omega
      · refine ⟨Same.upd (hs.trans s3) hl, ?_, _, rfl⟩
        rw [upd_same, ← vb_append, List.take_succ, hm, List.append_assoc, ← flat_snoc]
        rfl
    · rintro σ H2 ⟨hs, hl2, v, rfl⟩
      rw [vb_length, List.take_length] at hl2
      refine ⟨_, rfl, .inl ⟨rfl, _, SqL.of hl2⟩, _, rfl, p, C, dx, _, _, rfl, hs _ _ h1, T.cl, T.nR, fsW_restarts, lr, _, rfl, .inl (SqL.of (hs _ _ h6)), b.rs.length, 4, ?_, by decide, fun l2 H3 s3 hn h3 => ?_⟩
      · show [V.int (((vb b.rs).length : Nat) : Int), V.int 4] = _
        rw [vb_length]
        rfl
      · refine ⟨l, l2, _, _, rfl, rfl, s3 _ _ hl2, h3, le_size ?_, _, rfl, ?_⟩
        · rw [vb_length, vb_length, My.little_length, List.length_append, flat_len]
          omega
        · refine q l _ (Same.upd (hs.trans s3) hl) hl ?_
          rw [upd_same, ← vb_append]
          rfl
end
end KL

set_option Elab.async false
set_option linter.all false
set_option maxRecDepth 100000
namespace KL
open PySem PySem.W PyProof.Rows L2
abbrev s_with_length : Stmt := top 4
theorem set_cut {v : V} {i : Nat} {u : TS} {D : Ends} {σ : L2.St} {H : Hp} (h : u D (σ.set i (some v)) H) : tSeq (tAsg (tC v) (gName i)) u D σ H := h
structure PutSt (C dx p lb lr lk : Addr) (iv n : Nat) (H H1 : Hp) (body rs : List Nat) : Prop where
  hp : H1 p = some (.ins C dx (fsW iv lb lr n lk))
  hb : H1 lb = some (.lst (vb body))
  hr : H1 lr = some (.lst (vb rs))
  kp : Kept3 H H1 p lb lr
theorem PutSt.same {C dx p lb lr lk : Addr} {iv n : Nat} {H H1 H2 : Hp} {body rs : List Nat} (h : PutSt C dx p lb lr lk iv n H H1 body rs) (s : Same H1 H2) : PutSt C dx p lb lr lk iv n H H2 body rs :=
  ⟨s _ _ h.hp, s _ _ h.hb, s _ _ h.hr, fun b o e a1 a2 a3 => s _ _ (h.kp b o e a1 a2 a3)⟩
theorem PutSt.body {C dx p lb lr lk : Addr} {iv n : Nat} {H H1 : Hp} {body rs more : List Nat} (h : PutSt C dx p lb lr lk iv n H H1 body rs) (ne : lb ≠ lr) : PutSt C dx p lb lr lk iv n H (upd H1 lb (.lst (vb body ++ vb more))) (body ++ more) rs := by
  have n1 : p ≠ lb := ne_of h.hp h.hb (by intro z; cases z)
  refine ⟨by rw [upd_ne n1]; exact h.hp, by rw [upd_same, vb_append], by rw [upd_ne ne.symm]; exact h.hr, fun b o e a1 a2 a3 => ?_⟩
  rw [upd_ne a2]
  exact h.kp b o e a1 a2 a3
section
variable {P : Program} {w : World} {K : Frag} {mg : Str → Option Value} {base : Heap}
def sp_W_put (C : Addr) : Sp := fun vs H Q _ => ∃ (p lb lr lk k v : Addr) (iv : Nat) (b : My.BW) (key val : List Nat), vs = [.ref p, .ref k, .ref v] ∧ WAt C H p lb lr lk iv b ∧ H k = some (.lst (vb key)) ∧ H v = some (.lst (vb val)) ∧
  k ≠ lb ∧ k ≠ lr ∧ v ≠ lb ∧ v ≠ lr ∧ 0 < iv ∧ b.body.length + key.length + val.length ≤ 10000000 ∧ b.rs.length ≤ 10000000 ∧
  ∀ H', WAt C H' p lb lr k iv (b.put iv key val) → Kept3 H H' p lb lr → Q .non H'
theorem sc_W_put : FnScope ["self", "key", "value", "shared"] ["self", "key", "value"] (defScope s_W_put) := ⟨rfl, rfl, rfl, by decide +kernel, rfl, by decide +kernel, by decide +kernel⟩
theorem pow128 {n : Nat} (h : n ≤ 100000000) : n < 128 ^ 10 := Nat.lt_of_le_of_lt h (by decide)
theorem mx_W_put {C : Addr} (D : MethAt K C "put" "BlockWriter.put" s_W_put) (T : WCls K mg C) (Cs : Consts K mg) (F_shared_length : Fx P w K mg base "shared_length" 1 ["one", "other"] (sp_shared_length K)) (F_varint : Fx P w K mg base "varint" 1 ["number"] sp_varint) :
    Mtx P w K mg base C "put" 2 ["self", "key", "value"] (sp_W_put C) := by
  refine D.mx T.cl sc_W_put (fun _ _ _ _ _ _ us hl => match us, hl with | [_, _, _], _ => rfl) (fun vs H Q E h => ?_) (fun f cdv A outer s H vs Q E hr h => ?_)
  · obtain ⟨p, lb, lr, lk, k, v, iv, b, key, val, rfl, _⟩ := h
    rfl
  · obtain ⟨p, lb, lr, lk, k, v, iv, b, key, val, rfl, ⟨⟨dx, h1, h2, h3, h4⟩, h5, h6, h7⟩, hk, hv, kb, kr, vbn, vr, hiv, hsz, hrs, q⟩ := h
    refine ⟨_, (pss_cons (ps_set (i := 3) sc_W_put.nd rfl (Or.inl rfl) pe_int)
      (pss_cons (ps_if (pt_cmpR op_ne (pe_op op_mod (pe_fld (pv 0) rfl) (pe_fld (pv 0) rfl)) pe_int (nomark _)) (pss_one (ps_set (i := 3) sc_W_put.nd rfl (Or.inl rfl) (pe_fx F_shared_length (hr.mono (by decide)) rfl (pa_cons (pe_fld (pv 0) rfl) (pa_cons (pv 1) pa_nil))))) (pss_one (ps_if (pt_cmpR op_gt (pe_fld (pv 0) rfl) pe_int (nomark _)) (pss_one (ps_expr (pe_bm PySem.F.plainAttrs_list PySem.F.slot_list_append PySem.F.type_list_append mt_append (pe_fld (pv 0) rfl) (pa_cons (pe_callB call_len_seq rfl Cs.nlen PySem.boot_len (pa_cons (pe_fld (pv 0) rfl) pa_nil)) pa_nil)))) pss_nil)))
      (pss_cons (ps_expr (pe_bm PySem.F.plainAttrs_list PySem.F.slot_list_extend PySem.F.type_list_extend mt_extend (pe_fld (pv 0) rfl) (pa_cons (pe_fx F_varint (hr.mono (by decide)) rfl (pa_cons (pv 3) pa_nil)) pa_nil)))
      (pss_cons (ps_expr (pe_bm PySem.F.plainAttrs_list PySem.F.slot_list_extend PySem.F.type_list_extend mt_extend (pe_fld (pv 0) rfl) (pa_cons (pe_fx F_varint (hr.mono (by decide)) rfl (pa_cons (pe_op op_sub (pe_callB call_len_seq rfl Cs.nlen PySem.boot_len (pa_cons (pv 1) pa_nil)) (pv 3)) pa_nil)) pa_nil)))
      (pss_cons (ps_expr (pe_bm PySem.F.plainAttrs_list PySem.F.slot_list_extend PySem.F.type_list_extend mt_extend (pe_fld (pv 0) rfl) (pa_cons (pe_fx F_varint (hr.mono (by decide)) rfl (pa_cons (pe_callB call_len_seq rfl Cs.nlen PySem.boot_len (pa_cons (pv 2) pa_nil)) pa_nil)) pa_nil)))
      (pss_cons (ps_expr (pe_bm PySem.F.plainAttrs_list PySem.F.slot_list_extend PySem.F.type_list_extend mt_extend (pe_fld (pv 0) rfl) (pa_cons (pe_slice sl_list (pv 1) (po_some (pv 3)) po_none) pa_nil)))
      (pss_cons (ps_expr (pe_bm PySem.F.plainAttrs_list PySem.F.slot_list_extend PySem.F.type_list_extend mt_extend (pe_fld (pv 0) rfl) (pa_cons (pv 2) pa_nil)))
      (pss_cons (ps_fldaug (pv 0) pe_int in_add)
      (pss_one (ps_fld (pv 0) (pv 1) rfl)))))))))), ?_⟩
    have npb : p ≠ lb := ne_of h1 h5 (by intro z; cases z)
    have npr : p ≠ lr := ne_of h1 h6 (by intro z; cases z)
    have npk : k ≠ p := ne_of hk h1 (by intro z; cases z)
    have npv : v ≠ p := ne_of hv h1 (by intro z; cases z)
    have hshle := My.sh_le iv b key
    refine set_cut ?_
    refine seq_cut (fun σ' H' => σ' = [some (.ref p), some (.ref k), some (.ref v), some (.int ((b.sh iv key : Nat) : Int))] ∧ PutSt C dx p lb lr lk iv b.n H H' b.body (b.put iv key val).rs) ?_ fun rest => ?_
    · -- the rest
      rintro σ' H1 ⟨rfl, S1⟩
      generalize hsh : b.sh iv key = sh at hshle
      have hput : (b.put iv key val).body = b.body ++ Sv13.varint sh ++ Sv13.varint (key.length - sh) ++ Sv13.varint val.length ++ key.drop sh ++ val := by
        rw [← hsh]
        rfl
      generalize hrs' : (b.put iv key val).rs = rs' at S1
      have v1 := My.varint_length sh
      have v2 := My.varint_length (key.length - sh)
      have v3 := My.varint_length val.length
      -- varint(shared)
      refine ⟨_, rfl, p, C, dx, _, _, rfl, S1.hp, T.cl, T.nB, fsW_body, .inl ⟨rfl, _, SqL.of S1.hb⟩, _, rfl, sh, rfl, pow128 (by omega), fun l H2 s2 hn h2' => ?_⟩
      have S2 := S1.same s2
      refine ⟨lb, l, _, _, rfl, rfl, S2.hb, h2', le_size (by rw [vb_length, vb_length]; omega), ?_⟩
      have S3 := S2.body (more := Sv13.varint sh) h7
      -- varint(len(key) - shared)
      have hk3 : ∀ {H9 : Hp}, Kept3 H H9 p lb lr → H9 k = some (.lst (vb key)) := fun kp => kp k _ hk npk kb kr
      have hv3 : ∀ {H9 : Hp}, Kept3 H H9 p lb lr → H9 v = some (.lst (vb val)) := fun kp => kp v _ hv npv vbn vr
      refine ⟨_, rfl, p, C, dx, _, _, rfl, S3.hp, T.cl, T.nB, fsW_body, .inl ⟨rfl, _, SqL.of S3.hb⟩, _, rfl, k, _, rfl, .inl (SqL.of (hk3 S3.kp)), _, rfl, _, _, rfl, rfl, key.length - sh, ?_, pow128 (by omega), fun l2 H4 s4 hn4 h4' => ?_⟩
      · show [V.int ((((vb key).length : Nat) : Int) - (sh : Int))] = _
        rw [vb_length]
        congr 2
        omega
      have S4 := S3.same s4
      refine ⟨lb, l2, _, _, rfl, rfl, S4.hb, h4', le_size (by rw [vb_length, vb_length, List.length_append]; omega), ?_⟩
      have S5 := S4.body (more := Sv13.varint (key.length - sh)) h7
      -- varint(len(value))
      refine ⟨_, rfl, p, C, dx, _, _, rfl, S5.hp, T.cl, T.nB, fsW_body, .inl ⟨rfl, _, SqL.of S5.hb⟩, _, rfl, v, _, rfl, .inl (SqL.of (hv3 S5.kp)), val.length, ?_, pow128 (by omega), fun l3 H6 s6 hn6 h6' => ?_⟩
      · show [V.int (((vb val).length : Nat) : Int)] = _
        rw [vb_length]
      have S6 := S5.same s6
      refine ⟨lb, l3, _, _, rfl, rfl, S6.hb, h6', le_size (by rw [vb_length, vb_length, List.length_append, List.length_append]; omega), ?_⟩
      have S7 := S6.body (more := Sv13.varint val.length) h7
      -- key[shared:]
      refine ⟨_, rfl, p, C, dx, _, _, rfl, S7.hp, T.cl, T.nB, fsW_body, .inl ⟨rfl, _, SqL.of S7.hb⟩, _, rfl, _, rfl, _, rfl, k, _, rfl, SqL.of (hk3 S7.kp), fun l4 hn8 => ?_⟩
      have e4 : cutV (vb key) (some (sh : Int)) none = vb (key.drop sh) := by rw [cut_from, vb_drop]
      rw [e4]
      have s8 : ∀ {Z : Hp}, Z l4 = none → Same Z (upd Z l4 (.lst (vb (key.drop sh)))) := fun hz => Same.new (Same.refl _) hz
      have S8 := S7.same (s8 hn8)
      refine ⟨lb, l4, _, _, rfl, rfl, S8.hb, upd_same, le_size (by rw [vb_length, vb_length, List.length_append, List.length_append, List.length_append, List.length_drop]; omega), ?_⟩
      have S9 := S8.body (more := key.drop sh) h7
      -- value
      refine ⟨_, rfl, p, C, dx, _, _, rfl, S9.hp, T.cl, T.nB, fsW_body, .inl ⟨rfl, _, SqL.of S9.hb⟩, _, rfl, lb, v, _, _, rfl, rfl, S9.hb, hv3 S9.kp, le_size (by rw [vb_length, vb_length, List.length_append, List.length_append, List.length_append, List.length_append, List.length_drop]; omega), ?_⟩
      have S10 := S9.body (more := val) h7
      -- entries, last_key
      refine ⟨_, rfl, p, C, dx, _, _, rfl, S10.hp, T.cl, T.nE, fsW_entries, _, _, rfl, rfl, dx, _, S10.hp, (by show 5 < 1000; decide), ?_⟩
      have e11 : putF "entries" (V.int ((b.n : Int) + 1)) (fsW iv lb lr b.n lk) = fsW iv lb lr (b.n + 1) lk := put_entries (by omega)
      refine ⟨_, rfl, _, rfl, p, C, dx, fsW iv lb lr (b.n + 1) lk, rfl, ?_, T.cl, T.nL, (by show 5 < 1000; decide), ?_⟩
      · rw [upd_same]
        exact congrArg (fun z => some (HO.ins C dx z)) e11
      · refine q _ ⟨⟨dx, ?_, ?_, kb, kr⟩, ?_, ?_, h7⟩ fun b' o e a1 a2 a3 => ?_
        · rw [upd_same, put_last]
          rfl
        · rw [upd_ne npk, upd_ne npk]
          exact hk3 S10.kp
        · rw [upd_ne npb.symm, upd_ne npb.symm, S10.hb, hput]
        · rw [upd_ne npr.symm, upd_ne npr.symm, hrs']
          exact S10.hr
        · rw [upd_ne a1, upd_ne a1]
          exact S10.kp b' o e a1 a2 a3
    · -- shared, and the restarts
      refine ⟨_, rfl, p, C, dx, _, _, rfl, h1, T.cl, T.nE, fsW_entries, _, rfl, p, C, dx, _, _, rfl, h1, T.cl, T.nI, fsW_interval, _, _, rfl, rfl, (by omega), rfl, _, rfl, ?_⟩
      have em : ((b.n : Int) % (iv : Int)) = ((b.n % iv : Nat) : Int) := by omega
      by_cases hm : b.n % iv = 0
      · have c : (!decide (V.int ((b.n : Int) % (iv : Int)) = V.int 0)) = false := by
          rw [em, hm]
          rfl
        rw [c]
        refine iteF ?_
        refine ⟨_, rfl, p, C, dx, _, _, rfl, h1, T.cl, T.nE, fsW_entries, _, _, rfl, rfl, _, rfl, ?_⟩
        have esh : b.sh iv key = 0 := by simp [My.BW.sh, hm]
        by_cases hn : 0 < b.n
        · have c2 : decide ((0 : Int) < (b.n : Int)) = true := decide_eq_true (by omega)
          rw [c2]
          refine iteT ?_
          refine ⟨_, rfl, p, C, dx, _, _, rfl, h1, T.cl, T.nR, fsW_restarts, .inl ⟨rfl, _, SqL.of h6⟩, _, rfl, p, C, dx, _, _, rfl, h1, T.cl, T.nB, fsW_body, lb, _, rfl, .inl (SqL.of h5), lr, _, _, rfl, rfl, h6, lt_size (by rw [vb_length]; omega), ?_⟩
          refine rest _ _ ⟨?_, ?_⟩
          · rw [esh]
            rfl
          · refine ⟨by rw [upd_ne npr]; exact h1, by rw [upd_ne h7]; exact h5, ?_, fun b' o e a1 a2 a3 => by rw [upd_ne a3]; exact e⟩
            rw [upd_same]
            have e : (b.put iv key val).rs = b.rs ++ [b.body.length] := by simp [My.BW.put, hm, hn]
            rw [e]
            exact vb_snoc _ (by rw [vb_length])
        · have c2 : decide ((0 : Int) < (b.n : Int)) = false := decide_eq_false (by omega)
          rw [c2]
          refine iteF ?_
          refine rest _ _ ⟨?_, ?_⟩
          · rw [esh]
            rfl
          · have e : (b.put iv key val).rs = b.rs := by simp [My.BW.put, hm, hn]
            rw [e]
            exact ⟨h1, h5, h6, fun b' o e a1 a2 a3 => e⟩
      · have c : (!decide (V.int ((b.n : Int) % (iv : Int)) = V.int 0)) = true := by
          rw [em, decide_eq_false]
          · rfl
          · intro e
            injection e with e
            omega
        rw [c]
        refine iteT ?_
        refine ⟨_, rfl, p, C, dx, _, _, rfl, h1, T.cl, T.nL, fsW_last, _, rfl, lk, k, b.last, key, rfl, SqL.of h2, SqL.of hk, fun H1 s1 => ?_⟩
        refine rest _ _ ⟨?_, ?_⟩
        · have esh : b.sh iv key = Sv13.common b.last key := by simp [My.BW.sh, hm]
          rw [esh]
          rfl
        · have e : (b.put iv key val).rs = b.rs := by simp [My.BW.put, hm]
          rw [e]
          exact ⟨s1 _ _ h1, s1 _ _ h5, s1 _ _ h6, fun b' o e a1 a2 a3 => s1 _ _ e⟩
/-! ### a block into the file -/
def sp_append_block : Sp := fun vs H Q _ => ∃ (o c : Addr) (x y : List Nat), vs = [.ref o, .ref c] ∧ H o = some (.lst (vb x)) ∧ H c = some (.lst (vb y)) ∧ o ≠ c ∧ x.length + y.length ≤ 15000000 ∧
  ∀ (l : Addr) (H' : Hp), (∀ b u, H b = some u → b ≠ o → H' b = some u) → H' o = some (.lst (vb (x ++ Sv13.raw y))) → H l = none → l ≠ o → H' l = some (.lst (vb (Sv13.Handle.bytes ⟨x.length, y.length⟩))) → Q (.ref l) H'
theorem sc_append_block : FnScope ["out", "content", "handle"] ["out", "content"] (defScope s_append_block) := ⟨rfl, rfl, rfl, by decide +kernel, rfl, by decide +kernel, by decide +kernel⟩
theorem crc_lt (b : List Nat) (s : Nat) : True := trivial
theorem crcByte_lt {c b : Nat} (hc : c < 2 ^ 32) (hb : b < 2 ^ 32) : Sv13.crcByte c b < 2 ^ 32 := by
  have st : ∀ x, x < 2 ^ 32 → My.stp x < 2 ^ 32 := fun x hx => by
    rw [My.stp_eq]
    refine Nat.xor_lt_two_pow (by omega) ?_
    unfold My.sel
    split <;> decide
  have h0 : Nat.xor c b < 2 ^ 32 := Nat.xor_lt_two_pow hc hb
  exact st _ (st _ (st _ (st _ (st _ (st _ (st _ (st _ h0)))))))
theorem crcs_lt : ∀ (l : List Nat) (c : Nat), isByte l → c < 2 ^ 32 → l.foldl Sv13.crcByte c < 2 ^ 32
  | [], c, _, h => h
  | x :: r, c, hl, h => crcs_lt r _ (fun y hy => hl y (List.mem_cons_of_mem _ hy)) (crcByte_lt h (by have := hl x List.mem_cons_self; omega))
theorem crc_lt32 {l : List Nat} {s : Nat} (hl : isByte l) (hs : s < 2 ^ 32) : Sv13.crc l s < 2 ^ 32 := by
  have h1 : Nat.xor s (2 ^ 32 - 1) < 2 ^ 32 := Nat.xor_lt_two_pow hs (by decide)
  exact Nat.xor_lt_two_pow (crcs_lt l _ hl h1) (by decide)
theorem crc_append (a b : List Nat) : Sv13.crc b (Sv13.crc a 0) = Sv13.crc (a ++ b) 0 := by
  unfold Sv13.crc
  rw [List.foldl_append]
  have : ∀ z : Nat, Nat.xor (Nat.xor z (2 ^ 32 - 1)) (2 ^ 32 - 1) = z := fun z => by
    show (z ^^^ (2 ^ 32 - 1)) ^^^ (2 ^ 32 - 1) = z
    rw [Nat.xor_assoc, Nat.xor_self, Nat.xor_zero]
  rw [this]
theorem fx_append_block (D : DefAt K mg "append_block" s_append_block) (C : Consts K mg) (F_varint : Fx P w K mg base "varint" 1 ["number"] sp_varint) (F_fixed : Fx P w K mg base "fixed" 1 ["number", "width"] sp_fixed)
    (F_masked : Fx P w K mg base "masked" 1 ["number"] sp_masked) (F_sum_from : Fx P w K mg base "sum_from" 1 ["start", "data"] (sp_sum_from K)) : Fx P w K mg base "append_block" 2 ["out", "content"] (fun vs H Q E => sp_append_block vs H Q E ∧ ∃ (c : Addr) (y : List Nat), vs[1]? = some (.ref c) ∧ H c = some (.lst (vb y)) ∧ isByte y) := by
  refine D.fx sc_append_block (fun _ _ _ _ _ _ us hl => match us, hl with | [_, _], _ => rfl) (fun vs H Q E h => ?_) (fun f cdv A outer s H vs Q E hr h => ?_)
  · obtain ⟨⟨o, c, x, y, rfl, _⟩, _⟩ := h
    rfl
  · obtain ⟨⟨o, c, x, y, rfl, ho, hc, hne, hsz, q⟩, c', y', e1, e2, hby⟩ := h
    cases e1
    rw [hc] at e2
    have hby : isByte y := by
      have e3 : vb y = vb y' := by
        injection e2 with e2
        injection e2
      have e4 : y = y' := by
        have : ∀ a b : List Nat, vb a = vb b → a = b := by
          intro a
          induction a with
          | nil => intro b h; cases b with
            | nil => rfl
            | cons => cases h
          | cons u r ih => intro b h; cases b with
            | nil => cases h
            | cons u' r' =>
              have h1 : V.int (u : Int) = V.int (u' : Int) ∧ vb r = vb r' := by
                injection h with h1 h2
                exact ⟨h1, h2⟩
              obtain ⟨h1, h2⟩ := h1
              injection h1 with h1
              have : u = u' := by omega
              rw [this, ih r' h2]
        exact this y y' e3
      rw [e4]
      exact hby
    refine ⟨_, (pss_cons (ps_set (i := 2) sc_append_block.nd rfl (Or.inl rfl) (pe_op op_cat (pe_fx F_varint (hr.mono (by decide)) rfl (pa_cons (pe_callB call_len_seq rfl C.nlen PySem.boot_len (pa_cons (pv 0) pa_nil)) pa_nil)) (pe_fx F_varint (hr.mono (by decide)) rfl (pa_cons (pe_callB call_len_seq rfl C.nlen PySem.boot_len (pa_cons (pv 1) pa_nil)) pa_nil))))
      (pss_cons (ps_expr (pe_bm PySem.F.plainAttrs_list PySem.F.slot_list_extend PySem.F.type_list_extend mt_extend (pv 0) (pa_cons (pv 1) pa_nil)))
      (pss_cons (ps_expr (pe_bm PySem.F.plainAttrs_list PySem.F.slot_list_append PySem.F.type_list_append mt_append (pv 0) (pa_cons pe_int pa_nil)))
      (pss_cons (ps_expr (pe_bm PySem.F.plainAttrs_list PySem.F.slot_list_extend PySem.F.type_list_extend mt_extend (pv 0) (pa_cons (pe_fx F_fixed (hr.mono (by decide)) rfl (pa_cons (pe_fx F_masked (hr.mono (by decide)) rfl (pa_cons (pe_fx F_sum_from (hr.mono (by decide)) rfl (pa_cons (pe_fx F_sum_from (hr.mono (by decide)) rfl (pa_cons pe_int (pa_cons (pv 1) pa_nil))) (pa_cons (pe_lst (pa_cons pe_int pa_nil)) pa_nil))) pa_nil)) (pa_cons pe_int pa_nil))) pa_nil)))
      (pss_one (ps_ret (pv 2))))))), ?_⟩
    refine ⟨_, rfl, o, _, rfl, .inl (SqL.of ho), x.length, ?_, pow128 (by omega), fun l1 H1 s1 hn1 h1 => ?_⟩
    · show [V.int (((vb x).length : Nat) : Int)] = _
      rw [vb_length]
    refine ⟨_, rfl, c, _, rfl, .inl (SqL.of (s1 _ _ hc)), y.length, ?_, pow128 (by omega), fun l2 H2 s2 hn2 h2 => ?_⟩
    · show [V.int (((vb y).length : Nat) : Int)] = _
      rw [vb_length]
    have v1 := My.varint_length x.length
    have v2 := My.varint_length y.length
    refine ⟨l1, l2, _, _, rfl, rfl, s2 _ _ h1, h2, le_size (by rw [vb_length, vb_length]; omega), fun lh hlh => ?_⟩
    have s3 : Same H (upd H2 lh (.lst (vb (Sv13.varint x.length) ++ vb (Sv13.varint y.length)))) := (s1.trans s2).trans (Same.new (Same.refl _) hlh)
    have hlH : H lh = none := (s1.trans s2).free hlh
    have nlo : lh ≠ o := fun z => by rw [z, ho] at hlH; cases hlH
    generalize hH3 : upd H2 lh (.lst (vb (Sv13.varint x.length) ++ vb (Sv13.varint y.length))) = H3 at s3
    have h3 : H3 lh = some (.lst (vb (Sv13.Handle.bytes ⟨x.length, y.length⟩))) := by
      rw [← hH3, upd_same, ← vb_append]
      rfl
    have ho3 := s3 _ _ ho
    have hc3 := s3 _ _ hc
    refine ⟨_, rfl, .inl ⟨rfl, _, SqL.of ho3⟩, _, rfl, o, c, _, _, rfl, rfl, ho3, hc3, le_size (by rw [vb_length, vb_length]; omega), ?_⟩
    refine ⟨_, rfl, .inl ⟨rfl, _, SqL.of upd_same⟩, o, _, _, rfl, rfl, upd_same, lt_size (by rw [List.length_append, vb_length, vb_length]; omega), ?_⟩
    refine ⟨_, rfl, .inl ⟨rfl, _, SqL.of upd_same⟩, ?_⟩
    have kc : upd (upd H3 o (.lst (vb x ++ vb y))) o (.lst (vb x ++ vb y ++ [V.int 0])) c = some (.lst (vb y)) := by
      rw [upd_ne hne.symm, upd_ne hne.symm]
      exact hc3
    refine ⟨_, rfl, 0, c, y, rfl, SqL.of kc, ?_⟩
    refine ⟨(by show 1 ≤ sizeLine; decide), fun lz hlz => ?_⟩
    have sz : Same (upd (upd H3 o (.lst (vb x ++ vb y))) o (.lst (vb x ++ vb y ++ [V.int 0]))) (upd (upd (upd H3 o (.lst (vb x ++ vb y))) o (.lst (vb x ++ vb y ++ [V.int 0]))) lz (.lst [V.int 0])) := Same.new (Same.refl _) hlz
    have hyz : isByte (y ++ [0]) := fun z hz => by
      rcases List.mem_append.mp hz with hz | hz
      · exact hby z hz
      · have : z = 0 := by simpa using hz
        omega
    refine ⟨Sv13.crc y 0, lz, [0], rfl, SqL.of upd_same, ?_⟩
    rw [crc_append]
    refine ⟨Sv13.crc (y ++ [0]) 0, rfl, crc_lt32 hyz (by decide), ?_⟩
    refine ⟨Sv13.masked (Sv13.crc (y ++ [0]) 0), 4, rfl, by decide, fun l4 H4 s4 hn4 h4 => ?_⟩
    have ho4 : H4 o = some (.lst (vb x ++ vb y ++ [V.int 0])) := s4 _ _ (sz _ _ upd_same)
    refine ⟨o, l4, _, _, rfl, rfl, ho4, h4, le_size (by rw [vb_length, My.little_length, List.length_append, List.length_append, vb_length, vb_length]; simp only [List.length_cons, List.length_nil]; omega), ?_⟩
    refine ⟨_, rfl, q lh _ (fun b u e hb => ?_) ?_ hlH nlo ?_⟩
    · rw [upd_ne hb]
      refine s4 _ _ (sz _ _ ?_)
      rw [upd_ne hb, upd_ne hb]
      exact s3 _ _ e
    · rw [upd_same]
      have e : vb x ++ vb y ++ [V.int 0] ++ vb (Sv13.little 4 (Sv13.masked (Sv13.crc (y ++ [0]) 0))) = vb (x ++ Sv13.raw y) := by
        unfold Sv13.raw
        rw [vb_append, vb_append]
        simp only [List.append_assoc]
        rfl
      rw [e]
    · rw [upd_ne nlo]
      refine s4 _ _ (sz _ _ ?_)
      rw [upd_ne nlo, upd_ne nlo]
      exact h3
end
end KL

set_option Elab.async false
set_option linter.all false
set_option maxRecDepth 100000
namespace KL
open PySem PySem.W PyProof.Rows L2
abbrev s_data_blocks : Stmt := top 43
/-! ### lists of things, by place -/
def All2 {α : Type} (R : Addr → α → Prop) (rs : List Addr) (xs : List α) : Prop := rs.length = xs.length ∧ ∀ (i : Nat) (r : Addr) (x : α), rs[i]? = some r → xs[i]? = some x → R r x
theorem All2.imp {α : Type} {R S : Addr → α → Prop} {rs : List Addr} {xs : List α} (h : All2 R rs xs) (f : ∀ r x, R r x → S r x) : All2 S rs xs := ⟨h.1, fun i r x a b => f r x (h.2 i r x a b)⟩
theorem All2.nil {α : Type} {R : Addr → α → Prop} : All2 R [] [] := ⟨rfl, fun i r x h => by cases h⟩
theorem All2.snoc {α : Type} {R : Addr → α → Prop} {rs : List Addr} {xs : List α} {r : Addr} {x : α} (k : All2 R rs xs) (h : R r x) : All2 R (rs ++ [r]) (xs ++ [x]) := by
  refine ⟨by rw [List.length_append, List.length_append, k.1]; rfl, fun i a y h1 h2 => ?_⟩
  by_cases hi : i < rs.length
  · rw [List.getElem?_append_left hi] at h1
    rw [List.getElem?_append_left (by rw [← k.1]; exact hi)] at h2
    exact k.2 i a y h1 h2
  · have hi' : rs.length ≤ i := by omega
    rw [List.getElem?_append_right hi'] at h1
    rw [List.getElem?_append_right (by rw [← k.1]; exact hi'), ← k.1] at h2
    cases hz : i - rs.length with
    | zero =>
      rw [hz] at h1 h2
      cases h1
      cases h2
      exact h
    | succ n =>
      rw [hz] at h1
      cases h1
theorem All2.at {α : Type} {R : Addr → α → Prop} {rs : List Addr} {xs : List α} (h : All2 R rs xs) {i : Nat} {r : Addr} (hr : rs[i]? = some r) : ∃ x, xs[i]? = some x ∧ R r x := by
  have hi : i < xs.length := by
    rw [← h.1]
    exact (List.getElem?_eq_some_iff.mp hr).1
  exact ⟨xs[i], List.getElem?_eq_getElem hi, h.2 i r _ hr (List.getElem?_eq_getElem hi)⟩
def EntAt (H : Hp) (t : Addr) (e : Sv13.Entry) : Prop := ∃ k v, H t = some (.tup [.ref k, .ref v]) ∧ H k = some (.lst (vb e.1)) ∧ H v = some (.lst (vb e.2))
def BlkAt (H : Hp) (t : Addr) (b : My.Blk) : Prop := ∃ (kr cr : Addr) (rs : List Addr), H t = some (.tup [.ref kr, .ref cr]) ∧ H kr = some (.lst (rs.map V.ref)) ∧ KeysAt H rs b.1 ∧ H cr = some (.lst (vb b.2))
theorem EntAt.same {H H' : Hp} {t : Addr} {e : Sv13.Entry} (h : EntAt H t e) (s : Same H H') : EntAt H' t e := by
  obtain ⟨k, v, h1, h2, h3⟩ := h
  exact ⟨k, v, s _ _ h1, s _ _ h2, s _ _ h3⟩
theorem BlkAt.same {H H' : Hp} {t : Addr} {b : My.Blk} (h : BlkAt H t b) (s : Same H H') : BlkAt H' t b := by
  obtain ⟨kr, cr, rs, h1, h2, h3, h4⟩ := h
  exact ⟨kr, cr, rs, s _ _ h1, s _ _ h2, h3.same s, s _ _ h4⟩
/-- data_blocks between two entries -/
structure DbSt (C lB : Addr) (iv : Nat) (H G H2 : Hp) (bts : List Addr) (p lb lr lk kr : Addr) (rs : List Addr) (s : My.DB) : Prop where
  hg : Same H G
  gh : Same G H2
  bl : H2 lB = some (.lst (bts.map V.ref))
  blk : All2 (BlkAt G) bts s.blocks
  W : WAt C H2 p lb lr lk iv s.w
  ks : H2 kr = some (.lst (rs.map V.ref))
  kk : KeysAt G rs s.keys
  gB : G lB = none
  gp : G p = none
  gb : G lb = none
  gr : G lr = none
  gk : G kr = none
  d1 : lB ≠ lb
  d2 : lB ≠ lr
  d3 : lB ≠ lk
  d4 : lB ≠ kr
  d5 : kr ≠ lb
  d6 : kr ≠ lr
  d7 : kr ≠ lk
section
variable {C lB : Addr} {iv : Nat} {H G H2 : Hp} {bts : List Addr} {p lb lr lk kr : Addr} {rs : List Addr} {s : My.DB}
theorem DbSt.npB (S : DbSt C lB iv H G H2 bts p lb lr lk kr rs s) : lB ≠ p := by
  obtain ⟨dx, h1, _⟩ := S.W.ob
  exact ne_of S.bl h1 (by intro z; cases z)
theorem DbSt.npk (S : DbSt C lB iv H G H2 bts p lb lr lk kr rs s) : kr ≠ p := by
  obtain ⟨dx, h1, _⟩ := S.W.ob
  exact ne_of S.ks h1 (by intro z; cases z)
theorem DbSt.same {H3 : Hp} (S : DbSt C lB iv H G H2 bts p lb lr lk kr rs s) (s3 : Same H2 H3) : DbSt C lB iv H G H3 bts p lb lr lk kr rs s :=
  ⟨S.hg, S.gh.trans s3, s3 _ _ S.bl, S.blk, S.W.same s3, s3 _ _ S.ks, S.kk, S.gB, S.gp, S.gb, S.gr, S.gk, S.d1, S.d2, S.d3, S.d4, S.d5, S.d6, S.d7⟩
/-- an entry is put, its key kept -/
theorem DbSt.put {H3 : Hp} {k : Addr} {e : Sv13.Entry} (S : DbSt C lB iv H G H2 bts p lb lr lk kr rs s) (hk : G k = some (.lst (vb e.1))) (W3 : WAt C H3 p lb lr k iv (s.w.put iv e.1 e.2)) (kp : Kept3 H2 H3 p lb lr) :
    DbSt C lB iv H G (upd H3 kr (.lst (rs.map V.ref ++ [.ref k]))) bts p lb lr k kr (rs ++ [k]) ⟨s.blocks, s.w.put iv e.1 e.2, s.keys ++ [e.1]⟩ := by
  have s3 : Same G H3 := kp.same S.gh S.gp S.gb S.gr
  have nkr : kr ≠ k := (ne_of_none hk S.gk).symm
  obtain ⟨⟨dx, w1, w2, w3, w4⟩, w5, w6, w7⟩ := W3
  have npk : kr ≠ p := S.npk
  refine ⟨S.hg, Same.upd s3 S.gk, ?_, S.blk, ⟨⟨dx, ?_, ?_, w3, w4⟩, ?_, ?_, w7⟩, ?_, S.kk.snoc hk, S.gB, S.gp, S.gb, S.gr, S.gk, S.d1, S.d2, (ne_of_none hk S.gB).symm, S.d4, S.d5, S.d6, nkr⟩
  · rw [upd_ne S.d4]
    exact kp _ _ S.bl S.npB S.d1 S.d2
  · rw [upd_ne npk.symm]
    exact w1
  · rw [upd_ne nkr.symm]
    exact w2
  · rw [upd_ne S.d5.symm]
    exact w5
  · rw [upd_ne S.d6.symm]
    exact w6
  · rw [upd_same, List.map_append]
    rfl
theorem KeysAt.up {H H' : Hp} {rs : List Addr} {ks : List (List Nat)} (k : KeysAt H rs ks) (s : Same H H') : KeysAt H' rs ks := k.same s
/-- a block is done: what it has is kept -/
theorem DbSt.done {H3 : Hp} {t cr : Addr} (S : DbSt C lB iv H G H2 bts p lb lr lk kr rs s) (s3 : Same H2 H3) (hcr : H2 cr = none) (hc : H3 cr = some (.lst (vb s.w.content))) (ht : H3 t = none) :
    ∃ G', Same H G' ∧ Same G G' ∧ Same G' (upd (upd H3 t (.tup [.ref kr, .ref cr])) lB (.lst (bts.map V.ref ++ [.ref t]))) ∧ All2 (BlkAt G') (bts ++ [t]) (s.blocks ++ [(s.keys, s.w.content)]) ∧ G' lB = none := by
  have nkc : kr ≠ cr := ne_of_none S.ks hcr
  have nBc : lB ≠ cr := ne_of_none S.bl hcr
  have nkt : kr ≠ t := ne_of_none (s3 _ _ S.ks) ht
  have nct : cr ≠ t := ne_of_none hc ht
  have nBt : lB ≠ t := ne_of_none (s3 _ _ S.bl) ht
  have gc : G cr = none := S.gh.free hcr
  have gt : G t = none := (S.gh.trans s3).free ht
  refine ⟨upd (upd (upd G kr (.lst (rs.map V.ref))) cr (.lst (vb s.w.content))) t (.tup [.ref kr, .ref cr]), ?_, ?_, ?_, ?_, ?_⟩
  · exact S.hg.trans (Same.new (Same.new (Same.new (Same.refl G) S.gk) (by rw [upd_ne nkc.symm]; exact gc)) (by rw [upd_ne nct.symm, upd_ne nkt.symm]; exact gt))
  · exact Same.new (Same.new (Same.new (Same.refl G) S.gk) (by rw [upd_ne nkc.symm]; exact gc)) (by rw [upd_ne nct.symm, upd_ne nkt.symm]; exact gt)
  · refine Same.upd (Same.grow (Same.grow (Same.grow ?_ ?_) ?_) upd_same) ?_
    · exact (S.gh.trans s3).trans (Same.new (Same.refl _) ht)
    · rw [upd_ne nkt]
      exact s3 _ _ S.ks
    · rw [upd_ne nct]
      exact hc
    · rw [upd_ne nBt, upd_ne nBc, upd_ne S.d4]
      exact S.gB
  · have sg : Same G (upd (upd (upd G kr (.lst (rs.map V.ref))) cr (.lst (vb s.w.content))) t (.tup [.ref kr, .ref cr])) :=
      Same.new (Same.new (Same.new (Same.refl G) S.gk) (by rw [upd_ne nkc.symm]; exact gc)) (by rw [upd_ne nct.symm, upd_ne nkt.symm]; exact gt)
    refine (S.blk.imp fun r x h => h.same sg).snoc ⟨kr, cr, rs, upd_same, ?_, S.kk.same sg, ?_⟩
    · rw [upd_ne nkt, upd_ne nkc]
      exact upd_same
    · rw [upd_ne nct]
      exact upd_same
  · rw [upd_ne nBt, upd_ne nBc, upd_ne S.d4]
    exact S.gB
end
section
variable {P : Program} {w : World} {K : Frag} {mg : Str → Option Value} {base : Heap}
/-- a new writer and a new list of keys -/
theorem DbSt.begin {C lB : Addr} {iv : Nat} {H G H3 H4 : Hp} {bts : List Addr} {x dx lb lr lk kr : Addr} {blocks : List My.Blk} (hg : Same H G) (gh : Same G H3) (bl : H3 lB = some (.lst (bts.map V.ref))) (blk : All2 (BlkAt G) bts blocks) (gB : G lB = none)
    (nx : H3 x = none) (ndx : H3 dx = none) (W : WAt C H4 x lb lr lk iv My.BW.new)
    (hlb : (upd (upd H3 dx (.own x)) x (.ins C dx [])) lb = none) (hlr : (upd (upd H3 dx (.own x)) x (.ins C dx [])) lr = none) (hlk : (upd (upd H3 dx (.own x)) x (.ins C dx [])) lk = none)
    (kp : ∀ b o, (upd (upd H3 dx (.own x)) x (.ins C dx [])) b = some o → b ≠ x → H4 b = some o) (hkr : H4 kr = none) :
    DbSt C lB iv H G (upd H4 kr (.lst [])) bts x lb lr lk kr [] ⟨blocks, My.BW.new, []⟩ := by
  have s4 : Same H3 H4 := Same.made nx ndx kp
  have e3 : ∀ {z : Addr}, (upd (upd H3 dx (.own x)) x (.ins C dx [])) z = none → H3 z = none ∧ z ≠ x := fun {z} h => by
    have h1 : z ≠ x := fun e => by rw [e, upd_same] at h; cases h
    rw [upd_ne h1] at h
    have h2 : z ≠ dx := fun e => by rw [e, upd_same] at h; cases h
    rw [upd_ne h2] at h
    exact ⟨h, h1⟩
  obtain ⟨b1, b2⟩ := e3 hlb
  obtain ⟨r1, r2⟩ := e3 hlr
  obtain ⟨k1, k2⟩ := e3 hlk
  have hk3 : H3 kr = none := s4.free hkr
  obtain ⟨dx', w1, w2, w3, w4⟩ := W.ob
  have d4 : lB ≠ kr := ne_of_none (s4 _ _ bl) hkr
  have e5 : kr ≠ lb := (ne_of_none W.hb hkr).symm
  have e6 : kr ≠ lr := (ne_of_none W.hr hkr).symm
  have e7 : kr ≠ lk := (ne_of_none w2 hkr).symm
  refine ⟨hg, (gh.trans s4).trans (Same.new (Same.refl _) hkr), ?_, blk, W.same (Same.new (Same.refl _) hkr), upd_same, KeysAt.nil, gB, gh.free nx, gh.free b1, gh.free r1, gh.free hk3, ne_of_none bl b1, ne_of_none bl r1, ne_of_none bl k1, d4, e5, e6, e7⟩
  rw [upd_ne d4]
  exact s4 _ _ bl
def sp_data_blocks (K : Frag) : Sp := fun vs H Q _ => ∃ (a : Addr) (ts : List Addr) (l : List Sv13.Entry) (iv size : Nat), vs = [.ref a, .int (iv : Int), .int (size : Int)] ∧ SqL K H a (ts.map V.ref) ∧ All2 (EntAt H) ts l ∧ 0 < iv ∧ My.wt l ≤ 1000000 ∧
  ∀ (lB : Addr) (bts : List Addr) (H' : Hp), Same H H' → H lB = none → H' lB = some (.lst (bts.map V.ref)) → All2 (BlkAt H') bts (My.dataBlocks iv size l) → Q (.ref lB) H'
theorem sc_data_blocks : FnScope ["entries", "interval", "size", "blocks", "writer", "keys", "key", "value"] ["entries", "interval", "size"] (defScope s_data_blocks) := ⟨rfl, rfl, rfl, by decide +kernel, rfl, by decide +kernel, by decide +kernel⟩
theorem outOf_len : ∀ bs : List My.Blk, 5 * bs.length ≤ (My.outOf bs).length
  | [] => by simp [My.outOf]
  | b :: r => by
    have := outOf_len r
    show 5 * (r.length + 1) ≤ (Sv13.raw b.2 ++ My.outOf r).length
    rw [List.length_append, My.raw_length]
    omega
theorem wt_take (l : List Sv13.Entry) (i : Nat) : My.wt (l.take i) ≤ My.wt l := by
  have h : l = l.take i ++ l.drop i := (List.take_append_drop i l).symm
  have e : My.wt l = My.wt (l.take i) + My.wt (l.drop i) := by
    conv => lhs; rw [h]
    unfold My.wt
    rw [List.map_append, List.sum_append]
  omega
theorem wt_at {l : List Sv13.Entry} {i : Nat} {e : Sv13.Entry} (h : l[i]? = some e) : My.wt (l.take i) + (6 + e.1.length + e.2.length) ≤ My.wt l := by
  have h1 : l.take (i + 1) = l.take i ++ [e] := by rw [List.take_succ, h]; rfl
  have h2 := wt_take l (i + 1)
  rw [h1, My.wt_snoc] at h2
  exact h2
theorem mNo {iv n : Nat} {lb lr lk : Addr} (m : Str) (h : ((m == ("interval" : Str)) || (m == ("body" : Str)) || (m == ("restarts" : Str)) || (m == ("entries" : Str)) || (m == ("last_key" : Str))) = false := by decide +kernel) : (fsW iv lb lr n lk).lookup m = none := by
  simp only [Bool.or_eq_false_iff, beq_eq_false_iff_ne] at h
  exact fsW_no h.1.1.1.1 h.1.1.1.2 h.1.1.2 h.1.2 h.2
theorem fx_data_blocks {C : Addr} (D : DefAt K mg "data_blocks" s_data_blocks) (Cs : Consts K mg) (M_BlockWriter : Mkx P w K mg base "BlockWriter" C 1 ["self", "interval"] (sp_W_init C)) (M_put : Mtx P w K mg base C "put" 2 ["self", "key", "value"] (sp_W_put C))
    (M_size : Mtx P w K mg base C "size" 1 ["self"] (sp_W_size C)) (M_content : Mtx P w K mg base C "content" 2 ["self"] (sp_W_content C)) : Fx P w K mg base "data_blocks" 3 ["entries", "interval", "size"] (sp_data_blocks K) := by
  refine D.fx sc_data_blocks (fun _ _ _ _ _ _ us hl => match us, hl with | [_, _, _], _ => rfl) (fun vs H Q E h => ?_) (fun f cdv A outer s H vs Q E hr h => ?_)
  · obtain ⟨a, ts, l, iv, size, rfl, _⟩ := h
    rfl
  · obtain ⟨a, ts, l, iv, size, rfl, ha, hts, hiv, hwt, q⟩ := h
    refine ⟨_, (pss_cons (ps_set (i := 3) sc_data_blocks.nd rfl (Or.inl rfl) (pe_lst pa_nil))
      (pss_cons (ps_set (i := 4) sc_data_blocks.nd rfl (Or.inl rfl) (pe_mx M_BlockWriter (hr.mono (by decide)) rfl (pa_cons (pv 1) pa_nil)))
      (pss_cons (ps_set (i := 5) sc_data_blocks.nd rfl (Or.inl rfl) (pe_lst pa_nil))
      (pss_cons (ps_for PassesOwn.never rfl (pi_list (pv 0)) (pg_tup rfl (pgs_cons (pg_name (i := 6) sc_data_blocks.nd rfl (Or.inl rfl)) (pgs_cons (pg_name (i := 7) sc_data_blocks.nd rfl (Or.inl rfl)) pgs_nil))) (pss_cons (ps_expr (pe_mt (pv 4) M_put (hr.mono (by decide)) (pa_cons (pv 6) (pa_cons (pv 7) pa_nil))))
      (pss_cons (ps_expr (pe_bm PySem.F.plainAttrs_list PySem.F.slot_list_append PySem.F.type_list_append mt_append (pv 5) (pa_cons (pv 6) pa_nil)))
      (pss_one (ps_if (pt_cmpR op_ge (pe_mt0 (pv 4) M_size (hr.mono (by decide)) ) (pv 2) (nomark _)) (pss_cons (ps_expr (pe_bm PySem.F.plainAttrs_list PySem.F.slot_list_append PySem.F.type_list_append mt_append (pv 3) (pa_cons (pe_tup (pa_cons (pv 5) (pa_cons (pe_mt0 (pv 4) M_content (hr.mono (by decide)) ) pa_nil))) pa_nil)))
      (pss_cons (ps_set (i := 4) sc_data_blocks.nd rfl (Or.inl rfl) (pe_mx M_BlockWriter (hr.mono (by decide)) rfl (pa_cons (pv 1) pa_nil)))
      (pss_one (ps_set (i := 5) sc_data_blocks.nd rfl (Or.inl rfl) (pe_lst pa_nil))))) pss_nil)))))
      (pss_cons (ps_if (pt_cmpR (op_neE hr.units0) (pv 5) (pe_lst pa_nil) (nomark _)) (pss_one (ps_expr (pe_bm PySem.F.plainAttrs_list PySem.F.slot_list_append PySem.F.type_list_append mt_append (pv 3) (pa_cons (pe_tup (pa_cons (pv 5) (pa_cons (pe_mt0 (pv 4) M_content (hr.mono (by decide)) ) pa_nil))) pa_nil)))) pss_nil)
      (pss_one (ps_ret (pv 3)))))))), ?_⟩
    refine ⟨Nat.zero_le _, fun lB hlB => ?_⟩
    refine ⟨_, rfl, fun x dx nx ndx nex => ⟨x, dx, iv, rfl, upd_same, fun lb lr lk H1 W1 hlb hlr hlk kp1 => ⟨rfl, ?_⟩⟩⟩
    refine ⟨Nat.zero_le _, fun kr hkr => ?_⟩
    have S0 : DbSt C lB iv H H (upd H1 kr (.lst [])) [] x lb lr lk kr [] My.DB.new :=
      DbSt.begin (Same.refl H) (Same.new (Same.refl H) hlB) upd_same All2.nil hlB nx ndx W1 hlb hlr hlk kp1 hkr
    have hlen : (ts.map V.ref).length = l.length := by rw [List.length_map, hts.1]
    have hbound : ∀ i, ((l.take i).foldl (My.DB.step iv size) My.DB.new).len ≤ 4 + 9 * My.wt (l.take i) := fun i => by
      have := My.DB.len_all (iv := iv) (size := size) (l.take i) My.DB.new
      rw [My.DB.len_new] at this
      exact this
    refine ⟨_, rfl, a, rfl, ⟨_, (S0.hg.trans S0.gh).seq ha⟩, for_list (K := K) (a := a) (xs := ts.map V.ref) (fun i σ H2 => ∃ (G : Hp) (bts : List Addr) (p lb lr lk kr : Addr) (rs : List Addr) (v u : Option V),
      DbSt C lB iv H G H2 bts p lb lr lk kr rs ((l.take i).foldl (My.DB.step iv size) My.DB.new) ∧ σ = [some (.ref a), some (.int (iv : Int)), some (.int (size : Int)), some (.ref lB), some (.ref p), some (.ref kr), v, u])
      ⟨H, [], x, lb, lr, lk, kr, [], none, none, S0, rfl⟩ (fun i σ H2 _ ⟨G, bts, p, lb, lr, lk, kr, rs, v, u, S, _⟩ => (S.hg.trans S.gh).seq ha) ?_ ?_⟩
    · rintro i y σ H2 hy ⟨G, bts, p, lb, lr, lk, kr, rs, v, u, S, rfl⟩
      obtain ⟨t, ht, rfl⟩ := ref_get hy
      obtain ⟨e, he, k, vv, t1, t2, t3⟩ := hts.at ht
      have g1 := S.hg _ _ t1
      have g2 := S.hg _ _ t2
      have g3 := S.hg _ _ t3
      have hb := hbound i
      have hw1 := wt_at he
      have hstep : (l.take (i + 1)).foldl (My.DB.step iv size) My.DB.new = ((l.take i).foldl (My.DB.step iv size) My.DB.new).step iv size e := by
        rw [List.take_succ, he]
        show ((l.take i) ++ [e]).foldl (My.DB.step iv size) My.DB.new = _
        rw [List.foldl_append]
        rfl
      rw [hstep]
      have hcnt : ((l.take i).foldl (My.DB.step iv size) My.DB.new).cnt ≤ l.length := by
        rw [My.DB.cnt_all]
        show 0 + _ ≤ _
        rw [List.length_take]
        omega
      generalize (l.take i).foldl (My.DB.step iv size) My.DB.new = ds at S hb hcnt
      have hlen' : (My.outOf ds.blocks).length + ds.w.body.length + 4 * ds.w.rs.length ≤ 4 + 9 * My.wt (l.take i) := by
        unfold My.DB.len at hb
        omega
      refine ⟨t, _, rfl, .inl (.inl (S.gh _ _ g1)), rfl, _, _, rfl, _, _, rfl, rfl, ?_⟩
      obtain ⟨dxw, w1, _⟩ := S.W.ob
      refine ⟨_, rfl, p, dxw, _, rfl, w1, mNo "put", _, rfl, _, rfl, p, lb, lr, lk, k, vv, iv, ds.w, e.1, e.2, rfl, S.W, S.gh _ _ g2, S.gh _ _ g3, ne_of_none g2 S.gb, ne_of_none g2 S.gr, ne_of_none g3 S.gb, ne_of_none g3 S.gr, hiv, by omega, by omega, fun H3 W3 kp3 => ?_⟩
      have kr3 : H3 kr = some (.lst (rs.map V.ref)) := kp3 _ _ S.ks S.npk S.d5 S.d6
      have hrsl : rs.length = ds.keys.length := S.kk.1
      have hkeys : ds.keys.length ≤ 1000000 := by
        have h2 := My.wt_len l
        have h3 := hcnt
        unfold My.DB.cnt at h3
        omega
      refine ⟨_, rfl, .inl ⟨rfl, _, SqL.of kr3⟩, _, rfl, kr, _, _, rfl, rfl, kr3, lt_size (by rw [List.length_map]; omega), ?_⟩
      have S4 := S.put g2 W3 kp3
      obtain ⟨dx4, w4, _⟩ := S4.W.ob
      refine ⟨_, rfl, p, dx4, _, rfl, w4, mNo "size", p, lb, lr, k, iv, _, rfl, S4.W, _, rfl, _, _, rfl, rfl, _, rfl, ?_⟩
      have hsz : (ds.w.put iv e.1 e.2).size ≤ 10000000 := by
        have h1 := My.put_body iv ds.w e.1 e.2
        have h2 := My.put_rs iv ds.w e.1 e.2
        unfold My.BW.size
        omega
      by_cases hfull : size ≤ (ds.w.put iv e.1 e.2).size
      · have c : decide ((size : Int) ≤ (((ds.w.put iv e.1 e.2).size : Nat) : Int)) = true := decide_eq_true (by omega)
        rw [c]
        refine iteT ?_
        have est : ds.step iv size e = ⟨ds.blocks ++ [(ds.keys ++ [e.1], (ds.w.put iv e.1 e.2).content)], My.BW.new, []⟩ := by
          unfold My.DB.step
          rw [if_pos hfull]
        rw [est]
        refine ⟨_, rfl, .inl ⟨rfl, _, SqL.of S4.bl⟩, _, rfl, _, rfl, p, dx4, _, rfl, w4, mNo "content", p, lb, lr, k, iv, _, rfl, S4.W, hsz, fun cr H5 s5 hcr h5 => ?_⟩
        refine ⟨(by show 2 ≤ sizeLine; decide), fun t5 ht5 => ?_⟩
        have nBt : lB ≠ t5 := ne_of_none (s5 _ _ S4.bl) ht5
        have bl5 : (upd H5 t5 (.tup [.ref kr, .ref cr])) lB = some (.lst (bts.map V.ref)) := by
          rw [upd_ne nBt]
          exact s5 _ _ S4.bl
        have hbts : bts.length ≤ 2000000 := by
          have h1 : bts.length = ds.blocks.length := S.blk.1
          have h2 := outOf_len ds.blocks
          unfold My.DB.len at hb
          omega
        refine ⟨lB, _, _, rfl, rfl, bl5, lt_size (by rw [List.length_map]; omega), ?_⟩
        obtain ⟨G', hg', gg', gh', blk', gB'⟩ := S4.done s5 hcr h5 ht5
        refine ⟨_, rfl, fun x2 dx2 nx2 ndx2 nex2 => ⟨x2, dx2, iv, rfl, upd_same, fun lb2 lr2 lk2 H6 W6 hlb2 hlr2 hlk2 kp6 => ⟨rfl, ?_⟩⟩⟩
        refine ⟨Nat.zero_le _, fun kr2 hkr2 => ?_⟩
        refine ⟨G', bts ++ [t5], x2, lb2, lr2, lk2, kr2, [], _, _, DbSt.begin hg' gh' ?_ blk' gB' nx2 ndx2 W6 hlb2 hlr2 hlk2 kp6 hkr2, rfl⟩
        rw [upd_same, List.map_append]
        rfl
      · have c : decide ((size : Int) ≤ (((ds.w.put iv e.1 e.2).size : Nat) : Int)) = false := decide_eq_false (by omega)
        rw [c]
        refine iteF ?_
        have est : ds.step iv size e = ⟨ds.blocks, ds.w.put iv e.1 e.2, ds.keys ++ [e.1]⟩ := by
          unfold My.DB.step
          rw [if_neg hfull]
        rw [est]
        exact ⟨G, bts, p, lb, lr, k, kr, _, _, _, S4, rfl⟩
    · rintro σ H2 ⟨G, bts, p, lb, lr, lk, kr, rs, v, u, S, rfl⟩
      have hb := hbound (ts.map V.ref).length
      rw [hlen, List.take_length] at S
      rw [hlen, List.take_length] at hb
      have hq := q lB
      have hdb : My.dataBlocks iv size l = (l.foldl (My.DB.step iv size) My.DB.new).fin := rfl
      rw [hdb] at hq
      generalize l.foldl (My.DB.step iv size) My.DB.new = ds at S hb hq
      refine ⟨_, rfl, Nat.zero_le _, fun l0 hl0 => ?_⟩
      have s0 : Same H2 (upd H2 l0 (.lst [])) := Same.new (Same.refl _) hl0
      have S1 := S.same s0
      refine ⟨kr, l0, _, rfl, rfl, SqL.of S1.ks, SqL.of upd_same, _, rfl, ?_⟩
      by_cases hk : ds.keys = []
      · have hrs : rs = [] := List.length_eq_zero_iff.mp (by rw [S.kk.1, hk]; rfl)
        subst hrs
        refine iteF ?_
        refine ⟨_, rfl, hq bts _ (S1.hg.trans S1.gh) hlB S1.bl ?_⟩
        unfold My.DB.fin
        rw [if_pos hk]
        exact S1.blk.imp fun r x h => h.same S1.gh
      · have hrs : rs ≠ [] := fun e => hk (List.length_eq_zero_iff.mp (by rw [← S.kk.1, e]; rfl))
        have c0 : (if true = true then !(rs.map V.ref).isEmpty else (rs.map V.ref).isEmpty) = true := by
          cases rs with
          | nil => exact absurd rfl hrs
          | cons => rfl
        rw [c0]
        refine iteT ?_
        obtain ⟨dx1, w1, _⟩ := S1.W.ob
        have hsz : ds.w.size ≤ 10000000 := by
          unfold My.DB.len at hb
          unfold My.BW.size
          omega
        refine ⟨_, rfl, .inl ⟨rfl, _, SqL.of S1.bl⟩, _, rfl, _, rfl, p, dx1, _, rfl, w1, mNo "content", p, lb, lr, lk, iv, _, rfl, S1.W, hsz, fun cr H5 s5 hcr h5 => ?_⟩
        refine ⟨(by show 2 ≤ sizeLine; decide), fun t5 ht5 => ?_⟩
        have nBt : lB ≠ t5 := ne_of_none (s5 _ _ S1.bl) ht5
        have bl5 : (upd H5 t5 (.tup [.ref kr, .ref cr])) lB = some (.lst (bts.map V.ref)) := by
          rw [upd_ne nBt]
          exact s5 _ _ S1.bl
        have hbts : bts.length ≤ 2000000 := by
          have h1 : bts.length = ds.blocks.length := S.blk.1
          have h2 := outOf_len ds.blocks
          unfold My.DB.len at hb
          omega
        refine ⟨lB, _, _, rfl, rfl, bl5, lt_size (by rw [List.length_map]; omega), ?_⟩
        obtain ⟨G', hg', gg', gh', blk', gB'⟩ := S1.done s5 hcr h5 ht5
        refine ⟨_, rfl, hq (bts ++ [t5]) _ (hg'.trans gh') hlB ?_ ?_⟩
        · rw [upd_same, List.map_append]
          rfl
        · unfold My.DB.fin
          rw [if_neg hk]
          exact blk'.imp fun r x h => h.same gh'
end
end KL

set_option Elab.async false
set_option linter.all false
set_option maxRecDepth 100000
namespace KL
open PySem PySem.W PyProof.Rows L2
abbrev s_index_keys : Stmt := top 44
abbrev s_index_content : Stmt := top 45
abbrev s_table_end : Stmt := top 46
section
variable {P : Program} {w : World} {K : Frag} {mg : Str → Option Value} {base : Heap}
def sp_with_length : Sp := fun vs H Q _ => ∃ (c : Addr) (x : List Nat) (m : Int), vs = [.ref c, .int m] ∧ H c = some (.lst (vb x)) ∧ x.length ≤ 16000000 ∧ newL (if m < (x.length : Int) then [V.int (-7)] else V.int (x.length : Int) :: vb x) H Q
theorem sc_with_length : FnScope ["content", "most"] ["content", "most"] (defScope s_with_length) := ⟨rfl, rfl, rfl, by decide +kernel, rfl, by decide +kernel, by decide +kernel⟩
theorem fx_with_length (D : DefAt K mg "with_length" s_with_length) (C : Consts K mg) : Fx P w K mg base "with_length" 1 ["content", "most"] sp_with_length := by
  refine D.fx sc_with_length (fun _ _ _ _ _ _ us hl => match us, hl with | [_, _], _ => rfl) (fun vs H Q E h => ?_) (fun f cdv A outer s H vs Q E hr h => ?_)
  · obtain ⟨c, x, m, rfl, _⟩ := h
    rfl
  · obtain ⟨c, x, m, rfl, hc, hx, q⟩ := h
    refine ⟨_, (pss_cons (ps_if (pt_cmpR op_gt (pe_callB call_len_seq rfl C.nlen PySem.boot_len (pa_cons (pv 0) pa_nil)) (pv 1) (nomark _)) (pss_one (ps_ret (pe_lst (pa_cons (pe_gint rfl C.TOO_LONG) pa_nil)))) pss_nil)
      (pss_one (ps_ret (pe_op op_cat (pe_lst (pa_cons (pe_callB call_len_seq rfl C.nlen PySem.boot_len (pa_cons (pv 0) pa_nil)) pa_nil)) (pv 0))))), ?_⟩
    refine ⟨_, rfl, c, _, rfl, .inl (SqL.of hc), _, rfl, _, _, rfl, rfl, _, rfl, ?_⟩
    have el : (((vb x).length : Nat) : Int) = (x.length : Int) := by rw [vb_length]
    by_cases hm : m < (x.length : Int)
    · have c1 : decide (m < (((vb x).length : Nat) : Int)) = true := decide_eq_true (by rw [el]; exact hm)
      rw [c1]
      refine iteT ⟨(by show 1 ≤ sizeLine; decide), fun l hl => ?_⟩
      refine q l _ (Same.new (Same.refl H) hl) hl ?_
      rw [upd_same, if_pos hm]
    · have c1 : decide (m < (((vb x).length : Nat) : Int)) = false := decide_eq_false (by rw [el]; exact hm)
      rw [c1]
      refine iteF ⟨_, rfl, c, _, rfl, .inl (SqL.of hc), (by show 1 ≤ sizeLine; decide), fun l hl => ?_⟩
      have ncl : c ≠ l := ne_of_none hc hl
      refine ⟨_, rfl, l, c, _, _, rfl, rfl, upd_same, (by rw [upd_ne ncl]; exact hc), le_size (by rw [vb_length]; simp only [List.length_cons, List.length_nil]; omega), fun l2 hl2 => ?_⟩
      have s1 : Same H (upd H l (.lst [V.int (((vb x).length : Nat) : Int)])) := Same.new (Same.refl H) hl
      refine q l2 _ (s1.trans (Same.new (Same.refl _) hl2)) (s1.free hl2) ?_
      rw [upd_same, if_neg hm, el]
      rfl
def sp_table_end : Sp := fun vs H Q _ => ∃ (a b : Addr) (m i : Sv13.Handle), vs = [.ref a, .ref b] ∧ H a = some (.lst (vb m.bytes)) ∧ H b = some (.lst (vb i.bytes)) ∧ newL (vb (Sv13.footer m i)) H Q
theorem sc_table_end : FnScope ["meta_handle", "index_handle", "content"] ["meta_handle", "index_handle"] (defScope s_table_end) := ⟨rfl, rfl, rfl, by decide +kernel, rfl, by decide +kernel, by decide +kernel⟩
theorem fx_table_end (D : DefAt K mg "table_end" s_table_end) (C : Consts K mg) (F_fixed : Fx P w K mg base "fixed" 1 ["number", "width"] sp_fixed) : Fx P w K mg base "table_end" 2 ["meta_handle", "index_handle"] sp_table_end := by
  refine D.fx sc_table_end (fun _ _ _ _ _ _ us hl => match us, hl with | [_, _], _ => rfl) (fun vs H Q E h => ?_) (fun f cdv A outer s H vs Q E hr h => ?_)
  · obtain ⟨a, b, m, i, rfl, _⟩ := h
    rfl
  · obtain ⟨a, b, m, i, rfl, ha, hb, q⟩ := h
    refine ⟨_, (pss_cons (ps_set (i := 2) sc_table_end.nd rfl (Or.inl rfl) (pe_op op_cat (pv 0) (pv 1)))
      (pss_cons (ps_expr (pe_bm PySem.F.plainAttrs_list PySem.F.slot_list_extend PySem.F.type_list_extend mt_extend (pv 2) (pa_cons (pe_op op_rep (pe_lst (pa_cons pe_int pa_nil)) (pe_op op_sub (pe_gint rfl C.HANDLES_WIDTH) (pe_callB call_len_seq rfl C.nlen PySem.boot_len (pa_cons (pv 2) pa_nil)))) pa_nil)))
      (pss_cons (ps_expr (pe_bm PySem.F.plainAttrs_list PySem.F.slot_list_extend PySem.F.type_list_extend mt_extend (pv 2) (pa_cons (pe_fx F_fixed (hr.mono (by decide)) rfl (pa_cons (pe_gint rfl C.MAGIC) (pa_cons pe_int pa_nil))) pa_nil)))
      (pss_one (ps_ret (pv 2)))))), ?_⟩
    have l1 := My.handle_length m
    have l2 := My.handle_length i
    refine ⟨_, rfl, _, rfl, a, b, _, _, rfl, rfl, ha, hb, le_size (by rw [vb_length, vb_length]; omega), fun l hl => ?_⟩
    have s1 : Same H (upd H l (.lst (vb m.bytes ++ vb i.bytes))) := Same.new (Same.refl H) hl
    refine ⟨_, rfl, .inl ⟨rfl, _, SqL.of upd_same⟩, (by show 1 ≤ sizeLine; decide), fun lz hlz => ?_⟩
    have nlz : l ≠ lz := ne_of_none upd_same hlz
    have s2 : Same H (upd (upd H l (.lst (vb m.bytes ++ vb i.bytes))) lz (.lst [V.int 0])) := s1.trans (Same.new (Same.refl _) hlz)
    have hl2 : (upd (upd H l (.lst (vb m.bytes ++ vb i.bytes))) lz (.lst [V.int 0])) l = some (.lst (vb m.bytes ++ vb i.bytes)) := by rw [upd_ne nlz]; exact upd_same
    have ez : ((40 : Int) - (((vb m.bytes ++ vb i.bytes).length : Nat) : Int)) = ((40 - (m.bytes ++ i.bytes).length : Nat) : Int) := by
      rw [List.length_append, vb_length, vb_length, List.length_append]
      omega
    refine ⟨_, rfl, l, _, rfl, .inl (SqL.of hl2), _, _, rfl, rfl, lz, ((40 - (m.bytes ++ i.bytes).length : Nat) : Int), _, rfl, ?_, upd_same, by omega, by omega, le_size ?_, fun lr hlr => ?_⟩
    · show V.int ((40 : Int) - (((vb m.bytes ++ vb i.bytes).length : Nat) : Int)) = _
      rw [ez]
    · show 1 * (((40 - (m.bytes ++ i.bytes).length : Nat) : Int)).toNat ≤ _
      rw [Int.toNat_natCast]
      omega
    rw [Int.toNat_natCast, rep_zero]
    have nlr : l ≠ lr := ne_of_none hl2 hlr
    have s3 := s2.trans (Same.new (o := .lst (vb (List.replicate (40 - (m.bytes ++ i.bytes).length) 0))) (Same.refl _) hlr)
    refine ⟨l, lr, _, _, rfl, rfl, (by rw [upd_ne nlr]; exact hl2), upd_same, le_size (by rw [List.length_append, vb_length, vb_length, vb_length, List.length_replicate]; omega), ?_⟩
    refine ⟨_, rfl, .inl ⟨rfl, _, SqL.of upd_same⟩, Sv13.MAGIC, 8, rfl, by decide, fun l4 H4 s4 hn4 h4 => ?_⟩
    refine ⟨l, l4, _, _, rfl, rfl, s4 _ _ upd_same, h4, le_size (by rw [List.length_append, List.length_append, vb_length, vb_length, vb_length, vb_length, List.length_replicate, My.little_length]; omega), _, rfl, ?_⟩
    have hlH : H l = none := hl
    refine q l _ (Same.upd ((Same.upd s3 hlH).trans s4) hlH) hlH ?_
    rw [upd_same]
    unfold Sv13.footer
    simp only [vb_append]
/-! ### the index -/
def KLAt (H : Hp) (kr : Addr) (ks : List (List Nat)) : Prop := ∃ rs : List Addr, H kr = some (.lst (rs.map V.ref)) ∧ KeysAt H rs ks
theorem KLAt.same {H H' : Hp} {kr : Addr} {ks : List (List Nat)} (h : KLAt H kr ks) (s : Same H H') : KLAt H' kr ks := by
  obtain ⟨rs, h1, h2⟩ := h
  exact ⟨rs, s _ _ h1, h2.same s⟩
theorem atI_last {α : Type} {xs : List α} {x : α} (h : xs.getLast? = some x) : atI xs (-1) = some x := by
  have hn : xs ≠ [] := fun e => by rw [e] at h; cases h
  have hl : 0 < xs.length := List.length_pos_iff.mpr hn
  unfold atI ixN
  rw [if_neg (by decide), if_pos (by omega)]
  show xs[((-1 : Int) + (xs.length : Int)).toNat]? = some x
  have e : ((-1 : Int) + (xs.length : Int)).toNat = xs.length - 1 := by omega
  rw [e, ← List.getLast?_eq_getElem?]
  exact h
theorem KeysAt.last {H : Hp} {rs : List Addr} {ks : List (List Nat)} (h : KeysAt H rs ks) (hk : ks ≠ []) : ∃ r, rs.getLast? = some r ∧ H r = some (.lst (vb (My.lastK ks))) := by
  have hl : 0 < ks.length := List.length_pos_iff.mpr hk
  have h1 : rs.length - 1 < rs.length := by rw [h.1]; omega
  refine ⟨rs[rs.length - 1], by rw [List.getLast?_eq_getElem?]; exact List.getElem?_eq_getElem h1, ?_⟩
  refine h.2 (rs.length - 1) _ _ (List.getElem?_eq_getElem h1) ?_
  rw [h.1, ← List.getLast?_eq_getElem?]
  unfold My.lastK
  cases q : ks.getLast? with
  | none => exact absurd (List.getLast?_eq_none_iff.mp q) hk
  | some x => rw [List.getLastD_eq_getLast?, q]; rfl
theorem KeysAt.first {H : Hp} {rs : List Addr} {ks : List (List Nat)} (h : KeysAt H rs ks) (hk : ks ≠ []) : ∃ r, rs[0]? = some r ∧ H r = some (.lst (vb (My.firstK ks))) := by
  have hl : 0 < ks.length := List.length_pos_iff.mpr hk
  have h1 : 0 < rs.length := by rw [h.1]; omega
  refine ⟨rs[0], List.getElem?_eq_getElem h1, ?_⟩
  refine h.2 0 _ _ (List.getElem?_eq_getElem h1) ?_
  cases ks with
  | nil => exact absurd rfl hk
  | cons a r => rfl
def sp_index_keys (K : Frag) : Sp := fun vs H Q _ => ∃ (F : Hp) (a : Addr) (krs : List Addr) (kss : List (List (List Nat))), vs = [.ref a] ∧ SqL K H a (krs.map V.ref) ∧ Same F H ∧ All2 (KLAt F) krs kss ∧ (∀ ks ∈ kss, ks ≠ [] ∧ ∀ k ∈ ks, isByte k ∧ k.length ≤ 1000000) ∧ kss.length ≤ 2000000 ∧
  ∀ (l : Addr) (rs : List Addr) (H' : Hp), Same H H' → H l = none → H' l = some (.lst (rs.map V.ref)) → KeysAt H' rs (My.ik kss) → (∀ r ∈ rs, F r ≠ none ∨ H r = none) → Q (.ref l) H'
theorem sc_index_keys : FnScope ["block_keys", "chosen", "i", "keys"] ["block_keys"] (defScope s_index_keys) := ⟨rfl, rfl, rfl, by decide +kernel, rfl, by decide +kernel, by decide +kernel⟩
theorem lastK_mem {ks : List (List Nat)} (h : ks ≠ []) : My.lastK ks ∈ ks := by
  unfold My.lastK
  rw [List.getLastD_eq_getLast?]
  cases q : ks.getLast? with
  | none => exact absurd (List.getLast?_eq_none_iff.mp q) h
  | some x => exact List.mem_of_getLast? q
theorem firstK_mem {ks : List (List Nat)} (h : ks ≠ []) : My.firstK ks ∈ ks := by
  cases ks with
  | nil => exact absurd rfl h
  | cons a r => exact List.mem_cons_self
theorem ref_last {rs : List Addr} {r : Addr} (h : rs.getLast? = some r) : atI (rs.map V.ref) (-1) = some (V.ref r) := atI_last (by rw [List.getLast?_map, h]; rfl)
theorem fx_index_keys (D : DefAt K mg "index_keys" s_index_keys) (C : Consts K mg) (F_key_between : Fx P w K mg base "key_between" 2 ["last", "following"] sp_key_between) (F_key_behind : Fx P w K mg base "key_behind" 1 ["last"] sp_key_behind) :
    Fx P w K mg base "index_keys" 3 ["block_keys"] (sp_index_keys K) := by
  refine D.fx sc_index_keys (fun _ _ _ _ _ _ us hl => match us, hl with | [_], _ => rfl) (fun vs H Q E h => ?_) (fun f cdv A outer s H vs Q E hr h => ?_)
  · obtain ⟨F, a, krs, kss, rfl, _⟩ := h
    rfl
  · obtain ⟨F, a, krs, kss, rfl, ha, sF, hkF, hne, hn, q⟩ := h
    have hk : All2 (KLAt H) krs kss := hkF.imp fun r x h => h.same sF
    refine ⟨_, (pss_cons (ps_set (i := 1) sc_index_keys.nd rfl (Or.inl rfl) (pe_lst pa_nil))
      (pss_cons (ps_for PassesOwn.never rfl (pi_enum rfl C.nenumerate (pa_cons (pv 0) pa_nil)) (pg_tup rfl (pgs_cons (pg_name (i := 2) sc_index_keys.nd rfl (Or.inl rfl)) (pgs_cons (pg_name (i := 3) sc_index_keys.nd rfl (Or.inl rfl)) pgs_nil))) (pss_one (ps_if (pt_cmpR op_lt (pe_op op_add (pv 2) pe_int) (pe_callB call_len_seq rfl C.nlen PySem.boot_len (pa_cons (pv 0) pa_nil)) (nomark _)) (pss_one (ps_expr (pe_bm PySem.F.plainAttrs_list PySem.F.slot_list_append PySem.F.type_list_append mt_append (pv 1) (pa_cons (pe_fx F_key_between (hr.mono (by decide)) rfl (pa_cons (pe_ix ix_list (pv 3) (pe_un un_neg pe_int) (fun _ _ => rfl)) (pa_cons (pe_ix ix_list (pe_ix ix_list (pv 0) (pe_op op_add (pv 2) pe_int) (fun _ _ => rfl)) pe_int (fun _ _ => rfl)) pa_nil))) pa_nil)))) (pss_one (ps_expr (pe_bm PySem.F.plainAttrs_list PySem.F.slot_list_append PySem.F.type_list_append mt_append (pv 1) (pa_cons (pe_fx F_key_behind (hr.mono (by decide)) rfl (pa_cons (pe_ix ix_list (pv 3) (pe_un un_neg pe_int) (fun _ _ => rfl)) pa_nil)) pa_nil)))))))
      (pss_one (ps_ret (pv 1))))), ?_⟩
    refine ⟨Nat.zero_le _, fun l hl => ?_⟩
    have s0 : Same H (upd H l (.lst [])) := Same.new (Same.refl H) hl
    have hlen : (krs.map V.ref).length = kss.length := by rw [List.length_map, hk.1]
    refine ⟨_, rfl, a, _, rfl, s0.seq ha, for_enum (K := K) (a := a) (xs := krs.map V.ref) (fun i σ H2 => ∃ (G : Hp) (rs : List Addr) (v u : Option V), Same H G ∧ Same G H2 ∧ G l = none ∧ H2 l = some (.lst (rs.map V.ref)) ∧ KeysAt G rs ((My.ik kss).take i) ∧ (∀ r ∈ rs, F r ≠ none ∨ H r = none) ∧ σ = [some (.ref a), some (.ref l), v, u])
      ⟨H, [], none, none, Same.refl H, s0, hl, upd_same, KeysAt.nil, (fun r h => nomatch h), rfl⟩ (fun i σ H2 ⟨G, rs, v, u, s1, s2, _⟩ => (s1.trans s2).seq ha) ?_ ?_⟩
    · rintro i x T σ H2 hx hT ⟨G, rs, v, u, s1, s2, hGl, h2, hkk, hfr, rfl⟩
      obtain ⟨kr, hkr, rfl⟩ := ref_get hx
      obtain ⟨ks, hks, rs1, k1F, k2F⟩ := hkF.at hkr
      have k1 := sF _ _ k1F
      have k2 := k2F.same sF
      have hi : i < kss.length := (List.getElem?_eq_some_iff.mp hks).1
      obtain ⟨hne1, hby1⟩ := hne ks (List.mem_of_getElem? hks)
      have hik := My.ik_at kss i ks hks
      have s3 : Same G (upd H2 T (.tup [.int (i : Int), .ref kr])) := s2.trans (Same.new (Same.refl _) hT)
      have s3H := s1.trans s3
      have nlT : l ≠ T := ne_of_none h2 hT
      have h2' : (upd H2 T (.tup [.int (i : Int), .ref kr])) l = some (.lst (rs.map V.ref)) := by rw [upd_ne nlT]; exact h2
      obtain ⟨r1, hr1, hr1F⟩ := k2F.last hne1
      have hr1' := sF _ _ hr1F
      refine ⟨T, _, rfl, .inl (.inl upd_same), rfl, _, _, rfl, _, _, rfl, rfl, ?_⟩
      refine ⟨_, rfl, _, _, rfl, rfl, _, rfl, a, _, rfl, .inl (s3H.seq ha), _, _, rfl, rfl, _, rfl, ?_⟩
      -- the turn's end
      have fin : ∀ (lk : Addr) (y : List Nat) (H4 : Hp), Same (upd H2 T (.tup [.int (i : Int), .ref kr])) H4 → (lk = r1 ∨ (upd H2 T (.tup [.int (i : Int), .ref kr])) lk = none) → H4 lk = some (.lst (vb y)) → (My.ik kss)[i]? = some y →
          H4 l = some (.lst (rs.map V.ref)) ∧ rs.length < sizeLine ∧ ∃ (G : Hp) (rs' : List Addr) (v u : Option V), Same H G ∧ Same G (upd H4 l (.lst (rs.map V.ref ++ [.ref lk]))) ∧ G l = none ∧ (upd H4 l (.lst (rs.map V.ref ++ [.ref lk]))) l = some (.lst (rs'.map V.ref)) ∧ KeysAt G rs' ((My.ik kss).take (i + 1)) ∧ (∀ r ∈ rs', F r ≠ none ∨ H r = none) ∧
            ([some (.ref a), some (.ref l), some (.int (i : Int)), some (.ref kr)] : L2.St) = [some (.ref a), some (.ref l), v, u] := fun lk y H4 s4 hlk h4 hy => by
        have hG1 : G r1 = some (.lst (vb (My.lastK ks))) := s1 _ _ hr1'
        have nll : lk ≠ l := by
          rcases hlk with e | e
          · rw [e]
            exact ne_of_none hG1 hGl
          · exact (ne_of_none h2' e).symm
        have sG : Same G (upd G lk (.lst (vb y))) := by
          rcases hlk with e | e
          · subst e
            have e5 := (s3.trans s4) _ _ hG1
            rw [h4] at e5
            intro b o eb
            by_cases hb : b = lk
            · subst hb
              rw [hG1] at eb
              rw [upd_same, ← eb, e5]
            · rw [upd_ne hb]
              exact eb
          · exact Same.new (Same.refl G) (s3.free e)
        refine ⟨s4 _ _ h2', lt_size ?_, upd G lk (.lst (vb y)), rs ++ [lk], some (.int (i : Int)), some (.ref kr), s1.trans sG, ?_, ?_, ?_, ?_, ?_, rfl⟩
        · rw [hkk.1, List.length_take, My.ik_length]
          omega
        · refine Same.upd (Same.grow (s3.trans s4) h4) ?_
          rw [upd_ne nll.symm]
          exact hGl
        · rw [upd_ne nll.symm]
          exact hGl
        · rw [upd_same, List.map_append]
          rfl
        · rw [List.take_succ, hy]
          exact (hkk.same sG).snoc upd_same
        · intro r hr9
          rcases List.mem_append.mp hr9 with hr9 | hr9
          · exact hfr r hr9
          · have e9 : r = lk := by simpa using hr9
            rw [e9]
            rcases hlk with e | e
            · left
              rw [e, hr1F]
              simp
            · right
              exact s3H.free e
      have hra : atI (rs1.map V.ref) (-1) = some (V.ref r1) := ref_last hr1
      by_cases hlast : i + 1 < kss.length
      · have c : decide ((i : Int) + 1 < (((krs.map V.ref).length : Nat) : Int)) = true := decide_eq_true (by rw [hlen]; omega)
        rw [c]
        refine iteT ?_
        have hltk : i + 1 < krs.length := by rw [hk.1]; exact hlast
        obtain ⟨kr2, hn2⟩ : ∃ kr2, krs[i + 1]? = some kr2 := ⟨krs[i + 1], List.getElem?_eq_getElem hltk⟩
        obtain ⟨ks2, hks2, rs2, m1, m2⟩ := hk.at hn2
        obtain ⟨hne2, hby2⟩ := hne ks2 (List.mem_of_getElem? hks2)
        obtain ⟨r2, hr2, hr2'⟩ := m2.first hne2
        rw [hks2] at hik
        have hb1 := hby1 _ (lastK_mem hne1)
        have hb2 := hby2 _ (firstK_mem hne2)
        refine ⟨_, rfl, .inl ⟨rfl, _, SqL.of h2'⟩, _, rfl, _, rfl, kr, _, _, _, rfl, rfl, SqL.of (s3H _ _ k1), hra, _, rfl, _, rfl, _, _, rfl, rfl, a, _, _, _, rfl, rfl, s3H.seq ha, at_of (j := i + 1) (v := V.ref kr2) (by omega) (by rw [List.getElem?_map, hn2]; rfl),
          kr2, _, _, _, rfl, rfl, SqL.of (s3H _ _ m1), at_of (j := 0) (v := V.ref r2) rfl (by rw [List.getElem?_map, hr2]; rfl),
          r1, r2, My.lastK ks, My.firstK ks2, rfl, s3H _ _ hr1', s3H _ _ hr2', hb2.1, hb1.2, fun lk H4 s4 hlk h4 => ?_⟩
        obtain ⟨f1, f2, f3⟩ := fin lk _ H4 s4 hlk h4 hik
        exact ⟨l, _, _, rfl, rfl, f1, by rw [List.length_map]; exact f2, f3⟩
      · have c : decide ((i : Int) + 1 < (((krs.map V.ref).length : Nat) : Int)) = false := decide_eq_false (by rw [hlen]; omega)
        rw [c]
        refine iteF ?_
        have hn2 : kss[i + 1]? = none := List.getElem?_eq_none (by omega)
        rw [hn2] at hik
        have hb1 := hby1 _ (lastK_mem hne1)
        refine ⟨_, rfl, .inl ⟨rfl, _, SqL.of h2'⟩, _, rfl, _, rfl, kr, _, _, _, rfl, rfl, SqL.of (s3H _ _ k1), hra, r1, My.lastK ks, rfl, s3H _ _ hr1', hb1.2, fun lk H4 s4 hlk h4 => ?_⟩
        obtain ⟨f1, f2, f3⟩ := fin lk _ H4 s4 hlk h4 hik
        exact ⟨l, _, _, rfl, rfl, f1, by rw [List.length_map]; exact f2, f3⟩
    · rintro σ H2 ⟨G, rs, v, u, s1, s2, hGl, h2, hkk, hfr, rfl⟩
      have e : (My.ik kss).take (krs.map V.ref).length = My.ik kss := by
        rw [hlen, ← My.ik_length kss, List.take_length]
      rw [e] at hkk
      exact ⟨_, rfl, q l rs H2 (s1.trans s2) hl h2 (hkk.same s2) hfr⟩
def sp_index_content (K : Frag) : Sp := fun vs H Q _ => ∃ (a b : Addr) (krs hrs : List Addr) (kss : List (List (List Nat))) (hs : List (List Nat)), vs = [.ref a, .ref b] ∧ SqL K H a (krs.map V.ref) ∧ All2 (KLAt H) krs kss ∧ SqL K H b (hrs.map V.ref) ∧ KeysAt H hrs hs ∧
  (∀ ks ∈ kss, ks ≠ [] ∧ ∀ k ∈ ks, isByte k ∧ k.length ≤ 1000000) ∧ kss.length ≤ 100000 ∧ (∀ h ∈ hs, h.length ≤ 20) ∧ My.kLen (My.ik kss) ≤ 1000000 ∧ newL (vb (My.idxContent ((My.ik kss).zip hs))) H Q
theorem sc_index_content : FnScope ["block_keys", "handles", "index", "key", "handle"] ["block_keys", "handles"] (defScope s_index_content) := ⟨rfl, rfl, rfl, by decide +kernel, rfl, by decide +kernel, by decide +kernel⟩
theorem zip_take_succ {α β : Type} {a : List α} {b : List β} {i : Nat} {x : α} {y : β} (hx : a[i]? = some x) (hy : b[i]? = some y) : (a.zip b).take (i + 1) = (a.zip b).take i ++ [(x, y)] := by
  rw [List.take_succ]
  have : (a.zip b)[i]? = some (x, y) := by
    rw [List.getElem?_zip_eq_some]
    exact ⟨hx, hy⟩
  rw [this]
  rfl
theorem kLen_take (l : List (List Nat)) (i : Nat) : My.kLen (l.take i) ≤ My.kLen l := by
  have h : l = l.take i ++ l.drop i := (List.take_append_drop i l).symm
  have e : My.kLen l = My.kLen (l.take i) + My.kLen (l.drop i) := by
    conv => lhs; rw [h]
    unfold My.kLen
    rw [List.map_append, List.sum_append]
  omega
theorem kLen_at {l : List (List Nat)} {i : Nat} {k : List Nat} (h : l[i]? = some k) : My.kLen (l.take i) + k.length ≤ My.kLen l := by
  have h1 : l.take (i + 1) = l.take i ++ [k] := by rw [List.take_succ, h]; rfl
  have h2 := kLen_take l (i + 1)
  rw [h1, My.kLen_snoc] at h2
  exact h2
theorem zip_fst {α β : Type} : ∀ (a : List α) (b : List β) (i : Nat), ((a.zip b).take i).map (fun p => p.1) = (a.take i).take (b.length)
  | [], b, i => by simp
  | x :: r, [], i => by simp
  | x :: r, y :: s, 0 => by simp
  | x :: r, y :: s, i + 1 => by
    have := zip_fst r s i
    show x :: ((r.zip s).take i).map (fun p => p.1) = x :: (r.take i).take s.length
    rw [this]
theorem fx_index_content {C : Addr} (D : DefAt K mg "index_content" s_index_content) (Cs : Consts K mg) (M_BlockWriter : Mkx P w K mg base "BlockWriter" C 1 ["self", "interval"] (sp_W_init C)) (M_put : Mtx P w K mg base C "put" 2 ["self", "key", "value"] (sp_W_put C))
    (M_content : Mtx P w K mg base C "content" 2 ["self"] (sp_W_content C)) (F_index_keys : Fx P w K mg base "index_keys" 3 ["block_keys"] (sp_index_keys K)) : Fx P w K mg base "index_content" 4 ["block_keys", "handles"] (sp_index_content K) := by
  refine D.fx sc_index_content (fun _ _ _ _ _ _ us hl => match us, hl with | [_, _], _ => rfl) (fun vs H Q E h => ?_) (fun f cdv A outer s H vs Q E hr h => ?_)
  · obtain ⟨a, b, krs, hrs, kss, hs, rfl, _⟩ := h
    rfl
  · obtain ⟨a, b, krs, hrs, kss, hs, rfl, ha, hk, hb, hh, hne, hn, h20, hkl, q⟩ := h
    refine ⟨_, (pss_cons (ps_set (i := 2) sc_index_content.nd rfl (Or.inl rfl) (pe_mx M_BlockWriter (hr.mono (by decide)) rfl (pa_cons pe_int pa_nil)))
      (pss_cons (ps_for PassesOwn.never rfl (pi_zip rfl Cs.nzip (pa_cons (pe_fx F_index_keys (hr.mono (by decide)) rfl (pa_cons (pv 0) pa_nil)) (pa_cons (pv 1) pa_nil))) (pg_tup rfl (pgs_cons (pg_name (i := 3) sc_index_content.nd rfl (Or.inl rfl)) (pgs_cons (pg_name (i := 4) sc_index_content.nd rfl (Or.inl rfl)) pgs_nil))) (pss_one (ps_expr (pe_mt (pv 2) M_put (hr.mono (by decide)) (pa_cons (pv 3) (pa_cons (pv 4) pa_nil))))))
      (pss_one (ps_ret (pe_mt0 (pv 2) M_content (hr.mono (by decide)) ))))), ?_⟩
    intro x dx nx ndx nex
    refine ⟨x, dx, 1, rfl, upd_same, fun lb lr lk H1 W1 hlb hlr hlk kp1 => ⟨rfl, ?_⟩⟩
    have s1 : Same H H1 := Same.made nx ndx kp1
    have e3 : ∀ {z : Addr}, (upd (upd H dx (.own x)) x (.ins C dx [])) z = none → H z = none := fun {z} h => by
      have h1 : z ≠ x := fun e => by rw [e, upd_same] at h; cases h
      rw [upd_ne h1] at h
      have h2 : z ≠ dx := fun e => by rw [e, upd_same] at h; cases h
      rw [upd_ne h2] at h
      exact h
    refine ⟨_, rfl, H, a, krs, kss, rfl, s1.seq ha, s1, hk, hne, by omega, fun lK rs H2 s2 hlK h2 hkk hfr => ?_⟩
    have W2 := W1.same s2
    have sHH2 := s1.trans s2
    obtain ⟨dxw, w1, w2, _⟩ := id W2.ob
    -- what must stay: the index keys, the handles
    have nKp : lK ≠ x := fun e => by
      obtain ⟨d0, z1, _⟩ := W1.ob
      rw [e, z1] at hlK; cases hlK
    have nKb : lK ≠ lb := fun e => by rw [e, W1.hb] at hlK; cases hlK
    have nKr : lK ≠ lr := fun e => by rw [e, W1.hr] at hlK; cases hlK
    obtain ⟨G, hG⟩ : ∃ G : Hp, G = fun z => if z = x ∨ z = lb ∨ z = lr then none else H2 z := ⟨_, rfl⟩
    have gx : G x = none := by rw [hG]; exact if_pos (.inl rfl)
    have gb : G lb = none := by rw [hG]; exact if_pos (.inr (.inl rfl))
    have gr : G lr = none := by rw [hG]; exact if_pos (.inr (.inr rfl))
    have gof : ∀ {z o}, z ≠ x → z ≠ lb → z ≠ lr → H2 z = some o → G z = some o := fun {z o} n1 n2 n3 e => by
      rw [hG]
      show (if z = x ∨ z = lb ∨ z = lr then none else H2 z) = some o
      rw [if_neg (by rintro (q | q | q); exact n1 q; exact n2 q; exact n3 q)]
      exact e
    have sG2 : Same G H2 := fun z o e => by
      rw [hG] at e
      have e : (if z = x ∨ z = lb ∨ z = lr then none else H2 z) = some o := e
      split at e
      · cases e
      · exact e
    have sHG : Same H G := fun z o e => gof (ne_of_none e nx) (ne_of_none e (e3 hlb)) (ne_of_none e (e3 hlr)) (sHH2 _ _ e)
    have hGK : G lK = some (.lst (rs.map V.ref)) := gof nKp nKb nKr h2
    have hGrs : KeysAt G rs (My.ik kss) := ⟨hkk.1, fun i r k h1 h2' => by
      have e := hkk.2 i r k h1 h2'
      have hm := hfr r (List.mem_of_getElem? h1)
      obtain ⟨d0, z1, _⟩ := W1.ob
      refine gof ?_ ?_ ?_ e
      · rintro rfl
        rcases hm with q | q
        · exact q nx
        · rw [z1] at q; cases q
      · rintro rfl
        rcases hm with q | q
        · exact q (e3 hlb)
        · rw [W1.hb] at q; cases q
      · rintro rfl
        rcases hm with q | q
        · exact q (e3 hlr)
        · rw [W1.hr] at q; cases q⟩
    have hGh : KeysAt G hrs hs := hh.same sHG
    have hGb : SqL K G b (hrs.map V.ref) := sHG.seq hb
    have hlik : (My.ik kss).length = kss.length := My.ik_length kss
    refine ⟨_, rfl, lK, b, _, _, rfl, SqL.of h2, sHH2.seq hb, for_zip (K := K) (a := lK) (b := b) (xs := rs.map V.ref) (ys := hrs.map V.ref) (fun i σ H3 => ∃ (lk' : Addr) (v u : Option V), Same G H3 ∧ WAt C H3 x lb lr lk' 1 (My.idxW (((My.ik kss).zip hs).take i)) ∧ σ = [some (.ref a), some (.ref b), some (.ref x), v, u])
      ⟨lk, none, none, sG2, W2, rfl⟩ (fun i σ H3 ⟨lk', v, u, s3, W3, _⟩ => ⟨SqL.of (s3 _ _ hGK), s3.seq hGb⟩) ?_ ?_⟩
    · rintro i y z T σ H3 hy hz hT ⟨lk', v, u, s3, W3, rfl⟩
      obtain ⟨r, hr9, rfl⟩ := ref_get hy
      obtain ⟨r2, hr2, rfl⟩ := ref_get hz
      obtain ⟨key, hkey, hrk⟩ := All2.at (R := fun r k => G r = some (.lst (vb k))) hGrs hr9
      obtain ⟨hd, hhd, hrh⟩ := All2.at (R := fun r k => G r = some (.lst (vb k))) hGh hr2
      have s4 : Same G (upd H3 T (.tup [.ref r, .ref r2])) := s3.trans (Same.new (Same.refl _) hT)
      have W4 := W3.same (Same.new (o := .tup [.ref r, .ref r2]) (Same.refl _) hT)
      refine ⟨T, _, rfl, .inl (.inl upd_same), rfl, _, _, rfl, _, _, rfl, rfl, ?_⟩
      obtain ⟨d4, y1, _⟩ := W4.ob
      have hlen := My.idxW_len (((My.ik kss).zip hs).take i) (fun p hp => h20 _ (List.of_mem_zip (List.mem_of_mem_take hp)).2)
      have hl1 : (((My.ik kss).zip hs).take i).length ≤ kss.length := by
        rw [List.length_take, List.length_zip]
        omega
      have hl2 : My.kLen ((((My.ik kss).zip hs).take i).map fun p => p.1) ≤ My.kLen (My.ik kss) := by
        rw [zip_fst]
        exact Nat.le_trans (kLen_take _ _) (kLen_take _ _)
      have hl3 := kLen_at hkey
      have hl4 := h20 hd (List.mem_of_getElem? hhd)
      have hlen := Nat.le_trans hlen (Nat.add_le_add (Nat.add_le_add_left (Nat.mul_le_mul_left 54 hl1) 4) hl2)
      generalize hw : My.idxW (((My.ik kss).zip hs).take i) = bw at W4 hlen
      refine ⟨_, rfl, x, d4, _, rfl, y1, mNo "put", _, rfl, _, rfl, x, lb, lr, lk', r, r2, 1, bw, key, hd, rfl, W4, s4 _ _ hrk, s4 _ _ hrh, ne_of_none hrk gb, ne_of_none hrk gr, ne_of_none hrh gb, ne_of_none hrh gr, by decide, by omega, by omega, fun H5 W5 kp5 => ?_⟩
      refine ⟨r, some (.ref r), some (.ref r2), kp5.same s4 gx gb gr, ?_, rfl⟩
      rw [zip_take_succ hkey hhd, My.idxW_snoc, hw]
      exact W5
    · rintro i σ H3 hend ⟨lk', v, u, s3, W3, rfl⟩
      have hall : ((My.ik kss).zip hs).take i = (My.ik kss).zip hs := by
        refine List.take_of_length_le ?_
        rw [List.length_zip]
        rw [List.length_map, List.length_map, hGrs.1, hGh.1] at hend
        omega
      rw [hall] at W3
      have hlen := My.idxW_len ((My.ik kss).zip hs) (fun p hp => h20 _ (List.of_mem_zip hp).2)
      have hl1 : ((My.ik kss).zip hs).length ≤ kss.length := by
        rw [List.length_zip]
        omega
      have hl2 : My.kLen (((My.ik kss).zip hs).map fun p => p.1) ≤ My.kLen (My.ik kss) := by
        have := zip_fst (My.ik kss) hs ((My.ik kss).zip hs).length
        rw [List.take_length] at this
        rw [this]
        exact Nat.le_trans (kLen_take _ _) (kLen_take _ _)
      have hlen := Nat.le_trans hlen (Nat.add_le_add (Nat.add_le_add_left (Nat.mul_le_mul_left 54 hl1) 4) hl2)
      obtain ⟨d4, y1, _⟩ := W3.ob
      refine ⟨_, rfl, x, d4, _, rfl, y1, mNo "content", x, lb, lr, lk', 1, _, rfl, W3, ?_, fun l5 H5 s5 hl5 h5 => ?_⟩
      · unfold My.BW.size
        omega
      · exact q l5 H5 ((sHG.trans s3).trans s5) ((sHG.trans s3).free hl5) h5
end
end KL

set_option Elab.async false
set_option linter.all false
set_option maxRecDepth 100000
namespace KL
open PySem PySem.W PyProof.Rows L2
abbrev s_keys_by_piece : Stmt := top 37
abbrev s_filter_of : Stmt := top 38
theorem KeysAt.append {H : Hp} : ∀ {rs : List Addr} {ks : List (List Nat)} {rs2 : List Addr} {ks2 : List (List Nat)}, KeysAt H rs ks → KeysAt H rs2 ks2 → KeysAt H (rs ++ rs2) (ks ++ ks2) := by
  intro rs ks rs2 ks2 h1 h2
  refine ⟨by rw [List.length_append, List.length_append, h1.1, h2.1], fun i r k a b => ?_⟩
  by_cases hi : i < rs.length
  · rw [List.getElem?_append_left hi] at a
    rw [List.getElem?_append_left (by rw [← h1.1]; exact hi)] at b
    exact h1.2 i r k a b
  · rw [List.getElem?_append_right (by omega)] at a
    rw [List.getElem?_append_right (by rw [← h1.1]; omega), ← h1.1] at b
    exact h2.2 _ r k a b
theorem pieceKeys_len : ∀ (bk : List (Nat × List (List Nat))) (j : Nat), (My.pieceKeys bk j).length ≤ My.keysN bk
  | [], j => Nat.le_refl _
  | x :: r, j => by
    have := pieceKeys_len r j
    have e : My.pieceKeys (x :: r) j = (if x.1 / 2048 = j then x.2 else []) ++ My.pieceKeys r j := rfl
    have e2 : My.keysN (x :: r) = x.2.length + My.keysN r := by simp [My.keysN]
    rw [e, e2, List.length_append]
    split
    · omega
    · simp only [List.length_nil]
      omega
theorem keysN_take (bk : List (Nat × List (List Nat))) (i : Nat) : My.keysN (bk.take i) ≤ My.keysN bk := by
  have h : bk = bk.take i ++ bk.drop i := (List.take_append_drop i bk).symm
  have e : My.keysN bk = My.keysN (bk.take i) + My.keysN (bk.drop i) := by
    conv => lhs; rw [h]
    unfold My.keysN
    rw [List.map_append, List.sum_append]
  omega
theorem range_get {n j : Nat} (f : Nat → List (List Nat)) (h : j < n) : ((List.range n).map f)[j]? = some (f j) := by
  rw [List.getElem?_map, List.getElem?_range h]
  rfl
section
variable {P : Program} {w : World} {K : Frag} {mg : Str → Option Value} {base : Heap}
def sp_keys_by_piece (K : Frag) : Sp := fun vs H Q _ => ∃ (F : Hp) (a b : Addr) (krs : List Addr) (begins : List Nat) (kss : List (List (List Nat))) (e N : Nat), vs = [.ref a, .ref b, .int (e : Int)] ∧ SqL K H a (vb begins) ∧ SqL K H b (krs.map V.ref) ∧ Same F H ∧ All2 (KLAt F) krs kss ∧ begins.length = kss.length ∧
  N = e / 2048 + (if begins ≠ [] ∧ begins.getLastD 0 / 2048 = e / 2048 then 1 else 0) ∧ (∀ x ∈ begins, x / 2048 < N) ∧ e ≤ 15000000 ∧ My.keysN (begins.zip kss) ≤ 1000000 ∧
  ∀ (l : Addr) (prs : List Addr) (H' : Hp), Same H H' → H l = none → H' l = some (.lst (prs.map V.ref)) → (∀ r ∈ prs, H r = none) → All2 (fun r ks => ∃ refs : List Addr, H' r = some (.lst (refs.map V.ref)) ∧ KeysAt F refs ks) prs ((List.range N).map (My.pieceKeys (begins.zip kss))) → Q (.ref l) H'
theorem sc_keys_by_piece : FnScope ["begins", "block_keys", "end", "pieces", "stretch", "begin", "keys"] ["begins", "block_keys", "end"] (defScope s_keys_by_piece) := ⟨rfl, rfl, rfl, by decide +kernel, rfl, by decide +kernel, by decide +kernel⟩
theorem blk_pieces : BlkOk ["begins", "block_keys", "end", "pieces", "stretch", "begin", "keys"] (defScope s_keys_by_piece) { kind := .function, names := [(".0", .local), ("stretch", .local)], isGenerator := false, isCoroutine := false } [("stretch", 4)] := blkOk_by (by decide +kernel)
theorem gname_nx {i : Nat} {v : V} {σ : L2.St} {H : Hp} {N : L2.St → Hp → Prop} (h : N (σ.set i (some v)) H) : gName i v σ H N := h
/-- the pieces so far -/
structure PcSt (F : Hp) (lP : Addr) (H H2 : Hp) (prs : List Addr) (kss : List (List (List Nat))) : Prop where
  s : Same H H2
  hp : H2 lP = some (.lst (prs.map V.ref))
  nd : prs.Nodup
  np : lP ∉ prs
  new : ∀ r ∈ prs, H r = none
  at_ : All2 (fun r ks => ∃ refs : List Addr, H2 r = some (.lst (refs.map V.ref)) ∧ KeysAt F refs ks) prs kss
theorem PcSt.same {F : Hp} {lP : Addr} {H H2 H3 : Hp} {prs : List Addr} {kss : List (List (List Nat))} (h : PcSt F lP H H2 prs kss) (s : Same H2 H3) : PcSt F lP H H3 prs kss :=
  ⟨h.s.trans s, s _ _ h.hp, h.nd, h.np, h.new, h.at_.imp fun r ks ⟨refs, a, b⟩ => ⟨refs, s _ _ a, b⟩⟩
/-- one more, empty -/
theorem PcSt.more {F : Hp} {lP p : Addr} {H H2 : Hp} {prs : List Addr} {kss : List (List (List Nat))} (h : PcSt F lP H H2 prs kss) (hl : H lP = none) (hp : H2 p = none) : PcSt F lP H (upd (upd H2 p (.lst [])) lP (.lst (prs.map V.ref ++ [.ref p]))) (prs ++ [p]) (kss ++ [[]]) := by
  have npl : lP ≠ p := ne_of_none h.hp hp
  have hin : ∀ r ∈ prs, r ≠ p := fun r hr => by
    obtain ⟨i, hi, e⟩ := List.mem_iff_getElem.mp hr
    have e' : prs[i]? = some r := by rw [List.getElem?_eq_getElem hi, e]
    obtain ⟨ks, _, refs, h1, _⟩ := h.at_.at e'
    exact ne_of_none h1 hp
  have hinl : ∀ r ∈ prs, r ≠ lP := fun r hr e => h.np (e ▸ hr)
  refine ⟨Same.upd (h.s.trans (Same.new (Same.refl _) hp)) hl, ?_, ?_, ?_, ?_, ?_⟩
  · rw [upd_same, List.map_append]
    rfl
  · exact nd_snoc h.nd fun hm => hin p hm rfl
  · intro hm
    rcases List.mem_append.mp hm with hm | hm
    · exact h.np hm
    · exact npl (by simpa using hm)
  · intro r hr
    rcases List.mem_append.mp hr with hr | hr
    · exact h.new r hr
    · have : r = p := by simpa using hr
      rw [this]
      exact h.s.free hp
  · refine All2.snoc ⟨h.at_.1, fun i r ks a b => ?_⟩ ⟨[], ?_, KeysAt.nil⟩
    · obtain ⟨refs, c, d⟩ := h.at_.2 i r ks a b
      have hr := List.mem_of_getElem? a
      exact ⟨refs, by rw [upd_ne (hinl r hr), upd_ne (hin r hr)]; exact c, d⟩
    · rw [upd_ne npl.symm]
      exact upd_same
theorem fx_keys_by_piece (D : DefAt K mg "keys_by_piece" s_keys_by_piece) (C : Consts K mg) : Fx P w K mg base "keys_by_piece" 1 ["begins", "block_keys", "end"] (sp_keys_by_piece K) := by
  refine D.fx sc_keys_by_piece (fun _ _ _ _ _ _ us hl => match us, hl with | [_, _, _], _ => rfl) (fun vs H Q E h => ?_) (fun f cdv A outer s H vs Q E hr h => ?_)
  · obtain ⟨F, a, b, krs, begins, kss, e, N, rfl, _⟩ := h
    rfl
  · obtain ⟨F, a, b, krs, begins, kss, e, N, rfl, ha, hb, sF, hk, hbl, hN, hlt, he, hkn, q⟩ := h
    refine ⟨_, (pss_cons (ps_setLc (i := 3) (own := [("stretch", 4)]) rfl sc_keys_by_piece.nd rfl rfl (sw_true rfl rfl rfl rfl) (pi_range1 rfl C.nrange (pa_cons (pe_op op_fdiv (pv 2) (pe_gint rfl C.STRETCH)) pa_nil)) blk_pieces (fun _ _ _ _ _ => pg_name (i := 4) sc_keys_by_piece.nd rfl (Or.inl rfl)) (fun _ _ _ _ _ => pts_nil) (fun _ _ _ _ _ => pe_lst pa_nil))
      (pss_cons (ps_if (PW.pt (pw_and (pt_cmpR (op_neE hr.units0) (pv 0) (pe_lst pa_nil) (nomark _)) (pw_and1 (pt_cmpR op_eq (pe_op op_fdiv (pe_ix ix_list (pv 0) (pe_un un_neg pe_int) (fun _ _ => rfl)) (pe_gint rfl C.STRETCH)) (pe_callB call_len_seq rfl C.nlen PySem.boot_len (pa_cons (pv 3) pa_nil)) (nomark _))))) (pss_one (ps_expr (pe_bm PySem.F.plainAttrs_list PySem.F.slot_list_append PySem.F.type_list_append mt_append (pv 3) (pa_cons (pe_lst pa_nil) pa_nil)))) pss_nil)
      (pss_cons (ps_for PassesOwn.never rfl (pi_zip rfl C.nzip (pa_cons (pv 0) (pa_cons (pv 1) pa_nil))) (pg_tup rfl (pgs_cons (pg_name (i := 5) sc_keys_by_piece.nd rfl (Or.inl rfl)) (pgs_cons (pg_name (i := 6) sc_keys_by_piece.nd rfl (Or.inl rfl)) pgs_nil))) (pss_one (ps_expr (pe_bm PySem.F.plainAttrs_list PySem.F.slot_list_extend PySem.F.type_list_extend mt_extend (pe_ix ix_list (pv 3) (pe_op op_fdiv (pv 5) (pe_gint rfl C.STRETCH)) (fun _ _ => rfl)) (pa_cons (pv 6) pa_nil)))))
      (pss_one (ps_ret (pv 3)))))), ?_⟩
    have ee : (e : Int) / 2048 = ((e / 2048 : Nat) : Int) := by omega
    refine ⟨_, rfl, _, _, rfl, rfl, ⟨by decide, by decide⟩, ((e / 2048 : Nat) : Int), ?_, by omega, by omega, fun lP hlP => ?_⟩
    · show [V.int ((e : Int) / 2048)] = _
      rw [ee]
    refine lc_range (n := (((e / 2048 : Nat) : Int)).toNat) (fun i H2 => ∃ prs : List Addr, PcSt F lP H H2 prs (List.replicate i [])) ⟨[], Same.new (Same.refl H) hlP, upd_same, List.nodup_nil, (fun h => nomatch h), (fun r h => nomatch h), All2.nil⟩ ?_ ?_
    · rintro i H2 hi ⟨prs, S⟩
      rw [Int.toNat_natCast] at hi
      refine ⟨rfl, Nat.zero_le _, fun p hp => ?_⟩
      have npl : lP ≠ p := ne_of_none S.hp hp
      refine ⟨prs.map V.ref, by rw [upd_ne npl]; exact S.hp, lt_size (by rw [List.length_map, S.at_.1, List.length_replicate]; omega), prs ++ [p], ?_⟩
      have := S.more hlP hp
      rw [← List.replicate_succ'] at this
      exact this
    · rintro H2 ⟨prs, S⟩
      rw [Int.toNat_natCast] at S
      refine gname_nx ?_
      dsimp only
      refine seq_cut (t := tIfS _ _ _) (fun σ' H' => (∃ prs : List Addr, PcSt F lP H H' prs (List.replicate N [])) ∧ ∃ v, σ' = [some (.ref a), some (.ref b), some (.int (e : Int)), some (.ref lP), v, none, none]) ?_ fun rest => ?_
      · rintro σ' H3 ⟨⟨prs, S3⟩, v4, rfl⟩
        refine ⟨_, rfl, _, rfl, a, b, _, _, rfl, S3.s.seq ha, S3.s.seq hb, for_zip (K := K) (a := a) (b := b) (xs := vb begins) (ys := krs.map V.ref) (fun i σ H4 => ∃ (v u : Option V), PcSt F lP H H4 prs ((List.range N).map (My.pieceKeys ((begins.zip kss).take i))) ∧ σ = [some (.ref a), some (.ref b), some (.int (e : Int)), some (.ref lP), v4, v, u])
          ⟨none, none, ?_, rfl⟩ (fun i σ H4 ⟨v, u, S4, _⟩ => ⟨S4.s.seq ha, S4.s.seq hb⟩) ?_ ?_⟩
        · have e0 : (List.range N).map (My.pieceKeys ((begins.zip kss).take 0)) = List.replicate N [] := by
            rw [List.take_zero]
            refine List.eq_replicate_iff.mpr ⟨by rw [List.length_map, List.length_range], fun x hx => ?_⟩
            obtain ⟨j, _, rfl⟩ := List.mem_map.mp hx
            rfl
          rw [e0]
          exact S3
        · rintro i x y T σ H4 hx hy hT ⟨v, u, S4, rfl⟩
          obtain ⟨bg, hbg, rfl⟩ := vb_get hx
          obtain ⟨kr, hkr, rfl⟩ := ref_get hy
          obtain ⟨ks, hks, refk, k1, k2⟩ := hk.at hkr
          have s5 : Same H4 (upd H4 T (.tup [.int (bg : Int), .ref kr])) := Same.new (Same.refl _) hT
          have S5 := S4.same s5
          have hj : bg / 2048 < N := hlt bg (List.mem_of_getElem? hbg)
          have hjl : bg / 2048 < prs.length := by rw [S5.at_.1, List.length_map, List.length_range]; exact hj
          obtain ⟨r0, hr0⟩ : ∃ r0, prs[bg / 2048]? = some r0 := ⟨prs[bg / 2048], List.getElem?_eq_getElem hjl⟩
          obtain ⟨refs, c1, c2⟩ := S5.at_.2 _ r0 _ hr0 (range_get _ hj)
          have htk : (begins.zip kss).take (i + 1) = (begins.zip kss).take i ++ [(bg, ks)] := zip_take_succ hbg hks
          have hlen1 : refs.length + refk.length ≤ 1000000 := by
            have h1 := pieceKeys_len ((begins.zip kss).take (i + 1)) (bg / 2048)
            have h2 := keysN_take (begins.zip kss) (i + 1)
            rw [htk, My.pieceKeys_snoc, if_pos rfl, List.length_append, ← c2.1, ← k2.1, ← htk] at h1
            omega
          refine ⟨T, _, rfl, .inl (.inl upd_same), rfl, _, _, rfl, _, _, rfl, rfl, ?_⟩
          have hr0m : r0 ∈ prs := List.mem_of_getElem? hr0
          have hkr5 : (upd H4 T (.tup [.int (bg : Int), .ref kr])) kr = some (.lst (refk.map V.ref)) := S5.s _ _ (sF _ _ k1)
          have nkr0 : kr ≠ r0 := ne_of_none (sF _ _ k1) (S5.new r0 hr0m)
          refine ⟨_, rfl, _, rfl, _, _, rfl, rfl, ⟨by decide, by decide⟩, lP, _, _, _, rfl, rfl, SqL.of S5.hp, at_of (j := bg / 2048) (v := V.ref r0) (by omega) (by rw [List.getElem?_map, hr0]; rfl), .inl ⟨rfl, _, SqL.of c1⟩, _, rfl, r0, kr, _, _, rfl, rfl, c1, hkr5, le_size (by rw [List.length_map, List.length_map]; omega), ?_⟩
          have nlP : lP ≠ r0 := fun e' => S5.np (e' ▸ hr0m)
          refine ⟨some (.int (bg : Int)), some (.ref kr), ⟨Same.upd S5.s (S5.new r0 hr0m), by rw [upd_ne nlP]; exact S5.hp, S5.nd, S5.np, S5.new, ?_⟩, rfl⟩
          refine ⟨by rw [S5.at_.1, List.length_map, List.length_map], fun j r kz h1 h2 => ?_⟩
          have hjN : j < N := by
            have := (List.getElem?_eq_some_iff.mp h2).1
            rw [List.length_map, List.length_range] at this
            exact this
          rw [range_get _ hjN] at h2
          have ekz : kz = My.pieceKeys ((begins.zip kss).take i) j ++ if bg / 2048 = j then ks else [] := by
            rw [← My.pieceKeys_snoc, ← htk]
            exact (Option.some.inj h2).symm
          by_cases hjj : bg / 2048 = j
          · subst hjj
            rw [hr0] at h1
            cases h1
            refine ⟨refs ++ refk, ?_, ?_⟩
            · rw [upd_same, List.map_append]
            · rw [ekz, if_pos rfl]
              exact c2.append k2
          · obtain ⟨refs', d1, d2⟩ := S5.at_.2 j r _ h1 (range_get _ hjN)
            have nrr : r ≠ r0 := fun e' => hjj (nd_ix S5.nd hr0 (e' ▸ h1))
            refine ⟨refs', by rw [upd_ne nrr]; exact d1, ?_⟩
            rw [ekz, if_neg hjj, List.append_nil]
            exact d2
        · rintro i σ H4 hend ⟨v, u, S4, rfl⟩
          have hall : (begins.zip kss).take i = begins.zip kss := by
            refine List.take_of_length_le ?_
            rw [List.length_zip]
            rw [vb_length, List.length_map, hk.1] at hend
            omega
          rw [hall] at S4
          exact ⟨_, rfl, q lP prs H4 S4.s hlP S4.hp S4.new S4.at_⟩
      · -- one piece more, perhaps
        have hprl : prs.length = e / 2048 := by rw [S.at_.1, List.length_replicate]
        refine ⟨_, rfl, Nat.zero_le _, fun l0 hl0 => ?_⟩
        have s0 : Same H2 (upd H2 l0 (.lst [])) := Same.new (Same.refl _) hl0
        have S1 := S.same s0
        refine ⟨a, l0, _, rfl, rfl, S1.s.seq ha, SqL.of upd_same, _, rfl, ?_⟩
        by_cases hbe : begins = []
        · have c0 : (if true = true then !(vb begins).isEmpty else (vb begins).isEmpty) = false := by rw [hbe]; rfl
          rw [c0]
          refine iteF (iteF ?_)
          refine rest _ _ ⟨⟨prs, ?_⟩, _, rfl⟩
          rw [hN, if_neg (fun h => h.1 hbe), Nat.add_zero]
          exact S1
        · have c0 : (if true = true then !(vb begins).isEmpty else (vb begins).isEmpty) = true := by
            cases begins with
            | nil => exact absurd rfl hbe
            | cons => rfl
          rw [c0]
          have hlast : (vb begins).getLast? = some (V.int ((begins.getLastD 0 : Nat) : Int)) := by
            unfold vb
            rw [List.getLast?_map, List.getLastD_eq_getLast?]
            cases qq : begins.getLast? with
            | none => exact absurd (List.getLast?_eq_none_iff.mp qq) hbe
            | some x => rfl
          refine iteT ⟨_, rfl, _, rfl, a, _, _, _, rfl, rfl, S1.s.seq ha, atI_last hlast, _, _, rfl, rfl, ⟨by decide, by decide⟩, _, rfl, lP, _, rfl, .inl (SqL.of S1.hp), rfl, _, rfl, ?_⟩
          by_cases hd : begins.getLastD 0 / 2048 = e / 2048
          · have c1 : decide (V.int (((begins.getLastD 0 : Nat) : Int) / 2048) = V.int (((prs.map V.ref).length : Nat) : Int)) = true := decide_eq_true (by
              rw [List.length_map, hprl]
              congr 1
              omega)
            rw [c1]
            refine iteT ⟨_, rfl, .inl ⟨rfl, _, SqL.of S1.hp⟩, Nat.zero_le _, fun p hp => ?_⟩
            have npl : lP ≠ p := ne_of_none S1.hp hp
            refine ⟨lP, _, _, rfl, rfl, (by rw [upd_ne npl]; exact S1.hp), lt_size (by rw [List.length_map, hprl]; omega), ?_⟩
            refine rest _ _ ⟨⟨prs ++ [p], ?_⟩, _, rfl⟩
            have := S1.more hlP hp
            rw [← List.replicate_succ'] at this
            rw [hN, if_pos ⟨hbe, hd⟩]
            exact this
          · have c1 : decide (V.int (((begins.getLastD 0 : Nat) : Int) / 2048) = V.int (((prs.map V.ref).length : Nat) : Int)) = false := decide_eq_false (by
              rw [List.length_map, hprl]
              intro z
              injection z with z
              exact hd (by omega))
            rw [c1]
            refine iteF ?_
            refine rest _ _ ⟨⟨prs, ?_⟩, _, rfl⟩
            rw [hN, if_neg (fun h => hd h.2), Nat.add_zero]
            exact S1
/-- the frame: all but two -/
theorem frame2 (H1 : Hp) (x y : Addr) : ∃ G : Hp, G x = none ∧ G y = none ∧ (∀ z o, z ≠ x → z ≠ y → H1 z = some o → G z = some o) ∧ Same G H1 := by
  refine ⟨fun z => if z = x ∨ z = y then none else H1 z, if_pos (.inl rfl), if_pos (.inr rfl), fun z o n1 n2 e => ?_, fun z o e => ?_⟩
  · show (if z = x ∨ z = y then none else H1 z) = some o
    rw [if_neg (by rintro (q | q); exact n1 q; exact n2 q)]
    exact e
  · have e : (if z = x ∨ z = y then none else H1 z) = some o := e
    split at e
    · cases e
    · exact e
def sp_filter_of (K : Frag) : Sp := fun vs H Q _ => ∃ (a b : Addr) (krs : List Addr) (begins : List Nat) (kss : List (List (List Nat))) (e N bits : Nat), vs = [.ref a, .ref b, .int (e : Int), .int (bits : Int)] ∧ SqL K H a (vb begins) ∧ SqL K H b (krs.map V.ref) ∧ All2 (KLAt H) krs kss ∧ begins.length = kss.length ∧
  N = e / 2048 + (if begins ≠ [] ∧ begins.getLastD 0 / 2048 = e / 2048 then 1 else 0) ∧ (∀ x ∈ begins, x / 2048 < N) ∧ e ≤ 15000000 ∧ My.keysN (begins.zip kss) ≤ 1000000 ∧ bits ≤ 20 ∧ (∀ ks ∈ kss, ∀ k ∈ ks, isByte k ∧ k.length ≤ 1000000) ∧
  newL (vb (My.filterOf bits (begins.zip kss) N)) H Q
theorem sc_filter_of : FnScope ["begins", "block_keys", "end", "bits", "content", "places", "keys", "places_begin", "place"] ["begins", "block_keys", "end", "bits"] (defScope s_filter_of) := ⟨rfl, rfl, rfl, by decide +kernel, rfl, by decide +kernel, by decide +kernel⟩
theorem pieceKeys_mem {bk : List (Nat × List (List Nat))} {j : Nat} {k : List Nat} (h : k ∈ My.pieceKeys bk j) : ∃ x ∈ bk, k ∈ x.2 := by
  unfold My.pieceKeys at h
  obtain ⟨x, hx, hk⟩ := List.mem_flatMap.mp h
  refine ⟨x, hx, ?_⟩
  split at hk
  · exact hk
  · cases hk
theorem fx_filter_of (D : DefAt K mg "filter_of" s_filter_of) (C : Consts K mg) (F_keys_by_piece : Fx P w K mg base "keys_by_piece" 1 ["begins", "block_keys", "end"] (sp_keys_by_piece K)) (F_piece_of : Fx P w K mg base "piece_of" 4 ["keys", "bits"] (sp_piece_of K))
    (F_fixed : Fx P w K mg base "fixed" 1 ["number", "width"] sp_fixed) : Fx P w K mg base "filter_of" 5 ["begins", "block_keys", "end", "bits"] (sp_filter_of K) := by
  refine D.fx sc_filter_of (fun _ _ _ _ _ _ us hl => match us, hl with | [_, _, _, _], _ => rfl) (fun vs H Q E h => ?_) (fun f cdv A outer s H vs Q E hr h => ?_)
  · obtain ⟨a, b, krs, begins, kss, e, N, bits, rfl, _⟩ := h
    rfl
  · obtain ⟨a, b, krs, begins, kss, e, N, bits, rfl, ha, hb, hk, hbl, hN, hlt, he, hkn, hbits, hby, q⟩ := h
    refine ⟨_, (pss_cons (ps_set (i := 4) sc_filter_of.nd rfl (Or.inl rfl) (pe_lst pa_nil))
      (pss_cons (ps_set (i := 5) sc_filter_of.nd rfl (Or.inl rfl) (pe_lst pa_nil))
      (pss_cons (ps_for PassesOwn.never rfl (pi_list (pe_fx F_keys_by_piece (hr.mono (by decide)) rfl (pa_cons (pv 0) (pa_cons (pv 1) (pa_cons (pv 2) pa_nil))))) (pg_name (i := 6) sc_filter_of.nd rfl (Or.inl rfl)) (pss_cons (ps_expr (pe_bm PySem.F.plainAttrs_list PySem.F.slot_list_append PySem.F.type_list_append mt_append (pv 5) (pa_cons (pe_callB call_len_seq rfl C.nlen PySem.boot_len (pa_cons (pv 4) pa_nil)) pa_nil)))
      (pss_one (ps_expr (pe_bm PySem.F.plainAttrs_list PySem.F.slot_list_extend PySem.F.type_list_extend mt_extend (pv 4) (pa_cons (pe_fx F_piece_of (hr.mono (by decide)) rfl (pa_cons (pv 6) (pa_cons (pv 3) pa_nil))) pa_nil))))))
      (pss_cons (ps_set (i := 7) sc_filter_of.nd rfl (Or.inl rfl) (pe_callB call_len_seq rfl C.nlen PySem.boot_len (pa_cons (pv 4) pa_nil)))
      (pss_cons (ps_for PassesOwn.never rfl (pi_list (pe_op op_cat (pv 5) (pe_lst (pa_cons (pv 7) pa_nil)))) (pg_name (i := 8) sc_filter_of.nd rfl (Or.inl rfl)) (pss_one (ps_expr (pe_bm PySem.F.plainAttrs_list PySem.F.slot_list_extend PySem.F.type_list_extend mt_extend (pv 4) (pa_cons (pe_fx F_fixed (hr.mono (by decide)) rfl (pa_cons (pv 8) (pa_cons pe_int pa_nil))) pa_nil)))))
      (pss_cons (ps_expr (pe_bm PySem.F.plainAttrs_list PySem.F.slot_list_append PySem.F.type_list_append mt_append (pv 4) (pa_cons (pe_gint rfl C.STRETCH_BITS) pa_nil)))
      (pss_one (ps_ret (pv 4))))))))), ?_⟩
    generalize hbk : begins.zip kss = bk at hkn q
    have hNle : N ≤ e / 2048 + 1 := by rw [hN]; split <;> omega
    have hres : ∀ i, i ≤ N → (My.res bits bk i).length ≤ 4000000 := fun i hi => by
      have := My.res_bound hbits bk i
      omega
    refine ⟨Nat.zero_le _, fun lc hlc => ?_⟩
    refine ⟨Nat.zero_le _, fun lp hlp => ?_⟩
    have ncp : lc ≠ lp := ne_of_none upd_same hlp
    have sc : Same H (upd (upd H lc (.lst [])) lp (.lst [])) := (Same.new (Same.refl H) hlc).trans (Same.new (Same.refl _) hlp)
    have hlpH : H lp = none := by rw [upd_ne ncp.symm] at hlp; exact hlp
    refine ⟨_, rfl, _, rfl, _, rfl, H, a, b, krs, begins, kss, e, N, rfl, sc.seq ha, sc.seq hb, sc, hk, hbl, hN, hlt, he, (by rw [hbk]; exact hkn), fun lP prs H1 s1 hlP hP1 hnew hprs => ?_⟩
    rw [hbk] at hprs
    have hc1 : H1 lc = some (.lst []) := s1 _ _ (by rw [upd_ne ncp]; exact upd_same)
    have hp1 : H1 lp = some (.lst []) := s1 _ _ upd_same
    have nPc : lP ≠ lc := fun z => by rw [z, upd_ne ncp, upd_same] at hlP; cases hlP
    have nPp : lP ≠ lp := fun z => by rw [z, upd_same] at hlP; cases hlP
    obtain ⟨G, gc, gp, gof, gs⟩ := frame2 H1 lc lp
    have sHG : Same H G := fun z o ez => gof z o (ne_of_none ez hlc) (ne_of_none ez hlpH) (s1 _ _ (sc _ _ ez))
    have gP := gof lP _ nPc nPp hP1
    have gprs : All2 (fun r ks => ∃ refs : List Addr, G r = some (.lst (refs.map V.ref)) ∧ KeysAt H refs ks) prs ((List.range N).map (My.pieceKeys bk)) := ⟨hprs.1, fun i r ks h1 h2 => by
      obtain ⟨refs, c, d⟩ := hprs.2 i r ks h1 h2
      have hn := hnew r (List.mem_of_getElem? h1)
      have n1 : r ≠ lc := fun z => by rw [z, upd_ne ncp, upd_same] at hn; cases hn
      have n2 : r ≠ lp := fun z => by rw [z, upd_same] at hn; cases hn
      exact ⟨refs, gof r _ n1 n2 c, d⟩⟩
    have hprl : (prs.map V.ref).length = N := by rw [List.length_map, hprs.1, List.length_map, List.length_range]
    refine ⟨lP, rfl, ⟨_, SqL.of hP1⟩, for_list (K := K) (a := lP) (xs := prs.map V.ref) (fun i σ H2 => Same G H2 ∧ H2 lc = some (.lst (vb (My.res bits bk i))) ∧ H2 lp = some (.lst (vb (My.offs bits bk i))) ∧ ∃ v, σ = [some (.ref a), some (.ref b), some (.int (e : Int)), some (.int (bits : Int)), some (.ref lc), some (.ref lp), v, none, none])
      ⟨gs, hc1, hp1, none, rfl⟩ (fun i σ H2 _ ⟨hs, _⟩ => SqL.of (hs _ _ gP)) ?_ ?_⟩
    · rintro i x σ H2 hx ⟨hs, h2, h3, v, rfl⟩
      obtain ⟨r, hr9, rfl⟩ := ref_get hx
      have hi : i < N := by
        have := (List.getElem?_eq_some_iff.mp hx).1
        rw [hprl] at this
        exact this
      obtain ⟨refs, c, d⟩ := gprs.2 i r _ hr9 (range_get _ hi)
      have hl1 := hres i (Nat.le_of_lt hi)
      have hl2 := hres (i + 1) hi
      rw [My.res_succ, List.length_append] at hl2
      refine ⟨_, rfl, .inl ⟨rfl, _, SqL.of h3⟩, _, rfl, lc, _, rfl, .inl (SqL.of h2), lp, _, _, rfl, rfl, h3, lt_size (by rw [vb_length, My.offs_length]; omega), ?_⟩
      have h2' : (upd H2 lp (.lst (vb (My.offs bits bk i) ++ [.int (((vb (My.res bits bk i)).length : Nat) : Int)]))) lc = some (.lst (vb (My.res bits bk i))) := by rw [upd_ne ncp]; exact h2
      have hs' : Same G (upd H2 lp (.lst (vb (My.offs bits bk i) ++ [.int (((vb (My.res bits bk i)).length : Nat) : Int)]))) := Same.upd hs gp
      refine ⟨_, rfl, .inl ⟨rfl, _, SqL.of h2'⟩, _, rfl, _, rfl, r, refs, _, bits, rfl, SqL.of (hs' _ _ c), d.same (sHG.trans hs'), fun k hk9 => ?_, ?_, hbits, fun l4 H4 s4 hl4 h4 => ?_⟩
      · obtain ⟨z, hz, hkz⟩ := pieceKeys_mem hk9
        rw [← hbk] at hz
        exact hby z.2 (List.of_mem_zip (show (z.1, z.2) ∈ begins.zip kss from hz)).2 k hkz
      · have := pieceKeys_len bk i
        omega
      · refine ⟨lc, l4, _, _, rfl, rfl, s4 _ _ h2', h4, le_size (by rw [vb_length, vb_length]; omega), ?_⟩
        refine ⟨Same.upd (hs'.trans s4) gc, ?_, ?_, _, rfl⟩
        · rw [upd_same, My.res_succ, vb_append]
        · rw [upd_ne ncp.symm]
          refine s4 _ _ ?_
          rw [upd_same, My.offs_succ]
          exact vb_snoc _ (by rw [vb_length])
    · rintro σ H2 ⟨hs, h2, h3, v, rfl⟩
      rw [hprl] at h2 h3
      have hl1 := hres N (Nat.le_refl _)
      refine ⟨_, rfl, lc, _, rfl, .inl (SqL.of h2), ?_⟩
      refine ⟨_, rfl, _, rfl, (by show 1 ≤ sizeLine; decide), fun l1 hl1' => ?_⟩
      have np1 : lp ≠ l1 := ne_of_none h3 hl1'
      have nc1 : lc ≠ l1 := ne_of_none h2 hl1'
      have s5 : Same H2 (upd H2 l1 (.lst [.int (((vb (My.res bits bk N)).length : Nat) : Int)])) := Same.new (Same.refl _) hl1'
      refine ⟨lp, l1, _, _, rfl, rfl, s5 _ _ h3, upd_same, le_size (by rw [vb_length, My.offs_length]; simp only [List.length_cons, List.length_nil]; omega), fun lq hlq => ?_⟩
      have ncq : lc ≠ lq := ne_of_none (s5 _ _ h2) hlq
      generalize hall : My.offs bits bk N ++ [(My.res bits bk N).length] = all
      have e6 : vb (My.offs bits bk N) ++ [V.int (((vb (My.res bits bk N)).length : Nat) : Int)] = vb all := by
        rw [← hall, vb_append, vb_length]
        rfl
      rw [e6]
      have s6 := s5.trans (Same.new (o := .lst (vb all)) (Same.refl _) hlq)
      have hallen : all.length = N + 1 := by rw [← hall, List.length_append, My.offs_length]; rfl
      have hGq : G lq = none := (hs.trans s5).free hlq
      refine ⟨lq, rfl, ⟨_, SqL.of upd_same⟩, for_list (K := K) (a := lq) (xs := vb all) (fun i σ H3 => Same H H3 ∧ H3 lq = some (.lst (vb all)) ∧ H3 lc = some (.lst (vb (My.res bits bk N ++ (all.take i).flatMap (Sv13.little 4)))) ∧ ∃ v9, σ = [some (.ref a), some (.ref b), some (.int (e : Int)), some (.int (bits : Int)), some (.ref lc), some (.ref lp), v, some (.int (((vb (My.res bits bk N)).length : Nat) : Int)), v9])
        ⟨(sHG.trans hs).trans s6, upd_same, ?_, none, rfl⟩ (fun i σ H3 _ ⟨_, h6, _⟩ => SqL.of h6) ?_ ?_⟩
      · rw [List.take_zero, List.flatMap_nil, List.append_nil]
        exact s6 _ _ h2
      · rintro i x σ H3 hx ⟨hs3, h6, h7, v9, rfl⟩
        obtain ⟨m, hm, rfl⟩ := vb_get hx
        have hi : i < all.length := (List.getElem?_eq_some_iff.mp hm).1
        refine ⟨_, rfl, .inl ⟨rfl, _, SqL.of h7⟩, _, rfl, m, 4, rfl, by decide, fun l2 H4 s4 hn h4 => ?_⟩
        refine ⟨lc, l2, _, _, rfl, rfl, s4 _ _ h7, h4, le_size ?_, ?_⟩
        · rw [vb_length, vb_length, My.little_length, List.length_append, flat_len, List.length_take]
          omega
        · refine ⟨Same.upd (hs3.trans s4) hlc, by rw [upd_ne ncq.symm]; exact s4 _ _ h6, ?_, _, rfl⟩
          rw [upd_same, ← vb_append, List.take_succ, hm, List.append_assoc, ← flat_snoc]
          rfl
      · rintro σ H3 ⟨hs3, h6, h7, v9, rfl⟩
        rw [vb_length, List.take_length] at h7
        refine ⟨_, rfl, .inl ⟨rfl, _, SqL.of h7⟩, lc, _, _, rfl, rfl, h7, lt_size ?_, _, rfl, ?_⟩
        · rw [vb_length, List.length_append, flat_len]
          omega
        · refine q lc _ (Same.upd hs3 hlc) hlc ?_
          rw [upd_same]
          unfold My.filterOf
          rw [hall]
          exact vb_snoc _ rfl
end
end KL

set_option Elab.async false
set_option linter.all false
set_option maxRecDepth 100000
namespace KL
open PySem PySem.W PyProof.Rows L2
abbrev s_entries_of : Stmt := top 51
section
variable {P : Program} {w : World} {K : Frag} {mg : Str → Option Value} {base : Heap}
def sp_entries_of (K : Frag) : Sp := fun vs H Q _ => ∃ (a : Addr) (rows : List Nat), vs = [.ref a] ∧ SqL K H a (vb rows) ∧ isByte rows ∧ rows.length ≤ 1000000 ∧
  (My.entriesM rows = none → ∀ H', Same H H' → Q .non H') ∧
  (∀ l, My.entriesM rows = some l → My.wt l ≤ rows.length → (∀ e ∈ l, isByte e.1 ∧ isByte e.2) → ∀ (lE : Addr) (ts : List Addr) (H' : Hp), Same H H' → H lE = none → H' lE = some (.lst (ts.map V.ref)) → All2 (EntAt H') ts l → Q (.ref lE) H')
theorem sc_entries_of : FnScope ["rows", "entries", "begin", "key_begin", "value_begin", "end", "key"] ["rows"] (defScope s_entries_of) := ⟨rfl, rfl, rfl, by decide +kernel, rfl, by decide +kernel, by decide +kernel⟩
theorem vb_ints (l : List Nat) : vb l = (l.map fun n : Nat => (n : Int)).map V.int := by
  unfold vb
  rw [List.map_map]
  rfl
theorem rising_last {es : List Sv13.Entry} {last e : Sv13.Entry} (h : es.getLast? = some last) : Sv13.rising ((es ++ [e]).map fun e => e.1) = (Sv13.rising (es.map fun e => e.1) && Sv13.before last.1 e.1) := by
  rcases My.snoc_cases es with q | ⟨r, x, q⟩
  · rw [q] at h; cases h
  · subst q
    have : x = last := by simpa using h
    subst this
    rw [List.map_append, List.map_append]
    exact My.rising_snoc (r.map fun e => e.1) x.1 e.1
theorem fx_entries_of (D : DefAt K mg "entries_of" s_entries_of) (C : Consts K mg) (F_number_at : Fx P w K mg base "number_at" 1 ["data", "begin", "width"] (sp_number_at K)) : Fx P w K mg base "entries_of" 2 ["rows"] (sp_entries_of K) := by
  refine D.fx sc_entries_of (fun _ _ _ _ _ _ us hl => match us, hl with | [_], _ => rfl) (fun vs H Q E h => ?_) (fun f cdv A outer s H vs Q E hr h => ?_)
  · obtain ⟨a, rows, rfl, _⟩ := h
    rfl
  · obtain ⟨a, rows, rfl, ha, hby, hlen, qn, qs⟩ := h
    refine ⟨_, (pss_cons (ps_set (i := 1) sc_entries_of.nd rfl (Or.inl rfl) (pe_lst pa_nil))
      (pss_cons (ps_set (i := 2) sc_entries_of.nd rfl (Or.inl rfl) pe_int)
      (pss_cons (ps_while PassesOwn.never (pt_cmpR op_lt (pv 2) (pe_callB call_len_seq rfl C.nlen PySem.boot_len (pa_cons (pv 0) pa_nil)) (nomark _)) (pss_cons (ps_set (i := 3) sc_entries_of.nd rfl (Or.inl rfl) (pe_op op_add (pe_op op_add (pv 2) (pe_gint rfl C.KEY_WIDTH)) (pe_gint rfl C.VALUE_WIDTH)))
      (pss_cons (ps_if (pt_cmpR op_gt (pv 3) (pe_callB call_len_seq rfl C.nlen PySem.boot_len (pa_cons (pv 0) pa_nil)) (nomark _)) (pss_one (ps_ret pe_non)) pss_nil)
      (pss_cons (ps_set (i := 4) sc_entries_of.nd rfl (Or.inl rfl) (pe_op op_add (pv 3) (pe_fx F_number_at (hr.mono (by decide)) rfl (pa_cons (pv 0) (pa_cons (pv 2) (pa_cons (pe_gint rfl C.KEY_WIDTH) pa_nil))))))
      (pss_cons (ps_set (i := 5) sc_entries_of.nd rfl (Or.inl rfl) (pe_op op_add (pv 4) (pe_fx F_number_at (hr.mono (by decide)) rfl (pa_cons (pv 0) (pa_cons (pe_op op_add (pv 2) (pe_gint rfl C.KEY_WIDTH)) (pa_cons (pe_gint rfl C.VALUE_WIDTH) pa_nil))))))
      (pss_cons (ps_if (pt_cmpR op_gt (pv 5) (pe_callB call_len_seq rfl C.nlen PySem.boot_len (pa_cons (pv 0) pa_nil)) (nomark _)) (pss_one (ps_ret pe_non)) pss_nil)
      (pss_cons (ps_set (i := 6) sc_entries_of.nd rfl (Or.inl rfl) (pe_slice sl_list (pv 0) (po_some (pv 3)) (po_some (pv 4))))
      (pss_cons (ps_if (PW.pt (pw_and (pt_cmpR (op_neE hr.units0) (pv 1) (pe_lst pa_nil) (nomark _)) (pw_and1 (pt_cmpR (op_leL hr.units0) (pv 6) (pe_ix ix_tup (pe_ix ix_list (pv 1) (pe_un un_neg pe_int) (fun _ _ => rfl)) pe_int (fun _ _ => rfl)) (nomark _))))) (pss_one (ps_ret pe_non)) pss_nil)
      (pss_cons (ps_expr (pe_bm PySem.F.plainAttrs_list PySem.F.slot_list_append PySem.F.type_list_append mt_append (pv 1) (pa_cons (pe_tup (pa_cons (pv 6) (pa_cons (pe_slice sl_list (pv 0) (po_some (pv 4)) (po_some (pv 5))) pa_nil))) pa_nil)))
      (pss_one (ps_set (i := 2) sc_entries_of.nd rfl (Or.inl rfl) (pv 5))))))))))))
      (pss_one (ps_ret (pv 1)))))), ?_⟩
    refine ⟨Nat.zero_le _, fun lE hlE => ?_⟩
    refine ⟨fun m σ H2 => ∃ (G : Hp) (ts : List Addr) (es : List Sv13.Entry) (at_ : Nat) (v3 v4 v5 v6 : Option V), m = rows.length - at_ ∧ My.RowsAt rows es at_ ∧ Sv13.rising (es.map fun e => e.1) = true ∧ Same H G ∧ Same G H2 ∧ G lE = none ∧ H2 lE = some (.lst (ts.map V.ref)) ∧ All2 (EntAt G) ts es ∧
        σ = [some (.ref a), some (.ref lE), some (.int (at_ : Int)), v3, v4, v5, v6],
      ⟨_, H, [], [], 0, none, none, none, none, rfl, My.rowsAt_start rows, rfl, Same.refl H, Same.new (Same.refl H) hlE, hlE, upd_same, All2.nil, rfl⟩, ?_⟩
    rintro m σ H2 ⟨G, ts, es, at_, v3, v4, v5, v6, rfl, R, hris, s1, s2, gE, hE, hes, rfl⟩
    have sH2 := s1.trans s2
    have ha2 := sH2.seq ha
    have el : (((vb rows).length : Nat) : Int) = (rows.length : Int) := by rw [vb_length]
    have hle := R.le
    refine ⟨_, rfl, _, rfl, a, _, rfl, .inl ha2, _, _, rfl, rfl, _, rfl, ?_⟩
    by_cases hat : at_ < rows.length
    · have c : decide ((at_ : Int) < (((vb rows).length : Nat) : Int)) = true := decide_eq_true (by rw [el]; omega)
      rw [c]
      refine iteT ⟨fun σ' H' => ∃ m', m' < rows.length - at_ ∧ ∃ (G : Hp) (ts : List Addr) (es : List Sv13.Entry) (at_ : Nat) (v3 v4 v5 v6 : Option V), m' = rows.length - at_ ∧ My.RowsAt rows es at_ ∧ Sv13.rising (es.map fun e => e.1) = true ∧ Same H G ∧ Same G H' ∧ G lE = none ∧ H' lE = some (.lst (ts.map V.ref)) ∧ All2 (EntAt G) ts es ∧
        σ' = [some (.ref a), some (.ref lE), some (.int (at_ : Int)), v3, v4, v5, v6], fun σ' H' h => h, ?_⟩
      refine ⟨_, rfl, _, _, rfl, rfl, _, _, rfl, rfl, ?_⟩
      refine ⟨_, rfl, _, rfl, a, _, rfl, .inl ha2, _, _, rfl, rfl, _, rfl, ?_⟩
      by_cases h6 : rows.length < at_ + 6
      · have c1 : decide ((((vb rows).length : Nat) : Int) < (at_ : Int) + 2 + 4) = true := decide_eq_true (by rw [el]; omega)
        rw [c1]
        refine iteT ?_
        exact qn (My.entriesM_none (My.rowsAt_short R hat h6)) H2 sH2
      · have c1 : decide ((((vb rows).length : Nat) : Int) < (at_ : Int) + 2 + 4) = false := decide_eq_false (by rw [el]; omega)
        rw [c1]
        refine iteF ?_
        have e6 : (at_ : Int) + 2 + 4 = ((at_ + 6 : Nat) : Int) := by omega
        have e2 : (at_ : Int) + 2 = ((at_ + 2 : Nat) : Int) := by omega
        refine ⟨_, rfl, _, rfl, _, rfl, a, rows, at_, 2, rfl, ha2, hby, by omega, by decide, _, _, rfl, rfl, ?_⟩
        refine ⟨_, rfl, _, rfl, _, rfl, _, _, rfl, rfl, a, rows, at_ + 2, 4, ?_, ha2, hby, by omega, by decide, _, _, rfl, rfl, ?_⟩
        · show [V.ref a, V.int ((at_ : Int) + 2), V.int 4] = _
          rw [e2]
          rfl
        obtain ⟨kl, hkl⟩ : ∃ kl, kl = My.klen rows at_ := ⟨_, rfl⟩
        obtain ⟨vl, hvl⟩ : ∃ vl, vl = My.vlen rows at_ := ⟨_, rfl⟩
        have ek : (at_ : Int) + 2 + 4 + ((Sv13.ofLittle (Sv13.slice rows at_ 2) : Nat) : Int) = ((at_ + 6 + kl : Nat) : Int) := by
          rw [hkl]
          unfold My.klen
          omega
        have ev : (at_ : Int) + 2 + 4 + ((Sv13.ofLittle (Sv13.slice rows at_ 2) : Nat) : Int) + ((Sv13.ofLittle (Sv13.slice rows (at_ + 2) 4) : Nat) : Int) = ((at_ + 6 + kl + vl : Nat) : Int) := by
          rw [hkl, hvl]
          unfold My.klen My.vlen
          omega
        refine ⟨_, rfl, _, rfl, a, _, rfl, .inl ha2, _, _, rfl, rfl, _, rfl, ?_⟩
        by_cases hend : rows.length < at_ + 6 + kl + vl
        · have c2 : decide ((((vb rows).length : Nat) : Int) < (at_ : Int) + 2 + 4 + ((Sv13.ofLittle (Sv13.slice rows at_ 2) : Nat) : Int) + ((Sv13.ofLittle (Sv13.slice rows (at_ + 2) 4) : Nat) : Int)) = true := decide_eq_true (by rw [el, ev]; omega)
          rw [c2]
          refine iteT ?_
          exact qn (My.entriesM_none (My.rowsAt_bad R hat (by rw [← hkl, ← hvl]; omega))) H2 sH2
        · have c2 : decide ((((vb rows).length : Nat) : Int) < (at_ : Int) + 2 + 4 + ((Sv13.ofLittle (Sv13.slice rows at_ 2) : Nat) : Int) + ((Sv13.ofLittle (Sv13.slice rows (at_ + 2) 4) : Nat) : Int)) = false := decide_eq_false (by rw [el, ev]; omega)
          rw [c2]
          refine iteF ?_
          have Rn := My.rowsAt_step R hat (by rw [← hkl, ← hvl]; omega)
          rw [← hkl, ← hvl] at Rn
          generalize hkey : Sv13.slice rows (at_ + 6) kl = key at Rn
          generalize hval : Sv13.slice rows (at_ + 6 + kl) vl = val at Rn
          refine ⟨_, rfl, _, rfl, _, rfl, _, rfl, _, rfl, a, _, rfl, ha2, fun lk hlk => ?_⟩
          have ecut : cutV (vb rows) (some ((at_ : Int) + 2 + 4)) (some ((at_ : Int) + 2 + 4 + ((Sv13.ofLittle (Sv13.slice rows at_ 2) : Nat) : Int))) = vb key := by
            rw [ek, e6, cut_both (by omega) (by rw [vb_length]; omega), ← hkey, vb_slice]
            congr 1
            omega
          rw [ecut]
          have s3 : Same H2 (upd H2 lk (.lst (vb key))) := Same.new (Same.refl _) hlk
          -- the entry is put behind the others
          have go : ∀ H3 : Hp, Same (upd H2 lk (.lst (vb key))) H3 → Sv13.rising ((es ++ [(key, val)]).map fun e => e.1) = true →
              tSeq (tDrop (tBM K "list" rAppend (tVar 1) (tCons (tTup (tCons (tVar 6) (tCons (tSl (rSlL K) (tVar 0) (tPart (tVar 4)) (tPart (tVar 5))) tNil))) tNil))) (tAsg (tVar 5) (gName 2))
                { nx := fun σ' H' => ∃ m', m' < rows.length - at_ ∧ ∃ (G : Hp) (ts : List Addr) (es : List Sv13.Entry) (at_ : Nat) (v3 v4 v5 v6 : Option V), m' = rows.length - at_ ∧ My.RowsAt rows es at_ ∧ Sv13.rising (es.map fun e => e.1) = true ∧ Same H G ∧ Same G H' ∧ G lE = none ∧ H' lE = some (.lst (ts.map V.ref)) ∧ All2 (EntAt G) ts es ∧
                    σ' = [some (.ref a), some (.ref lE), some (.int (at_ : Int)), v3, v4, v5, v6], rt := Q }
                [some (.ref a), some (.ref lE), some (.int (at_ : Int)), some (.int ((at_ : Int) + 2 + 4)), some (.int ((at_ : Int) + 2 + 4 + ((Sv13.ofLittle (Sv13.slice rows at_ 2) : Nat) : Int))), some (.int ((at_ : Int) + 2 + 4 + ((Sv13.ofLittle (Sv13.slice rows at_ 2) : Nat) : Int) + ((Sv13.ofLittle (Sv13.slice rows (at_ + 2) 4) : Nat) : Int))), some (.ref lk)] H3 := by
            intro H3 s4 hr9
            have s5 := s3.trans s4
            have hE3 := s5 _ _ hE
            refine ⟨_, rfl, .inl ⟨rfl, _, SqL.of hE3⟩, _, rfl, _, rfl, _, rfl, _, rfl, _, rfl, _, rfl, a, _, rfl, (sH2.trans s5).seq ha, fun lv hlv => ?_⟩
            have ecv : cutV (vb rows) (some ((at_ : Int) + 2 + 4 + ((Sv13.ofLittle (Sv13.slice rows at_ 2) : Nat) : Int))) (some ((at_ : Int) + 2 + 4 + ((Sv13.ofLittle (Sv13.slice rows at_ 2) : Nat) : Int) + ((Sv13.ofLittle (Sv13.slice rows (at_ + 2) 4) : Nat) : Int))) = vb val := by
              rw [ev, ek, cut_both (by omega) (by rw [vb_length]; omega), ← hval, vb_slice]
              congr 1
              omega
            rw [ecv]
            refine ⟨(by show 2 ≤ sizeLine; decide), fun t ht => ?_⟩
            have hk3 : H3 lk = some (.lst (vb key)) := s4 _ _ upd_same
            have nEv : lE ≠ lv := ne_of_none hE3 hlv
            have nkv : lk ≠ lv := ne_of_none hk3 hlv
            have nEt : lE ≠ t := ne_of_none (by rw [upd_ne nEv]; exact hE3) ht
            have nkt : lk ≠ t := ne_of_none (by rw [upd_ne nkv]; exact hk3) ht
            have nvt : lv ≠ t := ne_of_none upd_same ht
            have nEk : lE ≠ lk := ne_of_none hE hlk
            have hE4 : (upd (upd H3 lv (.lst (vb val))) t (.tup [.ref lk, .ref lv])) lE = some (.lst (ts.map V.ref)) := by rw [upd_ne nEt, upd_ne nEv]; exact hE3
            have hesl : es.length ≤ 1000000 := by
              have h1 := My.wt_len es
              have h2 : My.wt es = at_ := R.wt
              omega
            refine ⟨lE, _, _, rfl, rfl, hE4, lt_size (by rw [List.length_map, hes.1]; omega), ?_⟩
            refine ⟨_, rfl, rows.length - (at_ + 6 + kl + vl), by omega, ?_⟩
            have gk : G lk = none := s2.free hlk
            have gv : G lv = none := (s2.trans s5).free hlv
            have gt : G t = none := by
              have z := ((s2.trans s5).trans (Same.new (o := .lst (vb val)) (Same.refl _) hlv)).free ht
              exact z
            have sg : Same G (upd (upd (upd G lk (.lst (vb key))) lv (.lst (vb val))) t (.tup [.ref lk, .ref lv])) :=
              Same.new (Same.new (Same.new (Same.refl G) gk) (by rw [upd_ne nkv.symm]; exact gv)) (by rw [upd_ne nvt.symm, upd_ne nkt.symm]; exact gt)
            refine ⟨upd (upd (upd G lk (.lst (vb key))) lv (.lst (vb val))) t (.tup [.ref lk, .ref lv]), ts ++ [t], es ++ [(key, val)], at_ + 6 + kl + vl, some (.int ((at_ : Int) + 2 + 4)), some (.int ((at_ : Int) + 2 + 4 + ((Sv13.ofLittle (Sv13.slice rows at_ 2) : Nat) : Int))), some (.int ((at_ : Int) + 2 + 4 + ((Sv13.ofLittle (Sv13.slice rows at_ 2) : Nat) : Int) + ((Sv13.ofLittle (Sv13.slice rows (at_ + 2) 4) : Nat) : Int))), some (.ref lk), rfl, Rn, hr9, s1.trans sg, ?_, ?_, ?_, ?_, ?_⟩
            · refine Same.upd (Same.grow (Same.grow (Same.grow ((s2.trans s5).trans ((Same.new (Same.refl _) hlv).trans (Same.new (Same.refl _) ht))) ?_) ?_) upd_same) ?_
              · rw [upd_ne nkt, upd_ne nkv]
                exact hk3
              · rw [upd_ne nvt]
                exact upd_same
              · rw [upd_ne nEt, upd_ne nEv, upd_ne nEk]
                exact gE
            · rw [upd_ne nEt, upd_ne nEv, upd_ne nEk]
              exact gE
            · rw [upd_same, List.map_append]
              rfl
            · refine (hes.imp fun r x h => h.same sg).snoc ⟨lk, lv, upd_same, ?_, ?_⟩
              · rw [upd_ne nkt, upd_ne nkv]
                exact upd_same
              · rw [upd_ne nvt]
                exact upd_same
            · rw [← ev]
              rfl
          have hE3 := s3 _ _ hE
          refine ⟨_, rfl, Nat.zero_le _, fun l0 hl0 => ?_⟩
          have s4 : Same (upd H2 lk (.lst (vb key))) (upd (upd H2 lk (.lst (vb key))) l0 (.lst [])) := Same.new (Same.refl _) hl0
          refine ⟨lE, l0, _, rfl, rfl, SqL.of (s4 _ _ hE3), SqL.of upd_same, _, rfl, ?_⟩
          by_cases hes0 : es = []
          · have hts0 : ts = [] := List.length_eq_zero_iff.mp (by rw [hes.1, hes0]; rfl)
            subst hts0
            refine iteF (iteF ?_)
            refine go _ s4 ?_
            rw [hes0]
            rfl
          · have hts0 : ts ≠ [] := fun z => hes0 (List.length_eq_zero_iff.mp (by rw [← hes.1, z]; rfl))
            have c0 : (if true = true then !(ts.map V.ref).isEmpty else (ts.map V.ref).isEmpty) = true := by
              cases ts with
              | nil => exact absurd rfl hts0
              | cons => rfl
            rw [c0]
            obtain ⟨tl, htl⟩ : ∃ tl, ts.getLast? = some tl := by
              cases q : ts.getLast? with
              | none => exact absurd (List.getLast?_eq_none_iff.mp q) hts0
              | some x => exact ⟨x, rfl⟩
            have htl2 : ts[ts.length - 1]? = some tl := by rw [← List.getLast?_eq_getElem?]; exact htl
            obtain ⟨last, hlast, k9, v9, t1, t2, t3⟩ := hes.at htl2
            have hlast2 : es.getLast? = some last := by rw [List.getLast?_eq_getElem?, ← hes.1]; exact hlast
            have sG3 := (s2.trans s3).trans s4
            have hkk : (upd (upd H2 lk (.lst (vb key))) l0 (.lst [])) lk = some (.lst (vb key)) := s4 _ _ upd_same
            refine iteT ⟨_, rfl, _, rfl, _, rfl, lE, _, _, _, rfl, rfl, SqL.of (s4 _ _ hE3), ref_last htl, tl, _, _, _, rfl, rfl, .inl (.inl (sG3 _ _ t1)), at_of (j := 0) (v := V.ref k9) rfl rfl, lk, k9, key.map (fun n : Nat => (n : Int)), last.1.map (fun n : Nat => (n : Int)), rfl, rfl, ?_, ?_, _, rfl, ?_⟩
            · rw [← vb_ints]
              exact SqL.of hkk
            · rw [← vb_ints]
              exact SqL.of (sG3 _ _ t2)
            · rw [lexBy_before]
              have hrl := rising_last (e := (key, val)) hlast2
              rw [hris, Bool.true_and] at hrl
              cases hbf : Sv13.before last.1 key with
              | true =>
                refine iteF ?_
                refine go _ s4 ?_
                rw [hrl]
                exact hbf
              | false =>
                refine iteT ?_
                exact qn (My.entriesM_fall Rn (by rw [hrl]; exact hbf)) _ (sH2.trans (s3.trans s4))
    · have c : decide ((at_ : Int) < (((vb rows).length : Nat) : Int)) = false := decide_eq_false (by rw [el]; omega)
      rw [c]
      refine iteF ?_
      have hw : My.wt es = at_ := R.wt
      exact ⟨_, rfl, qs es (My.entriesM_some R (by omega) hris) (by omega) (R.by_ hby) lE ts H2 sH2 hlE hE (hes.imp fun r x h => h.same s2)⟩
end
end KL

set_option Elab.async false
set_option linter.all false
set_option maxRecDepth 100000
namespace KL
open PySem PySem.W PyProof.Rows L2
abbrev s_table_of : Stmt := top 47
/-- a comprehension over a text's signs -/
theorem lc_str {x : Str} {g : TG} {tt : TT} {te : TE} {vs : List Nat} {σ : L2.St} {H1 : Hp} {D : Addr} {Qd : Hp → Prop} (Pv : Nat → Hp → Prop) (h0 : Pv 0 (upd H1 D (.lst [])))
    (hs : ∀ i c H, x.cps[i]? = some c → Pv i H → g (.str ⟨#[c]⟩) (wipe σ vs) H fun σ2 H2 => wipe σ2 vs = wipe σ vs ∧ tt σ2 H2 fun b H3 =>
      if b = true then te σ2 H3 fun y H4 => ∃ acc, H4 D = some (.lst acc) ∧ acc.length < sizeLine ∧ Pv (i + 1) (upd H4 D (.lst (acc ++ [y]))) else Pv (i + 1) H3) (hd : ∀ H, Pv x.cps.size H → Qd H) :
    ∃ W : Nat → Nat → Hp → Prop, (∃ m, W 0 m (upd H1 D (.lst []))) ∧ ∀ i m H, W i m H →
      ((Its x).stop i H ∧ Qd H) ∨ ((Its x).go i H ∧ ∃ Nx : Hp → Prop, (∀ H', Nx H' → ∃ m', m' < m ∧ W (i + 1) m' H') ∧ ∀ y H', (Its x).yld i H y H' → g y (wipe σ vs) H' fun σ2 H2 => wipe σ2 vs = wipe σ vs ∧ tt σ2 H2 fun b H3 =>
        if b = true then te σ2 H3 fun y H4 => ∃ acc, H4 D = some (.lst acc) ∧ acc.length < sizeLine ∧ Nx (upd H4 D (.lst (acc ++ [y]))) else Nx H3) := by
  refine ⟨fun i m H => m = x.cps.size - i ∧ i ≤ x.cps.size ∧ Pv i H, ⟨x.cps.size, by simp, Nat.zero_le _, h0⟩, ?_⟩
  rintro i m H ⟨rfl, hi, p⟩
  by_cases hlt : i < x.cps.size
  · refine .inr ⟨hlt, Pv (i + 1), fun H' p' => ⟨x.cps.size - (i + 1), by omega, rfl, hlt, p'⟩, fun y H' hy => ?_⟩
    obtain ⟨rfl, c, hc, rfl⟩ := hy
    exact hs i c _ hc p
  · have e : i = x.cps.size := by omega
    subst e
    exact .inl ⟨Nat.le_refl _, hd H p⟩
def fname : Str := "filter.leveldb.BuiltinBloomFilter2"
theorem fname_cps : fname.cps.toList = Sv13.NAME := by decide +kernel
/-- the file with its filter, and the filter's handle -/
def fPart (bits : Nat) (bs : List My.Blk) : List Nat × Option Sv13.Handle := if bits = 0 then (My.outOf bs, none) else ((Sv13.put (My.outOf bs) (My.filterOf bits (My.begun 0 bs) (My.piecesN bs))).1, some (Sv13.put (My.outOf bs) (My.filterOf bits (My.begun 0 bs) (My.piecesN bs))).2)
def tailM (iv : Nat) (fo : List Nat) (ho : Option Sv13.Handle) (ix : List Nat) : List Nat := (Sv13.put (Sv13.put fo (My.metaContent iv ho)).1 ix).1 ++ Sv13.footer (Sv13.put fo (My.metaContent iv ho)).2 (Sv13.put (Sv13.put fo (My.metaContent iv ho)).1 ix).2
theorem tableM_eq (iv size bits : Nat) (l : List Sv13.Entry) : My.tableM iv size bits l = tailM iv (fPart bits (My.dataBlocks iv size l)).1 (fPart bits (My.dataBlocks iv size l)).2 (My.idxContent (My.idxPairs (My.dataBlocks iv size l))) := rfl
theorem footer_len (m i : Sv13.Handle) : (Sv13.footer m i).length ≤ 100 := by
  unfold Sv13.footer
  have a1 := My.handle_length m
  have a2 := My.handle_length i
  simp only [List.length_append, List.length_replicate, My.little_length]
  omega
/-- the file so far, and the meta block's writer -/
structure TSt (C : Addr) (G : Hp) (lo p lb lr lk : Addr) (iv : Nat) (H : Hp) (out : List Nat) (bw : My.BW) : Prop where
  s : Same G H
  ho : H lo = some (.lst (vb out))
  W : WAt C H p lb lr lk iv bw
  go : G lo = none
  gp : G p = none
  gb : G lb = none
  gr : G lr = none
  nb : lo ≠ lb
  nr : lo ≠ lr
  nk : lo ≠ lk
section
variable {C : Addr} {G : Hp} {lo p lb lr lk : Addr} {iv : Nat} {H H2 : Hp} {out : List Nat} {bw : My.BW}
theorem TSt.same (S : TSt C G lo p lb lr lk iv H out bw) (s : Same H H2) : TSt C G lo p lb lr lk iv H2 out bw :=
  ⟨S.s.trans s, s _ _ S.ho, S.W.same s, S.go, S.gp, S.gb, S.gr, S.nb, S.nr, S.nk⟩
theorem TSt.np (S : TSt C G lo p lb lr lk iv H out bw) : p ≠ lo := by
  obtain ⟨dx, h1, _⟩ := S.W.ob
  exact ne_of h1 S.ho (by intro z; cases z)
theorem TSt.block {out' : List Nat} (S : TSt C G lo p lb lr lk iv H out bw) (kp : ∀ b u, H b = some u → b ≠ lo → H2 b = some u) (ho : H2 lo = some (.lst (vb out'))) : TSt C G lo p lb lr lk iv H2 out' bw := by
  obtain ⟨⟨dx, w1, w2, w3, w4⟩, w5, w6, w7⟩ := S.W
  exact ⟨fun b u e => kp b u (S.s _ _ e) (ne_of_none e S.go), ho, ⟨⟨dx, kp _ _ w1 S.np, kp _ _ w2 S.nk.symm, w3, w4⟩, kp _ _ w5 S.nb.symm, kp _ _ w6 S.nr.symm, w7⟩, S.go, S.gp, S.gb, S.gr, S.nb, S.nr, S.nk⟩
theorem TSt.put {k : Addr} {bw' : My.BW} (S : TSt C G lo p lb lr lk iv H out bw) (W : WAt C H2 p lb lr k iv bw') (kp : Kept3 H H2 p lb lr) (nk : lo ≠ k) : TSt C G lo p lb lr k iv H2 out bw' :=
  ⟨kp.same S.s S.gp S.gb S.gr, kp _ _ S.ho S.np.symm S.nb S.nr, W, S.go, S.gp, S.gb, S.gr, S.nb, S.nr, nk⟩
end
section
variable {P : Program} {w : World} {K : Frag} {mg : Str → Option Value} {base : Heap}
def sp_append (vs : List V) (H : Hp) (Q : VK) (E : XK) : Prop := sp_append_block vs H Q E ∧ ∃ (c : Addr) (y : List Nat), vs[1]? = some (.ref c) ∧ H c = some (.lst (vb y)) ∧ isByte y
def sp_table_of (K : Frag) : Sp := fun vs H Q _ => ∃ (a : Addr) (ts : List Addr) (l : List Sv13.Entry) (iv size bits : Nat), vs = [.ref a, .int (iv : Int), .int (size : Int), .int (bits : Int)] ∧ SqL K H a (ts.map V.ref) ∧ All2 (EntAt H) ts l ∧ 0 < iv ∧ My.wt l ≤ 100000 ∧ bits ≤ 20 ∧ (∀ e ∈ l, isByte e.1 ∧ isByte e.2) ∧
  ((My.tableM iv size bits l).length ≤ 16000000 → newL (vb (My.tableM iv size bits l)) H Q)
theorem sc_table_of : FnScope ["entries", "interval", "size", "bits", "blocks", "block_keys", "keys", "content", "out", "begins", "handles", "meta", "handle", "sign", "meta_handle", "index_handle"] ["entries", "interval", "size", "bits"] (defScope s_table_of) := ⟨rfl, rfl, rfl, by decide +kernel, rfl, by decide +kernel, by decide +kernel⟩
theorem blk_keys1 : BlkOk ["entries", "interval", "size", "bits", "blocks", "block_keys", "keys", "content", "out", "begins", "handles", "meta", "handle", "sign", "meta_handle", "index_handle"] (defScope s_table_of) { kind := .function, names := [(".0", .local), ("keys", .local), ("content", .local)], isGenerator := false, isCoroutine := false } [("keys", 6), ("content", 7)] := blkOk_by (by decide +kernel)
theorem blk_sign : BlkOk ["entries", "interval", "size", "bits", "blocks", "block_keys", "keys", "content", "out", "begins", "handles", "meta", "handle", "sign", "meta_handle", "index_handle"] (defScope s_table_of) { kind := .function, names := [(".0", .local), ("sign", .local), ("ord", .globalImplicit)], isGenerator := false, isCoroutine := false } [("sign", 13)] := blkOk_by (by decide +kernel)
theorem cnt_le : ∀ {bs : List My.Blk}, (∀ b ∈ bs, b.1 ≠ []) → bs.length ≤ (bs.map fun b => b.1.length).sum
  | [], _ => Nat.le_refl _
  | b :: r, h => by
    have h1 := cnt_le (bs := r) fun c hc => h c (List.mem_cons_of_mem _ hc)
    have h2 : 0 < b.1.length := List.length_pos_iff.mpr (h b List.mem_cons_self)
    rw [List.map_cons, List.sum_cons, List.length_cons]
    omega
theorem fx_table_of {C : Addr} (D : DefAt K mg "table_of" s_table_of) (Cs : Consts K mg) (F_data_blocks : Fx P w K mg base "data_blocks" 3 ["entries", "interval", "size"] (sp_data_blocks K)) (F_append_block : Fx P w K mg base "append_block" 2 ["out", "content"] sp_append)
    (M_BlockWriter : Mkx P w K mg base "BlockWriter" C 1 ["self", "interval"] (sp_W_init C)) (M_put : Mtx P w K mg base C "put" 2 ["self", "key", "value"] (sp_W_put C)) (M_content : Mtx P w K mg base C "content" 2 ["self"] (sp_W_content C))
    (F_filter_of : Fx P w K mg base "filter_of" 5 ["begins", "block_keys", "end", "bits"] (sp_filter_of K)) (F_index_content : Fx P w K mg base "index_content" 4 ["block_keys", "handles"] (sp_index_content K)) (F_table_end : Fx P w K mg base "table_end" 2 ["meta_handle", "index_handle"] sp_table_end) :
    Fx P w K mg base "table_of" 6 ["entries", "interval", "size", "bits"] (sp_table_of K) := by
  refine D.fx sc_table_of (fun _ _ _ _ _ _ us hl => match us, hl with | [_, _, _, _], _ => rfl) (fun vs H Q E h => ?_) (fun f cdv A outer s H vs Q E hr h => ?_)
  · obtain ⟨a, ts, l, iv, size, bits, rfl, _⟩ := h
    rfl
  · obtain ⟨a, ts, l, iv, size, bits, rfl, ha, hts, hiv, hwt, hbits, hby, q⟩ := h
    refine ⟨_, (pss_cons (ps_set (i := 4) sc_table_of.nd rfl (Or.inl rfl) (pe_fx F_data_blocks (hr.mono (by decide)) rfl (pa_cons (pv 0) (pa_cons (pv 1) (pa_cons (pv 2) pa_nil)))))
      (pss_cons (ps_setLc (i := 5) (g := gTup K 2 (gCons (gName 6) (gCons (gName 7) gNil))) (own := [("keys", 6), ("content", 7)]) rfl sc_table_of.nd rfl rfl (sw_true rfl rfl rfl rfl) (pi_list (pv 4)) blk_keys1 (fun _ _ _ _ _ => pg_tup (n := 2) rfl (pgs_cons (pg_name (i := 6) sc_table_of.nd rfl (Or.inl rfl) (.inr rfl)) (pgs_cons (pg_name (i := 7) sc_table_of.nd rfl (Or.inl rfl) (.inr rfl)) pgs_nil))) (fun _ _ _ _ _ => pts_nil) (fun _ _ _ _ _ => pv 6))
      (pss_cons (ps_set (i := 8) sc_table_of.nd rfl (Or.inl rfl) (pe_lst pa_nil))
      (pss_cons (ps_set (i := 9) sc_table_of.nd rfl (Or.inl rfl) (pe_lst pa_nil))
      (pss_cons (ps_set (i := 10) sc_table_of.nd rfl (Or.inl rfl) (pe_lst pa_nil))
      (pss_cons (ps_for PassesOwn.never rfl (pi_list (pv 4)) (pg_tup rfl (pgs_cons (pg_name (i := 6) sc_table_of.nd rfl (Or.inl rfl)) (pgs_cons (pg_name (i := 7) sc_table_of.nd rfl (Or.inl rfl)) pgs_nil))) (pss_cons (ps_expr (pe_bm PySem.F.plainAttrs_list PySem.F.slot_list_append PySem.F.type_list_append mt_append (pv 9) (pa_cons (pe_callB call_len_seq rfl Cs.nlen PySem.boot_len (pa_cons (pv 8) pa_nil)) pa_nil)))
      (pss_one (ps_expr (pe_bm PySem.F.plainAttrs_list PySem.F.slot_list_append PySem.F.type_list_append mt_append (pv 10) (pa_cons (pe_fx F_append_block (hr.mono (by decide)) rfl (pa_cons (pv 8) (pa_cons (pv 7) pa_nil))) pa_nil))))))
      (pss_cons (ps_set (i := 11) sc_table_of.nd rfl (Or.inl rfl) (pe_mx M_BlockWriter (hr.mono (by decide)) rfl (pa_cons (pv 1) pa_nil)))
      (pss_cons (ps_if (pt_cmpR op_gt (pv 3) pe_int (nomark _)) (pss_cons (ps_set (i := 12) sc_table_of.nd rfl (Or.inl rfl) (pe_fx F_append_block (hr.mono (by decide)) rfl (pa_cons (pv 8) (pa_cons (pe_fx F_filter_of (hr.mono (by decide)) rfl (pa_cons (pv 9) (pa_cons (pv 5) (pa_cons (pe_callB call_len_seq rfl Cs.nlen PySem.boot_len (pa_cons (pv 8) pa_nil)) (pa_cons (pv 3) pa_nil))))) pa_nil))))
      (pss_one (ps_expr (pe_mt (pv 11) M_put (hr.mono (by decide)) (pa_cons (pe_lc (own := [("sign", 13)]) rfl sc_table_of.nd (pi_str (pe_gstr rfl Cs.FILTER_NAME)) blk_sign (fun _ _ _ _ _ => pg_name (i := 13) sc_table_of.nd rfl (Or.inl rfl)) (fun _ _ _ _ _ => pts_nil) (fun _ _ _ _ _ => pe_callB call_ord rfl Cs.nord PyProof.Rows.boot_ord (pa_cons (pv 13) pa_nil))) (pa_cons (pv 12) pa_nil)))))) pss_nil)
      (pss_cons (ps_set (i := 14) sc_table_of.nd rfl (Or.inl rfl) (pe_fx F_append_block (hr.mono (by decide)) rfl (pa_cons (pv 8) (pa_cons (pe_mt0 (pv 11) M_content (hr.mono (by decide)) ) pa_nil))))
      (pss_cons (ps_set (i := 15) sc_table_of.nd rfl (Or.inl rfl) (pe_fx F_append_block (hr.mono (by decide)) rfl (pa_cons (pv 8) (pa_cons (pe_fx F_index_content (hr.mono (by decide)) rfl (pa_cons (pv 5) (pa_cons (pv 10) pa_nil))) pa_nil))))
      (pss_cons (ps_expr (pe_bm PySem.F.plainAttrs_list PySem.F.slot_list_extend PySem.F.type_list_extend mt_extend (pv 8) (pa_cons (pe_fx F_table_end (hr.mono (by decide)) rfl (pa_cons (pv 14) (pa_cons (pv 15) pa_nil))) pa_nil)))
      (pss_one (ps_ret (pv 8)))))))))))))), ?_⟩
    -- the data blocks
    refine ⟨_, rfl, _, rfl, _, rfl, a, ts, l, iv, size, rfl, ha, hts, hiv, by omega, fun lB bts H1 s1 hlB hB1 hbs => ?_⟩
    have hne := My.blocks_ne (iv := iv) (size := size) l
    have hcnt := My.blocks_cnt (iv := iv) (size := size) l
    have hblen := My.blocks_len (iv := iv) (size := size) l
    have hkl := My.blocks_kl (iv := iv) (size := size) l
    have hbyt := My.blocks_byts (iv := iv) (size := size) (l := l) hby
    have hkey := My.blocks_all (Pk := fun k => isByte k ∧ k.length ≤ 1000000) (iv := iv) (size := size) (l := l) fun e he => ⟨(hby e he).1, by
      obtain ⟨i, hi, e'⟩ := List.mem_iff_getElem.mp he
      have := wt_at (l := l) (i := i) (e := e) (by rw [List.getElem?_eq_getElem hi, e'])
      omega⟩
    have hwl := My.wt_len l
    have htab : My.tableM iv size bits l = tailM iv (fPart bits (My.dataBlocks iv size l)).1 (fPart bits (My.dataBlocks iv size l)).2 (My.idxContent (My.idxPairs (My.dataBlocks iv size l))) := tableM_eq _ _ _ _
    rw [htab] at q
    generalize My.dataBlocks iv size l = bs at hbs hne hcnt hblen hkl hbyt hkey q
    have hbl : bts.length = bs.length := hbs.1
    have hbn : bs.length ≤ 16667 := by
      have := cnt_le hne
      omega
    generalize hkss : bs.map (fun b => b.1) = kss at hkl
    have hkssl : kss.length = bs.length := by rw [← hkss, List.length_map]
    have hkss1 : ∀ ks ∈ kss, ks ≠ [] ∧ ∀ k ∈ ks, isByte k ∧ k.length ≤ 1000000 := fun ks hks => by
      rw [← hkss] at hks
      obtain ⟨b, hb, rfl⟩ := List.mem_map.mp hks
      exact ⟨hne b hb, hkey b hb⟩
    -- block_keys
    refine ⟨_, rfl, lB, rfl, ⟨_, SqL.of hB1⟩, fun lK hlK => ?_⟩
    refine lc_list (K := K) (a := lB) (xs := bts.map V.ref) (fun i H2 => ∃ krs : List Addr, Same H1 H2 ∧ H2 lK = some (.lst (krs.map V.ref)) ∧ All2 (KLAt H1) krs (kss.take i)) ⟨[], Same.new (Same.refl _) hlK, upd_same, All2.nil⟩ (fun i H2 _ ⟨krs, s2, _⟩ => SqL.of (s2 _ _ hB1)) ?_ ?_
    · rintro i x H2 hx ⟨krs, s2, h2, hk2⟩
      obtain ⟨t, ht, rfl⟩ := ref_get hx
      obtain ⟨b, hb, kr, cr, rs, t1, t2, t3, t4⟩ := hbs.at ht
      have hkb : kss[i]? = some b.1 := by rw [← hkss, List.getElem?_map, hb]; rfl
      have hi : i < kss.length := (List.getElem?_eq_some_iff.mp hkb).1
      refine ⟨t, _, rfl, .inl (.inl (s2 _ _ t1)), rfl, _, _, rfl, _, _, rfl, rfl, rfl, _, rfl, _, h2, lt_size ?_, krs ++ [kr], Same.upd s2 hlK, ?_, ?_⟩
      · rw [List.length_map, hk2.1, List.length_take]
        omega
      · rw [upd_same, List.map_append]
        rfl
      · rw [List.take_succ, hkb]
        exact hk2.snoc ⟨rs, t2, t3⟩
    · rintro H2 ⟨krs, s2, hK2, hkk⟩
      rw [List.length_map, hbl, ← hkssl, List.take_length] at hkk
      have hB2 := s2 _ _ hB1
      have hkk2 : All2 (KLAt H2) krs kss := hkk.imp fun r x h => h.same s2
      have hbs2 : All2 (BlkAt H2) bts bs := hbs.imp fun r x h => h.same s2
      have sH2 := s1.trans s2
      -- out, begins, handles
      refine ⟨Nat.zero_le _, fun lo hlo => ⟨Nat.zero_le _, fun lg hlg => ⟨Nat.zero_le _, fun lh hlh => ?_⟩⟩⟩
      have nog : lo ≠ lg := ne_of_none upd_same hlg
      have noh : lo ≠ lh := ne_of_none (by rw [upd_ne nog]; exact upd_same) hlh
      have ngh : lg ≠ lh := ne_of_none upd_same hlh
      have hgo : H2 lo = none := hlo
      have hgg : H2 lg = none := by rw [upd_ne nog.symm] at hlg; exact hlg
      have hgh : H2 lh = none := by rw [upd_ne ngh.symm, upd_ne noh.symm] at hlh; exact hlh
      have s3 : Same H2 (upd (upd (upd H2 lo (.lst [])) lg (.lst [])) lh (.lst [])) := ((Same.new (Same.refl _) hlo).trans (Same.new (Same.refl _) hlg)).trans (Same.new (Same.refl _) hlh)
      have hol : ∀ i, (My.outOf (bs.take i)).length ≤ (My.outOf bs).length := fun i => by
        have e : My.outOf bs = My.outOf (bs.take i) ++ My.outOf (bs.drop i) := by
          unfold My.outOf
          rw [← List.flatMap_append, List.take_append_drop]
        rw [e, List.length_append]
        omega
      refine ⟨_, rfl, lB, rfl, ⟨_, SqL.of (s3 _ _ hB2)⟩, for_list (K := K) (a := lB) (xs := bts.map V.ref) (fun i σ H3 => ∃ (G : Hp) (hrs : List Addr) (v6 v7 : Option V), Same H2 G ∧ Same G H3 ∧ G lo = none ∧ G lg = none ∧ G lh = none ∧ H3 lo = some (.lst (vb (My.outOf (bs.take i)))) ∧ H3 lg = some (.lst (vb (My.bgs (bs.take i)))) ∧ H3 lh = some (.lst (hrs.map V.ref)) ∧ KeysAt G hrs (My.hands 0 (bs.take i)) ∧
        σ = [some (.ref a), some (.int (iv : Int)), some (.int (size : Int)), some (.int (bits : Int)), some (.ref lB), some (.ref lK), v6, v7, some (.ref lo), some (.ref lg), some (.ref lh), none, none, none, none, none])
        ⟨H2, [], none, none, Same.refl _, s3, hgo, hgg, hgh, ?_, ?_, upd_same, KeysAt.nil, rfl⟩ (fun i σ H3 _ ⟨G, hrs, v6, v7, g1, g2, _⟩ => SqL.of ((g1.trans g2) _ _ hB2)) ?_ ?_⟩
      · rw [upd_ne noh, upd_ne nog]
        exact upd_same
      · rw [upd_ne ngh]
        exact upd_same
      · rintro i x σ H3 hx ⟨G, hrs, v6, v7, g1, g2, go, gg, gh, h5, h6, h7, hh, rfl⟩
        obtain ⟨t, ht, rfl⟩ := ref_get hx
        obtain ⟨b, hb, kr, cr, rs, t1, t2, t3, t4⟩ := hbs2.at ht
        have hi : i < bs.length := (List.getElem?_eq_some_iff.mp hb).1
        have sG := g1.trans g2
        have hb9 : bs.take (i + 1) = bs.take i ++ [b] := by rw [List.take_succ, hb]; rfl
        have hol1 := hol (i + 1)
        rw [hb9, My.outOf_snoc, List.length_append, My.raw_length] at hol1
        refine ⟨t, _, rfl, .inl (.inl (sG _ _ t1)), rfl, _, _, rfl, _, _, rfl, rfl, ?_⟩
        refine ⟨_, rfl, .inl ⟨rfl, _, SqL.of h6⟩, _, rfl, lo, _, rfl, .inl (SqL.of h5), lg, _, _, rfl, rfl, h6, lt_size (by rw [vb_length, My.bgs_length, List.length_take]; omega), ?_⟩
        generalize hH4 : upd H3 lg (.lst (vb (My.bgs (bs.take i)) ++ [.int (((vb (My.outOf (bs.take i))).length : Nat) : Int)])) = H4
        have s4 : Same G H4 := by rw [← hH4]; exact Same.upd g2 gg
        have o4 : H4 lo = some (.lst (vb (My.outOf (bs.take i)))) := by rw [← hH4, upd_ne nog]; exact h5
        have b4 : H4 lg = some (.lst (vb (My.bgs (bs.take (i + 1))))) := by
          rw [← hH4, upd_same, hb9, My.bgs_snoc]
          exact vb_snoc _ (by rw [vb_length])
        have l4 : H4 lh = some (.lst (hrs.map V.ref)) := by rw [← hH4, upd_ne ngh.symm]; exact h7
        have c4 : H4 cr = some (.lst (vb b.2)) := s4 _ _ (g1 _ _ t4)
        have nco : lo ≠ cr := (ne_of_none (g1 _ _ t4) go).symm
        refine ⟨_, rfl, .inl ⟨rfl, _, SqL.of l4⟩, _, rfl, _, rfl, ⟨lo, cr, _, b.2, rfl, o4, c4, nco, by omega, fun ln H5 kp5 ho5 hn5 nln h9 => ?_⟩, cr, b.2, rfl, c4, hbyt b (List.mem_of_getElem? hb)⟩
        have s5 : Same G H5 := fun z o e => kp5 z o (s4 _ _ e) (ne_of_none e go)
        have b5 : H5 lg = some (.lst (vb (My.bgs (bs.take (i + 1))))) := kp5 _ _ b4 nog.symm
        have l5 : H5 lh = some (.lst (hrs.map V.ref)) := kp5 _ _ l4 noh.symm
        have gn : G ln = none := s4.free hn5
        have ngl : lg ≠ ln := ne_of_none b4 hn5
        have nhl : lh ≠ ln := ne_of_none l4 hn5
        have hlh9 : hrs.length = i := by
          rw [hh.1, My.hands_length, List.length_take]
          omega
        refine ⟨lh, _, _, rfl, rfl, l5, lt_size (by rw [List.length_map]; omega), ?_⟩
        have sg : Same G (upd G ln (.lst (vb (Sv13.Handle.bytes ⟨(My.outOf (bs.take i)).length, b.2.length⟩)))) := Same.new (Same.refl G) gn
        refine ⟨upd G ln (.lst (vb (Sv13.Handle.bytes ⟨(My.outOf (bs.take i)).length, b.2.length⟩))), hrs ++ [ln], some (.ref kr), some (.ref cr), g1.trans sg, ?_, ?_, ?_, ?_, ?_, ?_, ?_, ?_, rfl⟩
        · refine Same.upd (Same.grow s5 h9) ?_
          rw [upd_ne nhl]
          exact gh
        · rw [upd_ne nln.symm]
          exact go
        · rw [upd_ne ngl]
          exact gg
        · rw [upd_ne nhl]
          exact gh
        · rw [upd_ne noh, ho5, hb9, My.outOf_snoc]
        · rw [upd_ne ngh]
          exact b5
        · rw [upd_same, List.map_append]
          rfl
        · rw [hb9, My.hands_snoc, Nat.zero_add]
          exact (hh.same sg).snoc upd_same
      · rintro σ H3 ⟨G, hrs, v6, v7, g1, g2, go, gg, gh, h5, h6, h7, hh, rfl⟩
        rw [List.length_map, hbl, List.take_length] at h5 h6 hh
        -- begins and handles are done with
        obtain ⟨G4, hG4⟩ : ∃ G4 : Hp, G4 = upd (upd G lg (.lst (vb (My.bgs bs)))) lh (.lst (hrs.map V.ref)) := ⟨_, rfl⟩
        have gG4 : Same G G4 := by
          rw [hG4]
          exact Same.new (Same.new (Same.refl G) gg) (by rw [upd_ne ngh.symm]; exact gh)
        have s4 : Same G4 H3 := by rw [hG4]; exact Same.grow (Same.grow g2 h6) h7
        have o4 : G4 lo = none := by rw [hG4, upd_ne noh, upd_ne nog]; exact go
        have b4 : G4 lg = some (.lst (vb (My.bgs bs))) := by rw [hG4, upd_ne ngh]; exact upd_same
        have l4 : G4 lh = some (.lst (hrs.map V.ref)) := by rw [hG4]; exact upd_same
        have hh4 := hh.same gG4
        have sHG4 : Same H G4 := (sH2.trans g1).trans gG4
        have s24 : Same H2 G4 := g1.trans gG4
        -- meta = BlockWriter(interval)
        refine ⟨_, rfl, fun x dx nx ndx nex => ⟨x, dx, iv, rfl, upd_same, fun lb lr lk H5 W5 hlb hlr hlk kp5 => ⟨rfl, ?_⟩⟩⟩
        have s5 : Same H3 H5 := Same.made nx ndx kp5
        have e3 : ∀ {z : Addr}, (upd (upd H3 dx (.own x)) x (.ins C dx [])) z = none → H3 z = none := fun {z} h => by
          have h1 : z ≠ x := fun e => by rw [e, upd_same] at h; cases h
          rw [upd_ne h1] at h
          have h2 : z ≠ dx := fun e => by rw [e, upd_same] at h; cases h
          rw [upd_ne h2] at h
          exact h
        have S5 : TSt C G4 lo x lb lr lk iv H5 (My.outOf bs) My.BW.new := ⟨s4.trans s5, s5 _ _ h5, W5, o4, s4.free nx, s4.free (e3 hlb), s4.free (e3 hlr), ne_of_none h5 (e3 hlb), ne_of_none h5 (e3 hlr), ne_of_none h5 (e3 hlk)⟩
        have hlo0 : H lo = none := sHG4.free o4
        -- the filter, perhaps; then the rest
        refine gname_nx ?_
        dsimp only
        refine seq_cut (t := tIfS _ _ _) (fun σ' H' => ∃ (lk' : Addr) (fo : List Nat) (ho : Option Sv13.Handle) (bw : My.BW) (v12 v13 : Option V), TSt C G4 lo x lb lr lk' iv H' fo bw ∧ fo.length ≤ 2000000 ∧ bw.content = My.metaContent iv ho ∧ bw.size ≤ 1000 ∧
          (fo, ho) = fPart bits bs ∧
          σ' = [some (.ref a), some (.int (iv : Int)), some (.int (size : Int)), some (.int (bits : Int)), some (.ref lB), some (.ref lK), v6, v7, some (.ref lo), some (.ref lg), some (.ref lh), some (.ref x), v12, v13, none, none]) ?_ fun rest => ?_
        · rintro σ' H6 ⟨lk', fo, ho, bw, v12, v13, S6, hfo, hbw, hbws, hpair, rfl⟩
          rw [← hpair] at q
          dsimp only at q
          obtain ⟨d6, w6, _⟩ := S6.W.ob
          -- meta_handle
          refine ⟨_, rfl, _, rfl, x, d6, _, rfl, w6, mNo "content", x, lb, lr, lk', iv, bw, rfl, S6.W, by omega, fun lm H7 s7 hlm h7' => ?_⟩
          have S7 := S6.same s7
          have nom : lo ≠ lm := ne_of_none S6.ho hlm
          have hbwl : bw.content.length = bw.size := My.content_length bw
          have hbyb : isByte bw.content := by rw [hbw]; exact My.byts_meta iv ho
          refine ⟨⟨lo, lm, _, bw.content, rfl, S7.ho, h7', nom, by omega, fun lmh H8 kp8 ho8 hn8 nl8 h8 => ?_⟩, lm, bw.content, rfl, h7', hbyb⟩
          have S8 := S7.block kp8 ho8
          have gmh : G4 lmh = none := S7.s.free hn8
          -- index_handle
          have hK8 : H8 lK = some (.lst (krs.map V.ref)) := S8.s _ _ (s24 _ _ hK2)
          have hkl8 : My.kLen (My.ik kss) ≤ 1000000 := by
            have h1 := My.ik_le kss
            omega
          refine ⟨_, rfl, _, rfl, _, rfl, lK, lh, krs, hrs, kss, My.hands 0 bs, rfl, SqL.of hK8, hkk2.imp (fun r y h => h.same (s24.trans S8.s)), SqL.of (S8.s _ _ l4), hh4.same S8.s, hkss1, by omega, My.hands_le bs 0, hkl8, fun li H9 s9 hli h9 => ?_⟩
          have S9 := S8.same s9
          have noi : lo ≠ li := ne_of_none S8.ho hli
          rw [← hkss, ← My.idxPairs_zip] at h9
          generalize hix : My.idxContent (My.idxPairs bs) = ix at h9
          have hbyx : isByte ix := by
            rw [← hix, My.idxPairs_zip]
            refine My.byts_idx fun p hp => ?_
            have hm := List.of_mem_zip (show (p.1, p.2) ∈ (My.ik (bs.map fun x => x.1)).zip (My.hands 0 bs) from hp)
            refine ⟨My.byts_ik _ (fun ks hks k hk => ?_) _ hm.1, My.byts_hands bs 0 _ hm.2⟩
            rw [hkss] at hks
            exact ((hkss1 ks hks).2 k hk).1
          have hixl : ix.length ≤ 2000000 := by
            rw [← hix, My.idxPairs_zip, hkss]
            show (My.idxW ((My.ik kss).zip (My.hands 0 bs))).content.length ≤ _
            rw [My.content_length]
            have h1 := My.idxW_len ((My.ik kss).zip (My.hands 0 bs)) (fun p hp => My.hands_le bs 0 _ (List.of_mem_zip hp).2)
            have h2 : ((My.ik kss).zip (My.hands 0 bs)).length ≤ kss.length := by
              rw [List.length_zip, My.ik_length]
              omega
            have h3 : My.kLen (((My.ik kss).zip (My.hands 0 bs)).map fun p => p.1) ≤ My.kLen (My.ik kss) := by
              have := zip_fst (My.ik kss) (My.hands 0 bs) ((My.ik kss).zip (My.hands 0 bs)).length
              rw [List.take_length] at this
              rw [this]
              exact Nat.le_trans (kLen_take _ _) (kLen_take _ _)
            have h4 := Nat.le_trans h1 (Nat.add_le_add (Nat.add_le_add_left (Nat.mul_le_mul_left 54 h2) 4) h3)
            unfold My.BW.size
            omega
          have hlen8 : (fo ++ Sv13.raw bw.content).length ≤ 3000000 := by
            rw [List.length_append, My.raw_length]
            omega
          refine ⟨⟨lo, li, _, ix, rfl, S9.ho, h9, noi, by omega, fun lih H10 kp10 ho10 hn10 nl10 h10 => ?_⟩, li, ix, rfl, h9, hbyx⟩
          have S10 := S9.block kp10 ho10
          have mh9 := s9 _ _ h8
          have mh10 : H10 lmh = some (.lst (vb (Sv13.Handle.bytes ⟨fo.length, bw.content.length⟩))) := kp10 _ _ mh9 nl8
          -- the end
          refine ⟨_, rfl, .inl ⟨rfl, _, SqL.of S10.ho⟩, _, rfl, _, rfl, lmh, lih, ⟨fo.length, bw.content.length⟩, ⟨(fo ++ Sv13.raw bw.content).length, ix.length⟩, rfl, mh10, h10, fun lt H11 s11 hlt h11 => ?_⟩
          have S11 := S10.same s11
          generalize hft : Sv13.footer ⟨fo.length, bw.content.length⟩ ⟨(fo ++ Sv13.raw bw.content).length, ix.length⟩ = ft at h11
          have hftl : ft.length ≤ 100 := by
            rw [← hft]
            exact footer_len _ _
          refine ⟨lo, lt, _, _, rfl, rfl, S11.ho, h11, le_size (by rw [vb_length, vb_length, List.length_append, My.raw_length]; omega), _, rfl, ?_⟩
          have eall : tailM iv fo ho ix = fo ++ Sv13.raw bw.content ++ Sv13.raw ix ++ ft := by
            show (fo ++ Sv13.raw (My.metaContent iv ho)) ++ Sv13.raw ix ++ Sv13.footer ⟨fo.length, (My.metaContent iv ho).length⟩ ⟨(fo ++ Sv13.raw (My.metaContent iv ho)).length, ix.length⟩ = _
            rw [← hbw, hft]
          rw [hix, eall] at q
          refine q ?_ lo _ (Same.upd (sHG4.trans S11.s) hlo0) hlo0 ?_
          · rw [List.length_append, List.length_append, My.raw_length]
            omega
          · rw [upd_same]
            exact congrArg (fun z => some (HO.lst z)) (vb_append _ _).symm
        · -- the filter
          refine ⟨_, rfl, _, _, rfl, rfl, _, rfl, ?_⟩
          by_cases hb0 : bits = 0
          · have c : decide ((0 : Int) < (bits : Int)) = false := decide_eq_false (by omega)
            rw [c]
            refine iteF (rest _ _ ⟨lk, My.outOf bs, none, My.BW.new, _, _, S5, by omega, rfl, by decide, by unfold fPart; rw [if_pos hb0], rfl⟩)
          · have c : decide ((0 : Int) < (bits : Int)) = true := decide_eq_true (by omega)
            rw [c]
            refine iteT ?_
            have hK5 : H5 lK = some (.lst (krs.map V.ref)) := S5.s _ _ (s24 _ _ hK2)
            have ezip : (My.bgs bs).zip kss = My.begun 0 bs := by rw [← hkss]; exact My.begun_zip bs 0
            have hkn : My.keysN ((My.bgs bs).zip kss) ≤ 1000000 := by
              rw [ezip, My.begun_keys]
              omega
            refine ⟨_, rfl, _, rfl, _, rfl, _, rfl, lo, _, rfl, .inl (SqL.of S5.ho), _, rfl, lg, lK, krs, My.bgs bs, kss, (My.outOf bs).length, My.piecesN bs, bits, ?_, SqL.of (S5.s _ _ b4), SqL.of hK5, hkk2.imp (fun r y h => h.same (s24.trans S5.s)), by rw [My.bgs_length, hkssl], My.piecesN_eq bs, My.bgs_piece bs, by omega, hkn, hbits, fun ks hks => (hkss1 ks hks).2, fun lf H6 s6 hlf h6' => ?_⟩
            · show [V.ref lg, V.ref lK, V.int (((vb (My.outOf bs)).length : Nat) : Int), V.int (bits : Int)] = _
              rw [vb_length]
            rw [ezip] at h6'
            have hflen : (My.filterOf bits (My.begun 0 bs) (My.piecesN bs)).length ≤ 1000000 := by
              have h1 := My.res_bound hbits (My.begun 0 bs) (My.piecesN bs)
              rw [My.begun_keys] at h1
              have h2 : My.piecesN bs ≤ (My.outOf bs).length / 2048 + 1 := by
                rw [My.piecesN_eq]
                split <;> omega
              unfold My.filterOf
              rw [List.length_append, List.length_append, flat_len, List.length_append, My.offs_length]
              simp only [List.length_cons, List.length_nil]
              omega
            have hfby : isByte (My.filterOf bits (My.begun 0 bs) (My.piecesN bs)) := My.byts_filterOf _ _ _
            generalize hflt : My.filterOf bits (My.begun 0 bs) (My.piecesN bs) = flt at h6' hflen hfby
            have S6 := S5.same s6
            have nof : lo ≠ lf := ne_of_none S5.ho hlf
            refine ⟨⟨lo, lf, _, flt, rfl, S6.ho, h6', nof, by omega, fun lhd H7 kp7 ho7 hn7 nl7 h7' => ?_⟩, lf, flt, rfl, h6', hfby⟩
            have S7 := S6.block kp7 ho7
            obtain ⟨d7, w7, w7k, _⟩ := S7.W.ob
            have ghd : G4 lhd = none := S6.s.free hn7
            have nbd : lhd ≠ lb := fun e => by rw [e, S6.W.hb] at hn7; cases hn7
            have nrd : lhd ≠ lr := fun e => by rw [e, S6.W.hr] at hn7; cases hn7
            refine ⟨_, rfl, x, d7, _, rfl, w7, mNo "put", ?_⟩
            -- the name's signs
            refine ⟨fname, rfl, fun ln hln => ?_⟩
            have ncps : fname.cps.size = Sv13.NAME.length := by rw [← fname_cps]; simp
            refine lc_str (x := fname) (fun i H8 => Same H7 H8 ∧ H8 ln = some (.lst (vb (Sv13.NAME.take i)))) ⟨Same.new (Same.refl _) hln, upd_same⟩ ?_ ?_
            · rintro i ch H8 hch ⟨s8, h8⟩
              have hN : Sv13.NAME[i]? = some ch := by
                rw [← fname_cps]
                simpa using hch
              refine ⟨rfl, _, rfl, ⟨#[ch]⟩, rfl, rfl, _, h8, lt_size ?_, Same.upd s8 hln, ?_⟩
              · rw [vb_length, List.length_take]
                have : Sv13.NAME.length = 34 := by decide
                omega
              · rw [upd_same, List.take_succ, hN]
                exact vb_snoc _ rfl
            · rintro H8 ⟨s8, h8⟩
              rw [ncps, List.take_length] at h8
              have S8 := S7.same s8
              have nbn : ln ≠ lb := fun e => by rw [e, S7.W.hb] at hln; cases hln
              have nrn : ln ≠ lr := fun e => by rw [e, S7.W.hr] at hln; cases hln
              have non : lo ≠ ln := ne_of_none S7.ho hln
              refine ⟨_, rfl, x, lb, lr, lk, ln, lhd, iv, My.BW.new, Sv13.NAME, Sv13.Handle.bytes ⟨(My.outOf bs).length, flt.length⟩, rfl, S8.W, h8, s8 _ _ h7', nbn, nrn, nbd, nrd, hiv, ?_, by decide, fun H9 W9 kp9 => ?_⟩
              · have a1 := My.handle_length ⟨(My.outOf bs).length, flt.length⟩
                have a2 : Sv13.NAME.length = 34 := by decide
                show 0 + Sv13.NAME.length + _ ≤ _
                omega
              · refine rest _ _ ⟨ln, My.outOf bs ++ Sv13.raw flt, some ⟨(My.outOf bs).length, flt.length⟩, My.BW.new.put iv Sv13.NAME (Sv13.Handle.bytes ⟨(My.outOf bs).length, flt.length⟩), _, _, S8.put W9 kp9 non, ?_, rfl, ?_, ?_, rfl⟩
                · rw [List.length_append, My.raw_length]
                  omega
                · have a1 := My.handle_length ⟨(My.outOf bs).length, flt.length⟩
                  have a2 : Sv13.NAME.length = 34 := by decide
                  have a3 := My.put_body iv My.BW.new Sv13.NAME (Sv13.Handle.bytes ⟨(My.outOf bs).length, flt.length⟩)
                  have a4 := My.put_rs iv My.BW.new Sv13.NAME (Sv13.Handle.bytes ⟨(My.outOf bs).length, flt.length⟩)
                  have a5 : My.BW.new.body.length = 0 := rfl
                  have a6 : My.BW.new.rs.length = 1 := rfl
                  unfold My.BW.size
                  omega
                · unfold fPart
                  rw [if_neg hb0, hflt]
                  rfl
end
end KL

set_option Elab.async false
set_option linter.all false
set_option maxRecDepth 100000
namespace KL
open PySem PySem.W PyProof.Rows L2
abbrev s_make : Stmt := top 53
/-- what make answers -/
def makeAns (iv bl bits most : Int) (rows : List Nat) : List Int :=
  if (Sv13.within most 0 Sv13.SIZE && Sv13.good iv bl bits) = false then [-2] else match My.entriesM rows with
    | none => [-4]
    | some l => if most < ((My.tableM iv.toNat bl.toNat bits.toNat l).length : Int) then [-7] else ((My.tableM iv.toNat bl.toNat bits.toNat l).length : Int) :: (My.tableM iv.toNat bl.toNat bits.toNat l).map fun n : Nat => (n : Int)
section
variable {P : Program} {w : World} {K : Frag} {mg : Str → Option Value} {base : Heap}
def sp_make (K : Frag) : Sp := fun vs H Q _ => ∃ (iv bl bits most : Int) (a : Addr) (rows : List Nat), vs = [.int iv, .int bl, .int bits, .int most, .ref a] ∧ SqL K H a (vb rows) ∧ isByte rows ∧ rows.length ≤ 100000 ∧ newL ((makeAns iv bl bits most rows).map V.int) H Q
theorem sc_make : FnScope ["interval", "block", "bits", "most", "rows", "entries"] ["interval", "block", "bits", "most", "rows"] (defScope s_make) := ⟨rfl, rfl, rfl, by decide +kernel, rfl, by decide +kernel, by decide +kernel⟩
theorem fx_make (D : DefAt K mg "make" s_make) (C : Consts K mg) (F_is_length : Fx P w K mg base "is_length" 2 ["number"] sp_is_length) (F_is_shape : Fx P w K mg base "is_shape" 2 ["interval", "block", "bits"] sp_is_shape) (F_entries_of : Fx P w K mg base "entries_of" 2 ["rows"] (sp_entries_of K))
    (F_table_of : Fx P w K mg base "table_of" 6 ["entries", "interval", "size", "bits"] (sp_table_of K)) (F_with_length : Fx P w K mg base "with_length" 1 ["content", "most"] sp_with_length) : Fx P w K mg base "make" 7 ["interval", "block", "bits", "most", "rows"] (sp_make K) := by
  refine D.fx sc_make (fun _ _ _ _ _ _ us hl => match us, hl with | [_, _, _, _, _], _ => rfl) (fun vs H Q E h => ?_) (fun f cdv A outer s H vs Q E hr h => ?_)
  · obtain ⟨iv, bl, bits, most, a, rows, rfl, _⟩ := h
    rfl
  · obtain ⟨iv, bl, bits, most, a, rows, rfl, ha, hby, hlen, q⟩ := h
    refine ⟨_, (pss_cons (ps_if (pt_not (PW.pt (pw_and (pt_val (pe_fx F_is_length (hr.mono (by decide)) rfl (pa_cons (pe_callB call_len_seq rfl C.nlen PySem.boot_len (pa_cons (pv 4) pa_nil)) pa_nil))) (pw_and (pt_val (pe_fx F_is_length (hr.mono (by decide)) rfl (pa_cons (pv 3) pa_nil))) (pw_and1 (pt_val (pe_fx F_is_shape (hr.mono (by decide)) rfl (pa_cons (pv 0) (pa_cons (pv 1) (pa_cons (pv 2) pa_nil)))))))))) (pss_one (ps_ret (pe_lst (pa_cons (pe_gint rfl C.OUT_OF_RANGE) pa_nil)))) pss_nil)
      (pss_cons (ps_set (i := 5) sc_make.nd rfl (Or.inl rfl) (pe_fx F_entries_of (hr.mono (by decide)) rfl (pa_cons (pv 4) pa_nil)))
      (pss_cons (ps_if (pt_cmpR op_isN (pv 5) pe_non (nomark _)) (pss_one (ps_ret (pe_lst (pa_cons (pe_gint rfl C.NO_ROWS) pa_nil)))) pss_nil)
      (pss_one (ps_ret (pe_fx F_with_length (hr.mono (by decide)) rfl (pa_cons (pe_fx F_table_of (hr.mono (by decide)) rfl (pa_cons (pv 5) (pa_cons (pv 0) (pa_cons (pv 1) (pa_cons (pv 2) pa_nil))))) (pa_cons (pv 3) pa_nil)))))))), ?_⟩
    unfold makeAns at q
    refine ⟨_, rfl, a, _, rfl, .inl ha, _, rfl, _, rfl, ?_⟩
    have c1 : (decide ((0 : Int) ≤ (((vb rows).length : Nat) : Int)) && decide ((((vb rows).length : Nat) : Int) ≤ 16777216)) = true := by
      rw [vb_length, decide_eq_true (by omega), decide_eq_true (by omega)]
      rfl
    rw [c1]
    refine iteT ?_
    refine ⟨_, rfl, most, rfl, _, rfl, ?_⟩
    have bad : (Sv13.within most 0 Sv13.SIZE && Sv13.good iv bl bits) = false → ∀ l, H l = none → Q (.ref l) (upd H l (.lst [.int (-2)])) := fun hz l hl => by
      rw [if_pos hz] at q
      exact q l _ (Same.new (Same.refl H) hl) hl upd_same
    cases hm : (decide ((0 : Int) ≤ most) && decide (most ≤ 16777216)) with
    | false =>
      have hm' : Sv13.within most 0 Sv13.SIZE = false := hm
      refine iteF (iteT ⟨(by show 1 ≤ sizeLine; decide), fun l hl => bad (by rw [hm']; rfl) l hl⟩)
    | true =>
      have hm' : Sv13.within most 0 Sv13.SIZE = true := hm
      refine iteT ⟨_, rfl, _, rfl, _, rfl, iv, bl, bits, rfl, _, rfl, ?_⟩
      cases hg : Sv13.good iv bl bits with
      | false => exact iteT ⟨(by show 1 ≤ sizeLine; decide), fun l hl => bad (by rw [hg, Bool.and_false]) l hl⟩
      | true =>
        rw [hm', hg] at q
        rw [if_neg (by decide)] at q
        refine iteF ?_
        have hgg : (decide (1 ≤ iv) && decide (iv ≤ 64) && ((decide (64 ≤ bl) && decide (bl ≤ 65536)) && (decide (0 ≤ bits) && decide (bits ≤ 20)))) = true := hg
        simp only [Bool.and_eq_true, decide_eq_true_eq] at hgg
        obtain ⟨⟨i1, i2⟩, ⟨b1, b2⟩, f1, f2⟩ := hgg
        refine ⟨_, rfl, a, rows, rfl, ha, hby, by omega, fun hnone H1 s1 => ?_, fun l hsome hwt hlb lE ts H1 s1 hlE hE hes => ?_⟩
        · rw [hnone] at q
          refine ⟨_, rfl, rfl, _, rfl, ?_⟩
          refine iteT ⟨(by show 1 ≤ sizeLine; decide), fun l hl => ?_⟩
          exact q l _ (s1.trans (Same.new (Same.refl _) hl)) (s1.free hl) upd_same
        · rw [hsome] at q
          dsimp only at q
          refine ⟨_, rfl, rfl, _, rfl, ?_⟩
          refine iteF ?_
          have e1 : ((iv.toNat : Nat) : Int) = iv := Int.toNat_of_nonneg (by omega)
          have e2 : ((bl.toNat : Nat) : Int) = bl := Int.toNat_of_nonneg (by omega)
          have e3 : ((bits.toNat : Nat) : Int) = bits := Int.toNat_of_nonneg (by omega)
          refine ⟨_, rfl, _, rfl, _, rfl, _, rfl, lE, ts, l, iv.toNat, bl.toNat, bits.toNat, ?_, SqL.of hE, hes, by omega, by omega, by omega, hlb, fun htl lT H2 s2 hlT hT => ?_⟩
          · show [V.ref lE, V.int iv, V.int bl, V.int bits] = _
            rw [e1, e2, e3]
          · generalize My.tableM iv.toNat bl.toNat bits.toNat l = tb at htl hT q
            refine ⟨_, rfl, lT, tb, most, rfl, hT, htl, fun l3 H3 s3 hl3 h3 => ?_⟩
            refine q l3 H3 ((s1.trans s2).trans s3) ((s1.trans s2).free hl3) ?_
            rw [h3]
            by_cases hc : most < (tb.length : Int)
            · rw [if_pos hc, if_pos hc]
              rfl
            · rw [if_neg hc, if_neg hc, List.map_cons, ← vb_ints]
end
end KL

set_option Elab.async false
set_option linter.all false
set_option maxRecDepth 100000
namespace KL
open PySem PySem.W PyProof.Rows L2
theorem def_mk {K : Frag} {h : Heap} {mg : Str → Option Value} {x : Str} {st : Stmt} {f : Addr} {oc : Value} {od an : Option Addr} {osl : Array (Option Value)} {kV doc pm cdv ct : Value} (X : K.In h) (G : h.Ns mainGlobals mg)
    (a : nsIn K mainGlobals x = some (some (.ref f))) (l : K.lookup f = some ⟨oc, od, .func (fnOf x x (defArgs st) (defBody st) (defScope st) .none kV doc pm an cdv ct), osl⟩) (c : codeIn K cdv x = true) (k : keepIn K (.ref f) = true) : DefAt K mg x st :=
  ⟨f, _, mg_of X G a, fun_mk l c k⟩
theorem int_mk {K : Frag} {h : Heap} {mg : Str → Option Value} {x : Str} {i : Int} {t : Tok} (X : K.In h) (G : h.Ns mainGlobals mg) (a : nsIn K mainGlobals x = some (some (.int i t))) : ∃ t, mg x = some (.int i t) := ⟨t, mg_of X G a⟩
theorem rem_mk {K : Frag} {h : Heap} {mg : Str → Option Value} {r : Addr} {od : Option Addr} {n : Nat} {sl : Array (Option Value)} {t0 t1 t2 t3 t4 t5 t6 t7 t8 t9 t10 t11 t12 t13 t14 t15 : Tok} (X : K.In h) (G : h.Ns mainGlobals mg) (a : nsIn K mainGlobals "REMAINDERS" = some (some (.ref r)))
    (l : K.lookup r = some ⟨.type "tuple", od, .seq #[.int 0 t0, .int 274646895 t1, .int 549293790 t2, .int 820201905 t3, .int 1098587580 t4, .int 1361435347 t5, .int 1640403810 t6, .int 1905808397 t7, .int 2197175160 t8, .int 2460548119 t9, .int 2722870694 t10, .int 2987750089 t11, .int 3280807620 t12, .int 3553878443 t13, .int 3811616794 t14, .int 4084100981 t15] n, sl⟩) :
    ∃ a, mg "REMAINDERS" = some (.ref a) ∧ ∀ H, SqT K H a (vb My.tab) := by
  refine ⟨r, mg_of X G a, fun H => .inr ⟨_, _, _, l, rfl, rfl, by show 16 ≤ sizeLine; decide, ?_⟩⟩
  exact .cons ⟨_, rfl⟩ (.cons ⟨_, rfl⟩ (.cons ⟨_, rfl⟩ (.cons ⟨_, rfl⟩ (.cons ⟨_, rfl⟩ (.cons ⟨_, rfl⟩ (.cons ⟨_, rfl⟩ (.cons ⟨_, rfl⟩ (.cons ⟨_, rfl⟩ (.cons ⟨_, rfl⟩ (.cons ⟨_, rfl⟩ (.cons ⟨_, rfl⟩ (.cons ⟨_, rfl⟩ (.cons ⟨_, rfl⟩ (.cons ⟨_, rfl⟩ (.cons ⟨_, rfl⟩ .nil)))))))))))))))
theorem make_ans {iv bl bits most : Int} {ns : List Int} (hl : ns.length ≤ 100000) : PySv13.make iv bl bits most ns = makeAns iv bl bits most (ns.map Int.toNat) := by
  have hw : Sv13.within (ns.length : Int) 0 Sv13.SIZE = true := by
    unfold Sv13.within
    have h1 : (0 : Int) ≤ (ns.length : Int) := by omega
    have h2 : (ns.length : Int) ≤ Sv13.SIZE := by
      show (ns.length : Int) ≤ 16777216
      omega
    rw [decide_eq_true h1, decide_eq_true h2]
    rfl
  have hf : ∀ x : Sv13.Ans, Sv13.does (.make (ns.map Int.toNat) (ns.length : Int) iv bl bits most) = x → PySv13.make iv bl bits most ns = x.v :: (Sv13Neutral.ints x.b ++ Sv13Neutral.ints x.next.toList) := by
    intro x hx
    rw [← hx]
    rfl
  generalize hr : ns.map Int.toNat = rows at hf
  unfold makeAns
  have hd : Sv13.does (.make rows (ns.length : Int) iv bl bits most) = (if (Sv13.within (ns.length : Int) 0 Sv13.SIZE && (Sv13.within most 0 Sv13.SIZE && Sv13.good iv bl bits)) = false then Sv13.ok (-2) else match Sv13.rowsOf (rows.length + 1) rows with
    | none => Sv13.ok (-4)
    | some l => if Sv13.rising (l.map fun e => e.1) = false then Sv13.ok (-4) else Sv13.fits most (Sv13.make (Sv13.options iv bl bits) l)) := rfl
  rw [hw, Bool.true_and] at hd
  by_cases hg : (Sv13.within most 0 Sv13.SIZE && Sv13.good iv bl bits) = false
  · rw [if_pos hg] at hd
    rw [if_pos hg, hf _ hd]
    rfl
  · rw [if_neg hg] at hd
    rw [if_neg hg]
    unfold My.entriesM
    cases hro : Sv13.rowsOf (rows.length + 1) rows with
    | none =>
      rw [hro] at hd
      rw [hf _ hd]
      rfl
    | some l =>
      rw [hro] at hd
      dsimp only at hd
      by_cases hri : Sv13.rising (l.map fun e => e.1) = false
      · rw [if_pos hri] at hd
        rw [hf _ hd]
        show _ = (match (if Sv13.rising (l.map fun e => e.1) = false then none else some l) with
          | none => [-4]
          | some l => _)
        rw [if_pos hri]
        rfl
      · rw [if_neg hri] at hd
        show _ = (match (if Sv13.rising (l.map fun e => e.1) = false then none else some l) with
          | none => [-4]
          | some l => _)
        rw [if_neg hri]
        dsimp only
        have hiv : 0 < (Sv13.options iv bl bits).interval := by
          have hg' : (Sv13.within most 0 Sv13.SIZE && Sv13.good iv bl bits) = true := by
            cases z : (Sv13.within most 0 Sv13.SIZE && Sv13.good iv bl bits) with
            | true => rfl
            | false => exact absurd z hg
          have h1 := (Bool.and_eq_true_iff.mp hg').2
          have h2 : (decide (1 ≤ iv) && decide (iv ≤ 64) && ((decide (64 ≤ bl) && decide (bl ≤ 65536)) && (decide (0 ≤ bits) && decide (bits ≤ 20)))) = true := h1
          simp only [Bool.and_eq_true, decide_eq_true_eq] at h2
          show 0 < iv.toNat
          omega
        rw [My.make_eq hiv] at hd
        have eo : My.tableM (Sv13.options iv bl bits).interval (Sv13.options iv bl bits).block (Sv13.options iv bl bits).bits l = My.tableM iv.toNat bl.toNat bits.toNat l := rfl
        rw [eo] at hd
        generalize My.tableM iv.toNat bl.toNat bits.toNat l = tb at hd
        have hft : Sv13.fits most tb = if most < (tb.length : Int) then Sv13.ok (-7) else ⟨tb.length, tb, none⟩ := rfl
        rw [hft] at hd
        by_cases hc : most < (tb.length : Int)
        · rw [if_pos hc] at hd
          rw [if_pos hc, hf _ hd]
          rfl
        · rw [if_neg hc] at hd
          rw [if_neg hc, hf _ hd]
          show (tb.length : Int) :: (Sv13Neutral.ints tb ++ []) = _
          rw [List.append_nil]
          rfl
theorem args02 (args : List WData) (hpre : PySem.Challenge.rw_keylogs_s02_make.pre args = true) : ∃ (iv bl bits most : Int) (rows : List Nat), args = [Arg.int iv, Arg.int bl, Arg.int bits, Arg.int most, Arg.nums (rows.map fun n : Nat => (n : Int))].map Arg.data ∧ rows.length ≤ 100000 ∧ isByte rows ∧ PySem.Challenge.rw_keylogs_s02_make.post args (.list ((makeAns iv bl bits most rows).map WData.int)) = true := by
  obtain ⟨⟨iv, bl, bits, most, ns, u⟩, e, _⟩ := os_pre_some hpre
  obtain ⟨d, ds, rfl, e1, g1⟩ := dec_cons e
  obtain ⟨d2, ds2, rfl, e2, g2⟩ := dec_cons g1
  obtain ⟨d3, ds3, rfl, e3, g3⟩ := dec_cons g2
  obtain ⟨d4, ds4, rfl, e4, g4⟩ := dec_cons g3
  obtain ⟨d5, ds5, rfl, e5, g5⟩ := dec_cons g4
  obtain rfl := dec_nil g5
  obtain ⟨rfl, _⟩ := dec_int e1
  obtain ⟨rfl, _⟩ := dec_int e2
  obtain ⟨rfl, _⟩ := dec_int e3
  obtain ⟨rfl, _⟩ := dec_int e4
  obtain ⟨rfl, b3, b4⟩ := dec_list e5
  have hn : (ns.map Int.toNat).map (fun n : Nat => (n : Int)) = ns := by
    rw [List.map_map]
    conv => rhs; rw [← List.map_id ns]
    refine List.map_congr_left fun x hx => ?_
    exact Int.toNat_of_nonneg (b4 x hx).1
  refine ⟨iv, bl, bits, most, ns.map Int.toNat, ?_, by rw [List.length_map]; exact b3, ?_, ?_⟩
  · rw [hn]
    rfl
  · intro x hx
    obtain ⟨y, hy, rfl⟩ := List.mem_map.mp hx
    have h1 := (b4 y hy).2
    have h2 := (b4 y hy).1
    have h1' : y ≤ 255 := h1
    have h2' : 0 ≤ y := h2
    omega
  · refine post_list e ?_
    show WData.list ((PySv13.make iv bl bits most ns).map WData.int) = WData.list _
    rw [make_ans b3]
theorem all02 {P : Program} {w : World} {K : Frag} {h : Heap} {mg : Str → Option Value} (X : K.In h) (G : h.Ns mainGlobals mg)
    {f_with_length : Addr} {od_with_length an_with_length : Option Addr} {sl_with_length : Array (Option Value)} {oc_with_length kV_with_length dc_with_length pm_with_length cd_with_length ct_with_length : Value}
    {f_sum_from : Addr} {od_sum_from an_sum_from : Option Addr} {sl_sum_from : Array (Option Value)} {oc_sum_from kV_sum_from dc_sum_from pm_sum_from cd_sum_from ct_sum_from : Value}
    {f_masked : Addr} {od_masked an_masked : Option Addr} {sl_masked : Array (Option Value)} {oc_masked kV_masked dc_masked pm_masked cd_masked ct_masked : Value}
    {f_within : Addr} {od_within an_within : Option Addr} {sl_within : Array (Option Value)} {oc_within kV_within dc_within pm_within cd_within ct_within : Value}
    {f_is_length : Addr} {od_is_length an_is_length : Option Addr} {sl_is_length : Array (Option Value)} {oc_is_length kV_is_length dc_is_length pm_is_length cd_is_length ct_is_length : Value}
    {f_is_shape : Addr} {od_is_shape an_is_shape : Option Addr} {sl_is_shape : Array (Option Value)} {oc_is_shape kV_is_shape dc_is_shape pm_is_shape cd_is_shape ct_is_shape : Value}
    {f_shared_length : Addr} {od_shared_length an_shared_length : Option Addr} {sl_shared_length : Array (Option Value)} {oc_shared_length kV_shared_length dc_shared_length pm_shared_length cd_shared_length ct_shared_length : Value}
    {f_key_between : Addr} {od_key_between an_key_between : Option Addr} {sl_key_between : Array (Option Value)} {oc_key_between kV_key_between dc_key_between pm_key_between cd_key_between ct_key_between : Value}
    {f_key_behind : Addr} {od_key_behind an_key_behind : Option Addr} {sl_key_behind : Array (Option Value)} {oc_key_behind kV_key_behind dc_key_behind pm_key_behind cd_key_behind ct_key_behind : Value}
    {f_fixed : Addr} {od_fixed an_fixed : Option Addr} {sl_fixed : Array (Option Value)} {oc_fixed kV_fixed dc_fixed pm_fixed cd_fixed ct_fixed : Value}
    {f_number_at : Addr} {od_number_at an_number_at : Option Addr} {sl_number_at : Array (Option Value)} {oc_number_at kV_number_at dc_number_at pm_number_at cd_number_at ct_number_at : Value}
    {f_varint : Addr} {od_varint an_varint : Option Addr} {sl_varint : Array (Option Value)} {oc_varint kV_varint dc_varint pm_varint cd_varint ct_varint : Value}
    {f_append_block : Addr} {od_append_block an_append_block : Option Addr} {sl_append_block : Array (Option Value)} {oc_append_block kV_append_block dc_append_block pm_append_block cd_append_block ct_append_block : Value}
    {f_key_hash : Addr} {od_key_hash an_key_hash : Option Addr} {sl_key_hash : Array (Option Value)} {oc_key_hash kV_key_hash dc_key_hash pm_key_hash cd_key_hash ct_key_hash : Value}
    {f_bit_places : Addr} {od_bit_places an_bit_places : Option Addr} {sl_bit_places : Array (Option Value)} {oc_bit_places kV_bit_places dc_bit_places pm_bit_places cd_bit_places ct_bit_places : Value}
    {f_probes_for : Addr} {od_probes_for an_probes_for : Option Addr} {sl_probes_for : Array (Option Value)} {oc_probes_for kV_probes_for dc_probes_for pm_probes_for cd_probes_for ct_probes_for : Value}
    {f_piece_of : Addr} {od_piece_of an_piece_of : Option Addr} {sl_piece_of : Array (Option Value)} {oc_piece_of kV_piece_of dc_piece_of pm_piece_of cd_piece_of ct_piece_of : Value}
    {f_keys_by_piece : Addr} {od_keys_by_piece an_keys_by_piece : Option Addr} {sl_keys_by_piece : Array (Option Value)} {oc_keys_by_piece kV_keys_by_piece dc_keys_by_piece pm_keys_by_piece cd_keys_by_piece ct_keys_by_piece : Value}
    {f_filter_of : Addr} {od_filter_of an_filter_of : Option Addr} {sl_filter_of : Array (Option Value)} {oc_filter_of kV_filter_of dc_filter_of pm_filter_of cd_filter_of ct_filter_of : Value}
    {f_data_blocks : Addr} {od_data_blocks an_data_blocks : Option Addr} {sl_data_blocks : Array (Option Value)} {oc_data_blocks kV_data_blocks dc_data_blocks pm_data_blocks cd_data_blocks ct_data_blocks : Value}
    {f_index_keys : Addr} {od_index_keys an_index_keys : Option Addr} {sl_index_keys : Array (Option Value)} {oc_index_keys kV_index_keys dc_index_keys pm_index_keys cd_index_keys ct_index_keys : Value}
    {f_index_content : Addr} {od_index_content an_index_content : Option Addr} {sl_index_content : Array (Option Value)} {oc_index_content kV_index_content dc_index_content pm_index_content cd_index_content ct_index_content : Value}
    {f_table_end : Addr} {od_table_end an_table_end : Option Addr} {sl_table_end : Array (Option Value)} {oc_table_end kV_table_end dc_table_end pm_table_end cd_table_end ct_table_end : Value}
    {f_table_of : Addr} {od_table_of an_table_of : Option Addr} {sl_table_of : Array (Option Value)} {oc_table_of kV_table_of dc_table_of pm_table_of cd_table_of ct_table_of : Value}
    {f_entries_of : Addr} {od_entries_of an_entries_of : Option Addr} {sl_entries_of : Array (Option Value)} {oc_entries_of kV_entries_of dc_entries_of pm_entries_of cd_entries_of ct_entries_of : Value}
    {f_make : Addr} {od_make an_make : Option Addr} {sl_make : Array (Option Value)} {oc_make kV_make dc_make pm_make cd_make ct_make : Value}
    {Cw : Addr}
    {f_Winit : Addr} {od_Winit an_Winit : Option Addr} {sl_Winit : Array (Option Value)} {oc_Winit kV_Winit dc_Winit pm_Winit cd_Winit ct_Winit : Value}
    {f_Wput : Addr} {od_Wput an_Wput : Option Addr} {sl_Wput : Array (Option Value)} {oc_Wput kV_Wput dc_Wput pm_Wput cd_Wput ct_Wput : Value}
    {f_Wsize : Addr} {od_Wsize an_Wsize : Option Addr} {sl_Wsize : Array (Option Value)} {oc_Wsize kV_Wsize dc_Wsize pm_Wsize cd_Wsize ct_Wsize : Value}
    {f_Wcontent : Addr} {od_Wcontent an_Wcontent : Option Addr} {sl_Wcontent : Array (Option Value)} {oc_Wcontent kV_Wcontent dc_Wcontent pm_Wcontent cd_Wcontent ct_Wcontent : Value}
    {t_OUT_OF_RANGE t_NO_ROWS t_TOO_LONG t_ALL_ONES t_MASK_ADDEND t_LONGEST t_STRETCH_BITS t_STRETCH t_WORD t_HASH_BEGIN t_HASH_FACTOR t_KEY_WIDTH t_VALUE_WIDTH t_HANDLES_WIDTH t_MAGIC : Tok}
    {rem : Addr} {od_rem : Option Addr} {n_rem : Nat} {sl_rem : Array (Option Value)} {r0 r1 r2 r3 r4 r5 r6 r7 r8 r9 r10 r11 r12 r13 r14 r15 : Tok} {tFN : Tok}
    (a_with_length : nsIn K mainGlobals "with_length" = some (some (.ref f_with_length)))
    (l_with_length : K.lookup f_with_length = some ⟨oc_with_length, od_with_length, .func (fnOf "with_length" "with_length" (defArgs s_with_length) (defBody s_with_length) (defScope s_with_length) .none kV_with_length dc_with_length pm_with_length an_with_length cd_with_length ct_with_length), sl_with_length⟩)
    (c_with_length : codeIn K cd_with_length "with_length" = true)
    (k_with_length : keepIn K (.ref f_with_length) = true)
    (a_sum_from : nsIn K mainGlobals "sum_from" = some (some (.ref f_sum_from)))
    (l_sum_from : K.lookup f_sum_from = some ⟨oc_sum_from, od_sum_from, .func (fnOf "sum_from" "sum_from" (defArgs s_sum_from) (defBody s_sum_from) (defScope s_sum_from) .none kV_sum_from dc_sum_from pm_sum_from an_sum_from cd_sum_from ct_sum_from), sl_sum_from⟩)
    (c_sum_from : codeIn K cd_sum_from "sum_from" = true)
    (k_sum_from : keepIn K (.ref f_sum_from) = true)
    (a_masked : nsIn K mainGlobals "masked" = some (some (.ref f_masked)))
    (l_masked : K.lookup f_masked = some ⟨oc_masked, od_masked, .func (fnOf "masked" "masked" (defArgs s_masked) (defBody s_masked) (defScope s_masked) .none kV_masked dc_masked pm_masked an_masked cd_masked ct_masked), sl_masked⟩)
    (c_masked : codeIn K cd_masked "masked" = true)
    (k_masked : keepIn K (.ref f_masked) = true)
    (a_within : nsIn K mainGlobals "within" = some (some (.ref f_within)))
    (l_within : K.lookup f_within = some ⟨oc_within, od_within, .func (fnOf "within" "within" (defArgs s_within) (defBody s_within) (defScope s_within) .none kV_within dc_within pm_within an_within cd_within ct_within), sl_within⟩)
    (c_within : codeIn K cd_within "within" = true)
    (k_within : keepIn K (.ref f_within) = true)
    (a_is_length : nsIn K mainGlobals "is_length" = some (some (.ref f_is_length)))
    (l_is_length : K.lookup f_is_length = some ⟨oc_is_length, od_is_length, .func (fnOf "is_length" "is_length" (defArgs s_is_length) (defBody s_is_length) (defScope s_is_length) .none kV_is_length dc_is_length pm_is_length an_is_length cd_is_length ct_is_length), sl_is_length⟩)
    (c_is_length : codeIn K cd_is_length "is_length" = true)
    (k_is_length : keepIn K (.ref f_is_length) = true)
    (a_is_shape : nsIn K mainGlobals "is_shape" = some (some (.ref f_is_shape)))
    (l_is_shape : K.lookup f_is_shape = some ⟨oc_is_shape, od_is_shape, .func (fnOf "is_shape" "is_shape" (defArgs s_is_shape) (defBody s_is_shape) (defScope s_is_shape) .none kV_is_shape dc_is_shape pm_is_shape an_is_shape cd_is_shape ct_is_shape), sl_is_shape⟩)
    (c_is_shape : codeIn K cd_is_shape "is_shape" = true)
    (k_is_shape : keepIn K (.ref f_is_shape) = true)
    (a_shared_length : nsIn K mainGlobals "shared_length" = some (some (.ref f_shared_length)))
    (l_shared_length : K.lookup f_shared_length = some ⟨oc_shared_length, od_shared_length, .func (fnOf "shared_length" "shared_length" (defArgs s_shared_length) (defBody s_shared_length) (defScope s_shared_length) .none kV_shared_length dc_shared_length pm_shared_length an_shared_length cd_shared_length ct_shared_length), sl_shared_length⟩)
    (c_shared_length : codeIn K cd_shared_length "shared_length" = true)
    (k_shared_length : keepIn K (.ref f_shared_length) = true)
    (a_key_between : nsIn K mainGlobals "key_between" = some (some (.ref f_key_between)))
    (l_key_between : K.lookup f_key_between = some ⟨oc_key_between, od_key_between, .func (fnOf "key_between" "key_between" (defArgs s_key_between) (defBody s_key_between) (defScope s_key_between) .none kV_key_between dc_key_between pm_key_between an_key_between cd_key_between ct_key_between), sl_key_between⟩)
    (c_key_between : codeIn K cd_key_between "key_between" = true)
    (k_key_between : keepIn K (.ref f_key_between) = true)
    (a_key_behind : nsIn K mainGlobals "key_behind" = some (some (.ref f_key_behind)))
    (l_key_behind : K.lookup f_key_behind = some ⟨oc_key_behind, od_key_behind, .func (fnOf "key_behind" "key_behind" (defArgs s_key_behind) (defBody s_key_behind) (defScope s_key_behind) .none kV_key_behind dc_key_behind pm_key_behind an_key_behind cd_key_behind ct_key_behind), sl_key_behind⟩)
    (c_key_behind : codeIn K cd_key_behind "key_behind" = true)
    (k_key_behind : keepIn K (.ref f_key_behind) = true)
    (a_fixed : nsIn K mainGlobals "fixed" = some (some (.ref f_fixed)))
    (l_fixed : K.lookup f_fixed = some ⟨oc_fixed, od_fixed, .func (fnOf "fixed" "fixed" (defArgs s_fixed) (defBody s_fixed) (defScope s_fixed) .none kV_fixed dc_fixed pm_fixed an_fixed cd_fixed ct_fixed), sl_fixed⟩)
    (c_fixed : codeIn K cd_fixed "fixed" = true)
    (k_fixed : keepIn K (.ref f_fixed) = true)
    (a_number_at : nsIn K mainGlobals "number_at" = some (some (.ref f_number_at)))
    (l_number_at : K.lookup f_number_at = some ⟨oc_number_at, od_number_at, .func (fnOf "number_at" "number_at" (defArgs s_number_at) (defBody s_number_at) (defScope s_number_at) .none kV_number_at dc_number_at pm_number_at an_number_at cd_number_at ct_number_at), sl_number_at⟩)
    (c_number_at : codeIn K cd_number_at "number_at" = true)
    (k_number_at : keepIn K (.ref f_number_at) = true)
    (a_varint : nsIn K mainGlobals "varint" = some (some (.ref f_varint)))
    (l_varint : K.lookup f_varint = some ⟨oc_varint, od_varint, .func (fnOf "varint" "varint" (defArgs s_varint) (defBody s_varint) (defScope s_varint) .none kV_varint dc_varint pm_varint an_varint cd_varint ct_varint), sl_varint⟩)
    (c_varint : codeIn K cd_varint "varint" = true)
    (k_varint : keepIn K (.ref f_varint) = true)
    (a_append_block : nsIn K mainGlobals "append_block" = some (some (.ref f_append_block)))
    (l_append_block : K.lookup f_append_block = some ⟨oc_append_block, od_append_block, .func (fnOf "append_block" "append_block" (defArgs s_append_block) (defBody s_append_block) (defScope s_append_block) .none kV_append_block dc_append_block pm_append_block an_append_block cd_append_block ct_append_block), sl_append_block⟩)
    (c_append_block : codeIn K cd_append_block "append_block" = true)
    (k_append_block : keepIn K (.ref f_append_block) = true)
    (a_key_hash : nsIn K mainGlobals "key_hash" = some (some (.ref f_key_hash)))
    (l_key_hash : K.lookup f_key_hash = some ⟨oc_key_hash, od_key_hash, .func (fnOf "key_hash" "key_hash" (defArgs s_key_hash) (defBody s_key_hash) (defScope s_key_hash) .none kV_key_hash dc_key_hash pm_key_hash an_key_hash cd_key_hash ct_key_hash), sl_key_hash⟩)
    (c_key_hash : codeIn K cd_key_hash "key_hash" = true)
    (k_key_hash : keepIn K (.ref f_key_hash) = true)
    (a_bit_places : nsIn K mainGlobals "bit_places" = some (some (.ref f_bit_places)))
    (l_bit_places : K.lookup f_bit_places = some ⟨oc_bit_places, od_bit_places, .func (fnOf "bit_places" "bit_places" (defArgs s_bit_places) (defBody s_bit_places) (defScope s_bit_places) .none kV_bit_places dc_bit_places pm_bit_places an_bit_places cd_bit_places ct_bit_places), sl_bit_places⟩)
    (c_bit_places : codeIn K cd_bit_places "bit_places" = true)
    (k_bit_places : keepIn K (.ref f_bit_places) = true)
    (a_probes_for : nsIn K mainGlobals "probes_for" = some (some (.ref f_probes_for)))
    (l_probes_for : K.lookup f_probes_for = some ⟨oc_probes_for, od_probes_for, .func (fnOf "probes_for" "probes_for" (defArgs s_probes_for) (defBody s_probes_for) (defScope s_probes_for) .none kV_probes_for dc_probes_for pm_probes_for an_probes_for cd_probes_for ct_probes_for), sl_probes_for⟩)
    (c_probes_for : codeIn K cd_probes_for "probes_for" = true)
    (k_probes_for : keepIn K (.ref f_probes_for) = true)
    (a_piece_of : nsIn K mainGlobals "piece_of" = some (some (.ref f_piece_of)))
    (l_piece_of : K.lookup f_piece_of = some ⟨oc_piece_of, od_piece_of, .func (fnOf "piece_of" "piece_of" (defArgs s_piece_of) (defBody s_piece_of) (defScope s_piece_of) .none kV_piece_of dc_piece_of pm_piece_of an_piece_of cd_piece_of ct_piece_of), sl_piece_of⟩)
    (c_piece_of : codeIn K cd_piece_of "piece_of" = true)
    (k_piece_of : keepIn K (.ref f_piece_of) = true)
    (a_keys_by_piece : nsIn K mainGlobals "keys_by_piece" = some (some (.ref f_keys_by_piece)))
    (l_keys_by_piece : K.lookup f_keys_by_piece = some ⟨oc_keys_by_piece, od_keys_by_piece, .func (fnOf "keys_by_piece" "keys_by_piece" (defArgs s_keys_by_piece) (defBody s_keys_by_piece) (defScope s_keys_by_piece) .none kV_keys_by_piece dc_keys_by_piece pm_keys_by_piece an_keys_by_piece cd_keys_by_piece ct_keys_by_piece), sl_keys_by_piece⟩)
    (c_keys_by_piece : codeIn K cd_keys_by_piece "keys_by_piece" = true)
    (k_keys_by_piece : keepIn K (.ref f_keys_by_piece) = true)
    (a_filter_of : nsIn K mainGlobals "filter_of" = some (some (.ref f_filter_of)))
    (l_filter_of : K.lookup f_filter_of = some ⟨oc_filter_of, od_filter_of, .func (fnOf "filter_of" "filter_of" (defArgs s_filter_of) (defBody s_filter_of) (defScope s_filter_of) .none kV_filter_of dc_filter_of pm_filter_of an_filter_of cd_filter_of ct_filter_of), sl_filter_of⟩)
    (c_filter_of : codeIn K cd_filter_of "filter_of" = true)
    (k_filter_of : keepIn K (.ref f_filter_of) = true)
    (a_data_blocks : nsIn K mainGlobals "data_blocks" = some (some (.ref f_data_blocks)))
    (l_data_blocks : K.lookup f_data_blocks = some ⟨oc_data_blocks, od_data_blocks, .func (fnOf "data_blocks" "data_blocks" (defArgs s_data_blocks) (defBody s_data_blocks) (defScope s_data_blocks) .none kV_data_blocks dc_data_blocks pm_data_blocks an_data_blocks cd_data_blocks ct_data_blocks), sl_data_blocks⟩)
    (c_data_blocks : codeIn K cd_data_blocks "data_blocks" = true)
    (k_data_blocks : keepIn K (.ref f_data_blocks) = true)
    (a_index_keys : nsIn K mainGlobals "index_keys" = some (some (.ref f_index_keys)))
    (l_index_keys : K.lookup f_index_keys = some ⟨oc_index_keys, od_index_keys, .func (fnOf "index_keys" "index_keys" (defArgs s_index_keys) (defBody s_index_keys) (defScope s_index_keys) .none kV_index_keys dc_index_keys pm_index_keys an_index_keys cd_index_keys ct_index_keys), sl_index_keys⟩)
    (c_index_keys : codeIn K cd_index_keys "index_keys" = true)
    (k_index_keys : keepIn K (.ref f_index_keys) = true)
    (a_index_content : nsIn K mainGlobals "index_content" = some (some (.ref f_index_content)))
    (l_index_content : K.lookup f_index_content = some ⟨oc_index_content, od_index_content, .func (fnOf "index_content" "index_content" (defArgs s_index_content) (defBody s_index_content) (defScope s_index_content) .none kV_index_content dc_index_content pm_index_content an_index_content cd_index_content ct_index_content), sl_index_content⟩)
    (c_index_content : codeIn K cd_index_content "index_content" = true)
    (k_index_content : keepIn K (.ref f_index_content) = true)
    (a_table_end : nsIn K mainGlobals "table_end" = some (some (.ref f_table_end)))
    (l_table_end : K.lookup f_table_end = some ⟨oc_table_end, od_table_end, .func (fnOf "table_end" "table_end" (defArgs s_table_end) (defBody s_table_end) (defScope s_table_end) .none kV_table_end dc_table_end pm_table_end an_table_end cd_table_end ct_table_end), sl_table_end⟩)
    (c_table_end : codeIn K cd_table_end "table_end" = true)
    (k_table_end : keepIn K (.ref f_table_end) = true)
    (a_table_of : nsIn K mainGlobals "table_of" = some (some (.ref f_table_of)))
    (l_table_of : K.lookup f_table_of = some ⟨oc_table_of, od_table_of, .func (fnOf "table_of" "table_of" (defArgs s_table_of) (defBody s_table_of) (defScope s_table_of) .none kV_table_of dc_table_of pm_table_of an_table_of cd_table_of ct_table_of), sl_table_of⟩)
    (c_table_of : codeIn K cd_table_of "table_of" = true)
    (k_table_of : keepIn K (.ref f_table_of) = true)
    (a_entries_of : nsIn K mainGlobals "entries_of" = some (some (.ref f_entries_of)))
    (l_entries_of : K.lookup f_entries_of = some ⟨oc_entries_of, od_entries_of, .func (fnOf "entries_of" "entries_of" (defArgs s_entries_of) (defBody s_entries_of) (defScope s_entries_of) .none kV_entries_of dc_entries_of pm_entries_of an_entries_of cd_entries_of ct_entries_of), sl_entries_of⟩)
    (c_entries_of : codeIn K cd_entries_of "entries_of" = true)
    (k_entries_of : keepIn K (.ref f_entries_of) = true)
    (a_make : nsIn K mainGlobals "make" = some (some (.ref f_make)))
    (l_make : K.lookup f_make = some ⟨oc_make, od_make, .func (fnOf "make" "make" (defArgs s_make) (defBody s_make) (defScope s_make) .none kV_make dc_make pm_make an_make cd_make ct_make), sl_make⟩)
    (c_make : codeIn K cd_make "make" = true)
    (k_make : keepIn K (.ref f_make) = true)
    (aC : nsIn K mainGlobals "BlockWriter" = some (some (.ref Cw)))
    (a_Winit : findIn K (.ref Cw) "__init__" = some (some (.ref f_Winit)))
    (i_Winit : isFn K (.ref f_Winit) = true)
    (l_Winit : K.lookup f_Winit = some ⟨oc_Winit, od_Winit, .func (fnOf "__init__" "BlockWriter.__init__" (defArgs s_W_init) (defBody s_W_init) (defScope s_W_init) .none kV_Winit dc_Winit pm_Winit an_Winit cd_Winit ct_Winit), sl_Winit⟩)
    (c_Winit : codeIn K cd_Winit "BlockWriter.__init__" = true)
    (k_Winit : keepIn K (.ref f_Winit) = true)
    (a_Wput : findIn K (.ref Cw) "put" = some (some (.ref f_Wput)))
    (i_Wput : isFn K (.ref f_Wput) = true)
    (l_Wput : K.lookup f_Wput = some ⟨oc_Wput, od_Wput, .func (fnOf "put" "BlockWriter.put" (defArgs s_W_put) (defBody s_W_put) (defScope s_W_put) .none kV_Wput dc_Wput pm_Wput an_Wput cd_Wput ct_Wput), sl_Wput⟩)
    (c_Wput : codeIn K cd_Wput "BlockWriter.put" = true)
    (k_Wput : keepIn K (.ref f_Wput) = true)
    (a_Wsize : findIn K (.ref Cw) "size" = some (some (.ref f_Wsize)))
    (i_Wsize : isFn K (.ref f_Wsize) = true)
    (l_Wsize : K.lookup f_Wsize = some ⟨oc_Wsize, od_Wsize, .func (fnOf "size" "BlockWriter.size" (defArgs s_W_size) (defBody s_W_size) (defScope s_W_size) .none kV_Wsize dc_Wsize pm_Wsize an_Wsize cd_Wsize ct_Wsize), sl_Wsize⟩)
    (c_Wsize : codeIn K cd_Wsize "BlockWriter.size" = true)
    (k_Wsize : keepIn K (.ref f_Wsize) = true)
    (a_Wcontent : findIn K (.ref Cw) "content" = some (some (.ref f_Wcontent)))
    (i_Wcontent : isFn K (.ref f_Wcontent) = true)
    (l_Wcontent : K.lookup f_Wcontent = some ⟨oc_Wcontent, od_Wcontent, .func (fnOf "content" "BlockWriter.content" (defArgs s_W_content) (defBody s_W_content) (defScope s_W_content) .none kV_Wcontent dc_Wcontent pm_Wcontent an_Wcontent cd_Wcontent ct_Wcontent), sl_Wcontent⟩)
    (c_Wcontent : codeIn K cd_Wcontent "BlockWriter.content" = true)
    (k_Wcontent : keepIn K (.ref f_Wcontent) = true)
    (pgC : plainGet K Cw Str.empty = true)
    (hdC : hasDictIn K Cw = true)
    (poC : plainOver K Cw = true)
    (saC : findIn K (.ref Cw) "__setattr__" = some (some (.builtin "object.__setattr__")))
    (mkC : makesIn K Cw = true)
    (kcC : keepIn K (.ref Cw) = true)
    (n_I : findIn K (.ref Cw) "interval" = some none)
    (n_B : findIn K (.ref Cw) "body" = some none)
    (n_R : findIn K (.ref Cw) "restarts" = some none)
    (n_E : findIn K (.ref Cw) "entries" = some none)
    (n_L : findIn K (.ref Cw) "last_key" = some none)
    (g_OUT_OF_RANGE : nsIn K mainGlobals "OUT_OF_RANGE" = some (some (.int (-2) t_OUT_OF_RANGE)))
    (g_NO_ROWS : nsIn K mainGlobals "NO_ROWS" = some (some (.int (-4) t_NO_ROWS)))
    (g_TOO_LONG : nsIn K mainGlobals "TOO_LONG" = some (some (.int (-7) t_TOO_LONG)))
    (g_ALL_ONES : nsIn K mainGlobals "ALL_ONES" = some (some (.int 4294967295 t_ALL_ONES)))
    (g_MASK_ADDEND : nsIn K mainGlobals "MASK_ADDEND" = some (some (.int 2726488792 t_MASK_ADDEND)))
    (g_LONGEST : nsIn K mainGlobals "LONGEST" = some (some (.int 16777216 t_LONGEST)))
    (g_STRETCH_BITS : nsIn K mainGlobals "STRETCH_BITS" = some (some (.int 11 t_STRETCH_BITS)))
    (g_STRETCH : nsIn K mainGlobals "STRETCH" = some (some (.int 2048 t_STRETCH)))
    (g_WORD : nsIn K mainGlobals "WORD" = some (some (.int 4294967295 t_WORD)))
    (g_HASH_BEGIN : nsIn K mainGlobals "HASH_BEGIN" = some (some (.int 3164544308 t_HASH_BEGIN)))
    (g_HASH_FACTOR : nsIn K mainGlobals "HASH_FACTOR" = some (some (.int 3332679571 t_HASH_FACTOR)))
    (g_KEY_WIDTH : nsIn K mainGlobals "KEY_WIDTH" = some (some (.int 2 t_KEY_WIDTH)))
    (g_VALUE_WIDTH : nsIn K mainGlobals "VALUE_WIDTH" = some (some (.int 4 t_VALUE_WIDTH)))
    (g_HANDLES_WIDTH : nsIn K mainGlobals "HANDLES_WIDTH" = some (some (.int 40 t_HANDLES_WIDTH)))
    (g_MAGIC : nsIn K mainGlobals "MAGIC" = some (some (.int 15800726617472432983 t_MAGIC)))
    (gr1 : nsIn K mainGlobals "REMAINDERS" = some (some (.ref rem)))
    (gr2 : K.lookup rem = some ⟨.type "tuple", od_rem, .seq #[.int 0 r0, .int 274646895 r1, .int 549293790 r2, .int 820201905 r3, .int 1098587580 r4, .int 1361435347 r5, .int 1640403810 r6, .int 1905808397 r7, .int 2197175160 r8, .int 2460548119 r9, .int 2722870694 r10, .int 2987750089 r11, .int 3280807620 r12, .int 3553878443 r13, .int 3811616794 r14, .int 4084100981 r15] n_rem, sl_rem⟩)
    (gfn : nsIn K mainGlobals "FILTER_NAME" = some (some (.str "filter.leveldb.BuiltinBloomFilter2" tFN)))
    (z_len : nsIn K mainGlobals "len" = some none)
    (z_range : nsIn K mainGlobals "range" = some none)
    (z_zip : nsIn K mainGlobals "zip" = some none)
    (z_enumerate : nsIn K mainGlobals "enumerate" = some none)
    (z_list : nsIn K mainGlobals "list" = some none)
    (z_min : nsIn K mainGlobals "min" = some none)
    (z_max : nsIn K mainGlobals "max" = some none)
    (z_ord : nsIn K mainGlobals "ord" = some none)
    (base : Heap) : Fx P w K mg base "make" 7 ["interval", "block", "bits", "most", "rows"] (sp_make K) := by
  have C : Consts K mg := ⟨int_mk X G g_OUT_OF_RANGE, int_mk X G g_NO_ROWS, int_mk X G g_TOO_LONG, int_mk X G g_ALL_ONES, int_mk X G g_MASK_ADDEND, rem_mk X G gr1 gr2, int_mk X G g_LONGEST, int_mk X G g_STRETCH_BITS, int_mk X G g_STRETCH, int_mk X G g_WORD, int_mk X G g_HASH_BEGIN, int_mk X G g_HASH_FACTOR, int_mk X G g_KEY_WIDTH, int_mk X G g_VALUE_WIDTH, int_mk X G g_HANDLES_WIDTH, int_mk X G g_MAGIC, ⟨tFN, mg_of X G gfn⟩, mg_none_of X G z_len, mg_none_of X G z_range, mg_none_of X G z_zip, mg_none_of X G z_enumerate, mg_none_of X G z_list, mg_none_of X G z_min, mg_none_of X G z_max, mg_none_of X G z_ord⟩
  have D_with_length := def_mk (st := s_with_length) X G a_with_length l_with_length c_with_length k_with_length
  have D_sum_from := def_mk (st := s_sum_from) X G a_sum_from l_sum_from c_sum_from k_sum_from
  have D_masked := def_mk (st := s_masked) X G a_masked l_masked c_masked k_masked
  have D_within := def_mk (st := s_within) X G a_within l_within c_within k_within
  have D_is_length := def_mk (st := s_is_length) X G a_is_length l_is_length c_is_length k_is_length
  have D_is_shape := def_mk (st := s_is_shape) X G a_is_shape l_is_shape c_is_shape k_is_shape
  have D_shared_length := def_mk (st := s_shared_length) X G a_shared_length l_shared_length c_shared_length k_shared_length
  have D_key_between := def_mk (st := s_key_between) X G a_key_between l_key_between c_key_between k_key_between
  have D_key_behind := def_mk (st := s_key_behind) X G a_key_behind l_key_behind c_key_behind k_key_behind
  have D_fixed := def_mk (st := s_fixed) X G a_fixed l_fixed c_fixed k_fixed
  have D_number_at := def_mk (st := s_number_at) X G a_number_at l_number_at c_number_at k_number_at
  have D_varint := def_mk (st := s_varint) X G a_varint l_varint c_varint k_varint
  have D_append_block := def_mk (st := s_append_block) X G a_append_block l_append_block c_append_block k_append_block
  have D_key_hash := def_mk (st := s_key_hash) X G a_key_hash l_key_hash c_key_hash k_key_hash
  have D_bit_places := def_mk (st := s_bit_places) X G a_bit_places l_bit_places c_bit_places k_bit_places
  have D_probes_for := def_mk (st := s_probes_for) X G a_probes_for l_probes_for c_probes_for k_probes_for
  have D_piece_of := def_mk (st := s_piece_of) X G a_piece_of l_piece_of c_piece_of k_piece_of
  have D_keys_by_piece := def_mk (st := s_keys_by_piece) X G a_keys_by_piece l_keys_by_piece c_keys_by_piece k_keys_by_piece
  have D_filter_of := def_mk (st := s_filter_of) X G a_filter_of l_filter_of c_filter_of k_filter_of
  have D_data_blocks := def_mk (st := s_data_blocks) X G a_data_blocks l_data_blocks c_data_blocks k_data_blocks
  have D_index_keys := def_mk (st := s_index_keys) X G a_index_keys l_index_keys c_index_keys k_index_keys
  have D_index_content := def_mk (st := s_index_content) X G a_index_content l_index_content c_index_content k_index_content
  have D_table_end := def_mk (st := s_table_end) X G a_table_end l_table_end c_table_end k_table_end
  have D_table_of := def_mk (st := s_table_of) X G a_table_of l_table_of c_table_of k_table_of
  have D_entries_of := def_mk (st := s_entries_of) X G a_entries_of l_entries_of c_entries_of k_entries_of
  have D_make := def_mk (st := s_make) X G a_make l_make c_make k_make
  have T : WCls K mg Cw := ⟨⟨pgC, hdC, poC, saC⟩, n_I, n_B, n_R, n_E, n_L⟩
  have M0 : MakeAt K mg "BlockWriter" Cw "BlockWriter.__init__" s_W_init := ⟨_, _, mg_of X G aC, ⟨mkC, a_Winit, i_Winit, kcC⟩, fun_mk l_Winit c_Winit k_Winit⟩
  have M_put : MethAt K Cw "put" "BlockWriter.put" s_W_put := ⟨_, _, ⟨a_Wput, i_Wput, k_Wput⟩, fun_mk l_Wput c_Wput k_Wput⟩
  have M_size : MethAt K Cw "size" "BlockWriter.size" s_W_size := ⟨_, _, ⟨a_Wsize, i_Wsize, k_Wsize⟩, fun_mk l_Wsize c_Wsize k_Wsize⟩
  have M_content : MethAt K Cw "content" "BlockWriter.content" s_W_content := ⟨_, _, ⟨a_Wcontent, i_Wcontent, k_Wcontent⟩, fun_mk l_Wcontent c_Wcontent k_Wcontent⟩
  have F_within := fx_within (P := P) (w := w) (base := base) D_within
  have F_is_length := fx_is_length D_is_length C F_within
  have F_is_shape := fx_is_shape D_is_shape F_within
  have F_number_at := fx_number_at (P := P) (w := w) (base := base) D_number_at C
  have F_fixed := fx_fixed (P := P) (w := w) (base := base) D_fixed C
  have F_varint := fx_varint (P := P) (w := w) (base := base) D_varint C
  have F_masked := fx_masked (P := P) (w := w) (base := base) D_masked C
  have F_sum_from := fx_sum_from (P := P) (w := w) (base := base) D_sum_from C
  have F_shared_length := fx_shared_length (P := P) (w := w) (base := base) D_shared_length C
  have F_key_between := fx_key_between D_key_between C F_shared_length
  have F_key_behind := fx_key_behind (P := P) (w := w) (base := base) D_key_behind C
  have F_append_block := fx_append_block D_append_block C F_varint F_fixed F_masked F_sum_from
  have F_key_hash := fx_key_hash D_key_hash C F_number_at
  have F_bit_places := fx_bit_places D_bit_places C F_key_hash
  have F_probes_for := fx_probes_for (P := P) (w := w) (base := base) D_probes_for C
  have F_piece_of := fx_piece_of D_piece_of C F_probes_for F_bit_places
  have F_keys_by_piece := fx_keys_by_piece (P := P) (w := w) (base := base) D_keys_by_piece C
  have F_filter_of := fx_filter_of D_filter_of C F_keys_by_piece F_piece_of F_fixed
  have X_init := mx_W_init (P := P) (w := w) (base := base) M0 T
  have X_put := mx_W_put M_put T C F_shared_length F_varint
  have X_size := mx_W_size (P := P) (w := w) (base := base) M_size T C
  have X_content := mx_W_content M_content T C F_fixed
  have F_data_blocks := fx_data_blocks D_data_blocks C X_init X_put X_size X_content
  have F_index_keys := fx_index_keys D_index_keys C F_key_between F_key_behind
  have F_index_content := fx_index_content D_index_content C X_init X_put X_content F_index_keys
  have F_table_end := fx_table_end D_table_end C F_fixed
  have F_table_of := fx_table_of D_table_of C F_data_blocks F_append_block X_init X_put X_content F_filter_of F_index_content F_table_end
  have F_entries_of := fx_entries_of D_entries_of C F_number_at
  have F_with_length := fx_with_length (P := P) (w := w) (base := base) D_with_length C
  exact fx_make D_make C F_is_length F_is_shape F_entries_of F_table_of F_with_length
end KL
open PySem PySem.W PyProof.Rows
set_option maxRecDepth 100000 in
set_option maxHeartbeats 0 in
theorem PySem.Challenge.cw_keylogs_s02_make_holds : PySem.Challenge.rw_keylogs_s02_make.Holds := by
  w_on; k_headS; (case hw => exact ⟨[.int 0, .int 0, .int 0, .int 0, .list []], by decide +kernel, by decide +kernel⟩)
  k_fillS
  refine KL.walk_ofS (r := PySem.Challenge.rw_keylogs_s02_make) (k := 7) (ps := ["interval", "block", "bits", "most", "rows"]) (sp := KL.sp_make) rfl ⟨rfl, by decide, by decide⟩ (fun w h Y => PySem.W.kIn_of Y) ?A ?F
  case A =>
    intro args hpre
    obtain ⟨iv, bl, bits, most, rows, h1, h2, h3, h4⟩ := KL.args02 args hpre
    refine ⟨_, KL.makeAns iv bl bits most rows, h1, ?_, rfl, h4, ?_⟩
    · intro g hg
      simp only [List.mem_cons, List.not_mem_nil, or_false] at hg
      rcases hg with rfl | rfl | rfl | rfl | rfl
      · trivial
      · trivial
      · trivial
      · trivial
      · show (rows.map fun n : Nat => (n : Int)).length ≤ PySem.sizeLine
        rw [List.length_map]
        show rows.length ≤ 2 ^ 24
        omega
    · intro w H vs hO hp
      cases hp with
      | cons p1 hp =>
        cases hp with
        | cons p2 hp =>
          cases hp with
          | cons p3 hp =>
            cases hp with
            | cons p4 hp =>
              cases hp with
              | cons p5 hp =>
                cases hp
                cases p1
                cases p2
                cases p3
                cases p4
                obtain ⟨a, rfl, hS⟩ := p5
                refine ⟨iv, bl, bits, most, a, rows, rfl, ?_, h3, h2, fun l H' s hl h => ⟨l, rfl, .inl (.inl h)⟩⟩
                rw [List.map_map] at hS
                exact hS
  case F =>
    intro w mg h KX G base _ _
    refine' KL.all02 KX G ?a_with_length ?l_with_length ?c_with_length ?k_with_length ?a_sum_from ?l_sum_from ?c_sum_from ?k_sum_from ?a_masked ?l_masked ?c_masked ?k_masked ?a_within ?l_within ?c_within ?k_within ?a_is_length ?l_is_length ?c_is_length ?k_is_length ?a_is_shape ?l_is_shape ?c_is_shape ?k_is_shape ?a_shared_length ?l_shared_length ?c_shared_length ?k_shared_length ?a_key_between ?l_key_between ?c_key_between ?k_key_between ?a_key_behind ?l_key_behind ?c_key_behind ?k_key_behind ?a_fixed ?l_fixed ?c_fixed ?k_fixed ?a_number_at ?l_number_at ?c_number_at ?k_number_at ?a_varint ?l_varint ?c_varint ?k_varint ?a_append_block ?l_append_block ?c_append_block ?k_append_block ?a_key_hash ?l_key_hash ?c_key_hash ?k_key_hash ?a_bit_places ?l_bit_places ?c_bit_places ?k_bit_places ?a_probes_for ?l_probes_for ?c_probes_for ?k_probes_for ?a_piece_of ?l_piece_of ?c_piece_of ?k_piece_of ?a_keys_by_piece ?l_keys_by_piece ?c_keys_by_piece ?k_keys_by_piece ?a_filter_of ?l_filter_of ?c_filter_of ?k_filter_of ?a_data_blocks ?l_data_blocks ?c_data_blocks ?k_data_blocks ?a_index_keys ?l_index_keys ?c_index_keys ?k_index_keys ?a_index_content ?l_index_content ?c_index_content ?k_index_content ?a_table_end ?l_table_end ?c_table_end ?k_table_end ?a_table_of ?l_table_of ?c_table_of ?k_table_of ?a_entries_of ?l_entries_of ?c_entries_of ?k_entries_of ?a_make ?l_make ?c_make ?k_make ?aC ?a_Winit ?i_Winit ?l_Winit ?c_Winit ?k_Winit ?a_Wput ?i_Wput ?l_Wput ?c_Wput ?k_Wput ?a_Wsize ?i_Wsize ?l_Wsize ?c_Wsize ?k_Wsize ?a_Wcontent ?i_Wcontent ?l_Wcontent ?c_Wcontent ?k_Wcontent ?pgC ?hdC ?poC ?saC ?mkC ?kcC ?n_I ?n_B ?n_R ?n_E ?n_L ?g_OUT_OF_RANGE ?g_NO_ROWS ?g_TOO_LONG ?g_ALL_ONES ?g_MASK_ADDEND ?g_LONGEST ?g_STRETCH_BITS ?g_STRETCH ?g_WORD ?g_HASH_BEGIN ?g_HASH_FACTOR ?g_KEY_WIDTH ?g_VALUE_WIDTH ?g_HANDLES_WIDTH ?g_MAGIC ?gr1 ?gr2 ?gfn ?z_len ?z_range ?z_zip ?z_enumerate ?z_list ?z_min ?z_max ?z_ord base
    (case a_with_length => k_is)
    (case l_with_length => k_is)
    (case c_with_length => k_is)
    (case k_with_length => k_is)
    (case a_sum_from => k_is)
    (case l_sum_from => k_is)
    (case c_sum_from => k_is)
    (case k_sum_from => k_is)
    (case a_masked => k_is)
    (case l_masked => k_is)
    (case c_masked => k_is)
    (case k_masked => k_is)
    (case a_within => k_is)
    (case l_within => k_is)
    (case c_within => k_is)
    (case k_within => k_is)
    (case a_is_length => k_is)
    (case l_is_length => k_is)
    (case c_is_length => k_is)
    (case k_is_length => k_is)
    (case a_is_shape => k_is)
    (case l_is_shape => k_is)
    (case c_is_shape => k_is)
    (case k_is_shape => k_is)
    (case a_shared_length => k_is)
    (case l_shared_length => k_is)
    (case c_shared_length => k_is)
    (case k_shared_length => k_is)
    (case a_key_between => k_is)
    (case l_key_between => k_is)
    (case c_key_between => k_is)
    (case k_key_between => k_is)
    (case a_key_behind => k_is)
    (case l_key_behind => k_is)
    (case c_key_behind => k_is)
    (case k_key_behind => k_is)
    (case a_fixed => k_is)
    (case l_fixed => k_is)
    (case c_fixed => k_is)
    (case k_fixed => k_is)
    (case a_number_at => k_is)
    (case l_number_at => k_is)
    (case c_number_at => k_is)
    (case k_number_at => k_is)
    (case a_varint => k_is)
    (case l_varint => k_is)
    (case c_varint => k_is)
    (case k_varint => k_is)
    (case a_append_block => k_is)
    (case l_append_block => k_is)
    (case c_append_block => k_is)
    (case k_append_block => k_is)
    (case a_key_hash => k_is)
    (case l_key_hash => k_is)
    (case c_key_hash => k_is)
    (case k_key_hash => k_is)
    (case a_bit_places => k_is)
    (case l_bit_places => k_is)
    (case c_bit_places => k_is)
    (case k_bit_places => k_is)
    (case a_probes_for => k_is)
    (case l_probes_for => k_is)
    (case c_probes_for => k_is)
    (case k_probes_for => k_is)
    (case a_piece_of => k_is)
    (case l_piece_of => k_is)
    (case c_piece_of => k_is)
    (case k_piece_of => k_is)
    (case a_keys_by_piece => k_is)
    (case l_keys_by_piece => k_is)
    (case c_keys_by_piece => k_is)
    (case k_keys_by_piece => k_is)
    (case a_filter_of => k_is)
    (case l_filter_of => k_is)
    (case c_filter_of => k_is)
    (case k_filter_of => k_is)
    (case a_data_blocks => k_is)
    (case l_data_blocks => k_is)
    (case c_data_blocks => k_is)
    (case k_data_blocks => k_is)
    (case a_index_keys => k_is)
    (case l_index_keys => k_is)
    (case c_index_keys => k_is)
    (case k_index_keys => k_is)
    (case a_index_content => k_is)
    (case l_index_content => k_is)
    (case c_index_content => k_is)
    (case k_index_content => k_is)
    (case a_table_end => k_is)
    (case l_table_end => k_is)
    (case c_table_end => k_is)
    (case k_table_end => k_is)
    (case a_table_of => k_is)
    (case l_table_of => k_is)
    (case c_table_of => k_is)
    (case k_table_of => k_is)
    (case a_entries_of => k_is)
    (case l_entries_of => k_is)
    (case c_entries_of => k_is)
    (case k_entries_of => k_is)
    (case a_make => k_is)
    (case l_make => k_is)
    (case c_make => k_is)
    (case k_make => k_is)
    (case aC => k_is)
    (case a_Winit => k_is)
    (case i_Winit => k_is)
    (case l_Winit => k_is)
    (case c_Winit => k_is)
    (case k_Winit => k_is)
    (case a_Wput => k_is)
    (case i_Wput => k_is)
    (case l_Wput => k_is)
    (case c_Wput => k_is)
    (case k_Wput => k_is)
    (case a_Wsize => k_is)
    (case i_Wsize => k_is)
    (case l_Wsize => k_is)
    (case c_Wsize => k_is)
    (case k_Wsize => k_is)
    (case a_Wcontent => k_is)
    (case i_Wcontent => k_is)
    (case l_Wcontent => k_is)
    (case c_Wcontent => k_is)
    (case k_Wcontent => k_is)
    (case pgC => k_is)
    (case hdC => k_is)
    (case poC => k_is)
    (case saC => k_is)
    (case mkC => k_is)
    (case kcC => k_is)
    (case n_I => k_is)
    (case n_B => k_is)
    (case n_R => k_is)
    (case n_E => k_is)
    (case n_L => k_is)
    (case g_OUT_OF_RANGE => k_is)
    (case g_NO_ROWS => k_is)
    (case g_TOO_LONG => k_is)
    (case g_ALL_ONES => k_is)
    (case g_MASK_ADDEND => k_is)
    (case g_LONGEST => k_is)
    (case g_STRETCH_BITS => k_is)
    (case g_STRETCH => k_is)
    (case g_WORD => k_is)
    (case g_HASH_BEGIN => k_is)
    (case g_HASH_FACTOR => k_is)
    (case g_KEY_WIDTH => k_is)
    (case g_VALUE_WIDTH => k_is)
    (case g_HANDLES_WIDTH => k_is)
    (case g_MAGIC => k_is)
    (case gr1 => k_is)
    (case gr2 => k_is)
    (case gfn => k_is)
    (case z_len => k_is)
    (case z_range => k_is)
    (case z_zip => k_is)
    (case z_enumerate => k_is)
    (case z_list => k_is)
    (case z_min => k_is)
    (case z_max => k_is)
    (case z_ord => k_is)
#print axioms PySem.Challenge.cw_keylogs_s02_make_holds


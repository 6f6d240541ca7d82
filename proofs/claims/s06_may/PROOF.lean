import PyProof.Rows.All
import Wide.All
import OpenK.AllK
import Wide.FinOn
import PyProof.EqAt
import PyProof.EqKinds
import PyProof.NeKinds
import PyProof.TupleCall
import KE.BitLaws
import KE.OsGo
import PySem.Challenge.RW_keylogs_s06_may
set_option Elab.async false
set_option linter.all false
set_option maxRecDepth 100000
namespace L2
open PySem PySem.Spec PyProof.Rows
abbrev Key := Sum Int Str
def keyIs : Key → Value → Bool
  | .inl k, v => Value.isInt k v
  | .inr x, v => Value.isStrOf x v
def keyH (w : World) : Key → Int
  | .inl k => hashInt k
  | .inr x => hashStr w x
theorem keyIs_shape : ∀ {k : Key} {v : Value}, keyIs k v = true → (∃ i t, k = Sum.inl i ∧ v = Value.int i t) ∨ (∃ x t, k = Sum.inr x ∧ v = Value.str x t)
  | .inl i, v, h => by
    obtain ⟨t, e⟩ := Value.isInt_shape (k := i) (v := v) h
    exact .inl ⟨i, t, rfl, e⟩
  | .inr x, v, h => by
    obtain ⟨t, e⟩ := Value.isStrOf_shape (x := x) (v := v) h
    exact .inr ⟨x, t, rfl, e⟩
theorem key_ll (a b : Int) : decide ((Sum.inl a : Key) = Sum.inl b) = (a == b) := by
  by_cases e : a = b
  · subst e; simp
  · have h : ¬ (Sum.inl a : Key) = Sum.inl b := fun q => e (Sum.inl.inj q)
    rw [decide_eq_false h]
    exact (beq_eq_false_iff_ne.mpr e).symm
theorem key_rr (a b : Str) : decide ((Sum.inr a : Key) = Sum.inr b) = decide (a = b) := by
  by_cases e : a = b
  · subst e; simp
  · have h : ¬ (Sum.inr a : Key) = Sum.inr b := fun q => e (Sum.inr.inj q)
    rw [decide_eq_false h, decide_eq_false e]
theorem key_lr (a : Int) (b : Str) : decide ((Sum.inl a : Key) = Sum.inr b) = false := decide_eq_false (fun q => nomatch q)
theorem key_rl (a : Str) (b : Int) : decide ((Sum.inr a : Key) = Sum.inl b) = false := decide_eq_false (fun q => nomatch q)
def mixKind (prog : Program) (w : World) : PySem.KeyKind prog w Key where
  is := keyIs
  hash := keyH w
  inj := fun v a b ha hb => by
    rcases keyIs_shape ha with ⟨i, t, rfl, rfl⟩ | ⟨x, t, rfl, rfl⟩
    · rcases keyIs_shape hb with ⟨j, u, rfl, e⟩ | ⟨y, u, rfl, e⟩
      · injection e with e1 _; rw [e1]
      · exact nomatch e
    · rcases keyIs_shape hb with ⟨j, u, rfl, e⟩ | ⟨y, u, rfl, e⟩
      · exact nomatch e
      · injection e with e1 _; rw [e1]
  byValue := fun k v h => by
    rcases keyIs_shape h with ⟨i, t, rfl, rfl⟩ | ⟨x, t, rfl, rfl⟩ <;> rfl
  pyHash := fun hv h => by
    rcases keyIs_shape hv with ⟨i, t, rfl, rfl⟩ | ⟨x, t, rfl, rfl⟩
    · exact wpAny_pyHash_int h
    · exact wpAny_pyHash_str h
  eqBool := fun hu hv h => by
    rcases keyIs_shape hu with ⟨i, t, rfl, rfl⟩ | ⟨x, t, rfl, rfl⟩
    · rcases keyIs_shape hv with ⟨j, u, rfl, rfl⟩ | ⟨y, u, rfl, rfl⟩
      · rw [key_ll] at h; exact wpAny_eqBool_int h
      · rw [key_lr] at h; exact SeqAt.EqAt.int_str i t y u _ _ _ _ h
    · rcases keyIs_shape hv with ⟨j, u, rfl, rfl⟩ | ⟨y, u, rfl, rfl⟩
      · rw [key_rl] at h; exact SeqAt.EqAt.str_int x t j u _ _ _ _ h
      · rw [key_rr] at h; exact wpAny_eqBool_str h
  «strs» := fun k x t v h => by
    rcases keyIs_shape h with ⟨i, u, rfl, e⟩ | ⟨y, u, rfl, e⟩
    · exact nomatch e
    · injection e with e1 _
      subst e1
      cases v <;> rfl
end L2
namespace L2
open PySem PySem.Spec PyProof.Rows
inductive V where
  | non | bl (b : Bool) | int (i : Int) | str (x : Str) | byt (b : Array UInt8) | flt (b : UInt64) | ref (a : Addr) | ty (n : String)
  deriving DecidableEq
def RelV : V → Value → Prop
  | .non, u => u = Value.none
  | .bl b, u => u = Value.bool b
  | .int i, u => ∃ t, u = Value.int i t
  | .str x, u => ∃ t, u = Value.str x t
  | .byt b, u => ∃ t, u = Value.bytes b t
  | .flt b, u => ∃ t, u = Value.float b t
  | .ref a, u => u = Value.ref a
  | .ty n, u => u = Value.type n
abbrev Vals : List V → List Value → Prop := Paired RelV
theorem Vals.length {xs : List V} {us : List Value} (r : Vals xs us) : xs.length = us.length := Paired.length r
theorem Vals.get : ∀ {xs : List V} {us : List Value} {i : Nat} {x : V}, Vals xs us → xs[i]? = some x → ∃ u, us[i]? = some u ∧ RelV x u
  | _, _, _, _, .nil, e => by simp at e
  | _, _, 0, _, .cons r _, e => by simp at e; subst e; exact ⟨_, rfl, r⟩
  | _, _, i + 1, x, .cons _ t, e => by
    obtain ⟨u, h1, h2⟩ := Vals.get (i := i) (x := x) t (by simpa using e)
    exact ⟨u, by simpa using h1, h2⟩
theorem Vals.set {x : V} {u : Value} (r : RelV x u) : ∀ {xs : List V} {us : List Value} (i : Nat), Vals xs us → Vals (xs.set i x) (us.set i u)
  | _, _, _, .nil => .nil
  | _, _, 0, .cons _ t => .cons r t
  | _, _, i + 1, .cons q t => .cons q (Vals.set r i t)
theorem Vals.append : ∀ {xs ys : List V} {us ws : List Value}, Vals xs us → Vals ys ws → Vals (xs ++ ys) (us ++ ws)
  | _, _, _, _, .nil, s => s
  | _, _, _, _, .cons r t, s => .cons r (Vals.append t s)
theorem Vals.take : ∀ {xs : List V} {us : List Value} (n : Nat), Vals xs us → Vals (xs.take n) (us.take n)
  | _, _, 0, _ => .nil
  | _, _, _ + 1, .nil => .nil
  | _, _, n + 1, .cons r t => .cons r (Vals.take n t)
theorem Vals.drop : ∀ {xs : List V} {us : List Value} (n : Nat), Vals xs us → Vals (xs.drop n) (us.drop n)
  | _, _, 0, r => r
  | _, _, _ + 1, .nil => .nil
  | _, _, n + 1, .cons _ t => Vals.drop n t
theorem Vals.none_of : ∀ {xs : List V} {us : List Value} {i : Nat}, Vals xs us → xs[i]? = none → us[i]? = none := fun {xs us i} r e => by
  have h1 := r.length
  have h2 : xs.length ≤ i := List.getElem?_eq_none_iff.mp e
  exact List.getElem?_eq_none_iff.mpr (by omega)
def RelO : Option V → Option Value → Prop
  | some v, some u => RelV v u
  | none, none => True
  | _, _ => False
def KV {κ : Type} : List (κ × V) → List (κ × Value) → Prop := Paired fun (p : κ × V) (q : κ × Value) => p.1 = q.1 ∧ RelV p.2 q.2
def kV : Key → V
  | .inl i => .int i
  | .inr x => .str x
inductive HO where
  /-- a list -/
  | lst (xs : List V)
  /-- a tuple (never changes) -/
  | tup (xs : List V)
  /-- a dict whose keys are ints and texts; one whose keys are tuples of ints and texts (the empty one is both) -/
  | dK (kvs : List (Key × V)) | dT (kvs : List (List Key × V))
  /-- a set of ints: its members, its size -/
  | set (S : Int → Bool) (n : Nat)
  /-- an instance of the class at C, its dict at dx, its attributes -/
  | ins (C dx : Addr) (fs : List (Str × V))
  /-- the dict of the instance at x -/
  | own (x : Addr)
  /-- the dict of an exception -/
  | xd (fs : List (Str × V))
  /-- a bound method, f of x -/
  | met (f x : Addr)
  /-- a range object lo, lo + 1, .. below hi -/
  | rng (lo hi : Int)
  /-- a thing that is known to the object (the script; a dict while a loop walks it): read, never written while it is so -/
  | frz (o : Obj) (u : HO)
  /-- a code object's table -/
  | tbl (ps : Array Value)
  /-- any other thing, by what is true of its one object (a def of one's own: SetO a S n := HO.ext fun h => ..) -/
  | ext (φ : Heap → Prop)
abbrev Hp := Addr → Option HO
def upd (H : Hp) (a : Addr) (o : HO) : Hp := fun b => if b = a then some o else H b
theorem upd_same {H : Hp} {a : Addr} {o : HO} : upd H a o a = some o := by unfold upd; rw [if_pos rfl]
theorem upd_ne {H : Hp} {a b : Addr} {o : HO} (h : b ≠ a) : upd H a o b = H b := by unfold upd; rw [if_neg h]
theorem upd_upd {H : Hp} {a : Addr} {o u : HO} : upd (upd H a o) a u = upd H a u := by
  funext b; unfold upd; split <;> rfl
theorem ne_of {H : Hp} {a b : Addr} {o u : HO} (h : H a = some o) (h' : H b = some u) (d : o ≠ u) : a ≠ b := by
  intro e; subst e; rw [h] at h'; exact d (Option.some.inj h')
theorem ne_of_none {H : Hp} {a b : Addr} {o : HO} (h : H a = some o) (h' : H b = none) : a ≠ b := by
  intro e; subst e; rw [h] at h'; cases h'
section
variable (P : Program) (w : World)
def ObjOk (H : Hp) (h : Heap) (a : Addr) : HO → Prop
  | .lst xs => xs.length ≤ sizeLine ∧ ∃ (its : List Value) (n : Nat), Vals xs its ∧ h.get? a = some { cls := .type "list", data := .seq its.toArray n }
  | .tup xs => xs.length ≤ sizeLine ∧ ∃ its : List Value, Vals xs its ∧ IsTup h a its.toArray
  | .dK kvs => kvs.length ≤ sizeLine ∧ (a == sysModules) = false ∧ ∃ vs, KV kvs vs ∧ h.DictOf (mixKind P w) a vs
  | .dT kvs => kvs.length ≤ sizeLine ∧ (a == sysModules) = false ∧ ∃ xs : List (List Key × Addr × Value),
      Paired (fun (p : List Key × V) (q : List Key × Addr × Value) => p.1 = q.1 ∧ H q.2.1 = some (.tup (p.1.map kV)) ∧ RelV p.2 q.2.2) kvs xs ∧
      ∃ o es ep, h.get? a = some o ∧ o.ExactDict ∧ o.data = .dict es ep ∧ es.toList = xs.map (entryOfKey (tupleKind (mixKind P w))) ∧ (xs.map (·.1)).Nodup
  | .set S n => h.SetOf (intKind P w) a S n
  | .ins C dx fs => H dx = some (.own a) ∧ fs.length ≤ 1000 ∧ dx ≠ a ∧ h.get? a = some (PySem.W.instObj C dx) ∧
      ∃ mA, h.Ns1 dx mA ∧ (∀ f, RelO (fs.lookup f) (mA f)) ∧ PySem.Within mA (fs.map (·.1))
  | .own _ => ∃ o, h.get? a = some o
  | .xd fs => ∃ mA, h.Ns1 a mA ∧ ∀ f, RelO (fs.lookup f) (mA f)
  | .rng lo hi => ∃ t u v, h.get? a = some { cls := .type "range", data := .fields #[.int lo t, .int hi u, .int 1 v] }
  | .frz o u => h.get? a = some o ∧ ObjOk H h a u
  | .tbl ps => h.get? a = some { cls := .none, data := .fields ps }
  | .met f x => h.get? a = some (PySem.W.methodObj (.ref f) (.ref x))
  | .ext φ => φ h ∧ (∃ o, h.get? a = some o) ∧ ∀ h1 h2 : Heap, φ h1 → (∀ o, h1.get? a = some o → h2.get? a = some o) → φ h2
def HOk (H : Hp) (h : Heap) : Prop := ∀ a o, H a = some o → ObjOk P w H h a o
end
section
variable {P : Program} {w : World} {H H' : Hp} {h h' : Heap} {a : Addr} {o : HO}
theorem ObjOk.lt (x : ObjOk P w H h a o) : a < h.objs.size := by
  cases o with
  | lst xs => obtain ⟨_, _, _, _, e⟩ := x; exact Heap.lt_size e
  | tup xs => obtain ⟨_, _, _, p⟩ := x; exact p.lt
  | dK kvs => obtain ⟨_, _, _, _, o, _, _, e, _⟩ := x; exact Heap.lt_size e
  | dT kvs => obtain ⟨_, _, _, _, o, _, _, e, _⟩ := x; exact Heap.lt_size e
  | set S n => obtain ⟨o, _, _, _, e, _⟩ := x; exact Heap.lt_size e
  | ins C dx fs => obtain ⟨_, _, _, e, _⟩ := x; exact Heap.lt_size e
  | own y => obtain ⟨_, e⟩ := x; exact Heap.lt_size e
  | xd fs => obtain ⟨_, ⟨_, _, _, e, _⟩, _⟩ := x; exact Heap.lt_size e
  | rng lo hi => obtain ⟨_, _, _, e⟩ := x; exact Heap.lt_size e
  | frz ob u => obtain ⟨e, _⟩ := x; exact Heap.lt_size e
  | tbl ps => exact Heap.lt_size (show h.get? a = some _ from x)
  | met f y => exact Heap.lt_size (show h.get? a = some _ from x)
  | ext φ => obtain ⟨_, ⟨_, e⟩, _⟩ := x; exact Heap.lt_size e
theorem Paired.mapP {α β : Type} {F G : α → β → Prop} : ∀ {l₁ : List α} {l₂ : List β}, Paired F l₁ l₂ → (∀ a b, F a b → G a b) → Paired G l₁ l₂
  | _, _, .nil, _ => .nil
  | _, _, .cons r t, f => .cons (f _ _ r) (Paired.mapP t f)
theorem ObjOk.stay (x : ObjOk P w H h a o) (k : ∀ b u, (b = a ∨ H b = some (.own a)) → h.get? b = some u → h'.get? b = some u)
    (ho : ∀ b, H b = some (.own a) → H' b = some (.own a)) (ht : ∀ b xs, H b = some (.tup xs) → H' b = some (.tup xs)) : ObjOk P w H' h' a o := by
  induction o with
  | lst xs => obtain ⟨z, its, n, r, e⟩ := x; exact ⟨z, its, n, r, k _ _ (.inl rfl) e⟩
  | tup xs => obtain ⟨z, its, r, ob, e, c⟩ := x; exact ⟨z, its, r, ob, k _ _ (.inl rfl) e, c⟩
  | dK kvs => obtain ⟨z, y, vs, r, ob, es, ep, e, c⟩ := x; exact ⟨z, y, vs, r, ob, es, ep, k _ _ (.inl rfl) e, c⟩
  | dT kvs =>
    obtain ⟨z, y, xs, r, ob, es, ep, e, c⟩ := x
    exact ⟨z, y, xs, Paired.mapP r fun p q z => ⟨z.1, ht _ _ z.2.1, z.2.2⟩, ob, es, ep, k _ _ (.inl rfl) e, c⟩
  | set S n => obtain ⟨ob, es, ep, t, e, c⟩ := x; exact ⟨ob, es, ep, t, k _ _ (.inl rfl) e, c⟩
  | ins C dx fs =>
    obtain ⟨d, z, ne, e, mA, ⟨od, es, ep, e2, c⟩, r⟩ := x
    exact ⟨ho _ d, z, ne, k _ _ (.inl rfl) e, mA, ⟨od, es, ep, k _ _ (.inr d) e2, c⟩, r⟩
  | own y => obtain ⟨ob, e⟩ := x; exact ⟨ob, k _ _ (.inl rfl) e⟩
  | xd fs => obtain ⟨mA, ⟨od, es, ep, e, c⟩, r⟩ := x; exact ⟨mA, ⟨od, es, ep, k _ _ (.inl rfl) e, c⟩, r⟩
  | rng lo hi => obtain ⟨t, u, v, e⟩ := x; exact ⟨t, u, v, k _ _ (.inl rfl) e⟩
  | frz ob u ih => obtain ⟨e, q⟩ := x; exact ⟨k _ _ (.inl rfl) e, ih q⟩
  | tbl ps =>
    have e : h.get? a = some { cls := .none, data := .fields ps } := x
    show h'.get? a = some { cls := .none, data := .fields ps }
    exact k a _ (.inl rfl) e
  | met f y =>
    have e : h.get? a = some (PySem.W.methodObj (.ref f) (.ref y)) := x
    show h'.get? a = some (PySem.W.methodObj (.ref f) (.ref y))
    exact k a _ (.inl rfl) e
  | ext φ => obtain ⟨p, ⟨o, e⟩, st⟩ := x; exact ⟨st _ _ p fun o q => k _ _ (.inl rfl) q, ⟨o, k _ _ (.inl rfl) e⟩, st⟩
theorem HOk.lt (x : HOk P w H h) (e : H a = some o) : a < h.objs.size := (x a o e).lt
theorem HOk.fresh (x : HOk P w H h) (e : h.objs.size ≤ a) : H a = none := by
  cases q : H a with
  | none => rfl
  | some u => exact absurd (Nat.lt_of_lt_of_le (x.lt q) e) (Nat.lt_irrefl _)
theorem HOk.kept (x : HOk P w H h) (k : ∀ b u, h.get? b = some u → h'.get? b = some u) : HOk P w H h' := fun a o e =>
  (x a o e).stay (fun b u _ q => k b u q) (fun _ q => q) fun _ _ q => q
theorem HOk.laid (x : HOk P w H h) (k : ∀ b u, h.get? b = some u → h'.get? b = some u) (hp : h.objs.size ≤ a) (new : ObjOk P w (upd H a o) h' a o) : HOk P w (upd H a o) h' := fun b u e => by
  have hn := x.fresh hp
  by_cases hb : b = a
  · subst hb; rw [upd_same] at e; cases e; exact new
  · rw [upd_ne hb] at e
    exact (x b u e).stay (fun c v _ q => k c v q) (fun c q => by rw [upd_ne (ne_of_none q hn)]; exact q) fun c xs q => by rw [upd_ne (ne_of_none q hn)]; exact q
end
def Rd (H : Hp) (a : Addr) (u : HO) : Prop := H a = some u ∨ ∃ o, H a = some (.frz o u)
theorem Rd.of {H : Hp} {a : Addr} {u : HO} (h : H a = some u) : Rd H a u := .inl h
theorem Rd.ok {P : Program} {w : World} {H : Hp} {h : Heap} {a : Addr} {u : HO} (r : Rd H a u) (x : HOk P w H h) : ObjOk P w H h a u := by
  rcases r with r | ⟨o, r⟩
  · exact x a u r
  · obtain ⟨_, q⟩ := x a _ r
    exact q
def Mut : Option HO → Prop
  | some (.lst _) => True
  | some (.dK _) => True
  | some (.dT _) => True
  | some (.set _ _) => True
  | some (.ins _ _ _) => True
  | some (.ext _) => True
  | _ => False
section
variable {P : Program} {w : World} {H : Hp} {h h' : Heap} {x e : Addr} {o' : HO}
theorem HOk.write (ok : HOk P w H h) (mu : Mut (H x)) (he : e = x ∨ H e = some (.own x)) (k : ∀ b u, b ≠ e → h.get? b = some u → h'.get? b = some u) (heo : ∃ u, h'.get? e = some u)
    (new : ObjOk P w (upd H x o') h' x o') : HOk P w (upd H x o') h' := fun b u q => by
  have nown : ∀ c y, H c = some (.own y) → c ≠ x := fun c y r z => by subst z; rw [r] at mu; exact mu
  have ntup : ∀ c xs, H c = some (.tup xs) → c ≠ x := fun c xs r z => by subst z; rw [r] at mu; exact mu
  by_cases hb : b = x
  · subst hb; rw [upd_same] at q; cases q; exact new
  · rw [upd_ne hb] at q
    by_cases hbe : b = e
    · have q' : H b = some (.own x) := by
        rcases he with z | z
        · exact absurd (hbe.trans z) hb
        · rw [hbe]; exact z
      rw [q] at q'; cases q'
      obtain ⟨v, hv⟩ := heo
      exact ⟨v, by rw [hbe]; exact hv⟩
    · refine (ok b u q).stay (fun c v hc r => k c v ?_ r) (fun c r => by rw [upd_ne (nown c b r)]; exact r) fun c xs r => by rw [upd_ne (ntup c xs r)]; exact r
      rcases hc with rfl | hc
      · exact hbe
      · rintro rfl
        rcases he with z | z
        · exact nown c b hc z
        · rw [hc] at z; cases z; exact hb rfl
end
structure Un (fs ex : List Addr) (H H' : Hp) (h h' : Heap) : Prop where
  keep : ∀ b o, h.get? b = some o → H b = none → b ∉ fs → b ∉ ex → h'.get? b = some o
  slot : ∀ b o, h.get? b = some o → H b = none → b ∈ fs → b ∉ ex → ∃ sl, h'.get? b = some { o with slots := sl }
  free : ∀ b o, h.get? b = some o → H b = none → b ∉ ex → H' b = none
  there : ∀ b o, h.get? b = some o → b ∉ ex → ∃ o', h'.get? b = some o'
  tups : ∀ b xs, H b = some (.tup xs) → H' b = some (.tup xs)
  frzs : ∀ b o u, H b = some (.frz o u) → H' b = some (.frz o u)
  tbls : ∀ b ps, H b = some (.tbl ps) → ∃ more, H' b = some (.tbl (ps ++ more))
section
variable {fs fs' ex ex' : List Addr} {H H1 H2 : Hp} {h h1 h2 h' : Heap} {a x e : Addr} {o : HO}
theorem Un.any (u : Un fs ex H H1 h h1) {b : Addr} {ob : Obj} (q : h.get? b = some ob) (n : H b = none) (hx : b ∉ ex) : ∃ sl, h1.get? b = some { ob with slots := sl } := by
  by_cases hb : b ∈ fs
  · exact u.slot b ob q n hb hx
  · exact ⟨ob.slots, u.keep b ob q n hb hx⟩
theorem Un.trans (a : Un fs ex H H1 h h1) (b : Un fs ex H1 H2 h1 h2) : Un fs ex H H2 h h2 where
  keep := fun c ob q n hc hx => b.keep c ob (a.keep c ob q n hc hx) (a.free c ob q n hx) hc hx
  slot := fun c ob q n hc hx => by
    obtain ⟨sl, e1⟩ := a.slot c ob q n hc hx
    obtain ⟨sl', e2⟩ := b.slot c _ e1 (a.free c ob q n hx) hc hx
    exact ⟨sl', e2⟩
  free := fun c ob q n hx => by
    obtain ⟨o', e1⟩ := a.there c ob q hx
    exact b.free c o' e1 (a.free c ob q n hx) hx
  there := fun c ob q hx => by
    obtain ⟨o', e1⟩ := a.there c ob q hx
    exact b.there c o' e1 hx
  tups := fun c xs q => b.tups c xs (a.tups c xs q)
  frzs := fun c ob xs q => b.frzs c ob xs (a.frzs c ob xs q)
  tbls := fun c ps q => by
    obtain ⟨m1, e1⟩ := a.tbls c ps q
    obtain ⟨m2, e2⟩ := b.tbls c _ e1
    exact ⟨m1 ++ m2, by rw [e2, Array.append_assoc]⟩
theorem Un.kept (k : ∀ b u, h.get? b = some u → h'.get? b = some u) : Un fs ex H H h h' :=
  ⟨fun b ob q _ _ _ => k b ob q, fun b ob q _ _ _ => ⟨ob.slots, k b ob q⟩, fun _ _ _ n _ => n, fun b ob q _ => ⟨ob, k b ob q⟩, fun _ _ q => q, fun _ _ _ q => q, fun _ ps q => ⟨#[], by rw [q]; simp⟩⟩
theorem Un.refl : Un fs ex H H h h := Un.kept fun _ _ q => q
theorem Un.laid (k : ∀ b u, h.get? b = some u → h'.get? b = some u) (hp : h.objs.size ≤ a) (hn : H a = none) : Un fs ex H (upd H a o) h h' where
  keep := fun b u q _ _ _ => k b u q
  slot := fun b u q _ _ _ => ⟨u.slots, k b u q⟩
  free := fun b u q n _ => by rw [upd_ne (Nat.ne_of_lt (Nat.lt_of_lt_of_le (Heap.lt_size q) hp))]; exact n
  there := fun b u q _ => ⟨u, k b u q⟩
  tups := fun b xs q => by rw [upd_ne (ne_of_none q hn)]; exact q
  frzs := fun b u xs q => by rw [upd_ne (ne_of_none q hn)]; exact q
  tbls := fun b ps q => ⟨#[], by rw [upd_ne (ne_of_none q hn), q]; simp⟩
theorem Un.write (mu : Mut (H x)) (he : e = x ∨ H e = some (.own x)) (k : ∀ b u, b ≠ e → h.get? b = some u → h'.get? b = some u) (heo : ∃ u, h'.get? e = some u) : Un fs ex H (upd H x o) h h' := by
  have hx : ∀ b, H b = none → b ≠ x := fun b n z => by subst z; rw [n] at mu; exact mu
  have hb : ∀ b, H b = none → b ≠ e := fun b n z => by
    subst z
    rcases he with r | r
    · exact hx b n r
    · rw [n] at r; cases r
  have hm : ∀ b u, H b = some u → ¬ Mut (some u) → b ≠ x := fun b u q nm z => by subst z; rw [q] at mu; exact nm mu
  refine ⟨fun b u q n _ _ => k b u (hb b n) q, fun b u q n _ _ => ⟨u.slots, k b u (hb b n) q⟩, fun b u q n _ => by rw [upd_ne (hx b n)]; exact n, fun b u q _ => ?_,
    fun b xs q => by rw [upd_ne (hm b _ q fun z => z)]; exact q, fun b u xs q => by rw [upd_ne (hm b _ q fun z => z)]; exact q, fun b ps q => ⟨#[], by rw [upd_ne (hm b _ q fun z => z), q]; simp⟩⟩
  by_cases hbe : b = e
  · subst hbe; exact heo
  · exact ⟨u, k b u hbe q⟩
theorem Un.mono (u : Un fs ex H H1 h h1) (hs : ∀ b ∈ fs, b ∈ fs') (hx : ∀ b ∈ ex, b ∈ ex') : Un fs' ex' H H1 h h1 :=
  ⟨fun b ob q n hb he => u.keep b ob q n (fun z => hb (hs b z)) fun z => he (hx b z), fun _ _ q n _ he => u.any q n fun z => he (hx _ z), fun b ob q n he => u.free b ob q n fun z => he (hx b z), fun b ob q he => u.there b ob q fun z => he (hx b z), u.tups, u.frzs, u.tbls⟩
end
def trk (h : Heap) (H : Hp) : List Addr := (List.range h.objs.size).filter fun a => (H a).isSome
def hidT (h : Heap) (H : Hp) : Heap := PySem.W.hideAll h (trk h H)
theorem hidT_size (h : Heap) (H : Hp) : (hidT h H).objs.size = h.objs.size := PySem.W.hideAll_size _ _
theorem hidT_get {h : Heap} {H : Hp} {b : Addr} {o : Obj} (e : h.get? b = some o) (n : H b = none) : (hidT h H).get? b = some o :=
  PySem.W.hideAll_get _ e fun hm => by
    have q : (H b).isSome = true := (List.mem_filter.mp hm).2
    rw [n] at q; simp at q
theorem of_hidT {h : Heap} {H : Hp} {b : Addr} {o : Obj} (e : (hidT h H).get? b = some o) : h.get? b = some o ∧ H b = none := by
  have e' : h.get? b = some o := PySem.W.of_hideAll (trk h H) e
  refine ⟨e', ?_⟩
  cases q : H b with
  | none => rfl
  | some x =>
    have hm : b ∈ trk h H := List.mem_filter.mpr ⟨List.mem_range.mpr (Heap.lt_size e'), by simp [q]⟩
    have z : (hidT h H).get? b = none := PySem.W.hideAll_none (trk h H) hm
    rw [z] at e; cases e
def allNews (g h : Heap) (L : Addr) : List (Addr × Obj) := (List.range h.objs.size).filterMap fun a => if a = L ∨ (g.get? a).isSome = true then none else (h.get? a).map fun o => (a, o)
def rest (g h : Heap) (L d : Addr) : List (Addr × Obj) := (allNews g h L).filter fun p => decide (p.1 ≠ d)
end L2
namespace L2
open PySem PySem.Spec PyProof.Rows
structure Mod (K : PySem.W.Frag) (mg : Str → Option Value) (base : Heap) : Prop where
  kin : K.In base
  glob : base.Ns mainGlobals mg
  blt : ∃ mb, base.Ns builtinsNs mb ∧ ∀ x : Str, x ≠ "__name__" → mb x = bootBuiltins x
  nolimit : base.NoLimit
structure Cx where
  prog : Program
  w : World
  K : PySem.W.Frag
  mg : Str → Option Value
  base : Heap
  A : Around
  N : List Str
  s₀ : Shared
  H₀ : Hp
  env : Env
  outer : List Env
  stack : List Env
  ex : List Addr
  fn : Str → Bool
  calm : Bool
  pn : List (Addr × Obj)
  xe : Value → Shared → Prop
def frs (l : List Env) : List Addr := l.filterMap (·.frame)
abbrev Cx.fs (X : Cx) : List Addr := frs X.outer
def Vis (sc : Scope) (x : Str) : Prop := sc.names.lookup x = some .local ∨ sc.names.lookup x = some .cell ∨ sc.names.lookup x = some .free
def Loc (sc : Scope) (x : Str) : Prop := sc.names.lookup x = some .local ∨ sc.names.lookup x = some .cell
def Look (env : Env) (h : Heap) (m : Str → Option Value) (x : Str) (u : Value) : Prop :=
  (env.kindOf x = some .local ∧ m x = some u) ∨ ((env.kindOf x = some .cell ∨ env.kindOf x = some .free) ∧ ∃ c, env.cells.lookup x = some c ∧ h.IsCell c (some u))
structure Cx.Ok (X : Cx) : Prop where
  mod : Mod X.K X.mg X.base
  kind : X.env.scope.kind = .function
  glob : X.env.globals = mainGlobals
  blt : X.env.builtins = builtinsNs
  above : X.s₀.heap.objs.size ≤ X.env.locals
  inj : ∀ x y c, X.env.cells.lookup x = some c → X.env.cells.lookup y = some c → x = y
  has : ∀ x, (X.env.kindOf x = some .cell ∨ X.env.kindOf x = some .free) → ∃ c, X.env.cells.lookup x = some c
  cab : ∀ x c, X.fn x = true → X.env.cells.lookup x = some c → X.s₀.heap.objs.size ≤ c
  hd : X.calm = true → X.A.handled = none
  frames : X.A.frames = some X.stack
  stk : X.stack = X.outer ∨ (X.stack = X.env :: X.outer ∧ X.env.frame = some X.env.locals)
  exf : ∀ b ∈ X.ex, b ≠ X.env.locals ∧ ∀ x c, X.env.cells.lookup x = some c → c ≠ b
  bs : ∀ b o, X.base.get? b = some o → X.s₀.heap.get? b = some o ∧ X.H₀ b = none
  bsz : X.base.objs.size ≤ X.s₀.heap.objs.size
  noex : ∀ b o, X.base.get? b = some o → b ∉ X.ex
  exfs : ∀ b ∈ X.ex, b ∉ X.fs
  funs : X.s₀.heap.FunFrames X.base X.outer
  frf : ∀ b ∈ X.fs, X.H₀ b = none
structure Inv (X : Cx) (pins : List (Addr × Obj)) (σ : List (Option V)) (H : Hp) (s : Shared) : Prop where
  ok : X.Ok
  os : s.os = X.s₀.os
  bare : AllBare s.gens
  base : Un X.fs X.ex X.H₀ H X.s₀.heap s.heap
  loc : ∃ m, s.heap.Ns X.env.locals m ∧ ∀ (i : Nat) (x : Str) (v : V), X.N[i]? = some x → σ[i]? = some (some v) → Vis X.env.scope x → ∃ u, RelV v u ∧ Look X.env s.heap m x u
  cell : ∀ x c, X.env.cells.lookup x = some c → ∃ v, s.heap.IsCell c v
  free : H X.env.locals = none
  freeC : ∀ x c, X.env.cells.lookup x = some c → H c = none
  pin : ∀ p ∈ X.pn ++ pins, s.heap.get? p.1 = some p.2 ∧ H p.1 = none ∧ p.1 ≠ X.env.locals ∧ p.1 ∉ X.fs ∧ ∀ v, p.2.data ≠ .cell v
  hok : HOk X.prog X.w H s.heap
  len : σ.length = X.N.length
section
variable {X : Cx} {pins : List (Addr × Obj)} {σ : List (Option V)} {H H' : Hp} {s : Shared} {h' : Heap}
theorem Cx.Ok.nofr (ok : X.Ok) {b : Addr} {o : Obj} (e : X.base.get? b = some o) : b ∉ X.fs := fun hb => by
  have := (ok.funs.mem hb).1
  rw [e] at this; cases this
theorem Inv.bs (I : Inv X pins σ H s) : ∀ b o, X.base.get? b = some o → s.heap.get? b = some o ∧ H b = none := fun b o e =>
  ⟨I.base.keep b o (I.ok.bs b o e).1 (I.ok.bs b o e).2 (I.ok.nofr e) (I.ok.noex b o e), I.base.free b o (I.ok.bs b o e).1 (I.ok.bs b o e).2 (I.ok.noex b o e)⟩
theorem Inv.bk (I : Inv X pins σ H s) : ∀ b o, X.base.get? b = some o → s.heap.get? b = some o := fun b o e => (I.bs b o e).1
theorem Inv.mod (I : Inv X pins σ H s) : Mod X.K X.mg X.base := I.ok.mod
theorem Inv.kIn (I : Inv X pins σ H s) : X.K.In s.heap := I.ok.mod.kin.keeps I.bk
theorem Inv.nolimit (I : Inv X pins σ H s) : s.heap.NoLimit := I.ok.mod.nolimit.keeps I.bk
theorem Inv.fr (I : Inv X pins σ H s) : ∃ m, Fr X.base X.env.locals s.heap m :=
  let ⟨m, hn, _⟩ := I.loc
  ⟨m, hn, I.bk, Nat.le_trans I.ok.bsz I.ok.above⟩
theorem Inv.lt (I : Inv X pins σ H s) : X.env.locals < s.heap.objs.size := let ⟨_, hn, _⟩ := I.loc; hn.lt
theorem Inv.sz (I : Inv X pins σ H s) : X.s₀.heap.objs.size ≤ s.heap.objs.size := Nat.le_trans I.ok.above (Nat.le_of_lt I.lt)
theorem Inv.nofs (I : Inv X pins σ H s) {a : Addr} (h : s.heap.objs.size ≤ a) : a ∉ X.fs := fun hb => by
  obtain ⟨_, o, ho, _⟩ := I.ok.funs.mem hb
  exact absurd (Nat.lt_of_lt_of_le (Heap.lt_size ho) (Nat.le_trans I.sz h)) (Nat.lt_irrefl _)
theorem Inv.cne (I : Inv X pins σ H s) : ∀ x c, X.env.cells.lookup x = some c → c ≠ X.env.locals := fun x c e z => by
  obtain ⟨v, o, ho, hd⟩ := I.cell x c e
  obtain ⟨m, ⟨o', es, ep, ho', hd', _⟩, _⟩ := I.loc
  rw [z, ho'] at ho; cases ho; rw [hd'] at hd; cases hd
theorem Inv.funs (I : Inv X pins σ H s) : s.heap.FunFrames X.base X.outer := by
  have all : ∀ (l : List Env), (∀ b ∈ frs l, b ∈ X.fs) → X.s₀.heap.FunFrames X.base l → s.heap.FunFrames X.base l := by
    intro l
    induction l with
    | nil => intro _ _; trivial
    | cons env r ih =>
      intro hs hl
      obtain ⟨hk, ⟨L, o, hf, hn, ho, hd⟩, hr⟩ := hl
      have hL : L ∈ X.fs := hs L (by unfold frs; rw [List.filterMap_cons, hf]; exact List.mem_cons_self)
      obtain ⟨sl, e⟩ := I.base.slot L o ho (I.ok.frf L hL) hL fun z => I.ok.exfs L z hL
      exact ⟨hk, ⟨L, _, hf, hn, e, hd⟩, ih (fun b hb => hs b (by unfold frs; rw [List.filterMap_cons, hf]; exact List.mem_cons_of_mem _ hb)) hr⟩
  exact all X.outer (fun _ hb => hb) I.ok.funs
theorem Inv.stack (I : Inv X pins σ H s) : s.heap.FunFrames X.base X.stack := by
  rcases I.ok.stk with e | ⟨e, hf⟩
  · rw [e]; exact I.funs
  · rw [e]
    obtain ⟨m, hn, _⟩ := I.loc
    refine .cons (by rw [I.ok.kind]; decide) hf hn ?_ I.funs
    exact Heap.get?_none_of_le (Nat.le_trans I.ok.bsz I.ok.above)
theorem Inv.stkSub (I : Inv X pins σ H s) : ∀ b ∈ frs X.stack, b ∈ X.env.locals :: X.fs := fun b hb => by
  rcases I.ok.stk with e | ⟨e, hf⟩
  · rw [e] at hb; exact List.mem_cons_of_mem _ hb
  · rw [e] at hb
    unfold frs at hb
    rw [List.filterMap_cons, hf] at hb
    exact hb
theorem Inv.stkFree (I : Inv X pins σ H s) : ∀ b ∈ frs X.stack, H b = none := fun b hb => by
  rcases List.mem_cons.mp (I.stkSub b hb) with e | hb
  · rw [e]; exact I.free
  · obtain ⟨_, o, ho, _⟩ := I.ok.funs.mem hb
    exact I.base.free b o ho (I.ok.frf b hb) fun z => I.ok.exfs b z hb
theorem Inv.step {g' : Array GenState} {t' : Nat} {d' : Drawn} {ch : List Addr} (I : Inv X pins σ H s)
    (hch : ∀ b ∈ ch, (b ∈ X.ex ∨ X.s₀.heap.objs.size ≤ b) ∧ b ≠ X.env.locals ∧ (∀ x c, X.env.cells.lookup x = some c → c ≠ b) ∧ ∀ p ∈ X.pn ++ pins, p.1 ≠ b)
    (keep : ∀ b o, b ≠ X.env.locals → b ∉ X.fs → b ∉ ch → s.heap.get? b = some o → H b = none → h'.get? b = some o)
    (slot : ∀ b o, b ≠ X.env.locals → b ∈ X.fs → b ∉ ch → s.heap.get? b = some o → H b = none → ∃ sl, h'.get? b = some { o with slots := sl }) (free : ∀ b o, b ∉ ch → s.heap.get? b = some o → H b = none → H' b = none)
    (there : ∀ b o, b ∉ ch → s.heap.get? b = some o → ∃ o', h'.get? b = some o')
    (tups : ∀ b xs, H b = some (.tup xs) → H' b = some (.tup xs)) (frzs : ∀ b o u, H b = some (.frz o u) → H' b = some (.frz o u)) (tbls : ∀ b ps, H b = some (.tbl ps) → ∃ more, H' b = some (.tbl (ps ++ more)))
    (ns : ∀ m, s.heap.Ns X.env.locals m → h'.Ns X.env.locals m) (hok : HOk X.prog X.w H' h') (hg : AllBare g') :
    Inv X pins σ H' { s with heap := h', gens := g', drawn := d', toks := t' } := by
  have neL : ∀ b o, X.s₀.heap.get? b = some o → b ≠ X.env.locals := fun b o e => Nat.ne_of_lt (Nat.lt_of_lt_of_le (Heap.lt_size e) I.ok.above)
  have neC : ∀ b o, X.s₀.heap.get? b = some o → b ∉ X.ex → b ∉ ch := fun b o e hx hb => by
    rcases (hch b hb).1 with z | z
    · exact hx z
    · exact absurd (Nat.lt_of_lt_of_le (Heap.lt_size e) z) (Nat.lt_irrefl _)
  have cellK : ∀ x c, X.env.cells.lookup x = some c → ∀ v, s.heap.IsCell c v → h'.IsCell c v := fun x c e v ⟨o, ho, hd⟩ => by
    have nch : c ∉ ch := fun z => (hch c z).2.2.1 x c e rfl
    by_cases hc : c ∈ X.fs
    · obtain ⟨sl, q⟩ := slot c o (I.cne x c e) hc nch ho (I.freeC x c e)
      exact ⟨_, q, hd⟩
    · exact ⟨o, keep c o (I.cne x c e) hc nch ho (I.freeC x c e), hd⟩
  refine ⟨I.ok, I.os, hg, ⟨fun b o e n hb hx => ?_, fun b o e n hb hx => ?_, fun b o e n hx => ?_, fun b o e hx => ?_, fun b xs e => tups b xs (I.base.tups b xs e), fun b o xs e => frzs b o xs (I.base.frzs b o xs e), fun b ps e => ?_⟩, ?_, fun x c e => ?_, ?_, fun x c e => ?_, fun p hp => ?_, hok, I.len⟩
  · exact keep b o (neL b o e) hb (neC b o e hx) (I.base.keep b o e n hb hx) (I.base.free b o e n hx)
  · obtain ⟨sl, e1⟩ := I.base.slot b o e n hb hx
    obtain ⟨sl', e2⟩ := slot b _ (neL b o e) hb (neC b o e hx) e1 (I.base.free b o e n hx)
    exact ⟨sl', e2⟩
  · obtain ⟨o', e1⟩ := I.base.there b o e hx
    exact free b o' (neC b o e hx) e1 (I.base.free b o e n hx)
  · obtain ⟨o', e1⟩ := I.base.there b o e hx
    exact there b o' (neC b o e hx) e1
  · obtain ⟨m1, e1⟩ := I.base.tbls b ps e
    obtain ⟨m2, e2⟩ := tbls b _ e1
    exact ⟨m1 ++ m2, by rw [e2, Array.append_assoc]⟩
  · obtain ⟨m, hn, hl⟩ := I.loc
    refine ⟨m, ns m hn, fun i x v e1 e2 e3 => ?_⟩
    obtain ⟨u, r, l⟩ := hl i x v e1 e2 e3
    refine ⟨u, r, ?_⟩
    rcases l with l | ⟨k, c, e, z⟩
    · exact .inl l
    · exact .inr ⟨k, c, e, cellK x c e _ z⟩
  · obtain ⟨v, z⟩ := I.cell x c e
    exact ⟨v, cellK x c e v z⟩
  · obtain ⟨m, ⟨o, _, _, ho, _⟩, _⟩ := I.loc
    exact free _ o (fun z => (hch _ z).2.1 rfl) ho I.free
  · obtain ⟨v, o, ho, hd⟩ := I.cell x c e
    exact free c o (fun z => (hch c z).2.2.1 x c e rfl) ho (I.freeC x c e)
  · obtain ⟨e, n, ne, nf, d⟩ := I.pin p hp
    have nch : p.1 ∉ ch := fun z => (hch p.1 z).2.2.2 p hp rfl
    exact ⟨keep p.1 p.2 ne nf nch e n, free p.1 p.2 nch e n, ne, nf, d⟩
theorem Inv.un {t' : Nat} (I : Inv X pins σ H s) (u : Un X.fs [] H H' s.heap h') (hok : HOk X.prog X.w H' h') : Inv X pins σ H' { s with heap := h', toks := t' } := by
  obtain ⟨m, ⟨o, es, ep, ho, r⟩, _⟩ := id I.loc
  obtain ⟨sl, hL⟩ := u.any ho I.free (by simp)
  exact I.step (g' := s.gens) (d' := s.drawn) (ch := []) (fun _ z => nomatch z) (fun b o _ hb _ e n => u.keep b o e n hb (by simp)) (fun b o _ hb _ e n => u.slot b o e n hb (by simp)) (fun b o _ e n => u.free b o e n (by simp)) (fun b o _ e => u.there b o e (by simp)) u.tups u.frzs u.tbls (fun m' hm => by
    obtain ⟨o', es', ep', ho', r'⟩ := hm
    rw [ho] at ho'; cases ho'
    exact ⟨_, es', ep', hL, r'⟩) hok I.bare
theorem Inv.call {g' : Array GenState} {t' : Nat} {d' : Drawn} {ch : List Addr} (I : Inv X pins σ H s) (u : Un (frs X.stack) ch H H' s.heap h') (hok : HOk X.prog X.w H' h') (hg : AllBare g')
    (hch : ∀ b ∈ ch, (b ∈ X.ex ∨ X.s₀.heap.objs.size ≤ b) ∧ b ≠ X.env.locals ∧ (∀ x c, X.env.cells.lookup x = some c → c ≠ b) ∧ ∀ p ∈ X.pn ++ pins, p.1 ≠ b) :
    Inv X pins σ H' { s with heap := h', gens := g', drawn := d', toks := t' } := by
  obtain ⟨m, ⟨o, es, ep, ho, r⟩, _⟩ := id I.loc
  obtain ⟨sl, hL⟩ := u.any ho I.free fun z => (hch _ z).2.1 rfl
  exact I.step (ch := ch) hch (fun b o hL hb hc e n => u.keep b o e n (fun z => (List.mem_cons.mp (I.stkSub b z)).elim hL hb) hc) (fun b o _ _ hc e n => u.any e n hc) (fun b o hc e n => u.free b o e n hc) (fun b o hc e => u.there b o e hc) u.tups u.frzs u.tbls (fun m' hm => by
    obtain ⟨o', es', ep', ho', r'⟩ := hm
    rw [ho] at ho'; cases ho'
    exact ⟨_, es', ep', hL, r'⟩) hok hg
theorem Inv.turned {t' : Nat} {it : Addr} (I : Inv X pins σ H s) (k : ∀ b o, b ≠ it → s.heap.get? b = some o → h'.get? b = some o) (hn : H it = none) (hL : it ≠ X.env.locals)
    (h1 : it ∈ X.ex ∨ X.s₀.heap.objs.size ≤ it) (h2 : ∀ x c, X.env.cells.lookup x = some c → c ≠ it) (h3 : ∀ p ∈ X.pn ++ pins, p.1 ≠ it) : Inv X pins σ H { s with heap := h', toks := t' } := by
  have nit : ∀ b u, H b = some u → b ≠ it := fun b u e z => by rw [z, hn] at e; cases e
  refine I.step (g' := s.gens) (d' := s.drawn) (ch := [it]) (fun b hb => ?_) (fun b o _ _ hc e _ => k b o (fun z => hc (by simp [z])) e) (fun b o _ _ hc e _ => ⟨o.slots, k b o (fun z => hc (by simp [z])) e⟩) (fun _ _ _ _ n => n)
    (fun b o hc e => ⟨o, k b o (fun z => hc (by simp [z])) e⟩) (fun _ _ e => e) (fun _ _ _ e => e) (fun b ps e => ⟨#[], by rw [e]; simp⟩) (fun m hm => ?_) (fun b u e => ?_) I.bare
  · have e : b = it := by simpa using hb
    subst e
    exact ⟨h1, hL, h2, h3⟩
  · obtain ⟨o, es, ep, ho, r⟩ := hm
    exact ⟨o, es, ep, k _ o (Ne.symm hL) ho, r⟩
  · refine (I.hok b u e).stay (fun c v hc q => k c v ?_ q) (fun _ q => q) fun _ _ q => q
    rcases hc with z | z
    · rw [z]; exact nit b u e
    · exact nit c _ z
theorem Inv.tok (I : Inv X pins σ H s) (t : Nat) : Inv X pins σ H { s with toks := t } := I.un (h' := s.heap) (t' := t) Un.refl I.hok
theorem Inv.kept {t' : Nat} (I : Inv X pins σ H s) (k : ∀ b u, s.heap.get? b = some u → h'.get? b = some u) : Inv X pins σ H { s with heap := h', toks := t' } := I.un (Un.kept k) (I.hok.kept k)
theorem Inv.laid {a : Addr} {o : HO} {t' : Nat} (I : Inv X pins σ H s) (k : ∀ b u, s.heap.get? b = some u → h'.get? b = some u) (hp : s.heap.objs.size ≤ a) (new : ObjOk X.prog X.w (upd H a o) h' a o) :
    Inv X pins σ (upd H a o) { s with heap := h', toks := t' } := I.un (Un.laid k hp (I.hok.fresh hp)) (I.hok.laid k hp new)
theorem Inv.write {x e : Addr} {o : HO} {t' : Nat} (I : Inv X pins σ H s) (mu : Mut (H x)) (he : e = x ∨ H e = some (.own x)) (k : ∀ b u, b ≠ e → s.heap.get? b = some u → h'.get? b = some u) (heo : ∃ u, h'.get? e = some u)
    (new : ObjOk X.prog X.w (upd H x o) h' x o) : Inv X pins σ (upd H x o) { s with heap := h', toks := t' } := I.un (Un.write mu he k heo) (I.hok.write mu he k heo new)
theorem Inv.weak {σ' : List (Option V)} (I : Inv X pins σ H s) (hl : σ'.length = σ.length) (w : ∀ (i : Nat) v, σ'[i]? = some (some v) → σ[i]? = some (some v)) : Inv X pins σ' H s :=
  ⟨I.ok, I.os, I.bare, I.base, let ⟨m, hn, hl'⟩ := I.loc; ⟨m, hn, fun i x v e1 e2 e3 => hl' i x v e1 (w i v e2) e3⟩, I.cell, I.free, I.freeC, I.pin, I.hok, hl.trans I.len⟩
theorem Inv.pins_of {pins' : List (Addr × Obj)} (I : Inv X pins σ H s) (h : ∀ p ∈ pins', s.heap.get? p.1 = some p.2 ∧ H p.1 = none ∧ p.1 ≠ X.env.locals ∧ p.1 ∉ X.fs ∧ ∀ v, p.2.data ≠ .cell v) : Inv X pins' σ H s :=
  ⟨I.ok, I.os, I.bare, I.base, I.loc, I.cell, I.free, I.freeC, fun p hp => (List.mem_append.mp hp).elim (fun z => I.pin p (List.mem_append_left _ z)) (h p), I.hok, I.len⟩
theorem nodup_ix {N : List Str} (hN : N.Nodup) {i j : Nat} {x : Str} (a : N[i]? = some x) (b : N[j]? = some x) : i = j := by
  obtain ⟨h1, e1⟩ := List.getElem?_eq_some_iff.mp a
  obtain ⟨h2, e2⟩ := List.getElem?_eq_some_iff.mp b
  exact (List.getElem_inj hN).mp (e1.trans e2.symm)
theorem store_ok2 {M : Model} {A : Around} {E : Value → Shared → Prop} {i : Nat} {x : Str} {v : V} {u : Value} {Q : Unit → Shared → Prop} (I : Inv X pins σ H s) (hN : X.N.Nodup) (hi : X.N[i]? = some x) (hx : Loc X.env.scope x) (r : RelV v u)
    (h : ∀ s', Inv X pins (σ.set i (some v)) H s' → (∃ a, Heap.SameBut a s.heap s'.heap ∧ (a = X.env.locals ∨ X.env.cells.lookup x = some a)) → Q () s') (hf : X.fn x = true ∨ X.env.scope.names.lookup x = some .local := by first | exact .inl rfl | exact .inr rfl | assumption) : wpAny M A (storeName X.env x u) Q E s := by
  obtain ⟨m, hn, hl⟩ := id I.loc
  have hcls : (X.env.scope.kind == .class || (X.env.scope.kind == .module && X.env.locals != X.env.globals)) = false := by rw [I.ok.kind]; rfl
  have hiσ : i < σ.length := by rw [I.len]; exact (List.getElem?_eq_some_iff.mp hi).1
  have cne := I.cne
  have tracked : ∀ {a : Addr} {h' : Heap}, (∃ o, s.heap.get? a = some o ∧ H a = none) → Heap.SameBut a s.heap h' → HOk X.prog X.w H h' := fun {a h'} ha hs b ob e => by
    obtain ⟨_, _, hfree⟩ := ha
    refine (I.hok b ob e).stay (fun c w' hc q => (hs.2 c ?_).trans q) (fun _ q => q) fun _ _ q => q
    rintro rfl
    rcases hc with rfl | hc
    · rw [hfree] at e; cases e
    · rw [hfree] at hc; cases hc
  rcases hx with hk | hk
  · refine wpAny_storeName_local hk hn (fun h' hn' hs => ?_) hcls
    obtain ⟨oL, _, _, hoL, _⟩ := id hn
    refine h _ ⟨I.ok, I.os, I.bare, ⟨fun b o e n hb hx => ?_, fun b o e n hb hx => ?_, I.base.free, fun b o e hx => ?_, I.base.tups, I.base.frzs, I.base.tbls⟩, ⟨_, hn', fun j y v' e1 e2 e3 => ?_⟩, fun y c e => ?_, I.free, I.freeC, fun p hp => ?_, tracked ⟨oL, hoL, I.free⟩ hs, by simpa using I.len⟩ ⟨_, hs, .inl rfl⟩
    · exact (hs.2 b (Nat.ne_of_lt (Nat.lt_of_lt_of_le (Heap.lt_size e) I.ok.above))).trans (I.base.keep b o e n hb hx)
    · obtain ⟨sl, e1⟩ := I.base.slot b o e n hb hx
      exact ⟨sl, (hs.2 b (Nat.ne_of_lt (Nat.lt_of_lt_of_le (Heap.lt_size e) I.ok.above))).trans e1⟩
    · obtain ⟨o', e1⟩ := I.base.there b o e hx
      exact ⟨o', (hs.2 b (Nat.ne_of_lt (Nat.lt_of_lt_of_le (Heap.lt_size e) I.ok.above))).trans e1⟩
    · by_cases hj : j = i
      · subst hj
        rw [hi] at e1; cases e1
        rw [List.getElem?_set_self hiσ] at e2
        cases e2
        exact ⟨u, r, .inl ⟨hk, by simp⟩⟩
      · rw [List.getElem?_set_ne (Ne.symm hj)] at e2
        obtain ⟨u', r', q⟩ := hl j y v' e1 e2 e3
        refine ⟨u', r', ?_⟩
        rcases q with ⟨k, e⟩ | ⟨k, c, e, z⟩
        · refine .inl ⟨k, ?_⟩
          have : y ≠ x := fun e => hj (nodup_ix hN e1 (e ▸ hi))
          simp [this, e]
        · exact .inr ⟨k, c, e, z.sameBut hs (cne y c e)⟩
    · obtain ⟨w', z⟩ := I.cell y c e
      exact ⟨w', z.sameBut hs (cne y c e)⟩
    · obtain ⟨e, n, ne, nf, d⟩ := I.pin p hp
      exact ⟨(hs.2 p.1 ne).trans e, n, ne, nf, d⟩
  · have hfn : X.fn x = true := by
      rcases hf with z | z
      · exact z
      · rw [z] at hk; cases hk
    obtain ⟨c, hc⟩ := I.ok.has x (.inl hk)
    obtain ⟨w', z⟩ := I.cell x c hc
    refine wpAny_storeName_cell I.ok.kind hk hc z (fun h' hc' hs => ?_)
    obtain ⟨oc, hoc, hocd⟩ := id z
    refine h { s with heap := h' } ⟨I.ok, I.os, I.bare, ⟨fun b o e n hb hx => ?_, fun b o e n hb hx => ?_, I.base.free, fun b o e hx => ?_, I.base.tups, I.base.frzs, I.base.tbls⟩, ⟨m, hn.sameBut hs (Ne.symm (cne x c hc)), fun j y v' e1 e2 e3 => ?_⟩, fun y c' e => ?_, I.free, I.freeC, fun p hp => ?_, tracked ⟨oc, hoc, I.freeC x c hc⟩ hs, by simpa using I.len⟩ ⟨c, hs, .inr hc⟩
    · exact (hs.2 b (Nat.ne_of_lt (Nat.lt_of_lt_of_le (Heap.lt_size e) (I.ok.cab x c hfn hc)))).trans (I.base.keep b o e n hb hx)
    · obtain ⟨sl, e1⟩ := I.base.slot b o e n hb hx
      exact ⟨sl, (hs.2 b (Nat.ne_of_lt (Nat.lt_of_lt_of_le (Heap.lt_size e) (I.ok.cab x c hfn hc)))).trans e1⟩
    · obtain ⟨o', e1⟩ := I.base.there b o e hx
      exact ⟨o', (hs.2 b (Nat.ne_of_lt (Nat.lt_of_lt_of_le (Heap.lt_size e) (I.ok.cab x c hfn hc)))).trans e1⟩
    · by_cases hj : j = i
      · subst hj
        rw [hi] at e1; cases e1
        rw [List.getElem?_set_self hiσ] at e2
        cases e2
        exact ⟨u, r, .inr ⟨.inl hk, c, hc, hc'⟩⟩
      · rw [List.getElem?_set_ne (Ne.symm hj)] at e2
        obtain ⟨u', r', q⟩ := hl j y v' e1 e2 e3
        refine ⟨u', r', ?_⟩
        rcases q with q | ⟨k, c', e, z'⟩
        · exact .inl q
        · refine .inr ⟨k, c', e, z'.sameBut hs ?_⟩
          rintro rfl
          exact hj (nodup_ix hN e1 (I.ok.inj _ _ _ e hc ▸ hi))
    · by_cases hcc : c' = c
      · subst hcc; exact ⟨_, hc'⟩
      · obtain ⟨w2, z2⟩ := I.cell y c' e
        exact ⟨w2, z2.sameBut hs hcc⟩
    · obtain ⟨e, n, ne, nf, d⟩ := I.pin p hp
      refine ⟨(hs.2 p.1 ?_).trans e, n, ne, nf, d⟩
      intro q
      rw [q, hoc] at e
      have q' : oc = p.2 := Option.some.inj e
      exact d w' (by rw [← q']; exact hocd)
theorem store_ok {M : Model} {A : Around} {E : Value → Shared → Prop} {i : Nat} {x : Str} {v : V} {u : Value} {Q : Unit → Shared → Prop} (I : Inv X pins σ H s) (hN : X.N.Nodup) (hi : X.N[i]? = some x) (hx : Loc X.env.scope x) (r : RelV v u)
    (h : ∀ s', Inv X pins (σ.set i (some v)) H s' → Q () s') (hf : X.fn x = true ∨ X.env.scope.names.lookup x = some .local := by first | exact .inl rfl | exact .inr rfl | assumption) : wpAny M A (storeName X.env x u) Q E s :=
  store_ok2 I hN hi hx r (fun s' I' _ => h s' I') hf
theorem Inv.call' {s' : Shared} {ch : List Addr} (I : Inv X pins σ H s) (ho : s'.os = s.os) (u : Un (frs X.stack) ch H H' s.heap s'.heap) (hok : HOk X.prog X.w H' s'.heap) (hg : AllBare s'.gens)
    (hch : ∀ b ∈ ch, (b ∈ X.ex ∨ X.s₀.heap.objs.size ≤ b) ∧ b ≠ X.env.locals ∧ (∀ x c, X.env.cells.lookup x = some c → c ≠ b) ∧ ∀ p ∈ X.pn ++ pins, p.1 ≠ b) : Inv X pins σ H' s' := by
  obtain ⟨h', g', d', t', o'⟩ := s'
  have e : o' = s.os := ho
  subst e
  exact I.call (g' := g') (t' := t') (d' := d') u hok hg hch
end
abbrev XK := Value → Option Addr → Hp → Prop
abbrev St := List (Option V)
abbrev VK := V → Hp → Prop
abbrev TE := St → Hp → VK → Prop
abbrev TT := St → Hp → (Bool → Hp → Prop) → Prop
abbrev TA := St → Hp → (List V → Hp → Prop) → Prop
structure Ends where
  nx : St → Hp → Prop
  rt : VK
  bk : St → Hp → Prop := fun _ _ => False
  ct : St → Hp → Prop := fun _ _ => False
abbrev TS := Ends → St → Hp → Prop
def EP (X : Cx) (pins : List (Addr × Obj)) (σ : St) (Q : VK) (u : Value) (s' : Shared) : Prop := ∃ v H', Inv X pins σ H' s' ∧ RelV v u ∧ Q v H'
def TP (X : Cx) (pins : List (Addr × Obj)) (σ : St) (Q : Bool → Hp → Prop) (b : Bool) (s' : Shared) : Prop := ∃ H', Inv X pins σ H' s' ∧ Q b H'
def AP (X : Cx) (pins : List (Addr × Obj)) (σ : St) (Q : List V → Hp → Prop) (us : List Value) (s' : Shared) : Prop := ∃ vs H', Inv X pins σ H' s' ∧ Vals vs us ∧ Q vs H'
def SP (X : Cx) (pins : List (Addr × Obj)) (D : Ends) (f : Flow) (s' : Shared) : Prop :=
  match f with
  | .next => ∃ σ' H', Inv X pins σ' H' s' ∧ D.nx σ' H'
  | .brk => ∃ σ' H', Inv X pins σ' H' s' ∧ D.bk σ' H'
  | .cont => ∃ σ' H', Inv X pins σ' H' s' ∧ D.ct σ' H'
  | .ret u => ∃ v σ' H', Inv X pins σ' H' s' ∧ RelV v u ∧ D.rt v H'
def PE (X : Cx) (e : Expr) (t : TE) : Prop :=
  ∀ (pins : List (Addr × Obj)) (s : Shared) (σ : St) (H : Hp) (Q : VK), Inv X pins σ H s → t σ H Q → wpAny (model X.prog X.w) X.A (eval e X.env) (EP X pins σ Q) X.xe s
def PT (X : Cx) (e : Expr) (t : TT) : Prop :=
  ∀ (pins : List (Addr × Obj)) (s : Shared) (σ : St) (H : Hp) (Q : Bool → Hp → Prop), Inv X pins σ H s → t σ H Q → wpAny (model X.prog X.w) X.A (isTrue e X.env (eval e X.env)) (TP X pins σ Q) X.xe s
def PW (X : Cx) (e : Expr) (t : TT) : Prop :=
  ∀ (whole : Sem Value) (pins : List (Addr × Obj)) (s : Shared) (σ : St) (H : Hp) (Q : Bool → Hp → Prop), Inv X pins σ H s → t σ H Q → wpAny (model X.prog X.w) X.A (isTrue e X.env whole) (TP X pins σ Q) X.xe s
theorem PW.pt {X : Cx} {e : Expr} {t : TT} (h : PW X e t) : PT X e t := h _
def PA (X : Cx) (es : List Expr) (t : TA) : Prop :=
  ∀ (pos : Pos) (pins : List (Addr × Obj)) (s : Shared) (σ : St) (H : Hp) (Q : List V → Hp → Prop), Inv X pins σ H s → t σ H Q → wpAny (model X.prog X.w) X.A (spliced (backTo pos (starEach es X.env))) (AP X pins σ Q) X.xe s
def PS (X : Cx) (st : Stmt) (t : TS) : Prop :=
  ∀ (pins : List (Addr × Obj)) (s : Shared) (σ : St) (H : Hp) (D : Ends), Inv X pins σ H s → t D σ H → wpAny (model X.prog X.w) X.A (exec st X.env) (SP X pins D) X.xe s
def PSs (X : Cx) (st : List Stmt) (t : TS) : Prop :=
  ∀ (pins : List (Addr × Obj)) (s : Shared) (σ : St) (H : Hp) (D : Ends), Inv X pins σ H s → t D σ H → wpAny (model X.prog X.w) X.A (execs st X.env) (SP X pins D) X.xe s
theorem thn {α : Type} {t : Sem α} {Q Q' : α → Shared → Prop} {M : Model} {A : Around} {E : Value → Shared → Prop} {s : Shared} (h : wpAny M A t Q E s) (hQ : ∀ a s, Q a s → Q' a s) : wpAny M A t Q' E s := wpAny_mono h hQ fun _ _ x => x
end L2
namespace L2
open PySem PySem.Spec PyProof.Rows
section
variable {X : Cx}
def tVar (i : Nat) : TE := fun σ H Q => ∃ v, σ[i]? = some (some v) ∧ Q v H
def tC (v : V) : TE := fun _ H Q => Q v H
theorem pe_var {i : Nat} {x : Str} {pos : Pos} (hN : X.N[i]? = some x) (hv : Vis X.env.scope x) (hd : (x == ("__debug__" : Str)) = false := by decide) (hcd : (x == ("__classdict__" : Str)) = false := by decide) : PE X (.Name x pos) (tVar i) := by
  intro pins s σ H Q I h
  obtain ⟨v, e, h⟩ := h
  obtain ⟨m, hn, hl⟩ := I.loc
  obtain ⟨u, r, l⟩ := hl i x v hN e hv
  have fin : EP X pins σ Q u s := ⟨v, H, I, r, h⟩
  rcases l with ⟨hk, hm⟩ | ⟨hk, c, hc, hcell⟩
  · exact wpAny_Name (wpAny_loadName_local I.ok.kind hk hn hm fin) hd
  · rcases hk with hk | hk
    · exact wpAny_Name (wpAny_loadName_cell I.ok.kind hk hc hcell fin) hd
    · exact wpAny_Name (wpAny_loadName_free I.ok.kind hk hc hcell fin hcd) hd
theorem pe_int {i j pos} : PE X (.Constant (.int i) j pos) (tC (.int i)) := fun _ _ _ H _ I h => wpAny_Constant_int ⟨.int i, H, I.tok _, ⟨_, rfl⟩, h⟩
theorem pe_bl {b j pos} : PE X (.Constant (.bool b) j pos) (tC (.bl b)) := fun _ _ _ H _ I h => Constant_bool ⟨.bl b, H, I, rfl, h⟩
theorem pe_non {j pos} : PE X (.Constant .none j pos) (tC .non) := fun _ _ _ H _ I h => Constant_none ⟨.non, H, I, rfl, h⟩
def Gl (X : Cx) (x : Str) : Prop := X.env.kindOf x = some .globalImplicit
theorem ld_glob {E : Value → Shared → Prop} {pins : List (Addr × Obj)} {s : Shared} {σ : St} {H : Hp} {x : Str} {u : Value} {pos : Pos} {Q : Value → Shared → Prop} (I : Inv X pins σ H s) (hg : Gl X x) (hm : X.mg x = some u) (h : Q u s)
    (hd : (x == ("__debug__" : Str)) = false := by decide) : wpAny (model X.prog X.w) X.A (eval (.Name x pos) X.env) Q E s :=
  Calls.Name_function_global I.ok.kind hg (Calls.loadGlobal_global (by rw [I.ok.glob]; exact I.mod.glob.keeps I.bk) hm h) hd
theorem ld_blt {E : Value → Shared → Prop} {pins : List (Addr × Obj)} {s : Shared} {σ : St} {H : Hp} {x : Str} {u : Value} {pos : Pos} {Q : Value → Shared → Prop} (I : Inv X pins σ H s) (hg : Gl X x) (hm : X.mg x = none) (hv : bootBuiltins x = some u) (h : Q u s)
    (hn : x ≠ "__name__" := by decide) (hd : (x == ("__debug__" : Str)) = false := by decide) : wpAny (model X.prog X.w) X.A (eval (.Name x pos) X.env) Q E s := by
  obtain ⟨mb, h1, h2⟩ := I.mod.blt
  exact Calls.Name_function_global I.ok.kind hg (Calls.loadGlobal_builtin (by rw [I.ok.glob]; exact I.mod.glob.keeps I.bk) hm (by rw [I.ok.blt]; exact h1.keeps I.bk) ((h2 x hn).trans hv) h) hd
theorem pe_glob {x : Str} {v : V} {u : Value} {pos : Pos} (hg : Gl X x) (hm : X.mg x = some u) (r : RelV v u) (hd : (x == ("__debug__" : Str)) = false := by decide) : PE X (.Name x pos) (tC v) :=
  fun _ _ _ H _ I h => ld_glob I hg hm ⟨v, H, I, r, h⟩ hd
variable {a b : Expr} {ta tb : TE} {pos : Pos}
def tB (t : TE) : TT := fun σ H Q => t σ H fun x H1 => ∃ c, x = .bl c ∧ Q c H1
theorem pt_val {e : Expr} {t : TE} (h : PE X e t) (he : ∀ whole, isTrue e X.env whole = (do let v ← whole; standAt e.pos; holding [v] (truthy v)) := by intro _; rfl) : PT X e (tB t) := by
  intro pins s σ H Q I hw
  refine isTrue_plain (thn (h pins s σ H _ I hw) fun v s1 hqq => ?_) (he _)
  obtain ⟨x, H1, I1, r1, q1⟩ := hqq
  obtain ⟨d, rfl, q⟩ := q1
  cases r1
  exact wpAny_truthy_bool ⟨H1, I1, q⟩
variable {tA tB' : TT} {rest : List Expr}
def tAnd (t u : TT) : TT := fun σ H Q => t σ H fun c H1 => if c = true then u σ H1 Q else Q false H1
def tOr (t u : TT) : TT := fun σ H Q => t σ H fun c H1 => if c = true then Q true H1 else u σ H1 Q
def tNot (t : TT) : TT := fun σ H Q => t σ H fun c H1 => Q (!c) H1
theorem pw_and1 (ha : PT X a tA) : PW X (.BoolOp .And [a] pos) tA := by
  intro wh pins s σ H Q I h
  refine isTrue_and (thn (ha pins s σ H Q I h) fun c s1 e => ?_)
  cases c with
  | true => exact isTrue_and_nil e
  | false => exact e
theorem pw_or1 (ha : PT X a tA) : PW X (.BoolOp .Or [a] pos) tA := by
  intro wh pins s σ H Q I h
  refine isTrue_or (thn (ha pins s σ H Q I h) fun c s1 e => ?_)
  cases c with
  | false => exact isTrue_or_nil e
  | true => exact e
theorem pw_and (ha : PT X a tA) (hb : PW X (.BoolOp .And (b :: rest) pos) tB') : PW X (.BoolOp .And (a :: b :: rest) pos) (tAnd tA tB') := by
  intro wh pins s σ H Q I h
  refine isTrue_and (thn (ha pins s σ H _ I h) fun c s1 ⟨H1, I1, q1⟩ => ?_)
  cases c with
  | true => exact hb wh pins s1 σ H1 Q I1 q1
  | false => exact ⟨H1, I1, q1⟩
theorem pw_or (ha : PT X a tA) (hb : PW X (.BoolOp .Or (b :: rest) pos) tB') : PW X (.BoolOp .Or (a :: b :: rest) pos) (tOr tA tB') := by
  intro wh pins s σ H Q I h
  refine isTrue_or (thn (ha pins s σ H _ I h) fun c s1 ⟨H1, I1, q1⟩ => ?_)
  cases c with
  | true => exact ⟨H1, I1, q1⟩
  | false => exact hb wh pins s1 σ H1 Q I1 q1
theorem pt_not (ha : PT X a tA) : PT X (.UnaryOp .Not a pos) (tNot tA) := by
  intro pins s σ H Q I h
  exact isTrue_not (ha pins s σ H (fun c H1 => Q (!c) H1) I h)
def tOrV (ta tb : TE) : TE := fun σ H Q => ta σ H fun x H1 => ∃ c, x = .bl c ∧ if c = true then Q (.bl true) H1 else tb σ H1 Q
theorem pe_one {op} {t : TE} (h : PE X a t) : PE X (.BoolOp op [a] pos) t := fun pins s σ H Q I hw => BoolOp_one (h pins s σ H Q I hw)
theorem pe_or (ha : PE X a ta) (hb : PE X (.BoolOp .Or (b :: rest) pos) tb) : PE X (.BoolOp .Or (a :: b :: rest) pos) (tOrV ta tb) := by
  intro pins s σ H Q I h
  refine BoolOp_or (thn (ha pins s σ H _ I h) fun v s1 hqq => ?_)
  obtain ⟨x, H1, I1, r1, q1⟩ := hqq
  obtain ⟨c, rfl, q1⟩ := q1
  cases r1
  refine wpAny_truthy_bool ?_
  cases c with
  | false => exact hb pins s1 σ H1 Q I1 q1
  | true => exact ⟨.bl true, H1, I1, rfl, q1⟩
def tIf (t : TT) (ta tb : TE) : TE := fun σ H Q => t σ H fun c H1 => if c = true then ta σ H1 Q else tb σ H1 Q
theorem pe_ifExp {c : Expr} (hc : PT X c tA) (ha : PE X a ta) (hb : PE X b tb) : PE X (.IfExp c a b pos) (tIf tA ta tb) := by
  intro pins s σ H Q I h
  refine wpAny_IfExp (thn (hc pins s σ H _ I h) fun d s1 ⟨H1, I1, q1⟩ => ?_)
  cases d with
  | true => exact ha pins s1 σ H1 Q I1 q1
  | false => exact hb pins s1 σ H1 Q I1 q1
end
end L2
namespace L2
open PySem PySem.Spec PyProof.Rows
def SqL (K : PySem.W.Frag) (H : Hp) (a : Addr) (xs : List V) : Prop :=
  Rd H a (.lst xs) ∨
    ∃ (o : Obj) (its : Array Value) (n : Nat), K.lookup a = some o ∧ o.cls = .type "list" ∧ o.dict = none ∧ o.data = .seq its n ∧ its.size ≤ sizeLine ∧ Vals xs its.toList
def SqT (K : PySem.W.Frag) (H : Hp) (a : Addr) (xs : List V) : Prop :=
  Rd H a (.tup xs) ∨
    ∃ (o : Obj) (its : Array Value) (n : Nat), K.lookup a = some o ∧ o.cls = .type "tuple" ∧ o.data = .seq its n ∧ its.size ≤ sizeLine ∧ Vals xs its.toList
def absV : Value → Option V
  | .none => some .non
  | .bool b => some (.bl b)
  | .int i _ => some (.int i)
  | .str x _ => some (.str x)
  | .bytes b _ => some (.byt b)
  | .float b _ => some (.flt b)
  | .ref a => some (.ref a)
  | .type n => some (.ty n)
  | _ => none
theorem RelV.abs {x : V} {u : Value} (r : RelV x u) : absV u = some x := by
  cases x with
  | non => cases r; rfl
  | bl _ => cases r; rfl
  | int _ => obtain ⟨t, rfl⟩ := r; rfl
  | str _ => obtain ⟨t, rfl⟩ := r; rfl
  | byt _ => obtain ⟨t, rfl⟩ := r; rfl
  | flt _ => obtain ⟨t, rfl⟩ := r; rfl
  | ref _ => cases r; rfl
  | ty _ => cases r; rfl
theorem RelV.inj {x y : V} {u : Value} (r : RelV x u) (q : RelV y u) : x = y := Option.some.inj (r.abs.symm.trans q.abs)
theorem Vals.inj : ∀ {xs ys : List V} {us : List Value}, Vals xs us → Vals ys us → xs = ys
  | _, _, _, .nil, .nil => rfl
  | _, _, _, .cons r t, .cons r' t' => by rw [r.inj r', Vals.inj t t']
section
variable {X : Cx} {pins : List (Addr × Obj)} {σ : St} {H : Hp} {s : Shared} {a : Addr} {xs ys : List V}
theorem SqL.of {K : PySem.W.Frag} (h : H a = some (.lst xs)) : SqL K H a xs := .inl (.inl h)
theorem SqT.of {K : PySem.W.Frag} (h : H a = some (.tup xs)) : SqT K H a xs := .inl (.inl h)
theorem Inv.list (I : Inv X pins σ H s) (h : SqL X.K H a xs) : ∃ its : List Value, Vals xs its ∧ PlainL s.heap a its.toArray ∧ xs.length ≤ sizeLine := by
  rcases h with h | ⟨o, its, n, hk, hc, hd, hs, hz, r⟩
  · obtain ⟨z, its, n, r, e⟩ := h.ok I.hok
    exact ⟨its, r, ⟨_, n, e, rfl, rfl, rfl⟩, z⟩
  · refine ⟨its.toList, r, ⟨o, n, I.kIn a o hk, hc, hd, by simpa using hs⟩, ?_⟩
    have e := r.length
    simp only [Array.length_toList] at e
    omega
theorem Inv.tuple (I : Inv X pins σ H s) (h : SqT X.K H a xs) : ∃ its : List Value, Vals xs its ∧ IsTup s.heap a its.toArray ∧ xs.length ≤ sizeLine := by
  rcases h with h | ⟨o, its, n, hk, hc, hs, hz, r⟩
  · obtain ⟨z, its, r, p⟩ := h.ok I.hok
    exact ⟨its, r, p, z⟩
  · refine ⟨its.toList, r, ⟨o, I.kIn a o hk, hc, n, by simpa using hs⟩, ?_⟩
    have e := r.length
    simp only [Array.length_toList] at e
    omega
theorem Inv.list_inj (I : Inv X pins σ H s) (h : SqL X.K H a xs) (h' : SqL X.K H a ys) : xs = ys := by
  obtain ⟨its, r, ⟨o, n, e, _, _, d⟩, _⟩ := I.list h
  obtain ⟨its', r', ⟨o', n', e', _, _, d'⟩, _⟩ := I.list h'
  rw [e] at e'; cases e'
  rw [d] at d'
  injection d' with d1 _
  have : its = its' := by simpa using congrArg Array.toList d1
  subst this
  exact r.inj r'
end
abbrev Cx.wish (X : Cx) (E : Value → Shared → Prop) : Cx := { X with xe := E }
abbrev Cx.nox (X : Cx) : Cx := X.wish fun _ _ => False
theorem Cx.Ok.wish {X : Cx} (ok : X.Ok) (E : Value → Shared → Prop) : (X.wish E).Ok :=
  ⟨ok.mod, ok.kind, ok.glob, ok.blt, ok.above, ok.inj, ok.has, ok.cab, ok.hd, ok.frames, ok.stk, ok.exf, ok.bs, ok.bsz, ok.noex, ok.exfs, ok.funs, ok.frf⟩
theorem Cx.Ok.unwish {X : Cx} {E : Value → Shared → Prop} (ok : (X.wish E).Ok) : X.Ok :=
  ⟨ok.mod, ok.kind, ok.glob, ok.blt, ok.above, ok.inj, ok.has, ok.cab, ok.hd, ok.frames, ok.stk, ok.exf, ok.bs, ok.bsz, ok.noex, ok.exfs, ok.funs, ok.frf⟩
section
variable {X : Cx} {pins : List (Addr × Obj)} {σ : St} {H : Hp} {s : Shared} {E : Value → Shared → Prop}
theorem Inv.wish (I : Inv X pins σ H s) (E : Value → Shared → Prop) : Inv (X.wish E) pins σ H s := ⟨I.ok.wish E, I.os, I.bare, I.base, I.loc, I.cell, I.free, I.freeC, I.pin, I.hok, I.len⟩
theorem Inv.unwish (I : Inv (X.wish E) pins σ H s) : Inv X pins σ H s := ⟨I.ok.unwish, I.os, I.bare, I.base, I.loc, I.cell, I.free, I.freeC, I.pin, I.hok, I.len⟩
theorem SP.unwish {D : Ends} {f : Flow} {s' : Shared} (h : SP (X.wish E) pins D f s') : SP X pins D f s' := by
  cases f with
  | next => obtain ⟨σ', H', I, q⟩ := h; exact ⟨σ', H', I.unwish, q⟩
  | brk => obtain ⟨σ', H', I, q⟩ := h; exact ⟨σ', H', I.unwish, q⟩
  | cont => obtain ⟨σ', H', I, q⟩ := h; exact ⟨σ', H', I.unwish, q⟩
  | ret u => obtain ⟨v, σ', H', I, r, q⟩ := h; exact ⟨v, σ', H', I.unwish, r, q⟩
theorem PE.nox {e : Expr} {t : TE} (h : PE X.nox e t) : PE X e t := fun pins s σ H Q I hw =>
  wpAny_mono (h pins s σ H Q (I.wish _) hw) (fun _ _ ⟨v, H', I', r, q⟩ => ⟨v, H', I'.unwish, r, q⟩) fun _ _ z => False.elim z
theorem PT.nox {e : Expr} {t : TT} (h : PT X.nox e t) : PT X e t := fun pins s σ H Q I hw =>
  wpAny_mono (h pins s σ H Q (I.wish _) hw) (fun _ _ ⟨H', I', q⟩ => ⟨H', I'.unwish, q⟩) fun _ _ z => False.elim z
theorem PSs.nox {st : List Stmt} {t : TS} (h : PSs X.nox st t) : PSs X st t := fun pins s σ H D I hw =>
  wpAny_mono (h pins s σ H D (I.wish _) hw) (fun _ _ q => q.unwish) fun _ _ z => False.elim z
end
section
variable {X : Cx} {st : Stmt} {rest : List Stmt} {t u : TS} {e : Expr} {te : TE} {pos : Pos}
def tNext : TS := fun D σ H => D.nx σ H
def tSeq (t u : TS) : TS := fun D σ H => t { D with nx := u D } σ H
theorem pss_nil : PSs X [] tNext := fun _ _ σ H _ I h => wpAny_execs_nil ⟨σ, H, I, h⟩
theorem pss_cons (h1 : PS X st t) (h2 : PSs X rest u) : PSs X (st :: rest) (tSeq t u) := by
  intro pins s σ H D I h
  refine wpAny_execs_cons (thn (h1 pins s σ H { D with nx := u D } I h) fun f s1 q => ?_)
  cases f with
  | next =>
    obtain ⟨σ', H', I', q⟩ := q
    exact h2 pins s1 σ' H' D I' q
  | ret v => exact q
  | brk => exact q
  | cont => exact q
theorem pss_one (h1 : PS X st t) : PSs X [st] t := by
  intro pins s σ H D I h
  refine wpAny_execs_cons (thn (h1 pins s σ H D I h) fun f s1 q => ?_)
  cases f with
  | next => exact wpAny_execs_nil q
  | ret v => exact q
  | brk => exact q
  | cont => exact q
theorem ps_pass : PS X (.Pass pos) tNext := fun _ _ σ H _ I h => wpAny_Pass ⟨σ, H, I, h⟩
theorem Inv.quiet {pins : List (Addr × Obj)} {σ : St} {H : Hp} {s : Shared} (I : Inv X pins σ H s) : interactive X.env = false := by simp [interactive, I.ok.kind]
def tDrop (te : TE) : TS := fun D σ H => te σ H fun _ H1 => D.nx σ H1
theorem ps_expr (he : PE X e te) (hs : swapsWith e none pos.line X.env = pure false := by rfl) : PS X (.Expr e pos) (tDrop te) := by
  intro pins s σ H D I h
  exact wpAny_Expr_any (thn (he pins s σ H _ I h) fun v s1 ⟨x, H1, I1, r1, q1⟩ => ⟨σ, H1, I1, q1⟩) I.quiet hs
def tRet (te : TE) : TS := fun D σ H => te σ H D.rt
theorem ps_ret (he : PE X e te) : PS X (.Return (some e) pos) (tRet te) := by
  intro pins s σ H D I h
  exact wpAny_Return_some (thn (he pins s σ H _ I h) fun v s1 ⟨x, H1, I1, r1, q1⟩ => ⟨x, σ, H1, I1, r1, q1⟩)
def tIfS (c : TT) (t u : TS) : TS := fun D σ H => c σ H fun b H1 => if b = true then t D σ H1 else u D σ H1
theorem ps_if {c : Expr} {a b : List Stmt} {tc : TT} (hc : PT X c tc) (ha : PSs X a t) (hb : PSs X b u) : PS X (.If c a b pos) (tIfS tc t u) := by
  intro pins s σ H D I h
  refine wpAny_If (thn (hc pins s σ H _ I h) fun d s1 ⟨H1, I1, q1⟩ => ?_)
  cases d with
  | true => exact ha pins s1 σ H1 D I1 q1
  | false => exact hb pins s1 σ H1 D I1 q1
end
abbrev TG := V → St → Hp → (St → Hp → Prop) → Prop
abbrev TGs := List V → St → Hp → (St → Hp → Prop) → Prop
def PG (X : Cx) (target : Expr) (t : TG) : Prop :=
  ∀ (pins : List (Addr × Obj)) (s : Shared) (σ : St) (H : Hp) (v : V) (u : Value) (Q : St → Hp → Prop), Inv X pins σ H s → RelV v u → t v σ H Q →
    wpAny (model X.prog X.w) X.A (assign target X.env u) (fun _ s' => ∃ σ' H', Inv X pins σ' H' s' ∧ Q σ' H') X.xe s
def PGs (X : Cx) (ts : List Expr) (t : TGs) : Prop :=
  ∀ (pins : List (Addr × Obj)) (s : Shared) (σ : St) (H : Hp) (vs : List V) (us : List Value) (Q : St → Hp → Prop), Inv X pins σ H s → Vals vs us → t vs σ H Q →
    wpAny (model X.prog X.w) X.A (assignInOrder ((assignEach ts X.env).map (·.2)) us) (fun _ s' => ∃ σ' H', Inv X pins σ' H' s' ∧ Q σ' H') X.xe s
abbrev TIp := V → V → Hp → VK → Prop
def PIp (X : Cx) (op : Operator) (t : TIp) : Prop :=
  ∀ (pins : List (Addr × Obj)) (s : Shared) (σ : St) (H : Hp) (x y : V) (v u : Value) (Q : VK), Inv X pins σ H s → RelV x v → RelV y u → t x y H Q →
    wpAny (model X.prog X.w) X.A (inplaceOp op v u) (EP X pins σ Q) X.xe s
section
variable {X : Cx} {pos : Pos}
def gName (i : Nat) : TG := fun v σ H Q => Q (σ.set i (some v)) H
theorem pg_name {i : Nat} {x : Str} (hN : X.N.Nodup) (hi : X.N[i]? = some x) (hx : Loc X.env.scope x) (hf : X.fn x = true ∨ X.env.scope.names.lookup x = some .local := by first | exact .inl rfl | exact .inr rfl | assumption) : PG X (.Name x pos) (gName i) := by
  intro pins s σ H v u Q I r h
  exact wpAny_assign_Name (store_ok I hN hi hx r (fun s' I' => ⟨_, H, I', h⟩) hf)
def gNil : TGs := fun vs σ H Q => vs = [] ∧ Q σ H
def gCons (t : TG) (u : TGs) : TGs := fun vs σ H Q => ∃ v r, vs = v :: r ∧ t v σ H fun σ' H' => u r σ' H' Q
theorem pgs_nil : PGs X [] gNil := by
  intro pins s σ H vs us Q I r h
  obtain ⟨e, h⟩ := h
  subst e
  cases r
  exact assignInOrder_nil ⟨σ, H, I, h⟩
theorem pgs_cons {e : Expr} {es : List Expr} {t : TG} {u : TGs} (h1 : PG X e t) (h2 : PGs X es u)
    (hs : (assignEach (e :: es) X.env).map (·.2) = assign e X.env :: (assignEach es X.env).map (·.2) := by rfl) : PGs X (e :: es) (gCons t u) := by
  intro pins s σ H vs us Q I r h
  obtain ⟨v, vr, e1, h⟩ := h
  subst e1
  cases r with
  | cons r rr =>
    rw [hs]
    refine assignInOrder_cons (thn (h1 pins s σ H _ _ _ I r h) fun _ s1 hqq => ?_)
    obtain ⟨σ1, H1, I1, q1⟩ := hqq
    exact h2 pins s1 σ1 H1 _ _ Q I1 rr q1
def gTup (K : PySem.W.Frag) (n : Nat) (t : TGs) : TG := fun v σ H Q => ∃ a xs, v = .ref a ∧ SqT K H a xs ∧ xs.length = n ∧ t xs σ H Q
theorem pg_tup {es : List Expr} {k : Nat} {t : TGs} {n : Nat} (hc : X.calm = true) (h : PGs X es t)
    (hn : (assignEach es X.env).length = n := by rfl) (hst : (assignEach es X.env).findIdx? (·.1) = none := by rfl) : PG X (.Tuple es k pos) (gTup X.K n t) := by
  intro pins s σ H v u Q I r hw
  obtain ⟨a, xs, e1, hq, hl, hw⟩ := hw
  subst e1
  cases r
  obtain ⟨its, rv, ht, hz⟩ := I.tuple hq
  refine assign_Tuple_tuple (I.ok.hd hc) ht (by simp [hn, ← hl, rv.length]) hst fun h' hx => ?_
  have I1 : Inv X pins σ H { s with heap := h' } := I.kept (t' := s.toks) fun b o e => hx b o (Nat.ne_of_lt (Heap.lt_size e)) e
  exact h pins _ σ H xs _ Q I1 (by simpa using rv) hw
def tAsg (te : TE) (g : TG) : TS := fun D σ H => te σ H fun x H1 => g x σ H1 D.nx
theorem ps_set {i : Nat} {x : Str} {e : Expr} {te : TE} {pos' : Pos} (hN : X.N.Nodup) (hi : X.N[i]? = some x) (hx : Loc X.env.scope x) (he : PE X e te) (hs : swapsWith e (some (.Name x pos')) pos.line X.env = pure false := by rfl) (hf : X.fn x = true ∨ X.env.scope.names.lookup x = some .local := by first | exact .inl rfl | exact .inr rfl | assumption) :
    PS X (.Assign [.Name x pos'] e pos) (tAsg te (gName i)) := by
  intro pins s σ H D I h
  refine wpAny_Assign_Name (thn (he pins s σ H _ I h) fun v s1 hqq => ?_) hs
  obtain ⟨y, H1, I1, r1, q1⟩ := hqq
  exact store_ok I1 hN hi hx r1 (fun s2 I2 => ⟨_, H1, I2, q1⟩) hf
def tAug (i : Nat) (te : TE) (ti : TIp) : TS := fun D σ H => ∃ x, σ[i]? = some (some x) ∧ te σ H fun y H1 => ti x y H1 fun z H2 => D.nx (σ.set i (some z)) H2
theorem ps_aug {i : Nat} {x : Str} {e : Expr} {te : TE} {op : Operator} {ti : TIp} {pos' : Pos} (hN : X.N.Nodup) (hi : X.N[i]? = some x) (hx : Loc X.env.scope x) (he : PE X e te) (ho : PIp X op ti) (hf : X.fn x = true ∨ X.env.scope.names.lookup x = some .local := by first | exact .inl rfl | exact .inr rfl | assumption) :
    PS X (.AugAssign (.Name x pos') op e pos) (tAug i te ti) := by
  intro pins s σ H D I h
  obtain ⟨v, e1, h⟩ := h
  obtain ⟨m, hn, hl⟩ := I.loc
  have vis : Vis X.env.scope x := by rcases hx with k | k; exact .inl k; exact .inr (.inl k)
  obtain ⟨u, r, l⟩ := hl i x v hi e1 vis
  refine wpAny_AugAssign_Name ?_
  have go : wpAny (model X.prog X.w) X.A (eval e X.env) (fun w s₂ => wpAny (model X.prog X.w) X.A (inplaceOp op u w) (fun r s₃ => wpAny (model X.prog X.w) X.A (storeName X.env x r) (fun _ => SP X pins D .next) X.xe s₃) X.xe s₂) X.xe s := by
    refine thn (he pins s σ H _ I h) fun w s1 hqq => ?_
    obtain ⟨y, H1, I1, r1, q1⟩ := hqq
    refine thn (ho pins s1 σ H1 v y u w _ I1 r r1 q1) fun z s2 hqq => ?_
    obtain ⟨zv, H2, I2, r2, q2⟩ := hqq
    exact store_ok I2 hN hi hx r2 (fun s3 I3 => ⟨_, H2, I3, q2⟩) hf
  rcases l with ⟨hk, hm⟩ | ⟨hk, c, hc, hcell⟩
  · exact wpAny_loadName_local I.ok.kind hk hn hm go
  · rcases hk with hk | hk
    · exact wpAny_loadName_cell I.ok.kind hk hc hcell go
    · rcases hx with k | k
      · have : X.env.scope.names.lookup x = some .free := hk
        rw [k] at this; cases this
      · have : X.env.scope.names.lookup x = some .free := hk
        rw [k] at this; cases this
def ipI (f : Int → Int → Int) : TIp := fun x y H Q => ∃ i j, x = .int i ∧ y = .int j ∧ Q (.int (f i j)) H
theorem ip_add : PIp X .Add (ipI fun i j => i + j) := by
  intro pins s σ H x y v u Q I r1 r2 h
  obtain ⟨i, j, e1, e2, q⟩ := h
  subst e1; subst e2
  obtain ⟨t, rfl⟩ := r1
  obtain ⟨t', rfl⟩ := r2
  exact iadd_int ⟨.int _, H, I.tok _, ⟨_, rfl⟩, q⟩
end
section
variable {X : Cx} {pos : Pos}
def tWhile (c : TT) (tb : TS) : TS := fun D σ H => ∃ W : Nat → St → Hp → Prop, (∃ m, W m σ H) ∧ ∀ m σ H, W m σ H →
  c σ H fun b H1 => if b = true then ∃ N : St → Hp → Prop, (∀ σ' H', N σ' H' → ∃ m', m' < m ∧ W m' σ' H') ∧ tb { D with nx := N, ct := N, bk := D.nx } σ H1 else D.nx σ H1
theorem ps_while {c : Expr} {body : List Stmt} {tc : TT} {tb : TS} (hp : PassesOwn (model X.prog X.w) X.A X.env X.xe) (hc : PT X c tc) (hb : PSs X body tb) : PS X (.While c body [] pos) (tWhile tc tb) := by
  intro pins s σ H D I h
  obtain ⟨W, ⟨m0, w0⟩, turn⟩ := h
  refine wpAny_While (codeAny_whileLoop (fun n s' => ∃ σ' H', Inv X pins σ' H' s' ∧ W n σ' H') ?_ m0 ⟨σ, H, I, w0⟩)
  rintro n s1 ⟨σ1, H1, I1, w1⟩
  refine wpAny_passesOwn hp (thn (hc pins s1 σ1 H1 _ I1 (turn n σ1 H1 w1)) fun b s2 ⟨H2, I2, q2⟩ => ?_)
  cases b with
  | true =>
    obtain ⟨N, hN, q2⟩ := q2
    rw [if_pos rfl]
    refine wpAny_passesOwn hp (thn (hb pins s2 σ1 H2 _ I2 q2) fun f s3 q3 => ?_)
    cases f with
    | next =>
      obtain ⟨σ3, H3, I3, n3⟩ := q3
      obtain ⟨m', hm, w3⟩ := hN σ3 H3 n3
      exact ⟨m', hm, σ3, H3, I3, w3⟩
    | cont =>
      obtain ⟨σ3, H3, I3, n3⟩ := q3
      obtain ⟨m', hm, w3⟩ := hN σ3 H3 n3
      exact ⟨m', hm, σ3, H3, I3, w3⟩
    | brk => exact q3
    | ret v => exact q3
  | false =>
    rw [if_neg Bool.false_ne_true]
    exact wpAny_execs_nil ⟨σ1, H2, I2, q2⟩
end
structure It where
  go : Nat → Hp → Prop
  yld : Nat → Hp → V → Hp → Prop
  stop : Nat → Hp → Prop
def FpOk (X : Cx) (pins : List (Addr × Obj)) (H : Hp) (b : Addr) : Prop :=
  H b = none ∧ b ≠ X.env.locals ∧ b ∉ X.fs ∧ (b ∈ X.ex ∨ X.s₀.heap.objs.size ≤ b) ∧ (∀ x c, X.env.cells.lookup x = some c → c ≠ b) ∧ ∀ p ∈ X.pn ++ pins, p.1 ≠ b
theorem Inv.fpOk {X : Cx} {pins : List (Addr × Obj)} {σ : St} {H H' : Hp} {s : Shared} {b : Addr} (I : Inv X pins σ H s) (hb : s.heap.objs.size ≤ b) (hn : H' b = none) : FpOk X pins H' b := by
  refine ⟨hn, Nat.ne_of_gt (Nat.lt_of_lt_of_le I.lt hb), I.nofs hb, .inr (Nat.le_trans I.sz hb), fun x c e z => ?_, fun p hp z => ?_⟩
  · obtain ⟨v, q⟩ := I.cell x c e
    exact absurd (Nat.lt_of_lt_of_le q.lt (by rw [z]; exact hb)) (Nat.lt_irrefl _)
  · exact absurd (Nat.lt_of_lt_of_le (Heap.lt_size (I.pin p hp).1) (by rw [z]; exact hb)) (Nat.lt_irrefl _)
structure Turn (P : Program) (w : World) (K : PySem.W.Frag) (tg : Expr) (J : It) (fp : List Addr) (it : Addr) (tn : Nat → Heap → Prop) : Prop where
  mem : it ∈ fp
  obj : ∀ i h, tn i h → ∀ b ∈ fp, ∃ o, h.get? b = some o ∧ ∀ v, o.data ≠ .cell v
  keep : ∀ i h h', tn i h → (∀ b ∈ fp, ∀ o, h.get? b = some o → h'.get? b = some o) → tn i h'
  item : ∀ (X : Cx), X.prog = P → X.w = w → X.K = K → X.calm = true → ∀ (i : Nat) (pins : List (Addr × Obj)) (s : Shared) (σ : St) (H : Hp) (E : Value → Shared → Prop), Inv X pins σ H s → (∀ b ∈ fp, FpOk X pins H b) → tn i s.heap → J.go i H →
    wpAny (model P w) X.A (pyNext (.ref it)) (fun r s1 => ∃ u, r = some u ∧
      wpAny (model P w) X.A (letOwnedTupleGo tg (.ref it) u) (fun _ s2 => ∃ x H', Inv X pins σ H' s2 ∧ RelV x u ∧ J.yld i H x H' ∧ tn (i + 1) s2.heap ∧ ∀ b ∈ fp, H' b = none) E s1) E s
  done : ∀ (X : Cx), X.prog = P → X.w = w → X.K = K → X.calm = true → ∀ (i : Nat) (pins : List (Addr × Obj)) (s : Shared) (σ : St) (H : Hp) (E : Value → Shared → Prop), Inv X pins σ H s → (∀ b ∈ fp, FpOk X pins H b) → tn i s.heap → J.stop i H →
    wpAny (model P w) X.A (pyNext (.ref it)) (fun r s1 => r = none ∧ Inv X pins σ H s1) E s
  self : ∀ (A : Around) (i : Nat) (s : Shared) (Q : Value → Shared → Prop) (E : Value → Shared → Prop), tn i s.heap → Q (.ref it) s → wpAny (model P w) A (pyIter (.ref it)) Q E s
abbrev TI := St → Hp → (It → Hp → Prop) → Prop
def PIE (X : Cx) (pins : List (Addr × Obj)) (σ : St) (tg : Expr) (R : It → Hp → Prop) (itv : Value) (s2 : Shared) : Prop :=
  ∃ (it : Addr) (fp : List Addr) (tn : Nat → Heap → Prop) (J : It) (H' : Hp), itv = .ref it ∧ Inv X pins σ H' s2 ∧ Turn X.prog X.w X.K tg J fp it tn ∧ tn 0 s2.heap ∧ (∀ b ∈ fp, FpOk X pins H' b) ∧ R J H'
def PI (X : Cx) (tg iter : Expr) (wi : TI) : Prop :=
  ∀ (pins : List (Addr × Obj)) (s : Shared) (σ : St) (H : Hp) (R : It → Hp → Prop), Inv X pins σ H s → wi σ H R →
    wpAny (model X.prog X.w) X.A (eval iter X.env) (fun v s1 => wpAny (model X.prog X.w) X.A (pyIter v) (PIE X pins σ tg R) X.xe s1) X.xe s
theorem go_of {M : Model} {A : Around} {E : Value → Shared → Prop} {s : Shared} {tg : Expr} {it : Addr} {u : Value} {o : Obj} {n : String} {vs : Array Value} {Q : Unit → Shared → Prop} (ho : s.heap.get? it = some o) (hc : o.cls = .type n) (hd : o.data = .fields vs)
    (hn : ["enumerate", "zip", "dict_itemiterator", "dict_reverseitemiterator", "odict_iterator", "itertools.zip_longest", "itertools.pairwise"].contains n = false) (hQ : Q () s) : wpAny M A (letOwnedTupleGo tg (.ref it) u) Q E s := by
  unfold letOwnedTupleGo
  cases tg <;> first
    | exact wpAny_pure hQ
    | (cases u <;> first
        | exact wpAny_pure hQ
        | (refine wpAny_bind (wpAny_load ho ?_)
           rw [hc, hd]
           show wpAny M A (if (["enumerate", "zip", "dict_itemiterator", "dict_reverseitemiterator", "odict_iterator", "itertools.zip_longest", "itertools.pairwise"].contains n && vs[0]? == some (rawInt _)) = true then _ else _) Q E s
           rw [if_neg (by intro h; rw [hn, Bool.false_and] at h; cases h)]
           exact wpAny_pure hQ))
def Itl (K : PySem.W.Frag) (a : Addr) : It :=
  ⟨fun i H => ∃ xs x, SqL K H a xs ∧ xs[i]? = some x, fun i H x H' => H' = H ∧ ∀ xs, SqL K H a xs → xs[i]? = some x, fun i H => ∃ xs, SqL K H a xs ∧ xs.length ≤ i⟩
def Itr (lo : Int) (n : Nat) : It := ⟨fun i _ => i < n, fun i H x H' => H' = H ∧ x = .int (lo + i), fun i _ => n ≤ i⟩
theorem turn_list {P : Program} {w : World} {K : PySem.W.Frag} {tg : Expr} (a it : Addr) : Turn P w K tg (Itl K a) [it] it (fun i h => h.IsListIter it a i) where
  mem := by simp
  obj := fun i h st b hb => by
    have e : b = it := by simpa using hb
    subst e
    obtain ⟨o, e, c, d⟩ := st
    exact ⟨o, e, fun v z => by rw [d] at z; cases z⟩
  keep := fun i h h' st k => st.at fun o e => k it (by simp) o e
  item := by
    intro X hP hw hK hc i pins s σ H E I hf st hg
    subst hP hw hK
    obtain ⟨xs, x, hq, hx⟩ := hg
    obtain ⟨its, rv, p, hz⟩ := I.list hq
    obtain ⟨u, hu, ru⟩ := rv.get hx
    obtain ⟨f0, f1, f2, f3, f4, f5⟩ := hf it (by simp)
    refine wpAny_pyNext_list_item st p.isList (x := u) (by simpa using hu) fun h' st' sb => ?_
    have I1 : Inv X pins σ H { s with heap := h' } := I.turned (t' := s.toks) (fun b o hb e => (sb.2 b hb).trans e) f0 f1 f3 f4 f5
    obtain ⟨o, e, c, d⟩ := id st'
    exact ⟨u, rfl, go_of (s := { s with heap := h' }) e c d (by decide) ⟨x, H, I1, ru, ⟨rfl, fun ys hy => by rw [I.list_inj hy hq]; exact hx⟩, st', fun b hb => (hf b hb).1⟩⟩
  done := by
    intro X hP hw hK hc i pins s σ H E I hf st hg
    subst hP hw hK
    obtain ⟨xs, hq, hx⟩ := hg
    obtain ⟨its, rv, p, hz⟩ := I.list hq
    obtain ⟨f0, f1, f2, f3, f4, f5⟩ := hf it (by simp)
    have hl := rv.length
    exact wpAny_pyNext_list_end (I.ok.hd hc) st p.isList (by simp; omega) fun h' eb => ⟨rfl, I.turned (t' := s.toks) (fun b o hb e => eb b o hb e) f0 f1 f3 f4 f5⟩
  self := fun _ _ _ _ _ st h => wpAny_pyIter_listiter st h
theorem turn_range {P : Program} {w : World} {K : PySem.W.Frag} {tg : Expr} (it : Addr) (lo : Int) (n : Nat) : Turn P w K tg (Itr lo n) [it] it (fun i h => IsRangeIter h it (lo + (i : Nat) * 1) ((n : Int) - (i : Nat)) 1) where
  mem := by simp
  obj := fun i h st b hb => by
    have e : b = it := by simpa using hb
    subst e
    exact ⟨_, st, fun v z => by
      have z' : Data.fields _ = Data.cell v := z
      cases z'⟩
  keep := fun i h h' st k => k it (by simp) _ st
  item := by
    intro X hP hw hK hc i pins s σ H E I hf st hg
    subst hP hw hK
    obtain ⟨f0, f1, f2, f3, f4, f5⟩ := hf it (by simp)
    have W := Walks.range (prog := X.prog) (w := X.w) (I.ok.hd hc) it lo 1 n
    refine W.item i s _ _ hg st fun v h' tk hv st' kk => ?_
    obtain ⟨t, rfl⟩ := hv
    have I1 : Inv X pins σ H { s with heap := h', toks := tk } := I.turned (fun b o hb e => kk b o (by simpa using hb) e) f0 f1 f3 f4 f5
    refine ⟨_, rfl, go_of (s := { s with heap := h', toks := tk }) (n := "range_iterator") st' rfl rfl (by decide) ⟨.int (lo + i), H, I1, ⟨t, ?_⟩, ⟨rfl, rfl⟩, st', fun b hb => (hf b hb).1⟩⟩
    rw [Int.mul_one]
  done := by
    intro X hP hw hK hc i pins s σ H E I hf st hg
    subst hP hw hK
    obtain ⟨f0, f1, f2, f3, f4, f5⟩ := hf it (by simp)
    exact wpAny_pyNext_range_end (I.ok.hd hc) st (by have : n ≤ i := hg; omega) fun h' eb => ⟨rfl, I.turned (t' := s.toks) (fun b o hb e => eb b o hb e) f0 f1 f3 f4 f5⟩
  self := fun _ _ _ _ _ st h => wpAny_pyIter_rangeiter st h
end L2
namespace L2
open PySem PySem.Spec PyProof.Rows
section
variable {X : Cx} {tg : Expr}
def iList (K : PySem.W.Frag) (tl : TE) : TI := fun σ H R => tl σ H fun x H1 => ∃ a, x = .ref a ∧ (∃ xs, SqL K H1 a xs) ∧ R (Itl K a) H1
theorem pi_list {l : Expr} {tl : TE} (hl : PE X l tl) : PI X tg l (iList X.K tl) := by
  intro pins s σ H R I h
  refine thn (hl pins s σ H _ I h) fun v s1 hqq => ?_
  obtain ⟨x, H1, I1, r1, q1⟩ := hqq
  obtain ⟨a, e, ⟨xs, hq⟩, q⟩ := q1
  subst e
  cases r1
  obtain ⟨its, rv, p, hz⟩ := I1.list hq
  refine wpAny_pyIter_list p.isList ?_
  refine ⟨s1.heap.objs.size, [s1.heap.objs.size], _, _, H1, rfl, I1.kept (t' := s1.toks) fun b o e => Heap.get?_push_of_some _ e, turn_list a _, ⟨_, Heap.get?_push_size _ rfl, rfl, rfl⟩, fun b hb => ?_, q⟩
  have e : b = s1.heap.objs.size := by simpa using hb
  subst e
  exact I1.fpOk (Nat.le_refl _) (I1.hok.fresh (Nat.le_refl _))
theorem range_it {pins : List (Addr × Obj)} {σ : St} {H : Hp} {s : Shared} {R : It → Hp → Prop} {E : Value → Shared → Prop} {lo hi : Int} {t u v : Tok} {tk : Nat} (I : Inv X pins σ H s) (h1 : -(2 ^ 62) ≤ lo) (h2 : lo < 2 ^ 62) (h3 : -(2 ^ 62) ≤ hi) (h4 : hi < 2 ^ 62)
    (q : R (Itr lo (hi - lo).toNat) H) : wpAny (model X.prog X.w) X.A (pyIter (.ref s.heap.objs.size)) (PIE X pins σ tg R) E { s with heap := s.heap.push { cls := .type "range", data := .fields #[.int lo t, .int hi u, .int 1 v] }, toks := tk } := by
  refine wpAny_pyIter_range (IsRange.new ..) (small_one h1 h2 h3 h4) ?_
  have I1 : Inv X pins σ H { s with heap := s.heap.push { cls := .type "range", data := .fields #[.int lo t, .int hi u, .int 1 v] }, toks := tk } := I.kept fun b o e => Heap.get?_push_of_some _ e
  refine ⟨(s.heap.push { cls := .type "range", data := .fields #[.int lo t, .int hi u, .int 1 v] }).objs.size, [(s.heap.push { cls := .type "range", data := .fields #[.int lo t, .int hi u, .int 1 v] }).objs.size], _, _, H, rfl,
    I1.kept (t' := tk) fun b o e => Heap.get?_push_of_some _ e, turn_range _ lo (hi - lo).toNat, ?_, fun b hb => ?_, q⟩
  · have e1 : lo + ((0 : Nat) : Int) * 1 = lo := by simp
    have e2 : (((hi - lo).toNat : Nat) : Int) - ((0 : Nat) : Int) = Builtin.Range.rangeSize lo hi 1 := by rw [rangeSize_one]; split <;> omega
    show IsRangeIter _ _ (lo + ((0 : Nat) : Int) * 1) ((((hi - lo).toNat : Nat) : Int) - ((0 : Nat) : Int)) 1
    rw [e1, e2]
    exact Heap.get?_push_size _ rfl
  · have e : b = (s.heap.push { cls := .type "range", data := .fields #[.int lo t, .int hi u, .int 1 v] }).objs.size := by simpa using hb
    subst e
    exact I1.fpOk (Nat.le_refl _) (I1.hok.fresh (Nat.le_refl _))
def iRng1 (ta : TA) : TI := fun σ H R => ta σ H fun vs H1 => ∃ j : Int, vs = [.int j] ∧ -(2 ^ 62) ≤ j ∧ j < 2 ^ 62 ∧ R (Itr 0 j.toNat) H1
theorem pi_range1 {a : Expr} {ta : TA} {p pos : Pos} (hg : Gl X "range") (hm : X.mg "range" = none) (ha : PA X [a] ta) (hs : starEach [a] X.env = [(false, eval a X.env)] := by rfl) : PI X tg (.Call (.Name "range" p) [a] [] pos) (iRng1 ta) := by
  intro pins s σ H R I h
  refine Call_ (ld_blt I hg hm boot_range (PyProof.Rows.callWith_type1 (thn (ha pos pins s σ H _ I h) fun us s1 hqq => ?_) hs rfl))
  obtain ⟨vs, H1, I1, r1, q1⟩ := hqq
  obtain ⟨j, e, q1, q2, q⟩ := q1
  subst e
  cases r1 with
  | cons r rr =>
    cases rr
    obtain ⟨t, rfl⟩ := r
    exact call_range_1 (range_it I1 (by omega) (by omega) q1 q2 (by simpa using q))
def tFor (wi : TI) (g : TG) (tb : TS) : TS := fun D σ H => wi σ H fun J H1 => ∃ W : Nat → Nat → St → Hp → Prop, (∃ m, W 0 m σ H1) ∧ ∀ i m σ H, W i m σ H →
  (J.stop i H ∧ D.nx σ H) ∨ (J.go i H ∧ ∃ N : St → Hp → Prop, (∀ σ' H', N σ' H' → ∃ m', m' < m ∧ W (i + 1) m' σ' H') ∧ ∀ x H', J.yld i H x H' → g x σ H' fun σ2 H2 => tb { D with nx := N, ct := N, bk := D.nx } σ2 H2)
def pinsAt (fp : List Addr) (h : Heap) : List (Addr × Obj) := fp.filterMap fun b => (h.get? b).map fun o => (b, o)
theorem mem_pinsAt {fp : List Addr} {h : Heap} {b : Addr} {o : Obj} (hb : b ∈ fp) (e : h.get? b = some o) : (b, o) ∈ pinsAt fp h := List.mem_filterMap.mpr ⟨b, hb, by rw [e]; rfl⟩
theorem of_pinsAt {fp : List Addr} {h : Heap} {p : Addr × Obj} (hp : p ∈ pinsAt fp h) : p.1 ∈ fp ∧ h.get? p.1 = some p.2 := by
  obtain ⟨b, hb, e⟩ := List.mem_filterMap.mp hp
  cases q : h.get? b with
  | none => rw [q] at e; cases e
  | some o =>
    rw [q] at e
    have e' : (b, o) = p := Option.some.inj e
    subst e'
    exact ⟨hb, q⟩
theorem Inv.pinned {pins : List (Addr × Obj)} {σ : St} {H : Hp} {s : Shared} {fp : List Addr} (I : Inv X pins σ H s) (hf : ∀ b ∈ fp, FpOk X pins H b) (ho : ∀ b ∈ fp, ∃ o, s.heap.get? b = some o ∧ ∀ v, o.data ≠ .cell v) : Inv X (pins ++ pinsAt fp s.heap) σ H s :=
  I.pins_of fun p hp => (List.mem_append.mp hp).elim (fun z => I.pin p (List.mem_append_right _ z)) fun z => by
    obtain ⟨hb, e⟩ := of_pinsAt z
    obtain ⟨f0, f1, f2, _⟩ := hf p.1 hb
    obtain ⟨o, e', d⟩ := ho p.1 hb
    rw [e] at e'; cases e'
    exact ⟨e, f0, f1, f2, d⟩
theorem Inv.unpinned {pins pl : List (Addr × Obj)} {σ : St} {H : Hp} {s : Shared} (I : Inv X (pins ++ pl) σ H s) : Inv X pins σ H s := I.pins_of fun p hp => I.pin p (List.mem_append_right _ (List.mem_append_left _ hp))
theorem ps_for {iter : Expr} {body : List Stmt} {wi : TI} {g : TG} {tb : TS} {pos : Pos} (hp : PassesOwn (model X.prog X.w) X.A X.env X.xe) (hc : X.calm = true) (hi : PI X tg iter wi) (hg : PG X tg g) (hb : PSs X body tb)
    (hs : ∀ x, foldedSetIterable iter X.env x = pure x := by intro _; rfl) : PS X (.For tg iter body [] pos) (tFor wi g tb) := by
  intro pins s σ H D I h
  refine wpAny_For (thn (hi pins s σ H _ I h) fun v s1 h1 => thn h1 fun itv s2 h2 => ?_) hs
  obtain ⟨it, fp, tn, J, H2, e, I2, T, st2, f2, W, ⟨m0, w0⟩, turn⟩ := h2
  subst e
  -- what stays true of the iterator's objects through the loop
  have stat : ∀ {H' : Hp}, (∀ b ∈ fp, H' b = none) → ∀ b ∈ fp, FpOk X pins H' b := fun hn b hb => ⟨hn b hb, (f2 b hb).2⟩
  refine codeAny_forLoop_any (fun n s' => ∃ i σ' H', Inv X pins σ' H' s' ∧ tn i s'.heap ∧ (∀ b ∈ fp, H' b = none) ∧ W i n σ' H') ?_ m0 ⟨0, σ, H2, I2, st2, fun b hb => (f2 b hb).1, w0⟩
  rintro n s3 ⟨i, σ3, H3, I3, st3, fr3, w3⟩
  rcases turn i n σ3 H3 w3 with ⟨stop, qn⟩ | ⟨go, N, hN, step⟩
  · refine wpAny_passesOwn hp (thn (T.done X rfl rfl rfl hc i pins s3 σ3 H3 X.xe I3 (stat fr3) st3 stop) fun r s4 ⟨hr, I4⟩ => ?_)
    subst hr
    exact wpAny_execs_nil ⟨σ3, H3, I4, qn⟩
  · refine wpAny_passesOwn hp (thn (T.item X rfl rfl rfl hc i pins s3 σ3 H3 X.xe I3 (stat fr3) st3 go) fun r s4 ⟨u, hr, h4⟩ => ?_)
    subst hr
    refine wpAny_passesOwn hp (thn h4 fun _ s5 hqq => ?_)
    obtain ⟨x, H5, I5, r5, y5, st5, fr5⟩ := hqq
    have I5' := I5.pinned (stat fr5) (T.obj _ _ st5)
    refine wpAny_passesOwn hp (thn (hg _ s5 σ3 H5 x u _ I5' r5 (step x H5 y5)) fun _ s6 hqq => ?_)
    obtain ⟨σ6, H6, I6, q6⟩ := hqq
    refine wpAny_passesOwn hp (thn (hb _ s6 σ6 H6 _ I6 q6) fun f s7 q7 => ?_)
    have again : ∀ {σ7 : St} {H7 : Hp}, Inv X (pins ++ pinsAt fp s5.heap) σ7 H7 s7 → N σ7 H7 → ∃ m, m < n ∧ ∃ i σ' H', Inv X pins σ' H' s7 ∧ tn i s7.heap ∧ (∀ b ∈ fp, H' b = none) ∧ W i m σ' H' := fun {σ7 H7} I7 n7 => by
      obtain ⟨m', hm, w7⟩ := hN σ7 H7 n7
      refine ⟨m', hm, i + 1, σ7, H7, I7.unpinned, T.keep _ _ _ st5 fun b hb o e => (I7.pin (b, o) (List.mem_append_right _ (List.mem_append_right _ (mem_pinsAt hb e)))).1, fun b hb => ?_, w7⟩
      obtain ⟨o, e, d⟩ := T.obj _ _ st5 b hb
      exact (I7.pin (b, o) (List.mem_append_right _ (List.mem_append_right _ (mem_pinsAt hb e)))).2.1
    cases f with
    | next => obtain ⟨σ7, H7, I7, n7⟩ := q7; exact again I7 n7
    | cont => obtain ⟨σ7, H7, I7, n7⟩ := q7; exact again I7 n7
    | brk => obtain ⟨σ7, H7, I7, q7⟩ := q7; exact ⟨σ7, H7, I7.unpinned, q7⟩
    | ret v => obtain ⟨x7, σ7, H7, I7, r7, q7⟩ := q7; exact ⟨x7, σ7, H7, I7.unpinned, r7, q7⟩
end
theorem for_list {K : PySem.W.Frag} {a : Addr} {xs : List V} {g : TG} {tb : TS} {D : Ends} {σ : St} {H : Hp} (Pv : Nat → St → Hp → Prop) (h0 : Pv 0 σ H) (hl : ∀ i σ H, i ≤ xs.length → Pv i σ H → SqL K H a xs)
    (hs : ∀ i x σ H, xs[i]? = some x → Pv i σ H → g x σ H fun σ2 H2 => tb { D with nx := Pv (i + 1), ct := Pv (i + 1), bk := D.nx } σ2 H2) (hd : ∀ σ H, Pv xs.length σ H → D.nx σ H) :
    ∃ W : Nat → Nat → St → Hp → Prop, (∃ m, W 0 m σ H) ∧ ∀ i m σ H, W i m σ H →
      ((Itl K a).stop i H ∧ D.nx σ H) ∨ ((Itl K a).go i H ∧ ∃ N : St → Hp → Prop, (∀ σ' H', N σ' H' → ∃ m', m' < m ∧ W (i + 1) m' σ' H') ∧ ∀ x H', (Itl K a).yld i H x H' → g x σ H' fun σ2 H2 => tb { D with nx := N, ct := N, bk := D.nx } σ2 H2) := by
  refine ⟨fun i m σ H => m = xs.length - i ∧ i ≤ xs.length ∧ Pv i σ H, ⟨xs.length, by simp, Nat.zero_le _, h0⟩, ?_⟩
  rintro i m σ H ⟨rfl, hi, p⟩
  have q := hl i σ H hi p
  by_cases hlt : i < xs.length
  · refine .inr ⟨⟨xs, xs[i], q, by simp [hlt]⟩, Pv (i + 1), fun σ' H' p' => ⟨xs.length - (i + 1), by omega, rfl, hlt, p'⟩, fun x H' y => ?_⟩
    obtain ⟨e, y⟩ := y
    subst e
    exact hs i x σ _ (y xs q) p
  · have e : i = xs.length := by omega
    subst e
    exact .inl ⟨⟨xs, q, Nat.le_refl _⟩, hd σ H p⟩
theorem for_range {lo : Int} {n : Nat} {g : TG} {tb : TS} {D : Ends} {σ : St} {H : Hp} (Pv : Nat → St → Hp → Prop) (h0 : Pv 0 σ H)
    (hs : ∀ i σ H, i < n → Pv i σ H → g (.int (lo + i)) σ H fun σ2 H2 => tb { D with nx := Pv (i + 1), ct := Pv (i + 1), bk := D.nx } σ2 H2) (hd : ∀ σ H, Pv n σ H → D.nx σ H) :
    ∃ W : Nat → Nat → St → Hp → Prop, (∃ m, W 0 m σ H) ∧ ∀ i m σ H, W i m σ H →
      ((Itr lo n).stop i H ∧ D.nx σ H) ∨ ((Itr lo n).go i H ∧ ∃ N : St → Hp → Prop, (∀ σ' H', N σ' H' → ∃ m', m' < m ∧ W (i + 1) m' σ' H') ∧ ∀ x H', (Itr lo n).yld i H x H' → g x σ H' fun σ2 H2 => tb { D with nx := N, ct := N, bk := D.nx } σ2 H2) := by
  refine ⟨fun i m σ H => m = n - i ∧ i ≤ n ∧ Pv i σ H, ⟨n, by simp, Nat.zero_le _, h0⟩, ?_⟩
  rintro i m σ H ⟨rfl, hi, p⟩
  by_cases hlt : i < n
  · refine .inr ⟨hlt, Pv (i + 1), fun σ' H' p' => ⟨n - (i + 1), by omega, rfl, hlt, p'⟩, fun x H' y => ?_⟩
    obtain ⟨e, y⟩ := y
    subst e y
    exact hs i σ _ hlt p
  · have e : i = n := by omega
    subst e
    exact .inl ⟨Nat.le_refl _, hd σ H p⟩
end L2
namespace L2
open PySem PySem.Spec PyProof.Rows
abbrev R2 := V → V → Hp → VK → Prop
def OpR (X : Cx) (f : Value → Value → Sem Value) (r : R2) : Prop :=
  ∀ (pins : List (Addr × Obj)) (s : Shared) (σ : St) (H : Hp) (x y : V) (v u : Value) (Q : VK), Inv X pins σ H s → RelV x v → RelV y u → r x y H Q →
    wpAny (model X.prog X.w) X.A (f v u) (EP X pins σ Q) X.xe s
def UnR (X : Cx) (f : Value → Sem Value) (r : V → Hp → VK → Prop) : Prop :=
  ∀ (pins : List (Addr × Obj)) (s : Shared) (σ : St) (H : Hp) (x : V) (v : Value) (Q : VK), Inv X pins σ H s → RelV x v → r x H Q →
    wpAny (model X.prog X.w) X.A (f v) (EP X pins σ Q) X.xe s
def CallR (X : Cx) (f : Value) (r : List V → Hp → VK → Prop) : Prop :=
  ∀ (pins : List (Addr × Obj)) (s : Shared) (σ : St) (H : Hp) (xs : List V) (us : List Value) (Q : VK), Inv X pins σ H s → Vals xs us → r xs H Q →
    wpAny (model X.prog X.w) X.A (call f us) (EP X pins σ Q) X.xe s
def tOp (r : R2) (ta tb : TE) : TE := fun σ H Q => ta σ H fun x H1 => tb σ H1 fun y H2 => r x y H2 Q
def tUn (r : V → Hp → VK → Prop) (ta : TE) : TE := fun σ H Q => ta σ H fun x H1 => r x H1 Q
def rI (C : Int → Int → Prop) (g : Int → Int → V) : R2 := fun x y H Q => ∃ i j, x = .int i ∧ y = .int j ∧ C i j ∧ Q (g i j) H
def rI0 (g : Int → Int → V) : R2 := fun x y H Q => ∃ i j, x = .int i ∧ y = .int j ∧ Q (g i j) H
def rU (g : Int → V) : V → Hp → VK → Prop := fun x H Q => ∃ i, x = .int i ∧ Q (g i) H
section
variable {X : Cx} {a b c : Expr} {ta tb tc : TE} {pos : Pos}
theorem binT (ha : PE X a ta) (hb : PE X b tb) {pins : List (Addr × Obj)} {s : Shared} {σ : St} {H : Hp} {R : V → V → Hp → Prop} (I : Inv X pins σ H s)
    (h : ta σ H fun x H1 => tb σ H1 fun y H2 => R x y H2) {Q : Value → Shared → Prop} {f : Value → Value → Sem Value}
    (hf : ∀ v u s2 x y H2, Inv X pins σ H2 s2 → RelV x v → RelV y u → R x y H2 → wpAny (model X.prog X.w) X.A (f v u) Q X.xe s2) :
    wpAny (model X.prog X.w) X.A (eval a X.env) (fun v s₁ => wpAny (model X.prog X.w) X.A (eval b X.env) (fun u s₂ => wpAny (model X.prog X.w) X.A (f v u) Q X.xe s₂) X.xe s₁) X.xe s := by
  refine thn (ha pins s σ H _ I h) fun v s1 hqq => ?_
  obtain ⟨x, H1, I1, r1, q1⟩ := hqq
  refine thn (hb pins s1 σ H1 _ I1 q1) fun u s2 hqq => ?_
  obtain ⟨y, H2, I2, r2, q2⟩ := hqq
  exact hf v u s2 x y H2 I2 r1 r2 q2
theorem pe_op {op : Operator} {r : R2} (ho : OpR X (binaryOp op) r) (ha : PE X a ta) (hb : PE X b tb) : PE X (.BinOp a op b pos) (tOp r ta tb) := by
  intro pins s σ H Q I h
  exact wpAny_BinOp (binT ha hb I h fun v u s2 x y H2 I2 rx ry q => ho pins s2 σ H2 x y v u Q I2 rx ry q)
theorem pe_un {op : UnaryOp} {r : V → Hp → VK → Prop} (ho : UnR X (unaryOp op) r) (ha : PE X a ta) : PE X (.UnaryOp op a pos) (tUn r ta) := by
  intro pins s σ H Q I h
  exact UnaryOp_ (thn (ha pins s σ H _ I h) fun v s1 ⟨x, H1, I1, r1, q1⟩ => ho pins s1 σ H1 x v Q I1 r1 q1)
theorem opI {f : Value → Value → Sem Value} {C : Int → Int → Prop} {g : Int → Int → Int}
    (rule : ∀ (i j : Int) (t u : Tok) (s : Shared) (Q : Value → Shared → Prop) (E : Value → Shared → Prop), C i j → Q (.int (g i j) s.toks) { s with toks := s.toks + 1 } → wpAny (model X.prog X.w) X.A (f (.int i t) (.int j u)) Q E s) :
    OpR X f (rI C fun i j => .int (g i j)) := by
  intro pins s σ H x y v u Q I rx ry h
  obtain ⟨i, j, rfl, rfl, hc, q⟩ := h
  obtain ⟨t, rfl⟩ := rx
  obtain ⟨t', rfl⟩ := ry
  exact rule i j t t' s _ _ hc ⟨.int (g i j), H, I.tok _, ⟨_, rfl⟩, q⟩
theorem opI0 {f : Value → Value → Sem Value} {g : Int → Int → Int}
    (rule : ∀ (i j : Int) (t u : Tok) (s : Shared) (Q : Value → Shared → Prop) (E : Value → Shared → Prop), Q (.int (g i j) s.toks) { s with toks := s.toks + 1 } → wpAny (model X.prog X.w) X.A (f (.int i t) (.int j u)) Q E s) :
    OpR X f (rI0 fun i j => .int (g i j)) := by
  intro pins s σ H x y v u Q I rx ry h
  obtain ⟨i, j, rfl, rfl, q⟩ := h
  obtain ⟨t, rfl⟩ := rx
  obtain ⟨t', rfl⟩ := ry
  exact rule i j t t' s _ _ ⟨.int (g i j), H, I.tok _, ⟨_, rfl⟩, q⟩
theorem opB0 {f : Value → Value → Sem Value} {g : Int → Int → Bool}
    (rule : ∀ (i j : Int) (t u : Tok) (s : Shared) (Q : Value → Shared → Prop) (E : Value → Shared → Prop), Q (.bool (g i j)) s → wpAny (model X.prog X.w) X.A (f (.int i t) (.int j u)) Q E s) :
    OpR X f (rI0 fun i j => .bl (g i j)) := by
  intro pins s σ H x y v u Q I rx ry h
  obtain ⟨i, j, rfl, rfl, q⟩ := h
  obtain ⟨t, rfl⟩ := rx
  obtain ⟨t', rfl⟩ := ry
  exact rule i j t t' s _ _ ⟨.bl (g i j), H, I, rfl, q⟩
def CDiv (i j : Int) : Prop := 0 < j ∧ j < 1073741824
def CPow (i j : Int) : Prop := 0 ≤ j ∧ j ≤ 1000000 ∧ i.natAbs < 2 ^ 64
def CMul (i j : Int) : Prop := (-(2 ^ 64) < i ∧ i < 2 ^ 64) ∨ (-(2 ^ 64) < j ∧ j < 2 ^ 64)
theorem CMul.ok {i j : Int} (h : CMul i j) : IntMulOk i j := by
  rcases h with ⟨h1, h2⟩ | ⟨h1, h2⟩
  · exact .of_left (intBits_le_64 h1 h2)
  · exact .of_right (intBits_le_64 h1 h2)
theorem two_pow_nn (k : Nat) : (0 : Int) ≤ 2 ^ k := by
  rw [two_pow_cast]
  exact Int.natCast_nonneg _
theorem op_add : OpR X (binaryOp .Add) (rI0 fun i j => .int (i + j)) := opI0 fun _ _ _ _ _ _ _ q => add_int q
theorem op_sub : OpR X (binaryOp .Sub) (rI0 fun i j => .int (i - j)) := opI0 fun _ _ _ _ _ _ _ q => sub_int q
theorem op_mul : OpR X (binaryOp .Mult) (rI CMul fun i j => .int (i * j)) := opI fun _ _ _ _ _ _ _ hc q => mul_int q hc.ok
theorem op_fdiv : OpR X (binaryOp .FloorDiv) (rI CDiv fun i j => .int (i / j)) := opI fun i j _ _ _ _ _ hc q => by
  have h1 : (0 : Int) < j := hc.1
  have h2 : j < 1073741824 := hc.2
  exact floordiv_int (by omega) (by rw [Int.fdiv_eq_ediv_of_nonneg i (by omega)]; exact q) (.inl (PyProof.noPylong_small (by omega)))
theorem op_mod : OpR X (binaryOp .Mod) (rI (fun _ j => 0 < j) fun i j => .int (i % j)) := opI fun i j _ _ _ _ _ hc q => by
  have h1 : (0 : Int) < j := hc
  exact mod_int' (by omega) (by rw [Int.fmod_eq_emod_of_nonneg i (by omega)]; exact q)
theorem op_shl : OpR X (binaryOp .LShift) (rI CPow fun i j => .int (i * 2 ^ j.toNat)) := opI fun _ _ _ _ _ _ _ hc q => lshift_int_small hc.1 hc.2.1 hc.2.2 q
theorem op_shr : OpR X (binaryOp .RShift) (rI (fun _ j => 0 ≤ j) fun i j => .int (i / 2 ^ j.toNat)) := opI fun i j _ _ _ _ _ hc q =>
  rshift_int hc (by rw [Int.fdiv_eq_ediv_of_nonneg i (two_pow_nn _)]; exact q)
theorem op_and : OpR X (binaryOp .BitAnd) (rI0 fun i j => .int (Builtin.bitAnd i j)) := opI0 fun _ _ _ _ _ _ _ q => and_int q
theorem op_or : OpR X (binaryOp .BitOr) (rI0 fun i j => .int (Builtin.bitOr i j)) := opI0 fun _ _ _ _ _ _ _ q => or_int q
theorem op_xor : OpR X (binaryOp .BitXor) (rI0 fun i j => .int (Builtin.bitXor i j)) := opI0 fun _ _ _ _ _ _ _ q => xor_int q
theorem unI {f : Value → Sem Value} {g : Int → Int}
    (rule : ∀ (i : Int) (t : Tok) (s : Shared) (Q : Value → Shared → Prop) (E : Value → Shared → Prop), Q (.int (g i) s.toks) { s with toks := s.toks + 1 } → wpAny (model X.prog X.w) X.A (f (.int i t)) Q E s) :
    UnR X f (rU fun i => .int (g i)) := by
  intro pins s σ H x v Q I rx h
  obtain ⟨i, rfl, q⟩ := h
  obtain ⟨t, rfl⟩ := rx
  exact rule i t s _ _ ⟨.int (g i), H, I.tok _, ⟨_, rfl⟩, q⟩
theorem un_neg : UnR X (unaryOp .USub) (rU fun i => .int (-i)) := unI fun _ _ _ _ _ q => neg_int q
end
def scal : V → V → Bool
  | .non, .non => true | .non, .int _ => true | .int _, .non => true | .non, .bl _ => true | .bl _, .non => true | .non, .str _ => true | .str _, .non => true
  | .int _, .int _ => true | .bl _, .bl _ => true | .str _, .str _ => true | .byt _, .byt _ => true
  | .int _, .str _ => true | .str _, .int _ => true | .bl _, .str _ => true | .str _, .bl _ => true
  | _, _ => false
def rEq : R2 := fun x y H Q => scal x y = true ∧ Q (.bl (decide (x = y))) H
def rNe : R2 := fun x y H Q => scal x y = true ∧ Q (.bl (!decide (x = y))) H
theorem dec_int {i j : Int} : decide (V.int i = V.int j) = (i == j) := by
  rw [Bool.eq_iff_iff]
  simp
theorem dec_bl {i j : Bool} : decide (V.bl i = V.bl j) = (i == j) := by
  rw [Bool.eq_iff_iff]
  simp
theorem dec_str {i j : Str} : decide (V.str i = V.str j) = (i == j) := by
  rw [Bool.eq_iff_iff]
  simp
theorem dec_byt {i j : Array UInt8} : decide (V.byt i = V.byt j) = (i.toList == j.toList) := by
  rw [Bool.eq_iff_iff]
  cases i
  cases j
  simp
section
variable {X : Cx} {a b c : Expr} {ta tb tc : TE} {pos : Pos}
theorem fin_bl {pins : List (Addr × Obj)} {σ : St} {H : Hp} {s : Shared} {Q : VK} {k k' : Bool} (I : Inv X pins σ H s) (q : Q (.bl k) H) (e : k = k') : EP X pins σ Q (.bool k') s := by
  subst e
  exact ⟨.bl k, H, I, rfl, q⟩
theorem op_eq : OpR X (compareOp .Eq) rEq := by
  intro pins s σ H x y v u Q I rx ry h
  obtain ⟨hs, q⟩ := h
  cases x with
  | non =>
    cases rx
    cases y with
    | non => cases ry; exact PySem.EqNone.eq_none_none (fin_bl I q (by simp))
    | bl j => cases ry; exact PySem.EqNone.eq_none_bool (fin_bl I q (by simp))
    | int j => obtain ⟨t', rfl⟩ := ry; exact PySem.EqNone.eq_none_int (fin_bl I q (by simp))
    | str j => obtain ⟨t', rfl⟩ := ry; exact PySem.EqNone.eq_none_str (fin_bl I q (by simp))
    | _ => exact absurd (show false = true from hs) Bool.false_ne_true
  | bl i =>
    cases rx
    cases y with
    | non => cases ry; exact PySem.EqNone.eq_bool_none (fin_bl I q (by simp))
    | bl j => cases ry; exact eq_bool (fin_bl I q dec_bl)
    | str j => obtain ⟨t', rfl⟩ := ry; exact PySem.EqMixed.eq_bool_str (fin_bl I q (by simp))
    | _ => exact absurd (show false = true from hs) Bool.false_ne_true
  | int i =>
    obtain ⟨t, rfl⟩ := rx
    cases y with
    | non => cases ry; exact PySem.EqNone.eq_int_none (fin_bl I q (by simp))
    | int j => obtain ⟨t', rfl⟩ := ry; exact eq_int (fin_bl I q dec_int)
    | str j => obtain ⟨t', rfl⟩ := ry; exact PySem.EqMixed.eq_int_str (fin_bl I q (by simp))
    | _ => exact absurd (show false = true from hs) Bool.false_ne_true
  | str i =>
    obtain ⟨t, rfl⟩ := rx
    cases y with
    | non => cases ry; exact PySem.EqNone.eq_str_none (fin_bl I q (by simp))
    | bl j => cases ry; exact PySem.EqMixed.eq_str_bool (fin_bl I q (by simp))
    | int j => obtain ⟨t', rfl⟩ := ry; exact PySem.EqMixed.eq_str_int (fin_bl I q (by simp))
    | str j => obtain ⟨t', rfl⟩ := ry; exact eq_str (fin_bl I q dec_str)
    | _ => exact absurd (show false = true from hs) Bool.false_ne_true
  | byt i =>
    obtain ⟨t, rfl⟩ := rx
    cases y with
    | byt j => obtain ⟨t', rfl⟩ := ry; exact PySem.W.eq_bytes (fin_bl I q dec_byt)
    | _ => exact absurd (show false = true from hs) Bool.false_ne_true
  | _ => cases y <;> exact absurd (show false = true from hs) Bool.false_ne_true
theorem op_ne : OpR X (compareOp .NotEq) rNe := by
  intro pins s σ H x y v u Q I rx ry h
  obtain ⟨hs, q⟩ := h
  cases x with
  | non =>
    cases rx
    cases y with
    | non => cases ry; exact PySem.EqNone.ne_none_none (fin_bl I q (by simp))
    | bl j => cases ry; exact PySem.EqNone.ne_none_bool (fin_bl I q (by simp))
    | int j => obtain ⟨t', rfl⟩ := ry; exact PySem.EqNone.ne_none_int (fin_bl I q (by simp))
    | str j => obtain ⟨t', rfl⟩ := ry; exact PySem.EqNone.ne_none_str (fin_bl I q (by simp))
    | _ => exact absurd (show false = true from hs) Bool.false_ne_true
  | bl i =>
    cases rx
    cases y with
    | non => cases ry; exact PySem.EqNone.ne_bool_none (fin_bl I q (by simp))
    | bl j => cases ry; exact ne_bool (fin_bl I q (congrArg not dec_bl))
    | str j => obtain ⟨t', rfl⟩ := ry; exact PySem.EqMixed.ne_bool_str (fin_bl I q (by simp))
    | _ => exact absurd (show false = true from hs) Bool.false_ne_true
  | int i =>
    obtain ⟨t, rfl⟩ := rx
    cases y with
    | non => cases ry; exact PySem.EqNone.ne_int_none (fin_bl I q (by simp))
    | int j => obtain ⟨t', rfl⟩ := ry; exact ne_int (fin_bl I q (congrArg not dec_int))
    | str j => obtain ⟨t', rfl⟩ := ry; exact PySem.EqMixed.ne_int_str (fin_bl I q (by simp))
    | _ => exact absurd (show false = true from hs) Bool.false_ne_true
  | str i =>
    obtain ⟨t, rfl⟩ := rx
    cases y with
    | non => cases ry; exact PySem.EqNone.ne_str_none (fin_bl I q (by simp))
    | bl j => cases ry; exact PySem.EqMixed.ne_str_bool (fin_bl I q (by simp))
    | int j => obtain ⟨t', rfl⟩ := ry; exact PySem.EqMixed.ne_str_int (fin_bl I q (by simp))
    | str j => obtain ⟨t', rfl⟩ := ry; exact ne_str (fin_bl I q (congrArg not dec_str))
    | _ => exact absurd (show false = true from hs) Bool.false_ne_true
  | byt i =>
    obtain ⟨t, rfl⟩ := rx
    cases y with
    | byt j => obtain ⟨t', rfl⟩ := ry; exact PySem.W.ne_bytes (fin_bl I q (congrArg not dec_byt))
    | _ => exact absurd (show false = true from hs) Bool.false_ne_true
  | _ => cases y <;> exact absurd (show false = true from hs) Bool.false_ne_true
theorem op_lt : OpR X (compareOp .Lt) (rI0 fun i j => .bl (decide (i < j))) := opB0 fun _ _ _ _ _ _ _ q => lt_int q
theorem op_le : OpR X (compareOp .LtE) (rI0 fun i j => .bl (decide (i ≤ j))) := opB0 fun _ _ _ _ _ _ _ q => le_int q
theorem op_gt : OpR X (compareOp .Gt) (rI0 fun i j => .bl (decide (j < i))) := opB0 fun _ _ _ _ _ _ _ q => gt_int q
theorem op_ge : OpR X (compareOp .GtE) (rI0 fun i j => .bl (decide (j ≤ i))) := opB0 fun _ _ _ _ _ _ _ q => ge_int q
theorem op_isN : OpR X (compareOp .Is) (fun x y H Q => y = .non ∧ Q (.bl (decide (x = .non))) H) := by
  intro pins s σ H x y v u Q I rx ry h
  obtain ⟨rfl, q⟩ := h
  cases ry
  refine is_none_gen (fin_bl I q ?_)
  cases x <;> first
    | (cases rx; rfl)
    | (obtain ⟨t, rfl⟩ := rx; rfl)
theorem op_notN : OpR X (compareOp .IsNot) (fun x y H Q => y = .non ∧ Q (.bl (!decide (x = .non))) H) := by
  intro pins s σ H x y v u Q I rx ry h
  obtain ⟨rfl, q⟩ := h
  cases ry
  refine isnot_none_gen (fin_bl I q ?_)
  cases x <;> first
    | (cases rx; rfl)
    | (obtain ⟨t, rfl⟩ := rx; rfl)
theorem OpR.or {f : Value → Value → Sem Value} {r r' : R2} (h : OpR X f r) (h' : OpR X f r') : OpR X f (fun x y H Q => r x y H Q ∨ r' x y H Q) := by
  intro pins s σ H x y v u Q I rx ry q
  rcases q with q | q
  · exact h pins s σ H x y v u Q I rx ry q
  · exact h' pins s σ H x y v u Q I rx ry q
theorem nomark (b : Expr) {op : CmpOp} (h : op ≠ .In := by decide) (h2 : op ≠ .NotIn := by decide) : behindInMarks op b = false := by
  have e1 : (op == CmpOp.In) = false := by cases op <;> first | rfl | exact absurd rfl h
  have e2 : (op == CmpOp.NotIn) = false := by cases op <;> first | rfl | exact absurd rfl h2
  cases b <;> simp [behindInMarks, e1, e2]
theorem pe_cmpR {op : CmpOp} {r : R2} (ho : OpR X (compareOp op) r) (ha : PE X a ta) (hb : PE X b tb) (hm : behindInMarks op b = false) : PE X (.Compare a [op] [b] pos) (tOp r ta tb) := by
  intro pins s σ H Q I h
  exact wpAny_Compare1 (binT ha hb I h fun v u s2 x y H2 I2 rx ry q => ho pins s2 σ H2 x y v u Q I2 rx ry q) hm
def tTest (t : TE) : TT := fun σ H Q => t σ H fun x H' => ∃ k, x = .bl k ∧ Q k H'
theorem pt_cmpR {op : CmpOp} {r : R2} (ho : OpR X (compareOp op) r) (ha : PE X a ta) (hb : PE X b tb) (hm : behindInMarks op b = false) : PT X (.Compare a [op] [b] pos) (tTest (tOp r ta tb)) := by
  intro pins s σ H Q I h
  refine wpAny_isTrue_Compare1 (thn (ha pins s σ H _ I h) fun v s1 ⟨x, H1, I1, r1, q1⟩ => thn (hb pins s1 σ H1 _ I1 q1) fun u s2 ⟨y, H2, I2, r2, q2⟩ =>
    thn (ho pins s2 σ H2 x y v u _ I2 r1 r2 q2) fun c s3 ⟨z, H3, I3, r3, k, e, q3⟩ => ?_) hm
  subst e
  cases r3
  exact wpAny_truthy_bool ⟨H3, I3, q3⟩
def tChain (r r' : R2) (ta tb tc : TE) : TE := fun σ H Q => ta σ H fun x H1 => tb σ H1 fun y H2 => r x y H2 fun z H3 => ∃ k, z = .bl k ∧
  (if k = true then tc σ H3 fun w' H4 => r' y w' H4 Q else Q (.bl false) H3)
theorem pe_chain {op op' : CmpOp} {r r' : R2} (ho : OpR X (compareOp op) r) (ho' : OpR X (compareOp op') r') (ha : PE X a ta) (hb : PE X b tb) (hc : PE X c tc)
    (hm : lastMarks [op, op'] [b, c] = false := by with_unfolding_all rfl) : PE X (.Compare a [op, op'] [b, c] pos) (tChain r r' ta tb tc) := by
  intro pins s σ H Q I h
  refine Compare_chain (thn (ha pins s σ H _ I h) fun v s1 ⟨x, H1, I1, r1, q1⟩ => chain_link (thn (hb pins s1 σ H1 _ I1 q1) fun u s2 ⟨y, H2, I2, r2, q2⟩ =>
    thn (ho pins s2 σ H2 x y v u _ I2 r1 r2 q2) fun d s3 ⟨z, H3, I3, r3, k, e, q3⟩ => ?_)) hm
  subst e
  cases r3
  refine wpAny_truthy_bool ?_
  cases k with
  | false => exact ite_ff ⟨.bl false, H3, I3, rfl, q3⟩
  | true => exact ite_tt (chain_last (thn (hc pins s3 σ H3 _ I3 q3) fun w' s4 ⟨z', H4, I4, r4, q4⟩ => ho' pins s4 σ H4 y z' u w' Q I4 r2 r4 q4))
theorem line63 : (sizeLine : Nat) < 2 ^ 63 := by rw [sizeLine_eq]; decide
theorem vals1 {x : V} {us : List Value} (r : Vals [x] us) : ∃ u, us = [u] ∧ RelV x u := by
  cases r with
  | cons r1 r2 => cases r2; exact ⟨_, rfl, r1⟩
theorem call_ord : CallR X (.builtin "ord") (fun xs H Q => ∃ x, xs = [.str x] ∧ x.length = 1 ∧ Q (.int (x.cps.getD 0 0 : Nat)) H) := by
  intro pins s σ H xs us Q I r h
  obtain ⟨x, rfl, hz, q⟩ := h
  obtain ⟨u, rfl, t, rfl⟩ := vals1 r
  exact ord_of_one hz ⟨.int _, H, I.tok _, ⟨_, rfl⟩, q⟩
end
end L2
namespace L2
open PySem PySem.Spec PyProof.Rows
structure ObjM (h : Heap) (x dx C : Addr) (mA : Str → Option Value) : Prop where
  obj : h.get? x = some (PySem.W.instObj C dx)
  ns : h.Ns1 dx mA
  ne : dx ≠ x
theorem lookIn_ns {h : Heap} {dx : Addr} {mA : Str → Option Value} (n : h.Ns1 dx mA) : ∃ od, h.get? dx = some od ∧ ∀ name, PySem.W.lookIn name od = some (mA name) := by
  obtain ⟨o, es, ep, ho, hd, hk, _, hm⟩ := n
  refine ⟨o, ho, fun name => ?_⟩
  have e := hm name
  unfold nsFind findBy at e
  rw [← Array.find?_toList] at e
  unfold PySem.W.lookIn
  rw [hd]
  dsimp only
  split
  · rename_i y q
    rw [q] at e
    exact congrArg some e
  · rename_i q
    rw [q] at e
    have a : es.toList.any (·.refKey) = false := by
      rw [List.any_eq_false]
      intro y hy
      obtain ⟨z, t, hkey⟩ := hk y (Array.mem_toList_iff.mp hy)
      simp [DictEntry.refKey, hkey]
    have a' : ¬ es.toList.any (·.refKey) = true := by rw [a]; exact Bool.false_ne_true
    rw [if_neg a']
    exact congrArg some e
theorem ObjM.look {h : Heap} {x dx C : Addr} {mA : Str → Option Value} (I : ObjM h x dx C mA) : ∃ od, PySem.W.InstAt h x (PySem.W.instObj C dx) C (some od) ∧ ∀ name, PySem.W.lookIn name od = some (mA name) :=
  let ⟨od, ho, hl⟩ := lookIn_ns I.ns
  ⟨od, ⟨I.obj, rfl, rfl, ho⟩, hl⟩
section
variable {prog : Program} {w : World} {A : Around} {E : Value → Shared → Prop} {s : Shared} {K : PySem.W.Frag} {x dx C f : Addr} {mA : Str → Option Value} {name : Str} {v : Value}
theorem get_map {expr : Bool} {Q : Value → Shared → Prop} (X : K.In s.heap) (I : ObjM s.heap x dx C mA) (hg : PySem.W.plainGet K C name = true) (hh : PySem.W.hasDictIn K C = true)
    (ha : PySem.W.findIn K (.ref C) name = some none) (hv : mA name = some v) (hv' : PySem.W.handedIn v = true) (h : Q v { s with toks := s.toks + 1 }) :
    wpAny (model prog w) A (getAttr (.ref x) name expr) Q E s := by
  obtain ⟨od, J, hl⟩ := I.look
  exact PySem.W.get_value X J (PySem.W.plainGet_of hg).1 (PySem.W.findObj_own hh ha rfl (by rw [hl, hv])) hv' h
theorem get_meth {pl : Sem Bool} {Q : Value × List Value → Shared → Prop} (X : K.In s.heap) (I : ObjM s.heap x dx C mA) (hg : PySem.W.plainGet K C name = true)
    (hf : PySem.W.findIn K (.ref C) name = some (some (.ref f))) (ht : PySem.W.isFn K (.ref f) = true) (hv : mA name = none) (h : Q (.ref f, [.ref x]) s) :
    wpAny (model prog w) A (getMethod (.ref x) name pl) Q E s := by
  obtain ⟨od, J, hl⟩ := I.look
  exact PySem.W.method_fn X J (PySem.W.plainGet_of hg).1 (PySem.W.plainGet_of hg).2 hf (beq_iff_eq.mp ht) (by show (PySem.W.lookIn name od).map (·.isSome) = some false; rw [hl, hv]; rfl) h
theorem set_map {ns : List Str} {Q : Unit → Shared → Prop} (X : K.In s.heap) (I : ObjM s.heap x dx C mA)
    (hs : PySem.W.findIn K (.ref C) "__setattr__" = some (some (.builtin "object.__setattr__"))) (hp : PySem.W.plainOver K C = true) (ht : PySem.W.takerIn K C name = some none) (hh : PySem.W.hasDictIn K C = true)
    (hw : PySem.Within mA ns) (hsz : ns.length ≤ sizeLine)
    (h : ∀ h', ObjM h' x dx C (fun y => if y = name then some v else mA y) → Heap.SameBut dx s.heap h' → Q () { s with heap := h', toks := s.toks + 2 }) :
    wpAny (model prog w) A (setAttr (.ref x) name v) Q E s := by
  obtain ⟨od, J, hl⟩ := I.look
  refine PySem.W.set_plain X J hs (PySem.W.osa_open (s := { s with toks := s.toks + 1 }) (r := none) X J hp ht fun b => ?_)
  obtain ⟨cd, hc, hd'⟩ := PySem.W.any_some hh
  have hx : s.heap.get? x = some ⟨.ref C, some dx, .plain, #[]⟩ := I.obj
  refine wpAny_bind (wpAny_pure (wpAny_bind (wpAny_bind (wpAny_loadPart hx (wpAny_bind (PySem.W.Looks.here (s := { s with toks := s.toks + 1 }) (PySem.W.looks_clsIn X hc) ?_))))))
  rw [hd']
  refine wpAny_pure (a := some dx) (wpAny_bind (wpAny_pure (wpAny_bind ?_)))
  refine wpAny_nsSet1 (s := { s with toks := s.toks + 1 }) I.ns fun h' hn2 hs2 => ?_
  obtain ⟨oD, esD, epD, hoD, hdD, hcD⟩ := hn2.count (PySem.Within.cons name v hw)
  refine wpAny_bind (wpAny_lookBehind hoD (by rw [hdD]; exact pastItsLine_dict (Nat.le_trans hcD (by rw [List.length_cons]; omega))) ?_)
  exact wpAny_pure (h _ ⟨(hs2.2 _ (Ne.symm I.ne)).trans I.obj, hn2, I.ne⟩ hs2)
theorem make_map {R : Result → Shared → Prop} {vs : List Value} {kw : List (Str × Value)} (X : K.In s.heap) (hm : PySem.W.makesIn K C = true)
    (hi : PySem.W.findIn K (.ref C) "__init__" = some (some (.ref f))) (hf : PySem.W.typeIn K (.ref f) = some (.type "function"))
    (h : codeAny (model prog w) (A.under (.builtin "type.__call__" ⟨.ref C :: vs, kw⟩)) (.call (.ref f) ⟨.ref (s.heap.objs.size + 1) :: vs, kw⟩) (PySem.W.InitBack (s.heap.objs.size + 1) R)
      { s with heap := (s.heap.push PySem.W.emptyDict).push (PySem.W.instObj C s.heap.objs.size) }) :
    codeAny (model prog w) A (.call (.ref C) ⟨vs, kw⟩) R s := by
  obtain ⟨hh, g, d, t, os⟩ := s
  exact PySem.W.make_core (PySem.W.makes_of X hm) (PySem.W.looks_findIn X hi) (fun self => PySem.W.bind_fn X self hf) (.inl rfl) h
end
def putF (f : Str) (v : V) : List (Str × V) → List (Str × V)
  | [] => [(f, v)]
  | (g, x) :: r => if g = f then (g, v) :: r else (g, x) :: putF f v r
theorem lookup_putF (f g : Str) (v : V) : ∀ fs : List (Str × V), (putF f v fs).lookup g = if g = f then some v else fs.lookup g
  | [] => by
    show List.lookup g [(f, v)] = _
    by_cases h : g = f
    · have hb : (g == f) = true := beq_iff_eq.mpr h
      simp only [List.lookup, hb, if_pos h]
    · have hb : (g == f) = false := beq_eq_false_iff_ne.mpr h
      simp only [List.lookup, hb, if_neg h]
  | (k, x) :: r => by
    have ih := lookup_putF f g v r
    rw [show putF f v ((k, x) :: r) = (if k = f then (k, v) :: r else (k, x) :: putF f v r) from rfl]
    by_cases hk : k = f
    · rw [if_pos hk]
      by_cases h : g = k
      · have hb : (g == k) = true := beq_iff_eq.mpr h
        simp only [List.lookup, hb, if_pos (h.trans hk)]
      · have hb : (g == k) = false := beq_eq_false_iff_ne.mpr h
        simp only [List.lookup, hb, if_neg (fun e : g = f => h (e.trans hk.symm))]
    · rw [if_neg hk]
      by_cases h : g = k
      · have hb : (g == k) = true := beq_iff_eq.mpr h
        simp only [List.lookup, hb, if_neg (fun e : g = f => hk (h.symm.trans e))]
      · have hb : (g == k) = false := beq_eq_false_iff_ne.mpr h
        simp only [List.lookup, hb]
        exact ih
theorem keys_putF (f : Str) (v : V) : ∀ fs : List (Str × V), f ∈ (putF f v fs).map (·.1) ∧ ∀ g, g ∈ fs.map (·.1) → g ∈ (putF f v fs).map (·.1)
  | [] => ⟨by simp [putF], fun g h => by simp at h⟩
  | (k, x) :: r => by
    obtain ⟨i1, i2⟩ := keys_putF f v r
    rw [show putF f v ((k, x) :: r) = (if k = f then (k, v) :: r else (k, x) :: putF f v r) from rfl]
    by_cases hk : k = f
    · rw [if_pos hk]
      subst hk
      exact ⟨by simp, fun g h => by simpa using h⟩
    · rw [if_neg hk]
      refine ⟨?_, fun g h => ?_⟩
      · rw [List.map_cons]
        exact List.mem_cons_of_mem _ i1
      · rw [List.map_cons] at h ⊢
        rcases List.mem_cons.mp h with e | e
        · exact List.mem_cons.mpr (.inl e)
        · exact List.mem_cons_of_mem _ (i2 g e)
theorem length_putF (f : Str) (v : V) : ∀ fs : List (Str × V), (putF f v fs).length ≤ fs.length + 1
  | [] => by simp [putF]
  | (k, x) :: r => by
    have ih := length_putF f v r
    rw [show putF f v ((k, x) :: r) = (if k = f then (k, v) :: r else (k, x) :: putF f v r) from rfl]
    by_cases hk : k = f
    · rw [if_pos hk, List.length_cons, List.length_cons]; omega
    · rw [if_neg hk, List.length_cons, List.length_cons]; omega
theorem RelO.some_of {v : V} {o : Option Value} (r : RelO (some v) o) : ∃ u, o = some u ∧ RelV v u := by
  cases o with
  | none => exact (show False from r).elim
  | some u => exact ⟨u, rfl, r⟩
theorem RelO.none_of {o : Option Value} (r : RelO none o) : o = none := by
  cases o with
  | none => rfl
  | some u => exact (show False from r).elim
theorem handed_of {v : V} {u : Value} (r : RelV v u) : PySem.W.handedIn u = true := by
  cases v with
  | non => cases (show u = Value.none from r); rfl
  | bl b => cases (show u = Value.bool b from r); rfl
  | int i => obtain ⟨t, e⟩ := (show ∃ t, u = Value.int i t from r); cases e; rfl
  | str x => obtain ⟨t, e⟩ := (show ∃ t, u = Value.str x t from r); cases e; rfl
  | byt b => obtain ⟨t, e⟩ := (show ∃ t, u = Value.bytes b t from r); cases e; rfl
  | flt b => obtain ⟨t, e⟩ := (show ∃ t, u = Value.float b t from r); cases e; rfl
  | ref a => cases (show u = Value.ref a from r); rfl
  | ty n => cases (show u = Value.type n from r); rfl
section
variable {P : Program} {w : World} {H H' : Hp} {h h' : Heap} {a C dx : Addr} {fs fs' : List (Str × V)}
theorem ins_get (hok : HOk P w H h) (e : H a = some (.ins C dx fs)) : ∃ mA, ObjM h a dx C mA ∧ (∀ f, RelO (fs.lookup f) (mA f)) ∧ PySem.Within mA (fs.map (·.1)) ∧ fs.length ≤ 1000 ∧ H dx = some (.own a) := by
  obtain ⟨d, z, ne, ob, mA, n, r, q⟩ := (show ObjOk P w H h a (.ins C dx fs) from hok a _ e)
  exact ⟨mA, ⟨ob, n, ne⟩, r, q, z, d⟩
end
structure Cls (K : PySem.W.Frag) (C : Addr) : Prop where
  pg : PySem.W.plainGet K C Str.empty = true
  hd : PySem.W.hasDictIn K C = true
  po : PySem.W.plainOver K C = true
  sa : PySem.W.findIn K (.ref C) "__setattr__" = some (some (.builtin "object.__setattr__"))
theorem Cls.get {K : PySem.W.Frag} {C : Addr} (c : Cls K C) (f : Str) : PySem.W.plainGet K C f = true := c.pg
def NoAttr (K : PySem.W.Frag) (C : Addr) (f : Str) : Prop := PySem.W.findIn K (.ref C) f = some none
theorem NoAttr.taker {K : PySem.W.Frag} {C : Addr} {f : Str} (n : NoAttr K C f) : PySem.W.takerIn K C f = some none := by
  unfold PySem.W.takerIn
  rw [show PySem.W.findIn K (.ref C) f = some none from n]
  rfl
structure Meth (K : PySem.W.Frag) (C : Addr) (m : Str) (f : Addr) : Prop where
  at_ : PySem.W.findIn K (.ref C) m = some (some (.ref f))
  fn : PySem.W.isFn K (.ref f) = true
  kp : PySem.W.keepIn K (.ref f) = true
section
variable {X : Cx} {pins : List (Addr × Obj)} {σ : St} {H : Hp} {s : Shared} {a C dx : Addr} {fs : List (Str × V)} {f : Str} {v : V} {A : Around} {E : Value → Shared → Prop}
theorem getattr_ok {b : Bool} {Q : Value → Shared → Prop} (I : Inv X pins σ H s) (e : H a = some (.ins C dx fs)) (c : Cls X.K C) (n : NoAttr X.K C f) (l : fs.lookup f = some v)
    (h : ∀ u s', Inv X pins σ H s' → RelV v u → Q u s') : wpAny (model X.prog X.w) A (getAttr (.ref a) f b) Q E s := by
  obtain ⟨mA, O, r, _, _, _⟩ := ins_get I.hok e
  obtain ⟨u, hu, ru⟩ := RelO.some_of (v := v) (o := mA f) (by rw [← l]; exact r f)
  exact get_map I.kIn O (c.get f) c.hd n hu (handed_of ru) (h u _ (I.tok _) ru)
theorem getmeth_ok {m : Str} {g : Addr} {pl : Sem Bool} {Q : Value × List Value → Shared → Prop} (I : Inv X pins σ H s) (e : H a = some (.ins C dx fs)) (c : Cls X.K C) (k : Meth X.K C m g) (l : fs.lookup m = none)
    (h : Q (.ref g, [.ref a]) s) : wpAny (model X.prog X.w) A (getMethod (.ref a) m pl) Q E s := by
  obtain ⟨mA, O, r, _, _, _⟩ := ins_get I.hok e
  have hn : mA m = none := RelO.none_of (by rw [← l]; exact r m)
  exact get_meth I.kIn O (c.get m) k.at_ k.fn hn h
theorem setattr_ok {y : V} {u : Value} {Q : Unit → Shared → Prop} (I : Inv X pins σ H s) (e : H a = some (.ins C dx fs)) (c : Cls X.K C) (n : NoAttr X.K C f) (hl : fs.length < 1000) (ry : RelV y u)
    (h : ∀ s', Inv X pins σ (upd H a (.ins C dx (putF f y fs))) s' → Q () s') : wpAny (model X.prog X.w) A (setAttr (.ref a) f u) Q E s := by
  obtain ⟨mA, O, r, wi, _, ho⟩ := ins_get I.hok e
  have hz : (fs.map (·.1)).length ≤ sizeLine := by rw [List.length_map, sizeLine_eq]; omega
  refine set_map I.kIn O c.sa c.po n.taker c.hd wi hz fun h' O' sb => h _ ?_
  have hd : ∃ o, h'.get? dx = some o := let ⟨o, _, _, e', _⟩ := O'.ns; ⟨o, e'⟩
  refine I.write (x := a) (e := dx) (by rw [e]; exact True.intro) (.inr ho) (fun b q hb z => (sb.2 b hb).trans z) hd ?_
  refine ⟨by rw [upd_ne O.ne]; exact ho, ?_, O.ne, O'.obj, _, O'.ns, fun g => ?_, fun g hg => ?_⟩
  · have := length_putF f y fs; omega
  · show RelO ((putF f y fs).lookup g) (if g = f then some u else mA g)
    rw [lookup_putF]
    by_cases q : g = f
    · rw [if_pos q, if_pos q]; exact ry
    · rw [if_neg q, if_neg q]; exact r g
  · by_cases q : g = f
    · rw [q]; exact (keys_putF f y fs).1
    · refine (keys_putF f y fs).2 g (wi g fun z => hg ?_)
      show (if g = f then some u else mA g) = none
      rw [if_neg q]; exact z
theorem Inv.made (I : Inv X pins σ H s) : Inv X pins σ (upd (upd H s.heap.objs.size (.own (s.heap.objs.size + 1))) (s.heap.objs.size + 1) (.ins C s.heap.objs.size []))
    { s with heap := (s.heap.push PySem.W.emptyDict).push (PySem.W.instObj C s.heap.objs.size) } := by
  have e1 : (s.heap.push PySem.W.emptyDict).get? s.heap.objs.size = some PySem.W.emptyDict := Heap.get?_push_size s.heap rfl
  have e2 : ((s.heap.push PySem.W.emptyDict).push (PySem.W.instObj C s.heap.objs.size)).get? (s.heap.objs.size + 1) = some (PySem.W.instObj C s.heap.objs.size) := by
    have := Heap.get?_push_size (s.heap.push PySem.W.emptyDict) (o := PySem.W.instObj C s.heap.objs.size) rfl
    rwa [Heap.size_push] at this
  have e3 : (s.heap.push PySem.W.emptyDict).Ns s.heap.objs.size (fun _ => none) := ⟨PySem.W.emptyDict, #[], _, e1, rfl, (fun e he => absurd he (by simp)), fun _ => rfl⟩
  have I1 := I.laid (a := s.heap.objs.size) (o := .own (s.heap.objs.size + 1)) (h' := s.heap.push PySem.W.emptyDict) (t' := s.toks) (fun b u q => Heap.get?_push_of_some _ q) (Nat.le_refl _) ⟨_, e1⟩
  refine I1.laid (a := s.heap.objs.size + 1) (o := .ins C s.heap.objs.size []) (t' := s.toks) (fun b u q => Heap.get?_push_of_some _ q) (Nat.le_of_eq (Heap.size_push _ _)) ?_
  have ne : s.heap.objs.size ≠ s.heap.objs.size + 1 := Nat.ne_of_lt (Nat.lt_succ_self _)
  refine ⟨by rw [upd_ne ne, upd_same], Nat.zero_le _, ne, e2, fun _ => none, (Heap.Ns1.of_empty e3).at fun o q => Heap.get?_push_of_some _ q, fun _ => True.intro, fun y hy => absurd rfl hy⟩
theorem attr_of {prog : Program} {w : World} {env : Env} {e : Expr} {f : Str} {pos : Pos} {s : Shared} {Q : Value → Shared → Prop} (hb : attributeBase e f env (eval e env) = eval e env)
    (h : wpAny (model prog w) A (eval e env) (fun o s₁ => wpAny (model prog w) A (getAttr o f true) Q E s₁) E s) : wpAny (model prog w) A (eval (.Attribute e f pos) env) Q E s :=
  Attribute_any_ h (by rw [arm_eval_Attribute, hb])
end
def tFld (K : PySem.W.Frag) (ta : TE) (f : Str) : TE := fun σ H Q => ta σ H fun x H1 => ∃ a C dx fs v, x = .ref a ∧ H1 a = some (.ins C dx fs) ∧ Cls K C ∧ NoAttr K C f ∧ fs.lookup f = some v ∧ Q v H1
def sFld (K : PySem.W.Frag) (ta tv : TE) (f : Str) : TS := fun D σ H => tv σ H fun y H1 => ta σ H1 fun x H2 => ∃ a C dx fs, x = .ref a ∧ H2 a = some (.ins C dx fs) ∧ Cls K C ∧ NoAttr K C f ∧ fs.length < 1000 ∧
  D.nx σ (upd H2 a (.ins C dx (putF f y fs)))
def InOp (X : Cx) (op : Operator) (rd : V → V → Hp → VK → Prop) : Prop :=
  ∀ (pins : List (Addr × Obj)) (s : Shared) (σ : St) (H : Hp) (x y : V) (u v : Value) (Q : VK), Inv X pins σ H s → RelV x u → RelV y v → rd x y H Q → wpAny (model X.prog X.w) X.A (inplaceOp op u v) (EP X pins σ Q) X.xe s
def sFldAug (K : PySem.W.Frag) (ta tv : TE) (rd : V → V → Hp → VK → Prop) (f : Str) : TS := fun D σ H => ta σ H fun x H1 => ∃ a C dx fs v, x = .ref a ∧ H1 a = some (.ins C dx fs) ∧ Cls K C ∧ NoAttr K C f ∧ fs.lookup f = some v ∧
  tv σ H1 fun y H2 => rd v y H2 fun z H3 => ∃ dx' fs', H3 a = some (.ins C dx' fs') ∧ fs'.length < 1000 ∧ D.nx σ (upd H3 a (.ins C dx' (putF f z fs')))
section
variable {X : Cx} {o e value : Expr} {f : Str} {pos pos' tpos : Pos} {ta tv : TE}
theorem pe_fld (he : PE X e ta) (hb : attributeBase e f X.env (eval e X.env) = eval e X.env) : PE X (.Attribute e f pos) (tFld X.K ta f) := by
  intro pins s σ H Q I h
  refine attr_of hb (thn (he pins s σ H _ I h) fun u s1 hqq => ?_)
  obtain ⟨x, H1, I1, rx, a, C, dx, fs, v, ex, ea, c, n, l, q⟩ := hqq
  subst ex
  obtain rfl : u = Value.ref a := rx
  exact getattr_ok I1 ea c n l fun u' s2 I2 ru => ⟨v, H1, I2, ru, q⟩
theorem ps_fld (ha : PE X o ta) (hv : PE X value tv) (hs : swapsWith value (some (.Attribute o f pos')) pos.line X.env = pure false) : PS X (.Assign [.Attribute o f pos'] value pos) (sFld X.K ta tv f) := by
  intro pins s σ H D I h
  refine plainObj_wpAny_Assign_Attribute (thn (hv pins s σ H _ I h) fun u s1 ⟨y, H1, I1, ry, q⟩ => thn (ha pins s1 σ H1 _ I1 q) fun ov s2 hqq => ?_) hs
  obtain ⟨x, H2, I2, rx, a, C, dx, fs, ex, ea, c, n, l, q2⟩ := hqq
  subst ex
  obtain rfl : ov = Value.ref a := rx
  exact setattr_ok I2 ea c n l ry fun s3 I3 => ⟨σ, _, I3, q2⟩
theorem ps_fldaug {op : Operator} {rd : V → V → Hp → VK → Prop} (ha : PE X o ta) (hv : PE X value tv) (hop : InOp X op rd) : PS X (.AugAssign (.Attribute o f tpos) op value pos) (sFldAug X.K ta tv rd f) := by
  intro pins s σ H D I h
  refine wpAny_AugAssign_AttributeAny (thn (ha pins s σ H _ I h) fun ov s1 hqq => ?_)
  obtain ⟨x, H1, I1, rx, a, C, dx, fs, v, ex, ea, c, n, l, q⟩ := hqq
  subst ex
  obtain rfl : ov = Value.ref a := rx
  refine getattr_ok I1 ea c n l fun u s2 I2 ru => thn (hv pins s2 σ H1 _ I2 q) fun w3 s3 ⟨y, H2, I3, ry, q3⟩ => thn (hop pins s3 σ H2 v y u w3 _ I3 ru ry q3) fun w4 s4 hqq => ?_
  obtain ⟨z, H3, I4, rz, dx', fs', ea', l', q4⟩ := hqq
  exact setattr_ok I4 ea' c n l' rz fun s5 I5 => ⟨σ, _, I5, q4⟩
def rAdd : V → V → Hp → VK → Prop := fun x y H Q => ∃ i j, x = .int i ∧ y = .int j ∧ Q (.int (i + j)) H
theorem in_add : InOp X .Add rAdd := by
  rintro pins s σ H x y u v Q I rx ry ⟨i, j, rfl, rfl, q⟩
  obtain ⟨t, rfl⟩ := (show ∃ t, u = Value.int i t from rx)
  obtain ⟨t', rfl⟩ := (show ∃ t', v = Value.int j t' from ry)
  exact PyProof.Rows.iadd_int ⟨.int (i + j), H, I.tok _, ⟨_, rfl⟩, q⟩
end
section
variable {X : Cx} {pins : List (Addr × Obj)} {σ : St} {H : Hp} {s : Shared} {A : Around} {E : Value → Shared → Prop} {Q : Value → Shared → Prop} {c : Value} {b : Bool}
end
end L2
namespace L2
open PySem PySem.Spec PyProof.Rows
structure Room (k : Nat) (A : Around) : Prop where
  hd : A.handled = none
  dp : A.depth + 3 * k + 5 < recursionLimit
  un : A.units + 16 * k + 200 < cLine
theorem Room.mono {j k : Nat} {A : Around} (r : Room k A) (h : j ≤ k) : Room j A := ⟨r.hd, by have := r.dp; omega, by have := r.un; omega⟩
theorem Room.deeper {k : Nat} {A : Around} (r : Room (k + 1) A) (env : Env) : Room k (A.deeper env) :=
  ⟨r.hd, by have := r.dp; show A.depth + 1 + 3 * k + 5 < _; omega, by have := r.un; show A.units + 3 + 16 * k + 200 < _; omega⟩
theorem make_depth {A : Around} {C : Addr} {us : List Value} {kw : List (Str × Value)} : (A.under (.builtin "type.__call__" ⟨.ref C :: us, kw⟩)).depth = A.depth + 1 := by
  first | rfl | simp [Around.under, Code.weight, Code.isCreation, Code.isGuard, Code.isCaller, Code.frames, Code.isFrame, guardIds]
theorem make_units {A : Around} {C : Addr} {us : List Value} {kw : List (Str × Value)} : (A.under (.builtin "type.__call__" ⟨.ref C :: us, kw⟩)).units = A.units + 1 := by
  first | rfl | simp [Around.under, Code.cUnits, Code.frames, Code.isFrame]
theorem Room.make {k : Nat} {A : Around} (r : Room (k + 1) A) (C : Addr) (us : List Value) (kw : List (Str × Value)) : Room k (A.under (.builtin "type.__call__" ⟨.ref C :: us, kw⟩)) :=
  ⟨r.hd, by have := r.dp; rw [make_depth]; omega, by have := r.un; rw [make_units]; omega⟩
theorem Room.depth {k : Nat} {A : Around} (r : Room k A) : A.depth < recursionLimit := by have := r.dp; omega
theorem Room.units {k : Nat} {A : Around} (r : Room k A) : A.units + 64 < cLine := by have := r.un; omega
theorem Room.units0 {k : Nat} {A : Around} (r : Room k A) : A.units < cLine := by have := r.un; omega
def tNil : TA := fun _ H Q => Q [] H
def tCons (ta : TE) (tr : TA) : TA := fun σ H Q => ta σ H fun x H1 => tr σ H1 fun xs H2 => Q (x :: xs) H2
section
variable {X : Cx} {e : Expr} {es : List Expr} {te : TE} {t : TA} {pos : Pos}
theorem pa_nil : PA X [] tNil := fun _ _ _ _ H Q I h => Calls.spliced_nil ⟨[], H, I, .nil, h⟩
theorem pa_cons (ha : PE X e te) (hr : PA X es t) (hs : starEach (e :: es) X.env = (false, eval e X.env) :: starEach es X.env := by rfl) : PA X (e :: es) (tCons te t) := by
  intro pos pins s σ H Q I h
  rw [hs]
  show wpAny _ _ (spliced ((false, eval e X.env) :: backTo pos (starEach es X.env))) _ _ s
  refine Calls.spliced_cons (thn (ha pins s σ H _ I h) fun u s1 hqq => ?_)
  obtain ⟨x, H1, I1, r1, q1⟩ := hqq
  exact thn (hr pos pins s1 σ H1 _ I1 q1) fun us s2 ⟨xs, H2, I2, r2, q2⟩ => ⟨x :: xs, H2, I2, .cons r1 r2, q2⟩
def tTup (t : TA) : TE := fun σ H Q => t σ H fun xs H1 => xs.length ≤ sizeLine ∧ ∀ p, H1 p = none → Q (.ref p) (upd H1 p (.tup xs))
def tLst (t : TA) : TE := fun σ H Q => t σ H fun xs H1 => xs.length ≤ sizeLine ∧ ∀ p, H1 p = none → Q (.ref p) (upd H1 p (.lst xs))
theorem pe_tup {x1} (h : PA X es t) : PE X (.Tuple es x1 pos) (tTup t) := by
  intro pins s σ H Q I hq
  refine wpAny_Tuple_spliced (thn (h pos pins s σ H _ I hq) fun us s1 ⟨xs, H1, I1, r, z, q⟩ => ⟨by rw [← r.length]; exact z, ?_⟩)
  have hf : H1 s1.heap.objs.size = none := I1.hok.fresh (Nat.le_refl _)
  refine ⟨.ref s1.heap.objs.size, upd H1 s1.heap.objs.size (.tup xs), I1.laid (t' := s1.toks) (fun b u e => Heap.get?_push_of_some _ e) (Nat.le_refl _) ?_, rfl, q _ hf⟩
  exact ⟨z, us, r, ⟨_, Heap.get?_push_size _ rfl, rfl, _, rfl⟩⟩
theorem pe_lst (h : PA X es t) : PE X (.List es pos) (tLst t) := by
  intro pins s σ H Q I hq
  refine wpAny_List_spliced (thn (h pos pins s σ H _ I hq) fun us s1 ⟨xs, H1, I1, r, z, q⟩ => ⟨by rw [← r.length]; exact z, ?_⟩)
  have hf : H1 s1.heap.objs.size = none := I1.hok.fresh (Nat.le_refl _)
  refine ⟨.ref s1.heap.objs.size, upd H1 s1.heap.objs.size (.lst xs), I1.laid (t' := s1.toks) (fun b u e => Heap.get?_push_of_some _ e) (Nat.le_refl _) ?_, rfl, q _ hf⟩
  exact ⟨z, us, 0, r, Heap.get?_push_size _ rfl⟩
end
abbrev Sp := List V → Hp → VK → XK → Prop
abbrev CXT := List Env → Hp → Shared → XK → Value → Shared → Prop
structure Env0 (P : Program) (w : World) (K : PySem.W.Frag) (mg : Str → Option Value) (base : Heap) (A : Around) (outer : List Env) (s : Shared) (H : Hp) : Prop where
  frames : A.frames = some outer
  mod : Mod K mg base
  bs : ∀ b o, base.get? b = some o → s.heap.get? b = some o ∧ H b = none
  bsz : base.objs.size ≤ s.heap.objs.size
  funs : s.heap.FunFrames base outer
  frf : ∀ b ∈ frs outer, H b = none
  hok : HOk P w H s.heap
  bare : AllBare s.gens
def CE (outer : List Env) (P : Program) (w : World) (H : Hp) (s : Shared) (Q : VK) (u : Value) (s' : Shared) : Prop :=
  ∃ v H', s'.os = s.os ∧ AllBare s'.gens ∧ Un (frs outer) [] H H' s.heap s'.heap ∧ HOk P w H' s'.heap ∧ RelV v u ∧ Q v H'
def CR (CX : CXT) (outer : List Env) (P : Program) (w : World) (H : Hp) (s : Shared) (Q : VK) (E : XK) (r : Result) (s' : Shared) : Prop :=
  match r with
  | .ok (.ret u) => CE outer P w H s Q u s'
  | .ok _ => False
  | .error e => CX outer H s E e s'
structure FnOk (P : Program) (w : World) (K : PySem.W.Frag) (mg : Str → Option Value) (base : Heap) (CX : CXT) (k : Nat) (f : Addr) (fd : FuncData) (ps : List Str) (sp : Sp) : Prop where
  len : ∀ vs H Q E, sp vs H Q E → vs.length = ps.length
  run : ∀ (A : Around) (outer : List Env) (s : Shared) (H : Hp) (args : Args) (us : List Value) (vs : List V) (Q : VK) (E : XK), Room k A → Env0 P w K mg base A outer s H → BindsTo s fd args (ps.zip us) → Vals vs us → sp vs H Q E →
    codeAny (model P w) A (.call (.ref f) args) (CR CX outer P w H s Q E) s
theorem FnOk.mono {P : Program} {w : World} {K : PySem.W.Frag} {mg : Str → Option Value} {base : Heap} {CX : CXT} {j k : Nat} {f : Addr} {fd : FuncData} {ps : List Str} {sp : Sp} (F : FnOk P w K mg base CX j f fd ps sp) (h : j ≤ k) :
    FnOk P w K mg base CX k f fd ps sp := ⟨F.len, fun A outer s H args us vs Q E hr => F.run A outer s H args us vs Q E (hr.mono h)⟩
theorem Env0.make {P : Program} {w : World} {K : PySem.W.Frag} {mg : Str → Option Value} {base : Heap} {A : Around} {outer : List Env} {s : Shared} {H : Hp} (e : Env0 P w K mg base A outer s H) (C : Addr) (us : List Value) (kw : List (Str × Value)) :
    Env0 P w K mg base (A.under (.builtin "type.__call__" ⟨.ref C :: us, kw⟩)) outer s H := ⟨by first | exact e.frames | (simpa [Around.under, Code.envs, Code.isFrame, pushEnvs] using e.frames), e.mod, e.bs, e.bsz, e.funs, e.frf, e.hok, e.bare⟩
section
variable {X : Cx} {pins : List (Addr × Obj)} {σ : St} {H : Hp} {s s' : Shared}
theorem Inv.env0 (I : Inv X pins σ H s) : Env0 X.prog X.w X.K X.mg X.base X.A X.stack s H :=
  ⟨I.ok.frames, I.ok.mod, I.bs, Nat.le_trans I.ok.bsz I.sz, I.stack, I.stkFree, I.hok, I.bare⟩
theorem Inv.after {Q : VK} {u : Value} (I : Inv X pins σ H s) (h : CE X.stack X.prog X.w H s Q u s') : EP X pins σ Q u s' := by
  obtain ⟨v, H', os, bare, un, hok, r, q⟩ := h
  obtain ⟨hh, g, d, t, os'⟩ := s'
  obtain rfl : os' = s.os := os
  exact ⟨v, H', I.call (h' := hh) (g' := g) (d' := d) (t' := t) (ch := []) un hok bare (fun b z => absurd z (by simp)), r, q⟩
end
def tCall (sp : Sp) (dvs : List V) (E : XK) (t : TA) : TE := fun σ H Q => t σ H fun vs H1 => sp (vs ++ dvs) H1 Q E
def tMeth (C : Addr) (m : Str) (sp : Sp) (dvs : List V) (E : XK) (ta : TE) (t : TA) : TE := fun σ H Q => ta σ H fun x H1 => ∃ a dx fs, x = .ref a ∧ H1 a = some (.ins C dx fs) ∧ fs.lookup m = none ∧
  t σ H1 fun vs H2 => sp (x :: (vs ++ dvs)) H2 Q E
def tMake (C : Addr) (sp : Sp) (dvs : List V) (E : XK) (t : TA) : TE := fun σ H Q => t σ H fun vs H1 => ∀ x dx, H1 x = none → H1 dx = none → dx ≠ x →
  sp (.ref x :: (vs ++ dvs)) (upd (upd H1 dx (.own x)) x (.ins C dx [])) (fun v H2 => v = .non ∧ Q (.ref x) H2) E
def Binds (K : PySem.W.Frag) (fd : FuncData) (ps : List Str) (ds : List Value) : Prop :=
  ∀ (s : Shared) (us : List Value), K.In s.heap → (us ++ ds).length = ps.length → BindsTo s fd ⟨us, []⟩ (ps.zip (us ++ ds))
theorem Binds.all {K : PySem.W.Frag} {fd : FuncData} {ps : List Str} (h : ∀ us : List Value, us.length = ps.length → bindArgs fd ⟨us, []⟩ = pure (ps.zip us)) : Binds K fd ps [] := fun s us _ hl => by
  rw [List.append_nil] at hl ⊢
  exact .of_eq (h us hl)
def Passes (CX : CXT) (X : Cx) (E : XK) : Prop := ∀ (pins : List (Addr × Obj)) (σ : St) (H : Hp) (s : Shared) (e : Value) (s' : Shared), Inv X pins σ H s → CX X.stack H s E e s' → X.xe e s'
section
variable {X : Cx} {CX : CXT} {k : Nat} {f C : Addr} {fd : FuncData} {ps : List Str} {sp : Sp} {dvs : List V} {ds : List Value} {E : XK} {x m : Str} {p pos apos : Pos} {e o : Expr} {es : List Expr} {ta : TE} {t : TA}
theorem run_fn {pins : List (Addr × Obj)} {σ : St} {H : Hp} {s : Shared} {Q : VK} {us : List Value} {vs : List V} (F : FnOk X.prog X.w X.K X.mg X.base CX k f fd ps sp) (hr : Room k X.A) (hb : Binds X.K fd ps ds) (hd : Vals dvs ds) (hx : Passes CX X E)
    (I : Inv X pins σ H s) (r : Vals vs us) (h : sp (vs ++ dvs) H Q E) : wpAny (model X.prog X.w) X.A (call (.ref f) us) (EP X pins σ Q) X.xe s := by
  have r2 : Vals (vs ++ dvs) (us ++ ds) := r.append hd
  have hl : (us ++ ds).length = ps.length := by rw [← r2.length]; exact F.len _ _ _ _ h
  refine wpAny_call (codeAny_mono (F.run X.A X.stack s H ⟨us, []⟩ (us ++ ds) (vs ++ dvs) Q E hr I.env0 (hb s us I.kIn hl) r2 h) fun r s' hq => ?_)
  cases r with
  | error e => exact hx pins σ H s e s' I hq
  | ok fl =>
    cases fl with
    | ret u => exact I.after hq
    | next => exact False.elim hq
    | brk => exact False.elim hq
    | cont => exact False.elim hq
theorem pe_call (F : FnOk X.prog X.w X.K X.mg X.base CX k f fd ps sp) (hr : Room k X.A) (hg : Gl X x) (hm : X.mg x = some (.ref f)) (hk : PySem.W.keepIn X.K (.ref f) = true) (hb : Binds X.K fd ps ds) (hd : Vals dvs ds) (hx : Passes CX X E)
    (ha : PA X (e :: es) t) (hdb : (x == ("__debug__" : Str)) = false := by decide) (he : starEach (e :: es) X.env = (false, eval e X.env) :: starEach es X.env := by rfl) (hpl : (backTo pos (starEach es X.env)).any (·.1) = false := by rfl) :
    PE X (.Call (.Name x p) (e :: es) [] pos) (tCall sp dvs E t) := by
  intro pins s σ H Q I h
  refine wpAny_Call_Name_kw (ld_glob I hg hm ?_ hdb)
  refine PySem.W.callWith_K (h₀ := X.base) I.ok.mod.kin hk (thn (ha pos pins s σ H _ I h) fun us s1 ⟨vs, H1, I1, r, q⟩ => ⟨I1.kIn, ?_⟩) he hpl
  exact run_fn F hr hb hd hx I1 r q
theorem pe_call0 (F : FnOk X.prog X.w X.K X.mg X.base CX k f fd ps sp) (hr : Room k X.A) (hg : Gl X x) (hm : X.mg x = some (.ref f)) (hk : PySem.W.keepIn X.K (.ref f) = true) (hb : Binds X.K fd ps ds) (hd : Vals dvs ds) (hx : Passes CX X E)
    (hdb : (x == ("__debug__" : Str)) = false := by decide) : PE X (.Call (.Name x p) [] [] pos) (tCall sp dvs E tNil) := by
  intro pins s σ H Q I h
  refine wpAny_Call_Name_kw (ld_glob I hg hm ?_ hdb)
  exact PySem.W.callWith_K0 I.kIn hk (run_fn (us := []) F hr hb hd hx I .nil h)
theorem pe_meth {pl : Sem Bool} (he : PE X o ta) (c : Cls X.K C) (hm : Meth X.K C m f) (F : FnOk X.prog X.w X.K X.mg X.base CX k f fd ps sp) (hr : Room k X.A) (hb : Binds X.K fd ps ds) (hd : Vals dvs ds) (hx : Passes CX X E) (ha : PA X (e :: es) t)
    (hst : starEach (e :: es) X.env = (false, eval e X.env) :: starEach es X.env := by rfl) (hpl : (backTo pos (starEach es X.env)).any (·.1) = false := by rfl)
    (ht : eval (.Call (.Attribute o m apos) (e :: es) [] pos) X.env = (do
      let ov ← eval o X.env
      standAt apos.atName
      let (f, first) ← holding [ov] (getMethod ov m pl)
      callWith pos f first (backTo pos (starEach (e :: es) X.env)) (backToKw pos (keywordEach [] X.env))) := by rfl) :
    PE X (.Call (.Attribute o m apos) (e :: es) [] pos) (tMeth C m sp dvs E ta t) := by
  intro pins s σ H Q I h
  refine PySem.W.methodCall_KW (pl := pl) (thn (he pins s σ H _ I h) fun u s1 hqq => ?_) ht
  obtain ⟨x, H1, I1, rx, a, dx, fs, ex, ea, l, q⟩ := hqq
  subst ex
  obtain rfl : u = Value.ref a := rx
  refine getmeth_ok I1 ea c hm l ?_
  refine PySem.W.callWith_K (first := [.ref a]) (h₀ := X.base) I.ok.mod.kin hm.kp (thn (ha pos pins s1 σ H1 _ I1 q) fun us s2 ⟨vs, H2, I2, r, q2⟩ => ⟨I2.kIn, ?_⟩) hst hpl
  exact run_fn (us := .ref a :: us) (vs := .ref a :: vs) F hr hb hd hx I2 (.cons rfl r) q2
theorem pe_meth0 {pl : Sem Bool} (he : PE X o ta) (c : Cls X.K C) (hm : Meth X.K C m f) (F : FnOk X.prog X.w X.K X.mg X.base CX k f fd ps sp) (hr : Room k X.A) (hb : Binds X.K fd ps ds) (hd : Vals dvs ds) (hx : Passes CX X E)
    (ht : eval (.Call (.Attribute o m apos) [] [] pos) X.env = (do
      let ov ← eval o X.env
      standAt apos.atName
      let (f, first) ← holding [ov] (getMethod ov m pl)
      callWith pos f first (backTo pos (starEach [] X.env)) (backToKw pos (keywordEach [] X.env))) := by rfl) :
    PE X (.Call (.Attribute o m apos) [] [] pos) (tMeth C m sp dvs E ta tNil) := by
  intro pins s σ H Q I h
  refine PySem.W.methodCall_KW (pl := pl) (thn (he pins s σ H _ I h) fun u s1 hqq => ?_) ht
  obtain ⟨x, H1, I1, rx, a, dx, fs, ex, ea, l, q⟩ := hqq
  subst ex
  obtain rfl : u = Value.ref a := rx
  refine getmeth_ok I1 ea c hm l ?_
  exact PySem.W.callWith_K0 (first := [.ref a]) I1.kIn hm.kp (run_fn (us := [.ref a]) (vs := [.ref a]) F hr hb hd hx I1 (.cons rfl .nil) q)
structure Mk (K : PySem.W.Frag) (C f : Addr) : Prop where
  makes : PySem.W.makesIn K C = true
  init : PySem.W.findIn K (.ref C) "__init__" = some (some (.ref f))
  fn : PySem.W.isFn K (.ref f) = true
  kp : PySem.W.keepIn K (.ref C) = true
theorem run_make {pins : List (Addr × Obj)} {σ : St} {H : Hp} {s : Shared} {Q : VK} {us : List Value} {vs : List V} (M : Mk X.K C f) (F : FnOk X.prog X.w X.K X.mg X.base CX k f fd ps sp) (hr : Room (k + 1) X.A) (hb : Binds X.K fd ps ds) (hd : Vals dvs ds)
    (hx : Passes CX X E) (I : Inv X pins σ H s) (r : Vals vs us)
    (h : ∀ x dx, H x = none → H dx = none → dx ≠ x → sp (.ref x :: (vs ++ dvs)) (upd (upd H dx (.own x)) x (.ins C dx [])) (fun v H2 => v = .non ∧ Q (.ref x) H2) E) :
    wpAny (model X.prog X.w) X.A (call (.ref C) us) (EP X pins σ Q) X.xe s := by
  have hq := h (s.heap.objs.size + 1) s.heap.objs.size (I.hok.fresh (Nat.le_succ _)) (I.hok.fresh (Nat.le_refl _)) (Nat.ne_of_lt (Nat.lt_succ_self _))
  have I2 := Inv.made (C := C) I
  have r2 : Vals (V.ref (s.heap.objs.size + 1) :: (vs ++ dvs)) (Value.ref (s.heap.objs.size + 1) :: (us ++ ds)) := .cons rfl (r.append hd)
  have hl : (Value.ref (s.heap.objs.size + 1) :: us ++ ds).length = ps.length := by
    have e := r2.length
    rw [F.len _ _ _ _ hq] at e
    exact e.symm
  refine wpAny_call (make_map (f := f) I.kIn M.makes M.init (beq_iff_eq.mp M.fn) (codeAny_mono (F.run _ X.stack _ _ ⟨Value.ref (s.heap.objs.size + 1) :: us, []⟩ (Value.ref (s.heap.objs.size + 1) :: (us ++ ds)) _ _ E (hr.make C us [])
    (I2.env0.make C us []) (hb _ (Value.ref (s.heap.objs.size + 1) :: us) I2.kIn hl) r2 hq) fun r s' hq' => ?_))
  cases r with
  | error e => exact hx pins σ _ _ e s' I2 hq'
  | ok fl =>
    cases fl with
    | ret u =>
      obtain ⟨v, H', I3, rv, ev, q3⟩ := I2.after hq'
      subst ev
      exact ⟨rv, ⟨V.ref (s.heap.objs.size + 1), H', I3, rfl, q3⟩⟩
    | next => exact False.elim hq'
    | brk => exact False.elim hq'
    | cont => exact False.elim hq'
theorem pe_make (M : Mk X.K C f) (F : FnOk X.prog X.w X.K X.mg X.base CX k f fd ps sp) (hr : Room (k + 1) X.A) (hg : Gl X x) (hm : X.mg x = some (.ref C)) (hb : Binds X.K fd ps ds) (hd : Vals dvs ds) (hx : Passes CX X E)
    (ha : PA X (e :: es) t) (hdb : (x == ("__debug__" : Str)) = false := by decide) (he : starEach (e :: es) X.env = (false, eval e X.env) :: starEach es X.env := by rfl) (hpl : (backTo pos (starEach es X.env)).any (·.1) = false := by rfl) :
    PE X (.Call (.Name x p) (e :: es) [] pos) (tMake C sp dvs E t) := by
  intro pins s σ H Q I h
  refine wpAny_Call_Name_kw (ld_glob I hg hm ?_ hdb)
  refine PySem.W.callWith_K (h₀ := X.base) I.ok.mod.kin M.kp (thn (ha pos pins s σ H _ I h) fun us s1 ⟨vs, H1, I1, r, q⟩ => ⟨I1.kIn, ?_⟩) he hpl
  exact run_make M F hr hb hd hx I1 r q
end
section
variable {X : Cx} {CX : CXT} {k : Nat} {f C : Addr} {fd : FuncData} {ps ks : List Str} {sp : Sp} {E : XK} {x m : Str} {p pos apos kpos : Pos} {e o : Expr} {es : List Expr} {kws : List Keyword} {te ta : TE} {t tk : TA} {nm : Option Str}
variable {g : List Value → List Value → List Value} {gV : List V → List V → List V}
end
structure FnScope (N P : List Str) (sc : Scope) : Prop where
  kind : sc.kind = .function
  co : sc.isCoroutine = false
  gen : sc.isGenerator = false
  nd : N.Nodup
  pre : N.take P.length = P
  par : ∀ x ∈ P, sc.names.lookup x = some .local ∨ sc.names.lookup x = some .cell
  nofree : ∀ y ∈ sc.names, y.2 ≠ .free
theorem bindL_out {kindOf : Str → Option NameKind} {x : Str} : ∀ {binds : List (Str × Value)} {m : Str → Option Value}, (∀ v, (x, v) ∉ binds) → bindL kindOf binds m x = m x
  | [], _, _ => rfl
  | (n, v) :: r, m, h => by
    unfold bindL
    rw [bindL_out fun w hw => h w (List.mem_cons_of_mem _ hw)]
    split
    · have : x ≠ n := by rintro rfl; exact h v List.mem_cons_self
      simp [this]
    · rfl
theorem bindC_out {kindOf : Str → Option NameKind} {x : Str} : ∀ {binds : List (Str × Value)} {m : Str → Option Value}, (∀ v, (x, v) ∉ binds) → bindC kindOf binds m x = m x
  | [], _, _ => rfl
  | (n, v) :: r, m, h => by
    unfold bindC
    rw [bindC_out fun w hw => h w (List.mem_cons_of_mem _ hw)]
    split
    · rfl
    · have : x ≠ n := by rintro rfl; exact h v List.mem_cons_self
      simp [this]
theorem bindL_get {kindOf : Str → Option NameKind} {x : Str} {v : Value} : ∀ {P : List Str} {vs : List Value} {i : Nat} {m : Str → Option Value}, P.Nodup → P[i]? = some x → vs[i]? = some v → kindOf x = some .local →
    bindL kindOf (P.zip vs) m x = some v
  | [], _, _, _, _, h, _, _ => by simp at h
  | _ :: _, [], _, _, _, _, h, _ => by simp at h
  | p :: P, w :: vs, 0, m, nd, h1, h2, hk => by
    simp at h1 h2; subst h1; subst h2
    show bindL kindOf ((p, w) :: P.zip vs) m p = _
    unfold bindL
    rw [bindL_out fun v hv => (List.nodup_cons.mp nd).1 (List.of_mem_zip hv).1, if_pos hk]
    simp
  | p :: P, w :: vs, i + 1, m, nd, h1, h2, hk => by
    show bindL kindOf ((p, w) :: P.zip vs) m x = _
    unfold bindL
    exact bindL_get (i := i) (List.nodup_cons.mp nd).2 (by simpa using h1) (by simpa using h2) hk
theorem bindC_get {kindOf : Str → Option NameKind} {x : Str} {v : Value} : ∀ {P : List Str} {vs : List Value} {i : Nat} {m : Str → Option Value}, P.Nodup → P[i]? = some x → vs[i]? = some v → kindOf x ≠ some .local →
    bindC kindOf (P.zip vs) m x = some v
  | [], _, _, _, _, h, _, _ => by simp at h
  | _ :: _, [], _, _, _, _, h, _ => by simp at h
  | p :: P, w :: vs, 0, m, nd, h1, h2, hk => by
    simp at h1 h2; subst h1; subst h2
    show bindC kindOf ((p, w) :: P.zip vs) m p = _
    unfold bindC
    rw [bindC_out fun v hv => (List.nodup_cons.mp nd).1 (List.of_mem_zip hv).1, if_neg hk]
    simp
  | p :: P, w :: vs, i + 1, m, nd, h1, h2, hk => by
    show bindC kindOf ((p, w) :: P.zip vs) m x = _
    unfold bindC
    exact bindC_get (i := i) (List.nodup_cons.mp nd).2 (by simpa using h1) (by simpa using h2) hk
def start (N : List Str) (vs : List V) : St := vs.map some ++ List.replicate (N.length - vs.length) none
def cxOf (CX : CXT) (P : Program) (w : World) (K : PySem.W.Frag) (mg : Str → Option Value) (base : Heap) (N : List Str) (qual : Str) (scope : Scope) (f : Addr) (cd : Value) (A : Around) (outer : List Env) (s : Shared) (H : Hp) (E : XK) : Cx where
  prog := P
  w := w
  K := K
  mg := mg
  base := base
  A := A.deeper (envOfC qual scope s.heap.objs.size f cd)
  N := N
  s₀ := s
  H₀ := H
  env := envOfC qual scope s.heap.objs.size f cd
  outer := outer
  stack := envOfC qual scope s.heap.objs.size f cd :: outer
  ex := []
  calm := true
  fn := fun _ => true
  pn := []
  xe := fun e s' => wpAny (model P w) (A.deeper (envOfC qual scope s.heap.objs.size f cd)) (leaving (envOfC qual scope s.heap.objs.size f cd) e) (fun _ s'' => CX outer H s E e s'') (fun e' s'' => CX outer H s E e' s'') s'
theorem cell_has {sc : Scope} {n : Nat} {x : Str} (h : sc.names.lookup x = some .cell) : ∃ c, (cellsFrom n sc.names []).lookup x = some c := by
  have q := PySem.W.cellsFrom_some sc.names n [] (.inl h)
  exact Option.isSome_iff_exists.mp q
theorem inv_start {CX : CXT} {P : Program} {w : World} {K : PySem.W.Frag} {mg : Str → Option Value} {base : Heap} {N ps : List Str} {qual : Str} {scope : Scope} {f : Addr} {cd : Value} {A : Around} {outer : List Env} {s s1 : Shared} {H : Hp} {E : XK} {us : List Value} {vs : List V}
    (S : FnScope N ps scope) (hd : A.handled = none) (e0 : Env0 P w K mg base A outer s H) (hl : vs.length = ps.length) (r : Vals vs us)
    (x : InCallC s s.heap.objs.size (bindL (envOfC qual scope s.heap.objs.size f cd).kindOf (ps.zip us) fun _ => none) (cellsFrom (s.heap.objs.size + 1) scope.names []) (bindC (envOfC qual scope s.heap.objs.size f cd).kindOf (ps.zip us) fun _ => none) s1) :
    Inv (cxOf CX P w K mg base N qual scope f cd A outer s H E) [] (start N vs) H s1 := by
  have hpl : ps.length ≤ N.length := by have := congrArg List.length S.pre; rw [List.length_take] at this; omega
  obtain ⟨h1, tk, rfl, hk⟩ := x.done
  have noA : ∀ b : Addr, b ∉ (cxOf CX P w K mg base N qual scope f cd A outer s H E).ex := fun b z => absurd (show b ∈ ([] : List Addr) from z) (by simp)
  refine ⟨⟨e0.mod, S.kind, rfl, rfl, Nat.le_refl _, fun y z c h1 h2 => ?_, fun y hy => ?_, fun y c _ h => ?_, fun _ => hd, Around.frames_deeper e0.frames, .inr ⟨rfl, rfl⟩, fun b z => absurd z (noA b), e0.bs, e0.bsz, fun b _ _ => noA b, fun b z => absurd z (noA b), e0.funs, e0.frf⟩,
    rfl, e0.bare, Un.kept hk, ⟨_, x.toInCall.ns, fun i y v h1 h2 h3 => ?_⟩, fun y c h => ⟨_, x.cell y c h⟩, e0.hok.fresh (Nat.le_refl _), fun y c h => ?_, fun p hp => absurd (show p ∈ ([] : List (Addr × Obj)) from hp) (by simp), e0.hok.kept hk, ?_⟩
  · exact name_of_addr x.apart (PySem.mem_of_lookup h1) (PySem.mem_of_lookup h2)
  · have hy : scope.names.lookup y = some .cell ∨ scope.names.lookup y = some .free := hy
    rcases hy with hy | hy
    · exact cell_has hy
    · exact absurd rfl (S.nofree _ (PySem.mem_of_lookup hy))
  · exact Nat.le_of_lt (x.above y c (PySem.mem_of_lookup h))
  · have hi : i < vs.length := by
      unfold start at h2
      by_cases hi : i < vs.length
      · exact hi
      · rw [List.getElem?_append_right (by simpa using hi)] at h2
        rw [List.getElem?_replicate] at h2
        split at h2 <;> cases h2
    have ha : vs[i]? = some v := by
      unfold start at h2
      rw [List.getElem?_append_left (by simpa using hi), List.getElem?_map] at h2
      cases e : vs[i]? with
      | none => rw [e] at h2; cases h2
      | some a => rw [e] at h2; cases h2; rfl
    obtain ⟨u, hu, rv⟩ := r.get ha
    have hp : ps[i]? = some y := by
      rw [← S.pre, List.getElem?_take_of_lt (by omega)]; exact h1
    have ndP : ps.Nodup := by rw [← S.pre]; exact S.nd.sublist (List.take_sublist _ _)
    refine ⟨u, rv, ?_⟩
    rcases S.par y (List.mem_of_getElem? hp) with k | k
    · exact .inl ⟨k, bindL_get ndP hp hu k⟩
    · obtain ⟨c, e⟩ := cell_has (n := s.heap.objs.size + 1) k
      refine .inr ⟨.inl k, c, e, ?_⟩
      have q := x.cell y c e
      rw [bindC_get ndP hp hu (by show scope.names.lookup y ≠ _; rw [k]; decide)] at q
      exact q
  · exact e0.hok.fresh (Nat.le_of_lt (x.above y c (PySem.mem_of_lookup h)))
  · unfold start
    show _ = N.length
    rw [List.length_append, List.length_map, List.length_replicate]
    omega
theorem fn_of {CX : CXT} {P : Program} {w : World} {K : PySem.W.Frag} {mg : Str → Option Value} {base : Heap} {k : Nat} {f : Addr} {name qual : Str} {params : Arguments} {body : List Stmt} {scope : Scope} {dV kV doc pm cdv ct oc : Value} {an od : Option Addr}
    {osl : Array (Option Value)} {N ps : List Str} {sp : Sp} (lk : K.lookup f = some ⟨oc, od, .func (PySem.W.fnOf name qual params body scope dV kV doc pm an cdv ct), osl⟩) (hcd : PySem.W.codeIn K cdv qual = true) (S : FnScope N ps scope)
    (len : ∀ vs H Q E, sp vs H Q E → vs.length = ps.length)
    (hbody : ∀ (A : Around) (outer : List Env) (s : Shared) (H : Hp) (vs : List V) (Q : VK) (E : XK), Room k (A.deeper (envOfC qual scope s.heap.objs.size f cdv)) → sp vs H Q E →
      ∃ t, PSs (cxOf CX P w K mg base N qual scope f cdv A outer s H E) body t ∧ t { nx := fun _ H' => Q .non H', rt := Q } (start N vs) H) :
    FnOk P w K mg base CX (k + 1) f (PySem.W.fnOf name qual params body scope dV kV doc pm an cdv ct) ps sp := by
  refine ⟨len, fun A outer s H args us vs Q E hr e0 hb r hsp => ?_⟩
  have hl := len _ _ _ _ hsp
  have KX : K.In s.heap := e0.mod.kin.keeps fun b o e => (e0.bs b o e).1
  have lim : s.heap.NoLimit := e0.mod.nolimit.keeps fun b o e => (e0.bs b o e).1
  have hkind : ∀ y ∈ ps.zip us, scope.names.lookup y.1 = some .local ∨ (scope.names.lookup y.1 = some .cell ∧ ((cellsFrom (s.heap.objs.size + 1) scope.names []).lookup y.1).isSome = true) := fun ⟨n, v⟩ hy => by
    rcases S.par n (List.of_mem_zip hy).1 with q | q
    · exact .inl q
    · exact .inr ⟨q, PySem.W.cellsFrom_some _ _ _ (.inl q)⟩
  refine codeAny_call_function hr.depth (KX _ _ lk) rfl S.co S.gen rfl (PySem.W.codeRec_of KX hcd) (hb _ _ _ _ ?_)
  refine wpAny_newFunctionEnv_cells S.kind hkind fun env he s1 x => ?_
  subst he
  refine ⟨lim.keeps x.toInCall.keep, codeAny_func ?_⟩
  obtain ⟨t, ht, hq⟩ := hbody A outer s H vs Q E (hr.deeper _) hsp
  have I : Inv (cxOf CX P w K mg base N qual scope f cdv A outer s H E) [] (start N vs) H s1 := inv_start S hr.hd e0 hl r x
  refine wpAny_mono (ht [] s1 (start N vs) H _ I hq) (fun fl s' hs => ?_) fun e s' hs => hs
  have fin : ∀ {σ' : St} {H' : Hp} {v : V} {u : Value}, Inv (cxOf CX P w K mg base N qual scope f cdv A outer s H E) [] σ' H' s' → RelV v u → Q v H' → CE outer P w H s Q u s' :=
    fun {σ' H' v u} J rv q => ⟨v, H', J.os, J.bare, J.base, J.hok, rv, q⟩
  cases fl with
  | ret u =>
    obtain ⟨v, σ', H', J, rv, q⟩ := hs
    exact fin J rv q
  | next =>
    obtain ⟨σ', H', J, q⟩ := hs
    exact fin (v := V.non) (u := Value.none) J rfl q
  | brk =>
    obtain ⟨_, _, _, q⟩ := hs
    exact False.elim q
  | cont =>
    obtain ⟨_, _, _, q⟩ := hs
    exact False.elim q
end L2
namespace L2
open PySem PySem.Spec PyProof.Rows
section
variable {X : Cx} {x : Str} {p pos : Pos} {e : Expr} {es : List Expr} {t : TA} {id T : String} {r : List V → Hp → VK → Prop}
def tCB (r : List V → Hp → VK → Prop) (t : TA) : TE := fun σ H Q => t σ H fun vs H1 => r vs H1 Q
theorem pe_callB (hc : CallR X (.builtin id) r) (hg : Gl X x) (hm : X.mg x = none) (hv : bootBuiltins x = some (.builtin id)) (ha : PA X (e :: es) t) (hn : x ≠ "__name__" := by decide) (hdb : (x == ("__debug__" : Str)) = false := by decide)
    (he : starEach (e :: es) X.env = (false, eval e X.env) :: starEach es X.env := by rfl) (hpl : (backTo pos (starEach es X.env)).any (·.1) = false := by rfl) : PE X (.Call (.Name x p) (e :: es) [] pos) (tCB r t) := by
  intro pins s σ H Q I h
  refine wpAny_Call_Name_kw (ld_blt I hg hm hv ?_ hn hdb)
  exact PyProof.Rows.callWith_builtin1 (thn (ha pos pins s σ H _ I h) fun us s1 ⟨vs, H1, I1, r1, q1⟩ => hc pins s1 σ H1 vs us Q I1 r1 q1) he hpl
end
end L2
namespace HT
open PySem PyProof.Rows
section
open PySem.SeqAt
open PySem.AutoSeq1 (wpAny_loadPart')
open PySem.MeetsSeq PySem.MeetsSeq2 PySem.MeetsSeq3
end
section
variable {prog : Program} {w : World} {A : Around} {E : Value → Shared → Prop} {s : Shared}
def sIx (n d : Nat) : Option Int → Nat
  | none => d
  | some v => if v < 0 then (v + (n : Int)).toNat else min v.toNat n
end
end HT
namespace L2
open PySem PySem.Spec PyProof.Rows
abbrev TO := St → Hp → (Option Int → Hp → Prop) → Prop
def PO (X : Cx) (e : Option Expr) (t : TO) : Prop :=
  ∀ (pins : List (Addr × Obj)) (s : Shared) (σ : St) (H : Hp) (Q : Option Int → Hp → Prop), Inv X pins σ H s → t σ H Q →
    wpAny (model X.prog X.w) X.A (evalPart e X.env) (fun u s' => ∃ o H', Inv X pins σ H' s' ∧ IsPart u o ∧ Q o H') X.xe s
def tNoPart : TO := fun _ H Q => Q none H
def tPart (t : TE) : TO := fun σ H Q => t σ H fun x H1 => ∃ i, x = .int i ∧ Q (some i) H1
theorem intsAre_of {ns : List Int} : ∀ {us : List Value}, Vals (ns.map V.int) us → IntsAre us ns := by
  induction ns with
  | nil => intro us r; rw [List.map_nil] at r; cases r; exact .nil
  | cons n ns ih =>
    intro us r
    rw [List.map_cons] at r
    cases r with
    | cons r1 r2 =>
      obtain ⟨t, e⟩ := r1
      subst e
      exact .cons n t (ih r2)
section
variable {X : Cx} {e : Expr} {te : TE} {lo hi : Option Expr} {tl th : TO} {pos p2 : Pos}
theorem po_none : PO X none tNoPart := by
  intro pins s σ H Q I h
  rw [evalPart_none]
  exact wpAny_pure ⟨none, H, I, .none, h⟩
theorem po_some (h : PE X e te) : PO X (some e) (tPart te) := by
  intro pins s σ H Q I hw
  rw [evalPart_some]
  refine thn (h pins s σ H _ I hw) fun u s1 hqq => ?_
  obtain ⟨x, H1, I1, r1, q1⟩ := hqq
  obtain ⟨i, rfl, q⟩ := q1
  obtain ⟨t, rfl⟩ := r1
  exact ⟨some i, H1, I1, .int i t, q⟩
def SlR (X : Cx) (r : V → Option Int → Option Int → Hp → VK → Prop) : Prop :=
  ∀ (pins : List (Addr × Obj)) (s : Shared) (σ : St) (H : Hp) (x : V) (v vl vu : Value) (lo hi : Option Int) (sl : Addr) (Q : VK), Inv X pins σ H s → RelV x v → s.heap.IsSliceOf sl vl vu .none → IsPart vl lo → IsPart vu hi → r x lo hi H Q →
    ∃ T id, typeLookup (.type T) "__getitem__" = pure (some (.builtin id)) ∧ s.TypeIs v T ∧ wpAny (model X.prog X.w) X.A (getItem v (.ref sl)) (EP X pins σ Q) X.xe s
theorem SlR.or {r r' : V → Option Int → Option Int → Hp → VK → Prop} (h : SlR X r) (h' : SlR X r') : SlR X (fun x lo hi H Q => r x lo hi H Q ∨ r' x lo hi H Q) := by
  intro pins s σ H x v vl vu lo hi sl Q I rx hs pl pu q
  rcases q with q | q
  · exact h pins s σ H x v vl vu lo hi sl Q I rx hs pl pu q
  · exact h' pins s σ H x v vl vu lo hi sl Q I rx hs pl pu q
def tSl (r : V → Option Int → Option Int → Hp → VK → Prop) (te : TE) (tl th : TO) : TE := fun σ H Q => te σ H fun x H1 => tl σ H1 fun l H2 => th σ H2 fun u H3 => r x l u H3 Q
theorem pe_slice {r : V → Option Int → Option Int → Hp → VK → Prop} (hr : SlR X r) (he : PE X e te) (hl : PO X lo tl) (hu : PO X hi th) : PE X (.Subscript e (.Slice lo hi none p2) pos) (tSl r te tl th) := by
  intro pins s σ H Q I h
  refine Subscript_ (thn (he pins s σ H _ I h) fun v s1 hqq => ?_)
  obtain ⟨x, H1, I1, r1, q1⟩ := hqq
  refine wpAny_Slice (thn (hl pins s1 σ H1 _ I1 q1) fun vl s2 ⟨l, H2, I2, pl, q2⟩ => thn (hu pins s2 σ H2 _ I2 q2) fun vu s3 hqq => ?_)
  obtain ⟨u, H3, I3, pu, q3⟩ := hqq
  rw [evalPart_none]
  refine wpAny_pure ?_
  have I4 : Inv X pins σ H3 { s3 with heap := s3.heap.push { cls := .type "slice", data := .fields #[vl, vu, .none] } } := I3.kept (t' := s3.toks) fun b ob q => Heap.get?_push_of_some _ q
  obtain ⟨T, id, hT, ht, hg⟩ := hr pins { s3 with heap := s3.heap.push { cls := .type "slice", data := .fields #[vl, vu, .none] } } σ H3 x v vl vu l u s3.heap.objs.size Q I4 r1 (Heap.IsSliceOf.new ..) pl pu q3
  show wpAny (model X.prog X.w) X.A (subscriptTail e (.Slice lo hi none p2) v (.ref s3.heap.objs.size)) (EP X pins σ Q) X.xe { s3 with heap := s3.heap.push { cls := .type "slice", data := .fields #[vl, vu, .none] } }
  exact tail_any (ops := [.ref s3.heap.objs.size, v]) ht hT hg (by with_unfolding_all rfl)
def cutV (xs : List V) (lo hi : Option Int) : List V := (xs.drop (HT.sIx xs.length 0 lo)).take (HT.sIx xs.length xs.length hi - HT.sIx xs.length 0 lo)
theorem cutV_length (xs : List V) (lo hi : Option Int) : (cutV xs lo hi).length ≤ xs.length := by
  unfold cutV
  rw [List.length_take, List.length_drop]
  omega
end
end L2
namespace L2
open PySem PySem.Spec PyProof.Rows
def ixN (n : Nat) (i : Int) : Option Nat := if 0 ≤ i then (if i < n then some i.toNat else none) else if -(n : Int) ≤ i then some (i + n).toNat else none
def atI {α : Type} (xs : List α) (i : Int) : Option α := (ixN xs.length i).bind fun j => xs[j]?
theorem ixN_seq {n : Nat} {i : Int} {j : Nat} (h : ixN n i = some j) : seqIndex? i n = some j ∧ j < n ∧ -(n : Int) ≤ i ∧ i < n := by
  unfold ixN at h
  by_cases h0 : 0 ≤ i
  · rw [if_pos h0] at h
    by_cases h1 : i < n
    · rw [if_pos h1] at h
      have e : i.toNat = j := Option.some.inj h
      exact ⟨by rw [seqIndex_of h0 h1, e], by omega, by omega, h1⟩
    · rw [if_neg h1] at h; cases h
  · rw [if_neg h0] at h
    by_cases h1 : -(n : Int) ≤ i
    · rw [if_pos h1] at h
      have e : (i + n).toNat = j := Option.some.inj h
      exact ⟨by rw [seqIndex_neg (by omega) h1, e], by omega, h1, by omega⟩
    · rw [if_neg h1] at h; cases h
theorem atI_get {α : Type} {xs : List α} {i : Int} {v : α} (h : atI xs i = some v) : ∃ j, seqIndex? i xs.length = some j ∧ xs[j]? = some v ∧ j < xs.length ∧ -(xs.length : Int) ≤ i ∧ i < xs.length := by
  unfold atI at h
  cases e : ixN xs.length i with
  | none => rw [e] at h; cases h
  | some j =>
    rw [e] at h
    obtain ⟨h1, h2, h3, h4⟩ := ixN_seq e
    exact ⟨j, h1, h, h2, h3, h4⟩
theorem atI_nat {α : Type} {xs : List α} {j : Nat} {v : α} (h : xs[j]? = some v) : atI xs (j : Int) = some v := by
  have hj : j < xs.length := (List.getElem?_eq_some_iff.mp h).1
  have e : ixN xs.length (j : Int) = some j := by
    unfold ixN
    rw [if_pos (by omega), if_pos (by omega)]; simp
  unfold atI; rw [e]; exact h
theorem atI_last {α : Type} (xs : List α) (v : α) : atI (xs ++ [v]) (-1) = some v := by
  have hl : (xs ++ [v]).length = xs.length + 1 := by simp
  have e : ixN (xs ++ [v]).length (-1) = some xs.length := by
    unfold ixN
    rw [hl, if_neg (by decide), if_pos (by omega)]
    congr 1
    omega
  unfold atI
  rw [e]
  show (xs ++ [v])[xs.length]? = some v
  simp
def PlainIx (b : Expr) : Prop := ∀ o i, subscripted b false o i = operate [o, i] (getItem o i)
def IxR (X : Cx) (r : R2) : Prop :=
  ∀ (value slice : Expr) (pins : List (Addr × Obj)) (s : Shared) (σ : St) (H : Hp) (x y : V) (v u : Value) (Q : VK), Inv X pins σ H s → RelV x v → RelV y u → r x y H Q →
    subscripted slice false v u = operate [v, u] (getItem v u) → wpAny (model X.prog X.w) X.A (subscriptTail value slice v u) (EP X pins σ Q) X.xe s
def MtR (X : Cx) (id : String) (r : V → List V → Hp → VK → Prop) : Prop :=
  ∀ (pins : List (Addr × Obj)) (s : Shared) (σ : St) (H : Hp) (x : V) (xs : List V) (v : Value) (us : List Value) (Q : VK), Inv X pins σ H s → RelV x v → Vals xs us → r x xs H Q →
    wpAny (model X.prog X.w) X.A (call (.builtin id) (v :: us)) (EP X pins σ Q) X.xe s
section
variable {X : Cx} {a b : Expr} {ta tb : TE} {pos : Pos}
theorem IxR.or {r r' : R2} (h : IxR X r) (h' : IxR X r') : IxR X (fun x y H Q => r x y H Q ∨ r' x y H Q) := by
  intro value slice pins s σ H x y v u Q I rx ry q hs
  rcases q with q | q
  · exact h value slice pins s σ H x y v u Q I rx ry q hs
  · exact h' value slice pins s σ H x y v u Q I rx ry q hs
theorem MtR.or {id : String} {r r' : V → List V → Hp → VK → Prop} (h : MtR X id r) (h' : MtR X id r') : MtR X id (fun x xs H Q => r x xs H Q ∨ r' x xs H Q) := by
  intro pins s σ H x xs v us Q I rx rs q
  rcases q with q | q
  · exact h pins s σ H x xs v us Q I rx rs q
  · exact h' pins s σ H x xs v us Q I rx rs q
theorem pe_ix {r : R2} (hr : IxR X r) (ha : PE X a ta) (hb : PE X b tb) (hs : PlainIx b) : PE X (.Subscript a b pos) (tOp r ta tb) := by
  intro pins s σ H Q I h
  exact Subscript_ (binT ha hb I h fun v u s2 x y H2 I2 rx ry q => hr a b pins s2 σ H2 x y v u Q I2 rx ry q (hs _ _))
def rIxL (K : PySem.W.Frag) : R2 := fun x y H Q => ∃ p xs i v, x = .ref p ∧ y = .int i ∧ SqL K H p xs ∧ atI xs i = some v ∧ Q v H
def rIxT (K : PySem.W.Frag) : R2 := fun x y H Q => ∃ p xs i v, x = .ref p ∧ y = .int i ∧ SqT K H p xs ∧ atI xs i = some v ∧ Q v H
theorem ix_list : IxR X (rIxL X.K) := by
  intro value slice pins s σ H x y v u Q I rx ry h hs
  obtain ⟨p, xs, i, z, rfl, rfl, hq, he, q⟩ := h
  cases rx
  obtain ⟨t, rfl⟩ := ry
  obtain ⟨its, r, pl, hz⟩ := I.list hq
  obtain ⟨j, h1, h2, h3, h4, h5⟩ := atI_get he
  obtain ⟨w, ew, rw'⟩ := r.get h2
  have hl := r.length
  have hn := line63
  have fin : EP X pins σ Q w s := ⟨z, H, I, rw', q⟩
  by_cases h0 : 0 ≤ i
  · have hj : i.toNat = j := by
      rw [seqIndex_of h0 h5] at h1
      exact Option.some.inj h1
    exact item_listR pl.isList h0 (by omega) (by rw [hj]; simpa using ew) fin hs
  · have hj : (i + (its.toArray.size : Int)).toNat = j := by
      rw [seqIndex_neg (by omega) h4] at h1
      rw [List.size_toArray, ← hl]
      exact Option.some.inj h1
    exact subscriptTail_builtinR (x := w) pl.isList.typeIs slot_list_getitem.lookup
      (wpAny_getItem_list_neg (Q := fun r s' => r = w ∧ EP X pins σ Q r s') pl.isList (by omega) (by rw [List.size_toArray] <;> omega) (by omega) (by rw [hj]; simpa using ew) ⟨rfl, fin⟩) hs
theorem ix_tup : IxR X (rIxT X.K) := by
  intro value slice pins s σ H x y v u Q I rx ry h hs
  obtain ⟨p, xs, i, z, rfl, rfl, hq, he, q⟩ := h
  cases rx
  obtain ⟨t, rfl⟩ := ry
  obtain ⟨its, r, pl, hz⟩ := I.tuple hq
  obtain ⟨j, h1, h2, h3, h4, h5⟩ := atI_get he
  obtain ⟨w, ew, rw'⟩ := r.get h2
  have hl := r.length
  have hn := line63
  have fin : EP X pins σ Q w s := ⟨z, H, I, rw', q⟩
  exact subscriptTail_builtinR (x := w) pl.typeIs slot_tuple_getitem.lookup
    (getItem_tuple (j := j) (Q := fun r s' => r = w ∧ EP X pins σ Q r s') pl (by omega) (by omega) (by rw [List.size_toArray, ← hl]; exact h1) (by simpa using ew) ⟨rfl, fin⟩) hs
theorem Inv.lst {pins : List (Addr × Obj)} {σ : St} {H : Hp} {s : Shared} {p : Addr} {xs : List V} (I : Inv X pins σ H s) (h : H p = some (.lst xs)) :
    ∃ (its : List Value) (n : Nat), Vals xs its ∧ s.heap.get? p = some { cls := .type "list", data := .seq its.toArray n } ∧ xs.length ≤ sizeLine := by
  obtain ⟨z, its, n, r, e⟩ := I.hok p _ h
  exact ⟨its, n, r, e, z⟩
theorem slice_bounds (lo hi : Option Int) (n : Nat) : (sliceBounds lo hi none n).1 = ((HT.sIx n 0 lo : Nat) : Int) ∧ (sliceBounds lo hi none n).2.1 = ((HT.sIx n n hi : Nat) : Int) ∧ (sliceBounds lo hi none n).2.2 = 1 := by
  refine ⟨?_, ?_, rfl⟩
  · cases lo with
    | none => simp [sliceBounds, HT.sIx]
    | some i =>
      simp only [sliceBounds, HT.sIx, Option.getD_none, show (1 : Int) > 0 by decide, if_true]
      by_cases h : i < 0
      · simp only [h, if_true] <;> omega
      · simp only [h, if_false] <;> omega
  · cases hi with
    | none => simp [sliceBounds, HT.sIx]
    | some i =>
      simp only [sliceBounds, HT.sIx, Option.getD_none, show (1 : Int) > 0 by decide, if_true]
      by_cases h : i < 0
      · simp only [h, if_true] <;> omega
      · simp only [h, if_false] <;> omega
theorem slicePick_cut (its : List Value) (lo hi : Option Int) : slicePick its.toArray lo hi none = ((its.drop (HT.sIx its.length 0 lo)).take (HT.sIx its.length its.length hi - HT.sIx its.length 0 lo)).toArray := by
  obtain ⟨h1, h2, h3⟩ := slice_bounds lo hi its.toArray.size
  unfold slicePick
  rw [h1, h2, h3]
  simp only [sliceRange_one, pick_run, List.size_toArray] <;> rfl
def rSlL (K : PySem.W.Frag) : V → Option Int → Option Int → Hp → VK → Prop := fun x lo hi H Q => ∃ a xs, x = .ref a ∧ SqL K H a xs ∧ ∀ p, H p = none → Q (.ref p) (upd H p (.lst (cutV xs lo hi)))
theorem sl_list : SlR X (rSlL X.K) := by
  intro pins s σ H x v vl vu lo hi sl Q I rx hs pl pu h
  obtain ⟨a, xs, rfl, hx, q⟩ := h
  cases rx
  obtain ⟨its, r, ht, hz⟩ := I.list hx
  have hlen := r.length
  refine ⟨"list", _, slot_list_getitem.lookup, ht.isList.typeIs, ?_⟩
  refine wpAny_getItem_list_slice ht.isList hs pl pu .none (by simp) ?_ (by rw [List.size_toArray] <;> omega)
  rw [slicePick_cut, ← hlen]
  refine ⟨.ref s.heap.objs.size, _, I.laid (t' := s.toks) (o := .lst (cutV xs lo hi)) (fun b ob q => Heap.get?_push_of_some _ q) (Nat.le_refl _) ?_, rfl, q _ (I.hok.fresh (Nat.le_refl _))⟩
  exact ⟨Nat.le_trans (cutV_length xs lo hi) hz, _, 0, (r.drop (HT.sIx xs.length 0 lo)).take (HT.sIx xs.length xs.length hi - HT.sIx xs.length 0 lo), Heap.get?_push_size _ rfl⟩
def flatV : V → Bool
  | .non => true
  | .bl _ => true
  | .int _ => true
  | .str _ => true
  | _ => false
def eqV : V → V → Bool
  | .non, .non => true
  | .bl a, .bl b => a == b
  | .bl a, .int b => (if a then 1 else 0) == b
  | .int a, .bl b => a == (if b then 1 else 0)
  | .int a, .int b => a == b
  | .str a, .str b => a == b
  | _, _ => false
theorem eqAt_V {A : Around} {s : Shared} {y x : V} {u v : Value} (ry : RelV y u) (rx : RelV x v) (fy : flatV y = true) (fx : flatV x = true) : SeqAt.EqAt A s u v (eqV y x) := by
  cases y with
  | non =>
    cases ry
    cases x with
    | non => cases rx; exact SeqAt.EqAt.same _
    | bl b => cases rx; exact SeqAt.EqAt.none_bool b
    | int b => obtain ⟨t, rfl⟩ := rx; exact SeqAt.EqAt.none_int b t
    | str b => obtain ⟨t, rfl⟩ := rx; exact SeqAt.EqAt.none_str b t
    | _ => exact absurd (show false = true from fx) Bool.false_ne_true
  | bl a =>
    cases ry
    cases x with
    | non => cases rx; exact SeqAt.EqAt.bool_none a
    | bl b => cases rx; exact SeqAt.EqAt.bool_bool a b
    | int b => obtain ⟨t, rfl⟩ := rx; exact SeqAt.EqAt.bool_int a b t
    | str b => obtain ⟨t, rfl⟩ := rx; exact SeqAt.EqAt.bool_str a b t
    | _ => exact absurd (show false = true from fx) Bool.false_ne_true
  | int a =>
    obtain ⟨t', rfl⟩ := ry
    cases x with
    | non => cases rx; exact SeqAt.EqAt.int_none a t'
    | bl b => cases rx; exact SeqAt.EqAt.int_bool a t' b
    | int b => obtain ⟨t, rfl⟩ := rx; exact SeqAt.EqAt.int_int a t' b t
    | str b => obtain ⟨t, rfl⟩ := rx; exact SeqAt.EqAt.int_str a t' b t
    | _ => exact absurd (show false = true from fx) Bool.false_ne_true
  | str a =>
    obtain ⟨t', rfl⟩ := ry
    cases x with
    | non => cases rx; exact SeqAt.EqAt.str_none a t'
    | bl b => cases rx; exact SeqAt.EqAt.str_bool a t' b
    | int b => obtain ⟨t, rfl⟩ := rx; exact SeqAt.EqAt.str_int a t' b t
    | str b => obtain ⟨t, rfl⟩ := rx; exact SeqAt.EqAt.str_str a t' b t
    | _ => exact absurd (show false = true from fx) Bool.false_ne_true
  | _ => exact absurd (show false = true from fy) Bool.false_ne_true
theorem call_len_seq : CallR X (.builtin "len") (fun xs H Q => ∃ p ys, xs = [.ref p] ∧ (SqL X.K H p ys ∨ SqT X.K H p ys) ∧ Q (.int ys.length) H) := by
  intro pins s σ H xs us Q I r h
  obtain ⟨p, ys, rfl, hq, q⟩ := h
  obtain ⟨u, rfl, rx⟩ := vals1 r
  cases rx
  have hn := line63
  rcases hq with hq | hq
  · obtain ⟨its, r', pl, hz⟩ := I.list hq
    have hlen := r'.length
    exact Calls.call_len_list pl.isList (by simp only [List.size_toArray] <;> omega) ⟨.int ys.length, H, I.tok _, ⟨s.toks + 1, by rw [List.size_toArray, hlen]⟩, q⟩
  · obtain ⟨its, r', pl, hz⟩ := I.tuple hq
    have hlen := r'.length
    exact len_tuple pl (by simp only [List.size_toArray] <;> omega) ⟨.int ys.length, H, I.tok _, ⟨s.toks + 1, by rw [List.size_toArray, hlen]⟩, q⟩
theorem CallR.or {f : Value} {r r' : List V → Hp → VK → Prop} (h : CallR X f r) (h' : CallR X f r') : CallR X f (fun xs H Q => r xs H Q ∨ r' xs H Q) := by
  intro pins s σ H xs us Q I rs q
  rcases q with q | q
  · exact h pins s σ H xs us Q I rs q
  · exact h' pins s σ H xs us Q I rs q
def tyV (K : PySem.W.Frag) (T : String) (x : V) (H : Hp) : Prop := match x with
  | .str _ => T = "str"
  | .int _ => T = "int"
  | .ref p => (T = "list" ∧ ∃ xs, SqL K H p xs) ∨ (T = "tuple" ∧ ∃ o, K.lookup p = some o ∧ o.cls = .type "tuple" ∧ o.dict = none) ∨
      (T = "dict" ∧ ((∃ kvs, H p = some (.dK kvs)) ∨ ∃ kvs, H p = some (.dT kvs))) ∨ (T = "set" ∧ ∃ S n, H p = some (.set S n))
  | _ => False
theorem tyV_is {pins : List (Addr × Obj)} {σ : St} {H : Hp} {s : Shared} {T : String} {x : V} {v : Value} (I : Inv X pins σ H s) (r : RelV x v) (ty : tyV X.K T x H) :
    s.TypeIs v T ∧ ∀ a, v = .ref a → ∃ ob, s.heap.get? a = some ob ∧ ob.dict = none := by
  cases x with
  | str z =>
    obtain ⟨t, rfl⟩ := r
    cases (show T = "str" from ty)
    exact ⟨typeIs_str s z t, fun _ e => nomatch e⟩
  | int i =>
    obtain ⟨t, rfl⟩ := r
    cases (show T = "int" from ty)
    exact ⟨typeIs_int s i t, fun _ e => nomatch e⟩
  | ref p =>
    cases r
    rcases ty with ⟨rfl, xs, hq⟩ | ⟨rfl, o, hk, hc, hd⟩ | ⟨rfl, hk⟩ | ⟨rfl, S, n, hk⟩
    · obtain ⟨its, _, pl, _⟩ := I.list hq
      refine ⟨pl.isList.typeIs, fun a e => ?_⟩
      cases e
      obtain ⟨o, n, e, c, hd, _⟩ := pl
      exact ⟨o, e, hd⟩
    · refine ⟨⟨o, I.kIn p o hk, hc⟩, fun a e => ?_⟩
      cases e
      exact ⟨o, I.kIn _ o hk, hd⟩
    · have z : ∃ o, s.heap.get? p = some o ∧ o.ExactDict := by
        rcases hk with ⟨kvs, hk⟩ | ⟨kvs, hk⟩
        · obtain ⟨_, _, _, _, o, _, _, e, ex, _⟩ := I.hok p _ hk
          exact ⟨o, e, ex⟩
        · obtain ⟨_, _, _, _, o, _, _, e, ex, _⟩ := I.hok p _ hk
          exact ⟨o, e, ex⟩
      obtain ⟨o, e, ex⟩ := z
      refine ⟨⟨o, e, ex.1⟩, fun a e2 => ?_⟩
      cases e2
      exact ⟨o, e, ex.2.1⟩
    · obtain ⟨o, _, _, _, e, ex, _⟩ := I.hok p _ hk
      refine ⟨⟨o, e, ex.1⟩, fun a e2 => ?_⟩
      cases e2
      exact ⟨o, e, ex.2.1⟩
  | _ => exact False.elim ty
def tBM0 (K : PySem.W.Frag) (T : String) (r : V → List V → Hp → VK → Prop) (to : TE) : TE := fun σ H Q => to σ H fun x H1 => tyV K T x H1 ∧ r x [] H1 Q
def tBM (K : PySem.W.Frag) (T : String) (r : V → List V → Hp → VK → Prop) (to : TE) (t : TA) : TE := fun σ H Q => to σ H fun x H1 => tyV K T x H1 ∧ t σ H1 fun xs H2 => r x xs H2 Q
variable {o e : Expr} {es : List Expr} {to : TE} {t : TA} {name : Str} {apos cpos : Pos} {T id : String} {r : V → List V → Hp → VK → Prop}
theorem pe_bm0 (pa : PlainAttrs T) (slot : Slot T name id) (hty : typeOf (.builtin id) = pure (.type "method_descriptor")) (hm : MtR X id r) (ho : PE X o to)
    (hbase : attributeBase o name X.env (eval o X.env) = eval o X.env := by rfl) (hline : (apos.endLine == cpos.line) = true := by rfl) : PE X (.Call (.Attribute o name apos) [] [] cpos) (tBM0 X.K T r to) := by
  intro pins s σ H Q I h
  refine wpAny_Call_method0_late hbase hline (thn (ho pins s σ H _ I h) fun v s1 hqq => ?_)
  obtain ⟨x, H1, I1, r1, ty, q1⟩ := hqq
  obtain ⟨h1, h2⟩ := tyV_is I1 r1 ty
  exact ⟨T, id, pa, slot, hty, h1, h2, Calls.callWith_builtin rfl (PySem.evalArgs_none (hm pins s1 σ H1 x [] v [] Q I1 r1 .nil q1))⟩
theorem pe_bm (pa : PlainAttrs T) (slot : Slot T name id) (hty : typeOf (.builtin id) = pure (.type "method_descriptor")) (hm : MtR X id r) (ho : PE X o to) (ha : PA X (e :: es) t)
    (hbase : attributeBase o name X.env (eval o X.env) = eval o X.env := by rfl)
    (hfew : ((backTo cpos (starEach (e :: es) X.env)).all (fun x => !x.1) && (backToKw cpos (keywordEach [] X.env)).all (fun x => x.1.isSome)
      && decide ((e :: es).length + ([] : List Keyword).length + (if ([] : List Keyword).isEmpty then 0 else 1) < 30)) = true := by rfl)
    (hline : (apos.endLine == cpos.line) = true := by rfl) (hs : starEach (e :: es) X.env = (false, eval e X.env) :: starEach es X.env := by rfl) (hplain : (backTo cpos (starEach es X.env)).any (·.1) = false := by rfl) :
    PE X (.Call (.Attribute o name apos) (e :: es) [] cpos) (tBM X.K T r to t) := by
  intro pins s σ H Q I h
  refine wpAny_Call_method_late hbase hfew hline rfl (thn (ho pins s σ H _ I h) fun v s1 hqq => ?_)
  obtain ⟨x, H1, I1, r1, ty, q1⟩ := hqq
  obtain ⟨h1, h2⟩ := tyV_is I1 r1 ty
  refine ⟨T, id, pa, slot, hty, h1, h2, ?_⟩
  have hA := ha cpos pins s1 σ H1 _ I1 q1
  rw [hs] at hA ⊢
  refine Calls.callWith_builtin (by show (false || (backTo cpos (starEach es X.env)).any (·.1)) = false; rw [hplain] <;> rfl) (Calls.evalArgs_plain ?_)
  exact thn hA fun us s2 ⟨vs, H2, I2, r2, q2⟩ => hm pins s2 σ H2 x vs v us Q I2 r1 r2 q2
end
end L2
namespace L2
open PySem PySem.Spec PyProof.Rows
def MtM (X : Cx) (id : String) (r : V → List V → Hp → VK → Prop) : Prop :=
  ∀ (pins : List (Addr × Obj)) (s : Shared) (σ : St) (H : Hp) (x : V) (xs : List V) (v : Value) (us : List Value) (Q : VK), Inv X pins σ H s → RelV x v → Vals xs us → r x xs H Q →
    wpAny (model X.prog X.w) X.A (call (.builtin id) (v :: us)) (EP X pins σ Q) X.xe s
theorem Vals.one : ∀ {x : V} {us : List Value}, Vals [x] us → ∃ u, us = [u] ∧ RelV x u
  | _, _, .cons r .nil => ⟨_, rfl, r⟩
theorem Vals.two : ∀ {x y : V} {us : List Value}, Vals [x, y] us → ∃ u v, us = [u, v] ∧ RelV x u ∧ RelV y v
  | _, _, _, .cons r (.cons q .nil) => ⟨_, _, rfl, r, q⟩
theorem Vals.zero : ∀ {us : List Value}, Vals [] us → us = []
  | _, .nil => rfl
theorem Vals.dropLast {xs : List V} {us : List Value} (h : Vals xs us) : Vals xs.dropLast us.dropLast := by
  induction h with
  | nil => exact .nil
  | cons r t ih =>
    cases t with
    | nil => exact .nil
    | cons q t' => exact .cons r ih
theorem Vals.eraseIdx : ∀ {xs : List V} {us : List Value} (i : Nat), Vals xs us → Vals (xs.eraseIdx i) (us.eraseIdx i)
  | _, _, _, .nil => .nil
  | _, _, 0, .cons _ t => t
  | _, _, i + 1, .cons r t => .cons r (Vals.eraseIdx i t)
theorem erase_last {α : Type} (l : List α) : l.eraseIdx (l.length - 1) = l.dropLast := by
  induction l with
  | nil => rfl
  | cons a r ih =>
    cases r with
    | nil => rfl
    | cons b r =>
      have e : (a :: b :: r).length - 1 = ((b :: r).length - 1) + 1 := by
        have h1 : (a :: b :: r).length = r.length + 2 := rfl
        have h2 : (b :: r).length = r.length + 1 := rfl
        omega
      rw [e, List.eraseIdx_cons_succ, ih]
      all_goals rfl
section
variable {X : Cx} {pins : List (Addr × Obj)} {σ : St} {H : Hp} {s : Shared} {l b : Addr} {xs ys zs : List V}
theorem Inv.lset {its its' : List Value} {n : Nat} {f : Array Value → Array Value} {t' : Nat} (I : Inv X pins σ H s) (hH : H l = some (.lst xs))
    (e : s.heap.get? l = some { cls := .type "list", data := .seq its.toArray n }) (hf : f its.toArray = its'.toArray) (hv : Vals ys its') (hz : ys.length ≤ sizeLine) :
    Inv X pins σ (upd H l (.lst ys)) { s with heap := s.heap.update l (Obj.mapSeq f), toks := t' } := by
  have q := PySem.IsL.update e f
  rw [hf] at q
  refine I.write (x := l) (e := l) (by rw [hH]; exact trivial) (.inl rfl) (fun b' u hb hu => (Heap.get?_update_other s.heap (Obj.mapSeq f) (Ne.symm hb)).trans hu) ⟨_, q⟩ ?_
  exact ⟨hz, its', _, hv, q⟩
theorem Inv.lnew {its : List Value} {t' : Nat} (I : Inv X pins σ H s) (hv : Vals ys its) (hz : ys.length ≤ sizeLine) :
    Inv X pins σ (upd H s.heap.objs.size (.lst ys)) { s with heap := s.heap.push { cls := .type "list", data := .seq its.toArray }, toks := t' } :=
  I.laid (fun _ _ q => Heap.get?_push_of_some _ q) (Nat.le_refl _) ⟨hz, its, 0, hv, Heap.get?_push_size _ rfl⟩
theorem Inv.fresh (I : Inv X pins σ H s) : H s.heap.objs.size = none := I.hok.fresh (Nat.le_refl _)
theorem Inv.lstM (I : Inv X pins σ H s) (hH : H l = some (.lst xs)) : xs.length ≤ sizeLine ∧ ∃ (its : List Value) (n : Nat), Vals xs its ∧ xs.length = its.length ∧ s.heap.get? l = some { cls := .type "list", data := .seq its.toArray n } := by
  obtain ⟨z, its, n, r, e⟩ := I.hok l _ hH
  exact ⟨z, its, n, r, r.length, e⟩
theorem notLongL {n : Nat} (h : n ≤ sizeLine) : Builtin.List.listTooLong n = false := by
  unfold Builtin.List.listTooLong
  exact decide_eq_false (by omega)
end
section
variable {X : Cx}
def rAppend : V → List V → Hp → VK → Prop := fun x vs H Q => ∃ l xs y, x = .ref l ∧ vs = [y] ∧ H l = some (.lst xs) ∧ xs.length < sizeLine ∧ Q .non (upd H l (.lst (xs ++ [y])))
theorem mt_append : MtM X "list.append" rAppend := by
  intro pins s σ H x vs v us Q I rx rv h
  obtain ⟨l, xs, y, rfl, rfl, hH, hz, q⟩ := h
  cases rx
  obtain ⟨u, rfl, ru⟩ := rv.one
  obtain ⟨z, its, n, r, hl, e⟩ := I.lstM hH
  refine call_meets F.slot_list_append ⟨_, e, rfl⟩ F.entry_list_append (F.args_list_append_2 _ _) (PySem.list_append l its.toArray n u (by rw [List.size_toArray]; omega)) ⟨e, ?_⟩
  refine ⟨.non, _, I.lset (its' := its ++ [u]) hH e (by simp) (r.append (.cons ru .nil)) ?_, rfl, q⟩
  rw [List.length_append, List.length_singleton]
  omega
def rExtend : V → List V → Hp → VK → Prop := fun x vs H Q => ∃ l b xs zs, x = .ref l ∧ vs = [.ref b] ∧ H l = some (.lst xs) ∧ H b = some (.lst zs) ∧ xs.length + zs.length ≤ sizeLine ∧ Q .non (upd H l (.lst (xs ++ zs)))
theorem mt_extend : MtM X "list.extend" rExtend := by
  intro pins s σ H x vs v us Q I rx rv h
  obtain ⟨l, b, xs, zs, rfl, rfl, hH, hB, hz, q⟩ := h
  cases rx
  obtain ⟨u, rfl, ru⟩ := rv.one
  cases ru
  obtain ⟨z, its, n, r, hl, e⟩ := I.lstM hH
  obtain ⟨z2, its2, n2, r2, hl2, e2⟩ := I.lstM hB
  have hsz : its.toArray.size + its2.toArray.size ≤ sizeLine := by rw [List.size_toArray, List.size_toArray]; omega
  have hlong : ¬ (!its.toArray.isEmpty && Builtin.List.listTooLong (its.toArray.size + its2.toArray.size)) = true := by
    rw [notLongL hsz, Bool.and_false]
    exact Bool.false_ne_true
  refine call_meets F.slot_list_extend ⟨_, e, rfl⟩ F.entry_list_extend (F.args_list_extend_2 _ _)
    (AutoSeq1.list_extend_list_list_0 l its.toArray n b its2.toArray n2 hlong (by rw [List.size_toArray]; omega) (by omega)) ⟨e, e2, ?_⟩
  refine ⟨.non, _, I.lset (its' := its ++ its2) hH e (by simp) (r.append r2) ?_, rfl, q⟩
  rw [List.length_append]
  omega
def rPop : V → List V → Hp → VK → Prop := fun x vs H Q => ∃ l xs y, x = .ref l ∧ vs = [] ∧ H l = some (.lst xs) ∧ xs[xs.length - 1]? = some y ∧ Q y (upd H l (.lst xs.dropLast))
theorem mt_pop : MtM X "list.pop" rPop := by
  intro pins s σ H x vs v us Q I rx rv h
  obtain ⟨l, xs, y, rfl, rfl, hH, hy, q⟩ := h
  cases rx
  have hus := rv.zero
  subst hus
  obtain ⟨z, its, n, r, hl, e⟩ := I.lstM hH
  obtain ⟨u, hu, ru⟩ := r.get hy
  have hy' : its.toArray[its.toArray.size - 1]? = some u := by
    show its.toArray[its.length - 1]? = some u
    rw [← Array.getElem?_toList, ← hl]
    exact hu
  refine call_meets F.slot_list_pop ⟨_, e, rfl⟩ F.entry_list_pop (F.args_list_pop_1 _) (MeetsSeq.list_pop_last l its.toArray n u hy' (by rw [List.size_toArray]; omega)) ⟨e, ?_⟩
  refine ⟨y, _, I.lset (its' := its.dropLast) hH e ?_ r.dropLast ?_, ru, q⟩
  · show its.toArray.eraseIdxIfInBounds (its.toArray.size - 1) = its.dropLast.toArray
    rw [List.size_toArray, List.eraseIdxIfInBounds_toArray, erase_last]
  · rw [List.length_dropLast]
    omega
def rCat : R2 := fun x y H Q => ∃ l b xs zs, x = .ref l ∧ y = .ref b ∧ H l = some (.lst xs) ∧ H b = some (.lst zs) ∧ xs.length + zs.length ≤ sizeLine ∧ ∀ p, H p = none → Q (.ref p) (upd H p (.lst (xs ++ zs)))
theorem op_cat : OpR X (binaryOp .Add) rCat := by
  intro pins s σ H x y v u Q I rx ry h
  obtain ⟨l, b, xs, zs, rfl, rfl, hH, hB, hz, q⟩ := h
  cases rx
  cases ry
  obtain ⟨z, its, n, r, hl, e⟩ := I.lstM hH
  obtain ⟨z2, its2, n2, r2, hl2, e2⟩ := I.lstM hB
  refine PySem.P.add_list e e2 ?_ (by rw [List.size_toArray, List.size_toArray]; omega)
  have ea : its.toArray ++ its2.toArray = (its ++ its2).toArray := by simp
  rw [ea]
  exact ⟨.ref _, _, I.lnew (t' := s.toks) (r.append r2) (by rw [List.length_append]; omega), rfl, q _ I.fresh⟩
end
section
variable {prog : Program} {w : World} {A : Around} {E : Value → Shared → Prop} {s : Shared}
end
section
variable {X : Cx}
end
end L2
namespace L2
open PySem PySem.Spec PyProof.Rows
theorem Vals.ints : ∀ {ns : List Int} {us : List Value}, Vals (ns.map V.int) us → IntsAre us ns
  | [], us, h => by
    rw [List.map_nil] at h
    cases h
    exact IntsAre.nil
  | n :: ns, us, h => by
    rw [List.map_cons] at h
    cases h with
    | cons r t =>
      obtain ⟨k, rfl⟩ := r
      exact IntsAre.cons n k (Vals.ints t)
theorem Vals.strs : ∀ {xs : List Str} {us : List Value}, Vals (xs.map V.str) us → StrsAre us xs
  | [], us, h => by
    rw [List.map_nil] at h
    cases h
    exact StrsAre.nil
  | x :: xs, us, h => by
    rw [List.map_cons] at h
    cases h with
    | cons r t =>
      obtain ⟨k, rfl⟩ := r
      exact StrsAre.cons x k (Vals.strs t)
section
variable {prog : Program} {w : World} {A : Around} {E : Value → Shared → Prop} {s : Shared} {l : Addr} {its : List Value} {ns : List Int} {Q : Value → Shared → Prop}
end
section
variable {X : Cx}
end
section
variable {X : Cx}
end
section
variable {X : Cx}
end
theorem all_range : ∀ bs : List Bool, (List.range bs.length).all (fun i => bs.getD i false) = bs.all id
  | [] => rfl
  | b :: bs => by
    rw [List.length_cons, List.range_succ_eq_map, List.all_cons, List.all_map, List.all_cons, ← all_range bs]
    all_goals rfl
section
variable {X : Cx}
end
mutual
inductive Dp (K : PySem.W.Frag) (H : Hp) : V → PyData → Prop
  | non : Dp K H .non .none
  | bl (b : Bool) : Dp K H (.bl b) (.bool b)
  | int (i : Int) : Dp K H (.int i) (.int i)
  | str (x : Str) : Dp K H (.str x) (.str x)
  | lst {a : Addr} {xs : List V} {ds : List PyData} : SqL K H a xs → DpAll K H xs ds → Dp K H (.ref a) (.list ds)
  | tup {a : Addr} {xs : List V} {ds : List PyData} : SqT K H a xs → DpAll K H xs ds → Dp K H (.ref a) (.tuple ds)
inductive DpAll (K : PySem.W.Frag) (H : Hp) : List V → List PyData → Prop
  | nil : DpAll K H [] []
  | cons {v : V} {vs : List V} {d : PyData} {ds : List PyData} : Dp K H v d → DpAll K H vs ds → DpAll K H (v :: vs) (d :: ds)
end
section
variable {X : Cx} {pins : List (Addr × Obj)} {σ : St} {H : Hp} {s : Shared}
mutual
theorem Dp.reads (I : Inv X pins σ H s) : ∀ (d : PyData) (v : V) (u : Value), Dp X.K H v d → RelV v u → ∃ as, Reads s.heap u d as
  | .none, _, _, h, r => by
    cases h
    cases r
    exact ⟨_, Reads.none⟩
  | .bool b, _, _, h, r => by
    cases h
    cases r
    exact ⟨_, Reads.bool b⟩
  | .int i, _, _, h, r => by
    cases h
    obtain ⟨t, rfl⟩ := r
    exact ⟨_, Reads.int i t⟩
  | .str x, _, _, h, r => by
    cases h
    obtain ⟨t, rfl⟩ := r
    exact ⟨_, Reads.str x t⟩
  | .list ds, _, _, h, r => by
    cases h with
    | lst hs ha =>
      cases r
      obtain ⟨its, rv, ⟨o, n, ho, hc, _, hd⟩, _⟩ := I.list hs
      obtain ⟨as, hr⟩ := Dp.readsAll I ds _ its ha rv
      exact ⟨_, Reads.list ho hc hd hr⟩
  | .tuple ds, _, _, h, r => by
    cases h with
    | tup hs ha =>
      cases r
      obtain ⟨its, rv, ⟨o, ho, hc, n, hd⟩, _⟩ := I.tuple hs
      obtain ⟨as, hr⟩ := Dp.readsAll I ds _ its ha rv
      exact ⟨_, Reads.tuple ho hc hd hr⟩
  | .dict _, _, _, h, _ => by cases h
theorem Dp.readsAll (I : Inv X pins σ H s) : ∀ (ds : List PyData) (vs : List V) (us : List Value), DpAll X.K H vs ds → Vals vs us → ∃ as, ReadsAll s.heap us ds as
  | [], _, _, h, r => by
    cases h
    cases r
    exact ⟨_, ReadsAll.nil⟩
  | d :: ds, _, _, h, r => by
    cases h with
    | cons h1 h2 =>
      cases r with
      | cons r1 r2 =>
        obtain ⟨as, q1⟩ := Dp.reads I d _ _ h1 r1
        obtain ⟨bs, q2⟩ := Dp.readsAll I ds _ _ h2 r2
        exact ⟨_, ReadsAll.cons q1 q2⟩
end
end
section
variable {X : Cx}
end
end L2
namespace L2
open PySem PySem.Spec PyProof.Rows
abbrev CellAt (h : Heap) (c : Addr) (v : Option Value) : Prop := h.IsCell c v
def relS (scope sc : Scope) : Scope :=
  { scope with names := scope.names.map fun (n, k) => if (k == .free && sc.kind == .function && sc.names.lookup n == some .cell) then (n, .cell) else (n, k) }
def cloFrom (cells : List (Str × Addr)) : List (Str × NameKind) → List (Str × Addr) → List (Str × Addr)
  | [], acc => acc
  | (n, k) :: r, acc => if k == .free then cloFrom cells r ((n, (cells.lookup n).getD 0) :: acc) else cloFrom cells r acc
theorem closure_loop (env : Env) (f : Str × NameKind → List (Str × Addr) → Sem (ForInStep (List (Str × Addr))))
    (hf : ∀ n k c, f (n, k) c = if k == .free then (do let a ← cellOf env n; pure (.yield ((n, a) :: c))) else pure (.yield c)) :
    ∀ (names : List (Str × NameKind)) (acc : List (Str × Addr)), (∀ y ∈ names, y.2 = .free → ∃ c, env.cells.lookup y.1 = some c) → forIn names acc f = pure (cloFrom env.cells names acc)
  | [], acc, _ => by rw [List.forIn_nil]; rfl
  | (n, k) :: r, acc, h => by
    rw [List.forIn_cons, hf]
    have ih := fun acc => closure_loop env f hf r acc fun y hy => h y (List.mem_cons_of_mem _ hy)
    unfold cloFrom
    by_cases hk : (k == NameKind.free) = true
    · rw [if_pos hk, if_pos hk]
      obtain ⟨c, hc⟩ := h (n, k) List.mem_cons_self (by simpa using hk)
      have e : cellOf env n = pure c := by unfold cellOf; rw [hc]
      rw [e]
      have e2 : (env.cells.lookup n).getD 0 = c := by rw [hc]; rfl
      rw [e2]
      exact ih _
    · rw [if_neg hk, if_neg hk]
      exact ih _
theorem closure_ok {scope : Scope} {env : Env} (h : ∀ y ∈ scope.names, y.2 = .free → ∃ c, env.cells.lookup y.1 = some c) : closureFor scope env = pure (cloFrom env.cells scope.names []) := by
  simp only [closureFor]
  rw [closure_loop env _ (fun n k c => rfl) scope.names [] h]
  rfl
theorem mem_lookup {α : Type} : ∀ {l : List (Str × α)} {n : Str} {c : α}, (n, c) ∈ l → ∃ c', l.lookup n = some c'
  | (k, v) :: r, n, c, h => by
    rw [List.lookup_cons]
    cases hb : n == k with
    | true => exact ⟨_, rfl⟩
    | false =>
      rcases List.mem_cons.mp h with e | h
      · cases e; simp at hb
      · exact mem_lookup h
theorem cloFrom_mem {cells : List (Str × Addr)} : ∀ {names : List (Str × NameKind)} {acc : List (Str × Addr)} {n : Str} {c : Addr}, (n, c) ∈ cloFrom cells names acc → (n, c) ∈ acc ∨ ((n, .free) ∈ names ∧ c = (cells.lookup n).getD 0)
  | [], _, _, _, h => .inl h
  | (m, k) :: r, acc, n, c, h => by
    unfold cloFrom at h
    split at h
    · rename_i hk
      have hk : k = .free := by simpa using hk
      rcases cloFrom_mem h with h | ⟨h1, h2⟩
      · rcases List.mem_cons.mp h with e | h
        · cases e; exact .inr ⟨hk ▸ List.mem_cons_self, rfl⟩
        · exact .inl h
      · exact .inr ⟨List.mem_cons_of_mem _ h1, h2⟩
    · rcases cloFrom_mem h with h | ⟨h1, h2⟩
      · exact .inl h
      · exact .inr ⟨List.mem_cons_of_mem _ h1, h2⟩
theorem cloFrom_acc {cells : List (Str × Addr)} : ∀ {names : List (Str × NameKind)} {acc : List (Str × Addr)} {p : Str × Addr}, p ∈ acc → p ∈ cloFrom cells names acc
  | [], _, _, h => h
  | (m, k) :: r, acc, p, h => by
    unfold cloFrom
    split
    · exact cloFrom_acc (List.mem_cons_of_mem _ h)
    · exact cloFrom_acc h
theorem cloFrom_has {cells : List (Str × Addr)} : ∀ {names : List (Str × NameKind)} {acc : List (Str × Addr)} {n : Str}, (n, .free) ∈ names → (n, (cells.lookup n).getD 0) ∈ cloFrom cells names acc
  | (m, k) :: r, acc, n, h => by
    unfold cloFrom
    rcases List.mem_cons.mp h with e | h
    · cases e
      exact cloFrom_acc List.mem_cons_self
    · split
      · exact cloFrom_has h
      · exact cloFrom_has h
theorem cells_mem : ∀ {names : List (Str × NameKind)} {h : Heap} {acc : List (Str × Addr)} {x : Str} {c : Addr}, (x, c) ∈ cellsFrom h.objs.size names acc →
    (x, c) ∈ acc ∨ ((x, .cell) ∈ names ∧ h.objs.size ≤ c ∧ CellAt (pushCells h names) c none)
  | [], _, _, _, _, h => .inl h
  | (n, k) :: r, h, acc, x, c, hm => by
    unfold cellsFrom at hm
    unfold pushCells
    split at hm
    · rename_i hk
      rw [if_pos hk]
      have hk : k = .cell := by simpa using hk
      rw [← Heap.size_push h { cls := .type "cell", data := .cell none }] at hm
      rcases cells_mem hm with hm | ⟨h1, h2, h3⟩
      · rcases List.mem_cons.mp hm with e | hm
        · cases e
          exact .inr ⟨hk ▸ List.mem_cons_self, Nat.le_refl _, _, pushCells_keeps r _ _ _ (Heap.get?_push_size _ rfl), rfl⟩
        · exact .inl hm
      · rw [Heap.size_push] at h2
        exact .inr ⟨List.mem_cons_of_mem _ h1, Nat.le_of_succ_le h2, h3⟩
    · rename_i hk
      rw [if_neg hk]
      rcases cells_mem hm with hm | ⟨h1, h2, h3⟩
      · exact .inl hm
      · exact .inr ⟨List.mem_cons_of_mem _ h1, h2, h3⟩
theorem cells_acc : ∀ {names : List (Str × NameKind)} {n : Nat} {acc : List (Str × Addr)} {p : Str × Addr}, p ∈ acc → p ∈ cellsFrom n names acc
  | [], _, _, _, h => h
  | (m, k) :: r, n, acc, p, h => by
    unfold cellsFrom
    split
    · exact cells_acc (List.mem_cons_of_mem _ h)
    · exact cells_acc h
theorem cells_has : ∀ {names : List (Str × NameKind)} {n : Nat} {acc : List (Str × Addr)} {x : Str}, (x, .cell) ∈ names → ∃ c, (x, c) ∈ cellsFrom n names acc
  | (m, k) :: r, n, acc, x, h => by
    unfold cellsFrom
    rcases List.mem_cons.mp h with e | h
    · cases e
      exact ⟨n, cells_acc List.mem_cons_self⟩
    · split
      · exact cells_has h
      · exact cells_has h
theorem cells_inj : ∀ {names : List (Str × NameKind)} {h : Heap} {acc : List (Str × Addr)} {x y : Str} {c : Addr}, (∀ p ∈ acc, p.2 < h.objs.size) → (∀ x y c, (x, c) ∈ acc → (y, c) ∈ acc → x = y) →
    (x, c) ∈ cellsFrom h.objs.size names acc → (y, c) ∈ cellsFrom h.objs.size names acc → x = y
  | [], _, _, _, _, _, _, hi, h1, h2 => hi _ _ _ h1 h2
  | (n, k) :: r, h, acc, x, y, c, hl, hi, h1, h2 => by
    unfold cellsFrom at h1 h2
    split at h1
    · rename_i hk
      rw [if_pos hk] at h2
      rw [← Heap.size_push h { cls := .type "cell", data := .cell none }] at h1 h2
      refine cells_inj (h := h.push _) (fun p hp => ?_) (fun x y c a b => ?_) h1 h2
      · rw [Heap.size_push]
        rcases List.mem_cons.mp hp with rfl | hp
        · exact Nat.lt_succ_self _
        · exact Nat.lt_succ_of_lt (hl p hp)
      · rcases List.mem_cons.mp a with e | a <;> rcases List.mem_cons.mp b with e' | b
        · cases e; cases e'; rfl
        · cases e; exact absurd (hl _ b) (Nat.lt_irrefl _)
        · cases e'; exact absurd (hl _ a) (Nat.lt_irrefl _)
        · exact hi _ _ _ a b
    · rename_i hk
      rw [if_neg hk] at h2
      exact cells_inj hl hi h1 h2
theorem newEnv_comp {M : Model} {A : Around} {E : Value → Shared → Prop} {s : Shared} {scope : Scope} {globals : Addr} {closure : List (Str × Addr)} {qual : Str} {func : Option Addr} {code : Value} {around : Env} {builtins : Addr} {Q : Env → Shared → Prop}
    (h : Q (newEnv scope s.heap.objs.size globals (cellsFrom (s.heap.objs.size + 1) scope.names closure) qual func code (some around) builtins)
      { s with heap := pushCells (s.heap.push { cls := .type "dict", data := .dict #[] }) scope.names }) :
    wpAny M A (newFunctionEnv scope globals closure [] qual func code (some around) builtins) Q E s := by
  simp only [newFunctionEnv, Option.isSome_some, if_true]
  refine wpAny_bind (wpAny_alloc ?_)
  refine wpAny_bind (wpAny_layCells _ (fun n k c => rfl) scope.names closure _ _ ?_)
  rw [show ({ s with heap := s.heap.push { cls := .type "dict", data := .dict #[] } } : Shared).heap.objs.size = s.heap.objs.size + 1 from Heap.size_push ..]
  rw [List.forIn_nil]
  exact wpAny_bind (wpAny_pure (wpAny_pure h))
theorem lookup_relS {sc : Scope} : ∀ {names : List (Str × NameKind)} {x : Str} {k : NameKind},
    (names.map fun (n, k) => if (k == NameKind.free && sc.kind == .function && sc.names.lookup n == some .cell) then (n, NameKind.cell) else (n, k)).lookup x = some k →
    ∃ k', names.lookup x = some k' ∧ (k = k' ∨ (k' = .free ∧ k = .cell))
  | [], _, _, h => by simp at h
  | (n, k₀) :: r, x, k, h => by
    have ih := @lookup_relS sc r x k
    have h' : List.lookup x ((if (k₀ == NameKind.free && sc.kind == .function && sc.names.lookup n == some .cell) = true then (n, NameKind.cell) else (n, k₀)) :: (r.map _)) = some k := h
    cases hx : x == n with
    | true =>
      simp only [List.lookup_cons, hx]
      by_cases hc : (k₀ == NameKind.free && sc.kind == .function && sc.names.lookup n == some .cell) = true
      · rw [if_pos hc] at h'
        simp only [List.lookup_cons, hx] at h'
        cases h'
        simp only [Bool.and_eq_true, beq_iff_eq] at hc
        exact ⟨k₀, rfl, .inr ⟨hc.1.1, rfl⟩⟩
      · rw [if_neg hc] at h'
        simp only [List.lookup_cons, hx] at h'
        cases h'
        exact ⟨_, rfl, .inl rfl⟩
    | false =>
      simp only [List.lookup_cons, hx]
      by_cases hc : (k₀ == NameKind.free && sc.kind == .function && sc.names.lookup n == some .cell) = true
      · rw [if_pos hc] at h'
        simp only [List.lookup_cons, hx] at h'
        exact ih h'
      · rw [if_neg hc] at h'
        simp only [List.lookup_cons, hx] at h'
        exact ih h'
structure BlkOk (N : List Str) (sc scope : Scope) (own : List (Str × Nat)) : Prop where
  kind : scope.kind = .function
  uniq : ∀ y ∈ scope.names, scope.names.lookup y.1 = some y.2
  ix : ∀ p ∈ own, N[p.2]? = some p.1
  free : ∀ y ∈ scope.names, y.2 = .free → sc.names.lookup y.1 = some .cell ∨ sc.names.lookup y.1 = some .free
  own : ∀ y ∈ scope.names, y.2 = .local ∨ y.2 = .cell → y.1 ∈ own.map (·.1) ∨ y.1 ∉ N
def wipe (σ : St) : List Nat → St
  | [] => σ
  | v :: vs => (wipe σ vs).set v none
theorem wipe_length (σ : St) : ∀ vs : List Nat, (wipe σ vs).length = σ.length
  | [] => rfl
  | v :: vs => by unfold wipe; rw [List.length_set, wipe_length σ vs]
theorem wipe_some {σ : St} {i : Nat} {x : V} : ∀ {vs : List Nat}, (wipe σ vs)[i]? = some (some x) → σ[i]? = some (some x) ∧ i ∉ vs
  | [], h => ⟨h, by simp⟩
  | v :: vs, h => by
    unfold wipe at h
    by_cases hi : v = i
    · subst hi
      by_cases hv : v < (wipe σ vs).length
      · rw [List.getElem?_set_self hv] at h; cases h
      · rw [List.getElem?_eq_none (by simpa using hv)] at h; cases h
    · rw [List.getElem?_set_ne hi] at h
      obtain ⟨h1, h2⟩ := wipe_some h
      exact ⟨h1, by simp only [List.mem_cons, not_or]; exact ⟨fun e => hi e.symm, h2⟩⟩
abbrev Cx.blk (X : Cx) (s : Shared) (H : Hp) (scope : Scope) (cenv : Env) (fp : List Addr) : Cx := { X with s₀ := s, H₀ := H, env := cenv, outer := X.stack, ex := fp, fn := fun x => scope.names.lookup x == some .cell, pn := [], xe := fun _ _ => False }
section
variable {X : Cx} {pins : List (Addr × Obj)} {σ : St} {H : Hp} {s : Shared}
theorem block_start {scope : Scope} {own : List (Str × Nat)} {fp : List Addr} (I : Inv X pins σ H s) (ok : BlkOk X.N X.env.scope scope own) (hN : X.N.Nodup) (hfp : ∀ b ∈ fp, FpOk X pins H b ∧ b < s.heap.objs.size) :
    Inv (X.blk s H scope (compEnvC scope (cellsFrom (s.heap.objs.size + 1) scope.names (cloFrom X.env.cells scope.names [])) s.heap.objs.size X.env) fp) [] (wipe σ (own.map (·.2))) H { s with heap := pushCells (s.heap.push { cls := .type "dict", data := .dict #[] }) scope.names } := by
  have hfree : ∀ y ∈ scope.names, y.2 = .free → ∃ c, X.env.cells.lookup y.1 = some c := fun y hy e => by
    rcases ok.free y hy e with k | k
    · exact I.ok.has _ (.inl k)
    · exact I.ok.has _ (.inr k)
  generalize hcenv : compEnvC scope (cellsFrom (s.heap.objs.size + 1) scope.names (cloFrom X.env.cells scope.names [])) s.heap.objs.size X.env = cenv
  have kp : ∀ b o, s.heap.get? b = some o → (pushCells (s.heap.push { cls := .type "dict", data := .dict #[] }) scope.names).get? b = some o := fun b o e => pushCells_keeps _ _ _ _ (Heap.get?_push_of_some _ e)
  have hL : cenv.locals = s.heap.objs.size := by rw [← hcenv]; rfl
  have hcl : cenv.cells = cellsFrom (s.heap.objs.size + 1) scope.names (cloFrom X.env.cells scope.names []) := by rw [← hcenv]; rfl
  have hsc : cenv.scope = relS scope X.env.scope := by rw [← hcenv]; rfl
  rw [← Heap.size_push s.heap { cls := .type "dict", data := .dict #[] }] at hcl
  have cm : ∀ {y c}, (y, c) ∈ cloFrom X.env.cells scope.names [] → X.env.cells.lookup y = some c ∧ c < s.heap.objs.size := fun {y c} hm => by
    rcases cloFrom_mem hm with hm | ⟨h1, rfl⟩
    · cases hm
    · obtain ⟨c, hc⟩ := hfree _ h1 rfl
      rw [hc]
      obtain ⟨w, z⟩ := I.cell _ _ hc
      exact ⟨rfl, z.lt⟩
  have mem : ∀ {y c}, cenv.cells.lookup y = some c → (X.env.cells.lookup y = some c ∧ c < s.heap.objs.size) ∨ (s.heap.objs.size + 1 ≤ c ∧ CellAt (pushCells (s.heap.push { cls := .type "dict", data := .dict #[] }) scope.names) c none) := fun {y c} e => by
    rw [hcl] at e
    rcases cells_mem (PySem.mem_of_lookup e) with hm | ⟨_, h2, h3⟩
    · exact .inl (cm hm)
    · rw [Heap.size_push] at h2; exact .inr ⟨h2, h3⟩
  have look : ∀ {y}, scope.names.lookup y = some .free → ∃ c, cenv.cells.lookup y = some c ∧ X.env.cells.lookup y = some c := fun {y} hl => by
    have hy : (y, NameKind.free) ∈ scope.names := PySem.mem_of_lookup hl
    obtain ⟨c', e'⟩ := mem_lookup (cells_acc (names := scope.names) (n := (s.heap.push { cls := .type "dict", data := .dict #[] }).objs.size) (cloFrom_has (cells := X.env.cells) (acc := []) hy))
    rw [← hcl] at e'
    refine ⟨c', e', ?_⟩
    rw [hcl] at e'
    rcases cells_mem (PySem.mem_of_lookup e') with hm | ⟨h1, _, _⟩
    · exact (cm hm).1
    · have := ok.uniq _ h1
      rw [hl] at this; cases this
  have okB : (X.blk s H scope cenv fp).Ok := by
    refine ⟨I.ok.mod, by show cenv.scope.kind = _; rw [hsc]; exact ok.kind, by show cenv.globals = _; rw [← hcenv]; exact I.ok.glob, by show cenv.builtins = _; rw [← hcenv]; exact I.ok.blt, by show s.heap.objs.size ≤ cenv.locals; rw [hL]; exact Nat.le_refl _,
      fun y z c e1 e2 => ?_, fun y hy => ?_, fun y c z e => ?_, I.ok.hd, I.ok.frames, .inl rfl, fun b hb => ⟨?_, fun y c e z => ?_⟩, I.bs, Nat.le_trans I.ok.bsz I.sz, fun b o e hb => ?_, fun b hb z => ?_, I.stack, I.stkFree⟩
    · have e1 : cenv.cells.lookup y = some c := e1
      have e2 : cenv.cells.lookup z = some c := e2
      rw [hcl] at e1 e2
      refine cells_inj (fun p hp => ?_) (fun y z c a b => I.ok.inj y z c (cm a).1 (cm b).1) (PySem.mem_of_lookup e1) (PySem.mem_of_lookup e2)
      rw [Heap.size_push]
      exact Nat.lt_succ_of_lt (cm (y := p.1) (c := p.2) hp).2
    · show ∃ c, cenv.cells.lookup y = some c
      have key : ∀ k, cenv.kindOf y = some k → (k = .cell ∨ k = .free) → ∃ c, cenv.cells.lookup y = some c := fun k hk hk' => by
        unfold Env.kindOf at hk
        rw [hsc] at hk
        obtain ⟨k', e, r⟩ := lookup_relS hk
        have : k' = .cell ∨ k' = .free := by
          rcases r with rfl | ⟨rfl, _⟩
          · exact hk'
          · exact .inr rfl
        rcases this with rfl | rfl
        · obtain ⟨c, hm⟩ := cells_has (n := (s.heap.push { cls := .type "dict", data := .dict #[] }).objs.size) (acc := cloFrom X.env.cells scope.names []) (PySem.mem_of_lookup e)
          obtain ⟨c', e'⟩ := mem_lookup hm
          exact ⟨c', by rw [hcl]; exact e'⟩
        · obtain ⟨c, h1, _⟩ := look e
          exact ⟨c, h1⟩
      rcases hy with hy | hy
      · exact key _ hy (.inl rfl)
      · exact key _ hy (.inr rfl)
    · have z : (scope.names.lookup y == some NameKind.cell) = true := z
      have z : scope.names.lookup y = some .cell := by simpa using z
      have e : cenv.cells.lookup y = some c := e
      rw [hcl] at e
      rcases cells_mem (PySem.mem_of_lookup e) with hm | ⟨_, h2, _⟩
      · rcases cloFrom_mem hm with hm | ⟨h1, _⟩
        · cases hm
        · have q := ok.uniq _ h1
          rw [z] at q; cases q
      · rw [Heap.size_push] at h2
        exact Nat.le_of_succ_le h2
    · show b ≠ cenv.locals
      rw [hL]; exact Nat.ne_of_lt (hfp b hb).2
    · have e : cenv.cells.lookup y = some c := e
      rcases mem e with ⟨h1, _⟩ | ⟨h1, _⟩
      · exact (hfp b hb).1.2.2.2.2.1 y c h1 z
      · have h2 : s.heap.objs.size + 1 ≤ b := by rw [← z]; exact h1
        exact absurd (Nat.lt_of_lt_of_le (hfp b hb).2 (Nat.le_of_succ_le h2)) (Nat.lt_irrefl _)
    · rcases (hfp b hb).1.2.2.2.1 with z | z
      · exact I.ok.noex b o e z
      · exact absurd (Nat.lt_of_lt_of_le (Heap.lt_size e) (Nat.le_trans I.ok.bsz z)) (Nat.lt_irrefl _)
    · rcases List.mem_cons.mp (I.stkSub b z) with z | z
      · exact (hfp b hb).1.2.1 z
      · exact (hfp b hb).1.2.2.1 z
  refine ⟨okB, rfl, I.bare, Un.kept kp, ⟨fun _ => none, ?_, fun i y av e1 e2 e3 => ?_⟩, fun y c e => ?_, ?_, fun y c e => ?_, fun p hp => ?_, I.hok.kept kp, by rw [wipe_length]; exact I.len⟩
  · show Heap.Ns _ cenv.locals _
    rw [hL]
    exact Heap.Ns.keeps (Heap.Ns.new ..) fun b o e => pushCells_keeps _ _ _ _ e
  · obtain ⟨e2, hne⟩ := wipe_some e2
    have hfr : scope.names.lookup y = some .free ∧ (cenv.kindOf y = some .cell ∨ cenv.kindOf y = some .free) := by
      have key : ∀ k, cenv.scope.names.lookup y = some k → k = .local ∨ k = .cell ∨ k = .free → scope.names.lookup y = some .free ∧ (cenv.kindOf y = some .cell ∨ cenv.kindOf y = some .free) := fun k hk hk' => by
        have hk0 := hk
        rw [hsc] at hk
        obtain ⟨k', e, r⟩ := lookup_relS hk
        have no : ¬ (k' = .local ∨ k' = .cell) := fun hh => by
          rcases ok.own _ (PySem.mem_of_lookup e) hh with e' | e'
          · obtain ⟨p, hp, hpy⟩ := List.mem_map.mp e'
            have e3 := ok.ix p hp
            have : p.1 = y := hpy
            rw [this] at e3
            exact hne (List.mem_map.mpr ⟨p, hp, nodup_ix hN e3 e1⟩)
          · exact e' (List.mem_of_getElem? e1)
        rcases r with rfl | ⟨rfl, rfl⟩
        · rcases hk' with rfl | rfl | rfl
          · exact absurd (.inl rfl) no
          · exact absurd (.inr rfl) no
          · exact ⟨e, .inr hk0⟩
        · exact ⟨e, .inl hk0⟩
      have e3 : Vis cenv.scope y := e3
      rcases e3 with e3 | e3 | e3
      · exact key _ e3 (.inl rfl)
      · exact key _ e3 (.inr (.inl rfl))
      · exact key _ e3 (.inr (.inr rfl))
    obtain ⟨m, hn, hl⟩ := I.loc
    have hvis : Vis X.env.scope y := (ok.free _ (PySem.mem_of_lookup hfr.1) rfl).elim (fun k => .inr (.inl k)) (fun k => .inr (.inr k))
    obtain ⟨w, r, q⟩ := hl i y av e1 e2 hvis
    refine ⟨w, r, .inr ⟨hfr.2, ?_⟩⟩
    obtain ⟨c, h1, h2⟩ := look hfr.1
    rcases q with ⟨k, _⟩ | ⟨_, c', e', z⟩
    · have k : X.env.scope.names.lookup y = some .local := k
      rcases ok.free _ (PySem.mem_of_lookup hfr.1) rfl with k' | k' <;> rw [show X.env.scope.names.lookup y = _ from k'] at k <;> cases k
    · rw [h2] at e'; cases e'
      exact ⟨c, h1, z.keeps kp⟩
  · have e : cenv.cells.lookup y = some c := e
    rcases mem e with ⟨h1, _⟩ | ⟨_, z⟩
    · obtain ⟨w, z⟩ := I.cell y c h1
      exact ⟨w, z.keeps kp⟩
    · exact ⟨_, z⟩
  · show H cenv.locals = none
    rw [hL]; exact I.hok.fresh (Nat.le_refl _)
  · have e : cenv.cells.lookup y = some c := e
    rcases mem e with ⟨h1, _⟩ | ⟨h1, _⟩
    · exact I.freeC y c h1
    · exact I.hok.fresh (Nat.le_of_succ_le h1)
  · exact absurd (show p ∈ ([] : List (Addr × Obj)) ++ [] from hp) (by simp)
theorem app_ok {E : Value → Shared → Prop} {D : Addr} {xs : List V} {y : V} {v : Value} {Q : Value → Shared → Prop} (I : Inv X pins σ H s) (hD : H D = some (.lst xs)) (hz : xs.length < sizeLine) (r : RelV y v)
    (h : ∀ s', Inv X pins σ (upd H D (.lst (xs ++ [y]))) s' → Q .none s') : wpAny (model X.prog X.w) X.A (call (.builtin "list.append") [.ref D, v]) Q E s := by
  obtain ⟨hz', its, n, ri, e⟩ := I.hok D _ hD
  have hl := ri.length
  refine append_at (hsz := by rw [List.size_toArray]; omega) e fun h' sb ho' => ?_
  refine h { s with heap := h' } (I.write (t' := s.toks) (by rw [hD]; trivial) (.inl rfl) (fun b u hb q => (sb.2 b hb).trans q) ⟨_, ho'⟩ ⟨by rw [List.length_append]; exact hz, its ++ [v], n + 1, ri.append (.cons r .nil), ?_⟩)
  rw [ho']
  simp
def PTs (X : Cx) (ifs : List Expr) (t : TT) : Prop :=
  ∀ (pins : List (Addr × Obj)) (s : Shared) (σ : St) (H : Hp) (Q : Bool → Hp → Prop), Inv X pins σ H s → t σ H Q →
    wpAny (model X.prog X.w) X.A (forIn ifs true fun c r => if r = true then do let ok ← isTrue c X.env (eval c X.env); pure (ForInStep.yield ok) else pure (ForInStep.yield r)) (TP X pins σ Q) X.xe s
def tYes : TT := fun _ H Q => Q true H
theorem pts_nil : PTs X [] tYes := fun _ _ _ H _ I h => wpAny_tests_nil ⟨H, I, h⟩
end
theorem thnF {α : Type} {t : Sem α} {Q Q' : α → Shared → Prop} {M : Model} {A : Around} {E : Value → Shared → Prop} {s : Shared} (h : wpAny M A t Q (fun _ _ => False) s) (hQ : ∀ a s, Q a s → Q' a s) : wpAny M A t Q' E s := wpAny_mono h hQ fun _ _ z => False.elim z
theorem compLoop_any {prog : Program} {w : World} {A : Around} {R : Result → Shared → Prop} {s : Shared} {elt target iter : Expr} {ifs : List Expr} {scope : Scope} {pos : Pos} {it acc : Value} {env : Env} (I : Nat → Shared → Prop)
    (turn : ∀ n s, I n s → wpAny (model prog w) A (pyNext it) (fun r s₁ => match r with
      | none => R (.ok .next) s₁
      | some v => wpAny (model prog w) A (letOwnedTupleGo target it v) (fun _ s₁' => wpAny (model prog w) A (assign target env v) (fun _ s₂ =>
          wpAny (model prog w) A (forIn ifs true fun c r => if r = true then do let ok ← isTrue c env (eval c env); pure (ForInStep.yield ok) else pure (ForInStep.yield r)) (fun ok s₃ =>
            if ok = true then wpAny (model prog w) A (eval elt env) (fun x s₄ =>
              wpAny (model prog w) A (call (.builtin "list.append") [acc, x]) (fun _ s₅ => ∃ m, m < n ∧ I m s₅) (notedBy (model prog w) A env fun e s' => R (.error e) s') s₄) (notedBy (model prog w) A env fun e s' => R (.error e) s') s₃
            else ∃ m, m < n ∧ I m s₃) (notedBy (model prog w) A env fun e s' => R (.error e) s') s₂) (notedBy (model prog w) A env fun e s' => R (.error e) s') s₁') (notedBy (model prog w) A env fun e s' => R (.error e) s') s₁) (notedBy (model prog w) A env fun e s' => R (.error e) s') s)
    (n : Nat) (h : I n s) :
    codeAny (model prog w) A (.compLoop (.ListComp elt [⟨target, iter, ifs, 0⟩] scope pos) 0 it acc env) R s := by
  refine codeAny_loop rfl I (fun n s hI => ?_) n h
  show wpAny _ A ((compTurn (.ListComp elt [⟨target, iter, ifs, 0⟩] scope pos) 0 it acc env).onRaise (fun x => do noteFrame x env; theTreesLotGoes x)) _ _ s
  refine wpAny_noted ?_
  rw [compTurn_list]
  refine wpAny_bind (wpAny_standAt (wpAny_bind (wpAny_mono (turn n s hI) (fun r s₁ h₁ => ?_) fun _ _ h' => h')))
  cases r with
  | none => exact wpAny_pure h₁
  | some v =>
    refine wpAny_bind (wpAny_mono h₁ (fun _ s₁' h₁' => ?_) fun _ _ h' => h')
    refine wpAny_bind (wpAny_mono h₁' (fun _ s₂ h₂ => wpAny_bind (wpAny_mono h₂ (fun ok s₃ h₃ => ?_) fun _ _ h' => h')) fun _ _ h' => h')
    cases ok with
    | false => exact wpAny_pure ⟨rfl, h₃⟩
    | true =>
      exact wpAny_bind (wpAny_bind (wpAny_mono h₃ (fun x s₄ h₄ => wpAny_bind (wpAny_mono h₄ (fun _ s₅ h₅ => wpAny_pure (wpAny_pure ⟨rfl, h₅⟩)) fun _ _ h' => h')) fun _ _ h' => h'))
section
variable {X : Cx}
def tLc (wi : TI) (g : TG) (tt : TT) (te : TE) (vs : List Nat) : TE := fun σ H Q => wi σ H fun J H1 => ∀ D, H1 D = none → ∃ W : Nat → Nat → Hp → Prop, (∃ m, W 0 m (upd H1 D (.lst []))) ∧ ∀ i m H, W i m H →
  (J.stop i H ∧ Q (.ref D) H) ∨ (J.go i H ∧ ∃ Nx : Hp → Prop, (∀ H', Nx H' → ∃ m', m' < m ∧ W (i + 1) m' H') ∧ ∀ x H', J.yld i H x H' → g x (wipe σ vs) H' fun σ2 H2 => wipe σ2 vs = wipe σ vs ∧ tt σ2 H2 fun b H3 =>
    if b = true then te σ2 H3 fun y H4 => ∃ acc, H4 D = some (.lst acc) ∧ acc.length < sizeLine ∧ Nx (upd H4 D (.lst (acc ++ [y]))) else Nx H3)
theorem lc_core {pins : List (Addr × Obj)} {s : Shared} {σ : St} {H : Hp} {Q : VK} {elt tg iter : Expr} {ifs : List Expr} {scope : Scope} {own : List (Str × Nat)} {pos pos' : Pos} {wi : TI} {g : TG} {tt : TT} {te : TE} {use : Option (Value → Sem Unit)} {Qf : Value → Shared → Prop}
    (hc : X.calm = true) (hN : X.N.Nodup) (I : Inv X pins σ H s) (hi : PI X tg iter wi) (ok : BlkOk X.N X.env.scope scope own)
    (hg : ∀ (s : Shared) (H : Hp) (C : Addr) (cl : List (Str × Addr)) (fp : List Addr), PG (X.blk s H scope (compEnvC scope cl C X.env) fp) tg g) (ht : ∀ (s : Shared) (H : Hp) (C : Addr) (cl : List (Str × Addr)) (fp : List Addr), PTs (X.blk s H scope (compEnvC scope cl C X.env) fp) ifs tt)
    (he : ∀ (s : Shared) (H : Hp) (C : Addr) (cl : List (Str × Addr)) (fp : List Addr), PE (X.blk s H scope (compEnvC scope cl C X.env) fp) elt te) (hs : ∀ x, foldedSetIterable iter X.env x = pure x)
    (h : tLc wi g tt te (own.map (·.2)) σ H Q)
    (hRR : ∀ D C s' m H', Inv X pins σ H' s' → Q (.ref D) H' → s'.heap.Ns C m → FpOk X pins H' C → compPost (model X.prog X.w) X.A X.xe use Qf (.ref D) C (.ok .next) s') :
    wpAny (model X.prog X.w) X.A (comprehension (.ListComp elt [⟨tg, iter, ifs, 0⟩] scope pos) scope X.env pos' (newList []) false (eval iter X.env) use) Qf X.xe s := by
  have hfree : ∀ y ∈ scope.names, y.2 = .free → ∃ c, X.env.cells.lookup y.1 = some c := fun y hy e => by
    rcases ok.free y hy e with k | k
    · exact I.ok.has _ (.inl k)
    · exact I.ok.has _ (.inr k)
  refine wpAny_comprehension_free (use := use) rfl hs (closure_ok hfree) ok.kind (fun y hy e => by rw [ok.uniq y hy, e])
    (thn (hi pins s σ H _ I h) fun xv s1 hx => thn hx fun itv s2 h2 => ?_)
  obtain ⟨it, fp, tn, J, H2, e, I2, T, st2, f2, q⟩ := h2
  subst e
  refine wpAny_newObj_type (newEnv_comp ?_) (by show 0 ≤ sizeLine; decide)
  generalize hD : s2.heap.objs.size = D
  have hDn : H2 D = none := I2.hok.fresh (Nat.le_of_eq hD)
  obtain ⟨W, ⟨m0, w0⟩, turn⟩ := q D hDn
  -- the new list
  generalize hs3 : ({ s2 with heap := s2.heap.push { cls := .type "list", data := .seq ([] : List Value).toArray } } : Shared) = s3
  have I3 : Inv X pins σ (upd H2 D (.lst [])) s3 := by
    rw [← hs3]
    refine I2.laid (t' := s2.toks) (fun b o e => Heap.get?_push_of_some _ e) (Nat.le_of_eq hD) ⟨Nat.zero_le _, [], 0, .nil, ?_⟩
    rw [← hD]
    exact Heap.get?_push_size _ rfl
  have h3 : s3.heap = s2.heap.push { cls := .type "list", data := .seq ([] : List Value).toArray } := by rw [← hs3]
  have sz : ∀ b ∈ fp, b < s2.heap.objs.size := fun b hb => by
    obtain ⟨o, e, _⟩ := T.obj _ _ st2 b hb
    exact Heap.lt_size e
  have f3 : ∀ b ∈ fp, FpOk X pins (upd H2 D (.lst [])) b ∧ b < s3.heap.objs.size := fun b hb => by
    have hlt := sz b hb
    refine ⟨⟨?_, (f2 b hb).2⟩, by rw [h3, Heap.size_push]; exact Nat.lt_succ_of_lt hlt⟩
    rw [upd_ne (by rw [← hD]; exact Nat.ne_of_lt hlt)]
    exact (f2 b hb).1
  have st3 : tn 0 s3.heap := T.keep _ _ _ st2 fun b _ o e => by rw [h3]; exact Heap.get?_push_of_some _ e
  have I4 := block_start I3 ok hN f3
  have pg := hg s3 (upd H2 D (.lst [])) s3.heap.objs.size (cellsFrom (s3.heap.objs.size + 1) scope.names (cloFrom X.env.cells scope.names [])) fp
  have pt := ht s3 (upd H2 D (.lst [])) s3.heap.objs.size (cellsFrom (s3.heap.objs.size + 1) scope.names (cloFrom X.env.cells scope.names [])) fp
  have pe := he s3 (upd H2 D (.lst [])) s3.heap.objs.size (cellsFrom (s3.heap.objs.size + 1) scope.names (cloFrom X.env.cells scope.names [])) fp
  show codeAny _ _ (.compStart (.ListComp elt [⟨tg, iter, ifs, 0⟩] scope pos) 0 (.ref it) (.ref D) (compEnvC scope (cellsFrom (s3.heap.objs.size + 1) scope.names (cloFrom X.env.cells scope.names [])) s3.heap.objs.size X.env)) (compPost (model X.prog X.w) X.A X.xe use Qf (.ref D) s3.heap.objs.size) { s3 with heap := pushCells (s3.heap.push { cls := .type "dict", data := .dict #[] }) scope.names }
  have nfp : ∀ b ∈ fp, (upd H2 D (.lst [])) b = none := fun b hb => (f3 b hb).1.1
  generalize hce : compEnvC scope (cellsFrom (s3.heap.objs.size + 1) scope.names (cloFrom X.env.cells scope.names [])) s3.heap.objs.size X.env = ce at I4 pg pt pe ⊢
  have cL : ce.locals = s3.heap.objs.size := by subst hce; rfl
  generalize hH3 : upd H2 D (.lst []) = H3 at I3 I4 pg pt pe w0 nfp f3
  generalize hs4 : ({ s3 with heap := pushCells (s3.heap.push { cls := .type "dict", data := .dict #[] }) scope.names } : Shared) = s4 at I4 ⊢
  have st4 : tn 0 s4.heap := T.keep _ _ _ st3 fun b _ o e => by rw [← hs4]; exact pushCells_keeps _ _ _ _ (Heap.get?_push_of_some _ e)
  have stat : ∀ {σ' : St} {H' : Hp} {s' : Shared}, Inv (X.blk s3 H3 scope ce fp) [] σ' H' s' → (∀ b ∈ fp, H' b = none) → ∀ b ∈ fp, FpOk (X.blk s3 H3 scope ce fp) [] H' b := fun {σ' H' s'} I' hn b hb =>
    ⟨hn b hb, (I'.ok.exf b hb).1, I'.ok.exfs b hb, .inl hb, fun x c e => (I'.ok.exf b hb).2 x c e, fun p hp => absurd (show p ∈ ([] : List (Addr × Obj)) ++ [] from hp) (by simp)⟩
  have loop : codeAny (model X.prog X.w) X.A (.compLoop (.ListComp elt [⟨tg, iter, ifs, 0⟩] scope pos) 0 (.ref it) (.ref D) ce) (compPost (model X.prog X.w) X.A X.xe use Qf (.ref D) s3.heap.objs.size) s4 := by
    refine compLoop_any (fun n s' => ∃ i H', Inv (X.blk s3 H3 scope ce fp) [] (wipe σ (own.map (·.2))) H' s' ∧ tn i s'.heap ∧ (∀ b ∈ fp, H' b = none) ∧ W i n H') ?_ m0 ⟨0, H3, I4, st4, nfp, w0⟩
    rintro n s5 ⟨i, H5, I5, st5, n5, w5⟩
    rcases turn i n H5 w5 with ⟨stop, qq⟩ | ⟨go, Nx, hNx, step⟩
    · have td := T.done (X.blk s3 H3 scope ce fp) rfl rfl rfl hc i [] s5 _ H5 (fun _ _ => False) I5 (stat I5 n5) st5 stop
      refine thnF td fun r s6 ⟨hr, I6⟩ => ?_
      subst hr
      -- back in the def's context
      have I7 : Inv X pins σ H5 s6 := I3.call' (ch := fp) I6.os I6.base I6.hok I6.bare fun b hb => ⟨(f3 b hb).1.2.2.2.1, (f3 b hb).1.2.1, (f3 b hb).1.2.2.2.2.1, (f3 b hb).1.2.2.2.2.2⟩
      have nC : H5 s3.heap.objs.size = none := by
        have z : H5 ce.locals = none := I6.free
        rw [cL] at z
        exact z
      obtain ⟨m, hn, _⟩ := I6.loc
      have hn : s6.heap.Ns ce.locals m := hn
      rw [cL] at hn
      exact hRR D s3.heap.objs.size s6 m H5 I7 qq hn (I3.fpOk (Nat.le_refl _) nC)
    · have ti := T.item (X.blk s3 H3 scope ce fp) rfl rfl rfl hc i [] s5 _ H5 (fun _ _ => False) I5 (stat I5 n5) st5 go
      refine thnF ti fun r s6 ⟨u, hr, h6⟩ => ?_
      subst hr
      refine thnF h6 fun _ s7 hqq => ?_
      obtain ⟨x, H7, I7, r7, y7, st7, n7⟩ := hqq
      have I7' := I7.pinned (stat I7 n7) (T.obj _ _ st7)
      refine thnF (pg _ s7 _ H7 x u _ I7' r7 (step x H7 y7)) fun _ s8 hqq => ?_
      obtain ⟨σ8, H8, I8, hw8, q8⟩ := hqq
      refine thnF (pt _ s8 σ8 H8 _ I8 q8) fun b s9 ⟨H9, I9, q9⟩ => ?_
      -- the turn's end
      have fin : ∀ {s' : Shared} {H' : Hp}, Inv (X.blk s3 H3 scope ce fp) ([] ++ pinsAt fp s7.heap) σ8 H' s' → Nx H' → ∃ m, m < n ∧ ∃ i H', Inv (X.blk s3 H3 scope ce fp) [] (wipe σ (own.map (·.2))) H' s' ∧ tn i s'.heap ∧ (∀ b ∈ fp, H' b = none) ∧ W i m H' := fun {s' H'} I' nx => by
        obtain ⟨m', hm, w'⟩ := hNx H' nx
        have pin' : ∀ b ∈ fp, ∀ o, s7.heap.get? b = some o → s'.heap.get? b = some o ∧ H' b = none := fun b hb o e =>
          let z := I'.pin (b, o) (List.mem_append_right _ (List.mem_append_right _ (mem_pinsAt hb e)))
          ⟨z.1, z.2.1⟩
        have hl : (wipe σ (own.map (·.2))).length = σ8.length := by rw [← hw8, wipe_length]
        refine ⟨m', hm, i + 1, H', (I'.unpinned (pins := [])).weak hl (fun j v e => ?_), T.keep _ _ _ st7 fun b hb o e => (pin' b hb o e).1, fun b hb => ?_, w'⟩
        · rw [← hw8] at e
          exact (wipe_some e).1
        · obtain ⟨o, e, _⟩ := T.obj _ _ st7 b hb
          exact (pin' b hb o e).2
      cases b with
      | false =>
        simp only [Bool.false_eq_true, if_false] at q9 ⊢
        exact fin I9 q9
      | true =>
        simp only [if_true] at q9 ⊢
        refine thnF (pe _ s9 σ8 H9 _ I9 q9) fun z s10 hqq => ?_
        obtain ⟨yv, H10, I10, r10, acc, hD10, hz10, nx⟩ := hqq
        exact app_ok (X := X.blk s3 H3 scope ce fp) I10 hD10 hz10 r10 fun s11 I11 => fin I11 nx
  exact codeAny_compStart_list loop (T.self X.A 0 _ _ _ st4 loop)
theorem pe_lc {elt tg iter : Expr} {ifs : List Expr} {scope : Scope} {own : List (Str × Nat)} {pos : Pos} {wi : TI} {g : TG} {tt : TT} {te : TE} (hc : X.calm = true) (hN : X.N.Nodup) (hi : PI X tg iter wi) (ok : BlkOk X.N X.env.scope scope own)
    (hg : ∀ (s : Shared) (H : Hp) (C : Addr) (cl : List (Str × Addr)) (fp : List Addr), PG (X.blk s H scope (compEnvC scope cl C X.env) fp) tg g) (ht : ∀ (s : Shared) (H : Hp) (C : Addr) (cl : List (Str × Addr)) (fp : List Addr), PTs (X.blk s H scope (compEnvC scope cl C X.env) fp) ifs tt)
    (he : ∀ (s : Shared) (H : Hp) (C : Addr) (cl : List (Str × Addr)) (fp : List Addr), PE (X.blk s H scope (compEnvC scope cl C X.env) fp) elt te) (hs : ∀ x, foldedSetIterable iter X.env x = pure x := by intro _; rfl) :
    PE X (.ListComp elt [⟨tg, iter, ifs, 0⟩] scope pos) (tLc wi g tt te (own.map (·.2))) := by
  intro pins s σ H Q I h
  rw [eval_ListComp]
  refine lc_core hc hN I hi ok hg ht he hs h fun D C s' m H' I' q hn f => ⟨m, hn, fun h'' sb => ?_⟩
  obtain ⟨f0, f1, f2, f3, f4, f5⟩ := f
  exact ⟨.ref D, H', I'.turned (t' := s'.toks) (fun b o hb e => (sb.2 b hb).trans e) f0 f1 f3 f4 f5, rfl, q⟩
end
def blkC (N : List Str) (sc scope : Scope) (own : List (Str × Nat)) : Bool :=
  (match scope.kind with | .function => true | _ => false) && (scope.names.all fun y => decide (scope.names.lookup y.1 = some y.2)) && (own.all fun p => decide (N[p.2]? = some p.1)) &&
    (scope.names.all fun y => match y.2 with
      | .free => (match sc.names.lookup y.1 with | some .cell => true | some .free => true | _ => false)
      | .local => decide (y.1 ∈ own.map (·.1)) || decide (y.1 ∉ N)
      | .cell => decide (y.1 ∈ own.map (·.1)) || decide (y.1 ∉ N)
      | _ => true)
theorem blkOk_by {N : List Str} {sc scope : Scope} {own : List (Str × Nat)} (h : blkC N sc scope own = true) : BlkOk N sc scope own := by
  unfold blkC at h
  simp only [Bool.and_eq_true, List.all_eq_true, decide_eq_true_eq] at h
  obtain ⟨⟨⟨h1, h2⟩, h3⟩, h4⟩ := h
  refine ⟨?_, h2, h3, fun y hy e => ?_, fun y hy e => ?_⟩
  · split at h1
    · assumption
    · cases h1
  · have q := h4 y hy
    simp only [e] at q
    split at q <;> first | exact .inl (by assumption) | exact .inr (by assumption) | cases q
  · have q := h4 y hy
    rcases e with e | e <;> (simp only [e, Bool.or_eq_true, decide_eq_true_eq] at q; exact q)
end L2
namespace L2
open PySem PySem.Spec PyProof.Rows
section
variable {prog : Program} {w : World} {A : Around} {R : Result → Shared → Prop} {s : Shared} {elt t0 i0 t1 i1 : Expr} {ifs0 ifs1 : List Expr} {scope : Scope} {pos : Pos} {it acc : Value} {env : Env}
end
section
variable {X : Cx}
end
end L2
namespace L2
open PySem PySem.Spec PyProof.Rows
section
variable {κ : Type} [DecidableEq κ]
def valV (kvs : List (κ × V)) (k : κ) : Option V := (kvs.find? fun kv => decide (kv.1 = k)).map (·.2)
def putK (kvs : List (κ × V)) (k : κ) (v : V) : List (κ × V) :=
  if (kvs.any fun kv => decide (kv.1 = k)) = true then kvs.map (fun kv => if kv.1 = k then (kv.1, v) else kv) else kvs ++ [(k, v)]
def dropK (kvs : List (κ × V)) (k : κ) : List (κ × V) := kvs.filter fun kv => decide (kv.1 ≠ k)
theorem valV_pos {p : κ × V} {r : List (κ × V)} {k : κ} (e : p.1 = k) : valV (p :: r) k = some p.2 := by simp [valV, List.find?_cons, e]
theorem valV_neg {p : κ × V} {r : List (κ × V)} {k : κ} (e : ¬ p.1 = k) : valV (p :: r) k = valV r k := by simp [valV, List.find?_cons, e]
theorem valV_any (k : κ) : ∀ kvs : List (κ × V), (kvs.any fun kv => decide (kv.1 = k)) = (valV kvs k).isSome
  | [] => rfl
  | p :: r => by
    rw [List.any_cons]
    by_cases e : p.1 = k
    · simp only [valV_pos e, decide_eq_true e, Bool.true_or, Option.isSome_some]
    · rw [valV_neg e, decide_eq_false e, Bool.false_or]; exact valV_any k r
theorem RelO.isSome_eq {o : Option V} {u : Option Value} (r : RelO o u) : o.isSome = u.isSome := by
  cases o with
  | none => cases u with
    | none => rfl
    | some _ => exact (show False from r).elim
  | some _ => cases u with
    | none => exact (show False from r).elim
    | some _ => rfl
theorem RelO.getD {o : Option V} {u : Option Value} {d : V} {d' : Value} (r : RelO o u) (rd : RelV d d') : RelV (o.getD d) (u.getD d') := by
  cases o with
  | none => cases u with
    | none => exact rd
    | some _ => exact (show False from r).elim
  | some _ => cases u with
    | none => exact (show False from r).elim
    | some _ => exact r
theorem KV.val {kvs : List (κ × V)} {vs : List (κ × Value)} (r : KV kvs vs) (k : κ) : RelO (valV kvs k) (valueAt vs k) := by
  unfold KV at r
  induction r with
  | nil => exact True.intro
  | @cons p q ps qs h t ih =>
    obtain ⟨h1, h2⟩ := h
    by_cases e : p.1 = k
    · have e' : q.1 = k := h1.symm.trans e
      have b : valueAt (q :: qs) k = some q.2 := by simp [valueAt, List.find?_cons, e']
      rw [valV_pos e, b]; exact h2
    · have e' : ¬ q.1 = k := fun z => e (h1.trans z)
      have b : valueAt (q :: qs) k = valueAt qs k := by simp [valueAt, List.find?_cons, e']
      rw [valV_neg e, b]; exact ih
theorem KV.any {kvs : List (κ × V)} {vs : List (κ × Value)} (r : KV kvs vs) (k : κ) : (kvs.any fun kv => decide (kv.1 = k)) = vs.any fun kv => decide (kv.1 = k) := by
  unfold KV at r
  induction r with
  | nil => rfl
  | cons h t ih => rw [List.any_cons, List.any_cons, ih, h.1]
theorem KV.repl {kvs : List (κ × V)} {vs : List (κ × Value)} (r : KV kvs vs) (k : κ) {y : V} {u : Value} (ry : RelV y u) :
    KV (kvs.map fun kv => if kv.1 = k then (kv.1, y) else kv) (vs.map fun kv => if kv.1 = k then (kv.1, u) else kv) := by
  unfold KV at r ⊢
  induction r with
  | nil => exact .nil
  | @cons p q ps qs h t ih =>
    rw [List.map_cons, List.map_cons]
    refine .cons ?_ ih
    obtain ⟨h1, h2⟩ := h
    by_cases e : p.1 = k
    · rw [if_pos e, if_pos (h1.symm.trans e)]; exact ⟨h1, ry⟩
    · rw [if_neg e, if_neg (fun z => e (h1.trans z))]; exact ⟨h1, h2⟩
theorem KV.put {kvs : List (κ × V)} {vs : List (κ × Value)} (r : KV kvs vs) (k : κ) {y : V} {u : Value} (ry : RelV y u) : KV (putK kvs k y) (stored vs k u) := by
  unfold putK stored
  rw [r.any k]
  by_cases e : (vs.any fun kv => decide (kv.1 = k)) = true
  · rw [if_pos e, if_pos e]; exact r.repl k ry
  · rw [if_neg e, if_neg e]; exact Paired.snoc r ⟨rfl, ry⟩
theorem KV.drop {kvs : List (κ × V)} {vs : List (κ × Value)} (r : KV kvs vs) (k : κ) : KV (dropK kvs k) (without vs k) := by
  unfold KV at r ⊢
  unfold dropK without
  induction r with
  | nil => exact .nil
  | @cons p q ps qs h t ih =>
    obtain ⟨h1, h2⟩ := h
    rw [List.filter_cons, List.filter_cons]
    by_cases e : p.1 = k
    · have a : ¬ decide (p.1 ≠ k) = true := by simp [e]
      have b : ¬ decide (q.1 ≠ k) = true := by simp [h1.symm.trans e]
      rw [if_neg a, if_neg b]; exact ih
    · have e' : ¬ q.1 = k := fun z => e (h1.trans z)
      have a : decide (p.1 ≠ k) = true := by simp [e]
      have b : decide (q.1 ≠ k) = true := by simp [e']
      rw [if_pos a, if_pos b]; exact .cons ⟨h1, h2⟩ ih
theorem KV.keys {kvs : List (κ × V)} {vs : List (κ × Value)} (r : KV kvs vs) : kvs.map (·.1) = vs.map (·.1) := by
  unfold KV at r
  induction r with
  | nil => rfl
  | cons h t ih => rw [List.map_cons, List.map_cons, ih, h.1]
theorem KV.length {kvs : List (κ × V)} {vs : List (κ × Value)} (r : KV kvs vs) : kvs.length = vs.length := Paired.length r
end
abbrev KT (H : Hp) : List (List Key × V) → List (List Key × Addr × Value) → Prop := Paired fun p q => p.1 = q.1 ∧ H q.2.1 = some (.tup (p.1.map kV)) ∧ RelV p.2 q.2.2
theorem KT.val {H : Hp} {kvs : List (List Key × V)} {xs : List (List Key × Addr × Value)} (r : KT H kvs xs) (k : List Key) : RelO (valV kvs k) ((atKey xs k).map (·.2)) := by
  induction r with
  | nil => exact True.intro
  | @cons p q ps qs h t ih =>
    obtain ⟨h1, _, h2⟩ := h
    by_cases e : p.1 = k
    · have e' : q.1 = k := h1.symm.trans e
      have b : atKey (q :: qs) k = some q.2 := by simp [atKey, List.find?_cons, e']
      rw [valV_pos e, b]; exact h2
    · have e' : ¬ q.1 = k := fun z => e (h1.trans z)
      have b : atKey (q :: qs) k = atKey qs k := by simp [atKey, List.find?_cons, e']
      rw [valV_neg e, b]; exact ih
theorem KT.repl {H : Hp} {kvs : List (List Key × V)} {xs : List (List Key × Addr × Value)} (r : KT H kvs xs) (k : List Key) {y : V} {u : Value} (ry : RelV y u) :
    KT H (kvs.map fun kv => if kv.1 = k then (kv.1, y) else kv) (xs.map (putAt k u)) := by
  induction r with
  | nil => exact .nil
  | @cons p q ps qs h t ih =>
    rw [List.map_cons, List.map_cons]
    refine .cons ?_ ih
    obtain ⟨h1, h2, h3⟩ := h
    unfold putAt
    by_cases e : p.1 = k
    · rw [if_pos e, if_pos (h1.symm.trans e)]; exact ⟨h1, h2, ry⟩
    · rw [if_neg e, if_neg (fun z => e (h1.trans z))]; exact ⟨h1, h2, h3⟩
theorem KT.put {H : Hp} {kvs : List (List Key × V)} {xs : List (List Key × Addr × Value)} (r : KT H kvs xs) (k : List Key) {b : Addr} {y : V} {u : Value} (hb : H b = some (.tup (k.map kV))) (ry : RelV y u) :
    KT H (putK kvs k y) (storedH xs k b u) := by
  have e : (kvs.any fun kv => decide (kv.1 = k)) = (atKey xs k).isSome := by
    rw [valV_any, (r.val k).isSome_eq, Option.isSome_map]
  unfold putK storedH
  rw [e]
  by_cases q : (atKey xs k).isSome = true
  · rw [if_pos q, if_pos q]; exact r.repl k ry
  · rw [if_neg q, if_neg q]; exact Paired.snoc r ⟨rfl, hb, ry⟩
theorem KT.keeps {H H' : Hp} {kvs : List (List Key × V)} {xs : List (List Key × Addr × Value)} (r : KT H kvs xs) (ht : ∀ b ys, H b = some (.tup ys) → H' b = some (.tup ys)) : KT H' kvs xs :=
  Paired.mapP r fun _ _ z => ⟨z.1, ht _ _ z.2.1, z.2.2⟩
section
variable {P : Program} {w : World} {H : Hp} {h : Heap} {a : Addr}
end
def DGet (H : Hp) (a : Addr) (y : V) (r : Option V) : Prop :=
  (∃ kvs k, Rd H a (.dK kvs) ∧ y = kV k ∧ r = valV kvs k) ∨ ∃ kvs k b, Rd H a (.dT kvs) ∧ y = .ref b ∧ H b = some (.tup (k.map kV)) ∧ r = valV kvs k
def DPut (H : Hp) (a : Addr) (y v : V) (H' : Hp) : Prop :=
  (∃ kvs k, H a = some (.dK kvs) ∧ y = kV k ∧ kvs.length < sizeLine ∧ H' = upd H a (.dK (putK kvs k v))) ∨
  ∃ kvs k b, H a = some (.dT kvs) ∧ y = .ref b ∧ H b = some (.tup (k.map kV)) ∧ kvs.length < sizeLine ∧ H' = upd H a (.dT (putK kvs k v))
theorem DGet.k {H : Hp} {a : Addr} {kvs : List (Key × V)} {k : Key} (e : H a = some (.dK kvs)) : DGet H a (kV k) (valV kvs k) := .inl ⟨kvs, k, .inl e, rfl, rfl⟩
theorem DGet.t {H : Hp} {a b : Addr} {kvs : List (List Key × V)} {k : List Key} (e : H a = some (.dT kvs)) (eb : H b = some (.tup (k.map kV))) : DGet H a (.ref b) (valV kvs k) := .inr ⟨kvs, k, b, .inl e, rfl, eb, rfl⟩
theorem DPut.k {H : Hp} {a : Addr} {kvs : List (Key × V)} {k : Key} {v : V} (e : H a = some (.dK kvs)) (hl : kvs.length < sizeLine) : DPut H a (kV k) v (upd H a (.dK (putK kvs k v))) := .inl ⟨kvs, k, e, rfl, hl, rfl⟩
theorem DPut.t {H : Hp} {a b : Addr} {kvs : List (List Key × V)} {k : List Key} {v : V} (e : H a = some (.dT kvs)) (eb : H b = some (.tup (k.map kV))) (hl : kvs.length < sizeLine) :
    DPut H a (.ref b) v (upd H a (.dT (putK kvs k v))) := .inr ⟨kvs, k, b, e, rfl, eb, hl, rfl⟩
section
variable {X : Cx} {pins : List (Addr × Obj)} {σ : St} {H : Hp} {s : Shared} {a : Addr} {y v : V} {u r : Value} {o : Option V} {A : Around} {E : Value → Shared → Prop}
end
section
variable {X : Cx} {pins : List (Addr × Obj)} {σ : St} {H : Hp} {s : Shared} {a : Addr} {kvs : List (Key × V)} {k : Key} {u : Value} {A : Around} {E : Value → Shared → Prop}
end
section
variable {X : Cx} {o i e value : Expr} {pos pos' tpos : Pos} {td ty tv : TE}
end
section
variable {X : Cx} {pos : Pos}
end
structure M1 (X : Cx) (o : Expr) (m : Str) (apos : Pos) (e : Expr) (cpos : Pos) : Prop where
  base : attributeBase o m X.env (eval o X.env) = eval o X.env
  few : ((backTo cpos (starEach [e] X.env)).all (fun x => !x.1) && (backToKw cpos (keywordEach [] X.env)).all (fun x => x.1.isSome)
    && decide (([e] : List Expr).length + ([] : List Keyword).length + (if ([] : List Keyword).isEmpty then 0 else 1) < 30)) = true
  line : (apos.endLine == cpos.line) = true
  trees : backTo cpos (starEach [e] X.env) = [(false, eval e X.env)]
structure M2 (X : Cx) (o : Expr) (m : Str) (apos : Pos) (e f : Expr) (cpos : Pos) : Prop where
  base : attributeBase o m X.env (eval o X.env) = eval o X.env
  few : ((backTo cpos (starEach [e, f] X.env)).all (fun x => !x.1) && (backToKw cpos (keywordEach [] X.env)).all (fun x => x.1.isSome)
    && decide (([e, f] : List Expr).length + ([] : List Keyword).length + (if ([] : List Keyword).isEmpty then 0 else 1) < 30)) = true
  line : (apos.endLine == cpos.line) = true
  trees : backTo cpos (starEach [e, f] X.env) = [(false, eval e X.env), (false, eval f X.env)]
section
variable {X : Cx} {pins : List (Addr × Obj)} {σ : St} {H : Hp} {s : Shared} {a : Addr} {y d : V} {u r : Value} {o : Option V} {A : Around} {E : Value → Shared → Prop}
end
section
variable {X : Cx} {o e f : Expr} {apos cpos : Pos} {td ty tx : TE}
end
section
variable {X : Cx} {pins : List (Addr × Obj)} {σ : St} {H : Hp} {s : Shared} {a : Addr} {kvs : List (Key × V)} {A : Around} {E : Value → Shared → Prop}
end
section
variable {X : Cx} {pins : List (Addr × Obj)} {σ : St} {H : Hp} {s : Shared} {a : Addr} {y : V} {u : Value} {A : Around} {E : Value → Shared → Prop}
end
end L2
namespace L2
open PySem PySem.Spec PyProof.Rows
section
variable {prog : Program} {w : World} {A : Around} {E : Value → Shared → Prop}
end
section
variable {X : Cx}
end
end L2
namespace L2
open PySem PySem.Spec PyProof.Rows
section
variable {X : Cx} {pins : List (Addr × Obj)} {σ : St} {H : Hp} {s : Shared} {h' : Heap}
theorem Inv.turnedL {t' : Nat} {ch : List Addr} (I : Inv X pins σ H s) (k : ∀ b o, b ∉ ch → s.heap.get? b = some o → h'.get? b = some o) (hf : ∀ b ∈ ch, FpOk X pins H b) : Inv X pins σ H { s with heap := h', toks := t' } := by
  have nit : ∀ b u, H b = some u → b ∉ ch := fun b u e z => by
    have q := (hf b z).1
    rw [q] at e; cases e
  refine I.step (g' := s.gens) (d' := s.drawn) (ch := ch) (fun b hb => ⟨(hf b hb).2.2.2.1, (hf b hb).2.1, (hf b hb).2.2.2.2.1, (hf b hb).2.2.2.2.2⟩) (fun b o _ _ hc e _ => k b o hc e) (fun b o _ _ hc e _ => ⟨o.slots, k b o hc e⟩)
    (fun _ _ _ _ n => n) (fun b o hc e => ⟨o, k b o hc e⟩) (fun _ _ e => e) (fun _ _ _ e => e) (fun b ps e => ⟨#[], by rw [e]; simp⟩) (fun m hm => ?_) (fun b u e => ?_) I.bare
  · obtain ⟨o, es, ep, ho, r⟩ := hm
    exact ⟨o, es, ep, k _ o (fun z => (hf _ z).2.1 rfl) ho, r⟩
  · refine (I.hok b u e).stay (fun c v hc q => k c v ?_ q) (fun _ q => q) fun _ _ q => q
    rcases hc with z | z
    · rw [z]; exact nit b u e
    · exact nit c _ z
theorem Inv.turnedNew {t' : Nat} {ch : List Addr} {T : Addr} {ob : HO} (I : Inv X pins σ H s) (k : ∀ b o, b ∉ ch → s.heap.get? b = some o → h'.get? b = some o) (hf : ∀ b ∈ ch, FpOk X pins H b) (hT : s.heap.objs.size ≤ T)
    (new : ObjOk X.prog X.w (upd H T ob) h' T ob) : Inv X pins σ (upd H T ob) { s with heap := h', toks := t' } := by
  have hn : H T = none := I.hok.fresh hT
  have nit : ∀ b u, H b = some u → b ∉ ch := fun b u e z => by
    have q := (hf b z).1
    rw [q] at e; cases e
  refine I.step (g' := s.gens) (d' := s.drawn) (ch := ch) (fun b hb => ⟨(hf b hb).2.2.2.1, (hf b hb).2.1, (hf b hb).2.2.2.2.1, (hf b hb).2.2.2.2.2⟩) (fun b o _ _ hc e _ => k b o hc e) (fun b o _ _ hc e _ => ⟨o.slots, k b o hc e⟩)
    (fun b o _ e n => ?_) (fun b o hc e => ⟨o, k b o hc e⟩) (fun b xs e => ?_) (fun b o u e => ?_) (fun b ps e => ⟨#[], ?_⟩) (fun m hm => ?_) (fun b u e => ?_) I.bare
  · rw [upd_ne (Nat.ne_of_lt (Nat.lt_of_lt_of_le (Heap.lt_size e) hT))]; exact n
  · rw [upd_ne (ne_of_none e hn)]; exact e
  · rw [upd_ne (ne_of_none e hn)]; exact e
  · rw [upd_ne (ne_of_none e hn), e]; simp
  · obtain ⟨o, es, ep, ho, r⟩ := hm
    exact ⟨o, es, ep, k _ o (fun z => (hf _ z).2.1 rfl) ho, r⟩
  · by_cases hb : b = T
    · subst hb
      rw [upd_same] at e
      cases e
      exact new
    · rw [upd_ne hb] at e
      refine (I.hok b u e).stay (fun c v hc q => k c v ?_ q) (fun c q => by rw [upd_ne (ne_of_none q hn)]; exact q) fun c xs q => by rw [upd_ne (ne_of_none q hn)]; exact q
      rcases hc with z | z
      · rw [z]; exact nit b u e
      · exact nit c _ z
end
section
variable {X : Cx}
theorem pi_one {tg : Expr} {pins : List (Addr × Obj)} {σ : St} {H : Hp} {s : Shared} {R : It → Hp → Prop} {J : It} {tn : Nat → Heap → Prop} {tk : Nat} (I : Inv X pins σ H s) (o : Obj)
    (T : Turn X.prog X.w X.K tg J [s.heap.objs.size] s.heap.objs.size tn) (st : tn 0 (s.heap.push o)) (q : R J H) : PIE X pins σ tg R (.ref s.heap.objs.size) { s with heap := s.heap.push o, toks := tk } := by
  refine ⟨s.heap.objs.size, [s.heap.objs.size], tn, J, H, rfl, I.kept fun b ob e => Heap.get?_push_of_some _ e, T, st, fun b hb => ?_, q⟩
  have e : b = s.heap.objs.size := by simpa using hb
  subst e
  exact I.fpOk (Nat.le_refl _) (I.hok.fresh (Nat.le_refl _))
end
def Itc (lo c : Int) (n : Nat) : It := ⟨fun i _ => i < n, fun i H x H' => H' = H ∧ x = .int (lo + (i : Nat) * c), fun i _ => n ≤ i⟩
theorem turn_rangeC {P : Program} {w : World} {K : PySem.W.Frag} {tg : Expr} (it : Addr) (lo c : Int) (n : Nat) : Turn P w K tg (Itc lo c n) [it] it (fun i h => IsRangeIter h it (lo + (i : Nat) * c) ((n : Int) - (i : Nat)) c) where
  mem := by simp
  obj := fun i h st b hb => by
    have e : b = it := by simpa using hb
    subst e
    exact ⟨_, st, fun v z => nomatch z⟩
  keep := fun i h h' st k => k it (by simp) _ st
  item := by
    intro X hP hw hK hc i pins s σ H E I hf st hg
    subst hP hw hK
    obtain ⟨f0, f1, f2, f3, f4, f5⟩ := hf it (by simp)
    have W := Walks.range (prog := X.prog) (w := X.w) (I.ok.hd hc) it lo c n
    refine W.item i s _ _ hg st fun v h' tk hv st' kk => ?_
    obtain ⟨t, rfl⟩ := hv
    have I1 : Inv X pins σ H { s with heap := h', toks := tk } := I.turned (fun b o hb e => kk b o (by simpa using hb) e) f0 f1 f3 f4 f5
    exact ⟨_, rfl, go_of (s := { s with heap := h', toks := tk }) (n := "range_iterator") st' rfl rfl (by decide) ⟨.int (lo + (i : Nat) * c), H, I1, ⟨t, rfl⟩, ⟨rfl, rfl⟩, st', fun b hb => (hf b hb).1⟩⟩
  done := by
    intro X hP hw hK hc i pins s σ H E I hf st hg
    subst hP hw hK
    obtain ⟨f0, f1, f2, f3, f4, f5⟩ := hf it (by simp)
    exact wpAny_pyNext_range_end (I.ok.hd hc) st (by have : n ≤ i := hg; omega) fun h' eb => ⟨rfl, I.turned (t' := s.toks) (fun b o hb e => eb b o hb e) f0 f1 f3 f4 f5⟩
  self := fun A i s Q E st h => wpAny_pyIter_rangeiter st h
def RgC (i j c : Int) (n : Nat) : Prop := c ≠ 0 ∧ c.natAbs < 1073741824 ∧ Builtin.Range.small i j c = true ∧ Builtin.Range.rangeSize i j c = n
theorem RgC.neg {i j : Int} (ha : -(2 ^ 62) ≤ i) (ha' : i < 2 ^ 62) (hb : -(2 ^ 62) ≤ j) (hb' : j < 2 ^ 62) : RgC i j (-1) (i - j).toNat :=
  ⟨by decide, by decide, PySem.W.small_down ha ha' hb hb', PySem.W.rangeSize_downNat i j⟩
def iRng3 (ta : TA) : TI := fun σ H R => ta σ H fun vs H1 => ∃ (i j c : Int) (n : Nat), vs = [.int i, .int j, .int c] ∧ RgC i j c n ∧ R (Itc i c n) H1
section
variable {X : Cx} {tg : Expr}
theorem pi_range3 {a b c : Expr} {ta : TA} {p pos : Pos} (hg : Gl X "range") (hm : X.mg "range" = none) (ha : PA X [a, b, c] ta)
    (hs : starEach [a, b, c] X.env = (false, eval a X.env) :: starEach [b, c] X.env := by rfl) (hpl : (backTo pos (starEach [b, c] X.env)).any (·.1) = false := by rfl) :
    PI X tg (.Call (.Name "range" p) [a, b, c] [] pos) (iRng3 ta) := by
  intro pins s σ H R I h
  refine Call_ (ld_blt I hg hm boot_range (PyProof.Rows.callWith_type1 (thn (ha pos pins s σ H _ I h) fun us s1 hqq => ?_) hs hpl))
  obtain ⟨vs, H1, I1, r1, q1⟩ := hqq
  obtain ⟨i, j, k, n, e, ⟨c0, c1, c2, c3⟩, q⟩ := q1
  subst e
  cases r1 with
  | cons r rr =>
    cases rr with
    | cons r' rr =>
      cases rr with
      | cons r'' rr =>
        cases rr
        obtain ⟨t, rfl⟩ := r
        obtain ⟨t', rfl⟩ := r'
        obtain ⟨t'', rfl⟩ := r''
        refine call_range_3 c0 ?_ (.inl (PyProof.noPylong_small c1))
        refine wpAny_pyIter_range (IsRange.new ..) c2 ?_
        have I2 : Inv X pins σ H1 { s1 with heap := s1.heap.push { cls := .type "range", data := .fields #[.int i t, .int j t', .int k t''] } } := I1.kept (t' := s1.toks) fun b o e => Heap.get?_push_of_some _ e
        refine pi_one (tk := s1.toks) I2 _ (turn_rangeC _ i k n) ?_ q
        have e1 : i + ((0 : Nat) : Int) * k = i := by simp
        have e2 : (n : Int) - ((0 : Nat) : Int) = Builtin.Range.rangeSize i j k := by rw [c3]; simp
        show IsRangeIter _ _ (i + ((0 : Nat) : Int) * k) ((n : Int) - ((0 : Nat) : Int)) k
        rw [e1, e2]
        exact Heap.get?_push_size _ rfl
end
theorem for_rangeC {lo c : Int} {n : Nat} {g : TG} {tb : TS} {D : Ends} {σ : St} {H : Hp} (Pv : Nat → St → Hp → Prop) (h0 : Pv 0 σ H)
    (hs : ∀ i σ H, i < n → Pv i σ H → g (.int (lo + (i : Nat) * c)) σ H fun σ2 H2 => tb { D with nx := Pv (i + 1), ct := Pv (i + 1), bk := D.nx } σ2 H2) (hd : ∀ σ H, Pv n σ H → D.nx σ H) :
    ∃ W : Nat → Nat → St → Hp → Prop, (∃ m, W 0 m σ H) ∧ ∀ i m σ H, W i m σ H →
      ((Itc lo c n).stop i H ∧ D.nx σ H) ∨ ((Itc lo c n).go i H ∧ ∃ N : St → Hp → Prop, (∀ σ' H', N σ' H' → ∃ m', m' < m ∧ W (i + 1) m' σ' H') ∧ ∀ x H', (Itc lo c n).yld i H x H' → g x σ H' fun σ2 H2 => tb { D with nx := N, ct := N, bk := D.nx } σ2 H2) := by
  refine ⟨fun i m σ H => m = n - i ∧ i ≤ n ∧ Pv i σ H, ⟨n, by simp, Nat.zero_le _, h0⟩, ?_⟩
  rintro i m σ H ⟨rfl, hi, p⟩
  by_cases hlt : i < n
  · refine .inr ⟨hlt, Pv (i + 1), fun σ' H' p' => ⟨n - (i + 1), by omega, rfl, hlt, p'⟩, fun x H' y => ?_⟩
    obtain ⟨e, y⟩ := y
    subst e y
    exact hs i σ _ hlt p
  · have e : i = n := by omega
    subst e
    exact .inl ⟨Nat.le_refl _, hd σ H p⟩
section
variable {X : Cx} {tg : Expr}
end
def Its (x : Str) : It := ⟨fun i _ => i < x.cps.size, fun i H v H' => H' = H ∧ ∃ c, x.cps[i]? = some c ∧ v = .str ⟨#[c]⟩, fun i _ => x.cps.size ≤ i⟩
theorem turn_str {P : Program} {w : World} {K : PySem.W.Frag} {tg : Expr} (it : Addr) (x : Str) (t : Tok) (ty : String) (hty : ty = "str_ascii_iterator" ∨ ty = "str_iterator") :
    Turn P w K tg (Its x) [it] it (fun i h => h.IsStrIter it ty x t i) where
  mem := by simp
  obj := fun i h st b hb => by
    have e : b = it := by simpa using hb
    subst e
    obtain ⟨o, e, c, d⟩ := st
    exact ⟨o, e, fun v z => by rw [d] at z; cases z⟩
  keep := fun i h h' st k => let ⟨o, ho, r⟩ := st; ⟨o, k it (by simp) o ho, r⟩
  item := by
    intro X hP hw hK hc i pins s σ H E I hf st hg
    subst hP hw hK
    obtain ⟨f0, f1, f2, f3, f4, f5⟩ := hf it (by simp)
    have W : Walks X.prog X.w X.A it [it] [it] x.cps.size (SignAt x) (fun i h => h.IsStrIter it ty x t i) := by
      rcases hty with e | e
      · rw [e]; exact Walks.strAscii (I.ok.hd hc) it x t
      · rw [e]; exact Walks.strWide (I.ok.hd hc) it x t
    have hno : ["enumerate", "zip", "dict_itemiterator", "dict_reverseitemiterator", "odict_iterator", "itertools.zip_longest", "itertools.pairwise"].contains ty = false := by
      rcases hty with e | e
      · rw [e]; decide
      · rw [e]; decide
    refine W.item i s _ _ hg st fun v h' tk hv st' kk => ?_
    obtain ⟨c, u, hcx, rfl⟩ := hv
    have I1 : Inv X pins σ H { s with heap := h', toks := tk } := I.turned (fun b o hb e => kk b o (by simpa using hb) e) f0 f1 f3 f4 f5
    obtain ⟨oi, e, cc, dd⟩ := id st'
    exact ⟨_, rfl, go_of (s := { s with heap := h', toks := tk }) e cc dd hno ⟨.str ⟨#[c]⟩, H, I1, ⟨u, rfl⟩, ⟨rfl, c, hcx, rfl⟩, st', fun b hb => (hf b hb).1⟩⟩
  done := by
    intro X hP hw hK hc i pins s σ H E I hf st hg
    subst hP hw hK
    obtain ⟨f0, f1, f2, f3, f4, f5⟩ := hf it (by simp)
    have hx : x.cps[i]? = none := Array.getElem?_eq_none hg
    rcases hty with e | e
    · rw [e] at st
      exact wpAny_pyNext_ascii_end (I.ok.hd hc) st hx fun h' eb => ⟨rfl, I.turned (t' := s.toks) (fun b o hb e => eb b o hb e) f0 f1 f3 f4 f5⟩
    · rw [e] at st
      exact wpAny_pyNext_wide_end (I.ok.hd hc) st hx fun h' eb => ⟨rfl, I.turned (t' := s.toks) (fun b o hb e => eb b o hb e) f0 f1 f3 f4 f5⟩
  self := fun A i s Q E st h => by
    rcases hty with e | e
    · rw [e] at st; exact wpAny_pyIter_striter_ascii st h
    · rw [e] at st; exact wpAny_pyIter_striter_wide st h
def iStr (te : TE) : TI := fun σ H R => te σ H fun v H1 => ∃ x, v = .str x ∧ R (Its x) H1
theorem pi_str {X : Cx} {tg e : Expr} {te : TE} (he : PE X e te) : PI X tg e (iStr te) := by
  intro pins s σ H R I h
  refine thn (he pins s σ H _ I h) fun v s1 hqq => ?_
  obtain ⟨y, H1, I1, r1, x, ex, q⟩ := hqq
  subst ex
  obtain ⟨t, rfl⟩ := r1
  cases ha : x.cps.all (· < 128)
  · exact wpAny_pyIter_wide ha (pi_one (tk := s1.toks) I1 _ (turn_str _ x t "str_iterator" (.inr rfl)) ⟨_, Heap.get?_push_size _ rfl, rfl, rfl⟩ q)
  · exact wpAny_pyIter_ascii ha (pi_one (tk := s1.toks) I1 _ (turn_str _ x t "str_ascii_iterator" (.inl rfl)) ⟨_, Heap.get?_push_size _ rfl, rfl, rfl⟩ q)
section
variable {prog : Program} {w : World} {A : Around} {E : Value → Shared → Prop} {s : Shared}
end
section
variable {X : Cx} {pins : List (Addr × Obj)} {σ : St} {H : Hp} {s : Shared} {d : Addr} {o : Obj}
end
section
variable {P : Program} {w : World} {K : PySem.W.Frag} {tg : Expr} {d : Addr} {o : Obj} {es : Array DictEntry} {ep : Nat}
end
section
variable {X : Cx} {tg e : Expr} {td : TE} {apos cpos : Pos}
end
theorem boot_zip5 : bootBuiltins "zip" = some (.type "zip") := by decide +kernel
end L2
section 
namespace Bits
open PySem PyProof.Rows
end Bits
end 
section 
namespace TL
open PySem PySem.Builtin PySem.Builtin.Str PySem.StrLaws
abbrev tl (x : Str) : List Nat := x.cps.toList
def pre (S l : List Nat) : Bool := l.take S.length == S
def par (S : List Nat) : List Nat → List Nat → Option (List Nat × List Nat)
  | _, [] => none
  | acc, c :: r => if pre S (c :: r) = true then some (acc, (c :: r).drop S.length) else par S (acc ++ [c]) r
end TL
end 
namespace L2
open PySem PySem.Spec PyProof.Rows
section
variable {X : Cx} {pins : List (Addr × Obj)} {σ : St} {H : Hp} {s : Shared} {Q : VK}
end
section
variable {X : Cx}
end
section
variable {X : Cx} {o e : Expr} {to te : TE}
end
end L2
namespace L2
open PySem PySem.Spec PyProof.Rows
section
variable {X : Cx}
end
theorem IsPart.raw {v : Value} {o : Option Int} (p : IsPart v o) : ∃ l : Option (Int × Tok), v = partValue l ∧ l.map (·.1) = o := by
  cases p with
  | none => exact ⟨none, rfl, rfl⟩
  | int i t => exact ⟨some (i, t), rfl, rfl⟩
end L2
namespace Att
open PySem PySem.W PySem.Calls PyProof.Rows
theorem ints_of_wellAll {P : Params} {h : Heap} : ∀ (ns : List Int) (vs : List Value), WellAll P h vs (ns.map WData.int) → IntsAre vs ns := by
  intro ns
  induction ns with
  | nil =>
    intro vs w
    rw [List.map_nil] at w
    cases w
    exact .nil
  | cons n ns ih =>
    intro vs w
    rw [List.map_cons] at w
    cases w with
    | cons a b =>
      cases a
      exact .cons _ _ (ih _ b)
section
variable {prog : Program} {w : World} {A : Around} {E : Value → Shared → Prop} {s : Shared} {K : Frag}
end
end Att
namespace L2
open PySem PySem.Spec PyProof.Rows
theorem vals_ints : ∀ {vs : List Value} {ns : List Int}, IntsAre vs ns → Vals (ns.map V.int) vs
  | _, _, .nil => .nil
  | _, _, .cons n t h => .cons ⟨t, rfl⟩ (vals_ints h)
end L2
namespace L2
open PySem PySem.Spec PyProof.Rows
end L2
namespace L2
open PySem PySem.Spec PyProof.Rows
def inClass (s : Stmt) (j : Nat) : Stmt := match s with
  | .ClassDef _ _ _ body _ _ _ _ _ _ _ => body.getD j (.Pass ⟨0, 0, 0, 0⟩)
  | _ => .Pass ⟨0, 0, 0, 0⟩
def defArgs (s : Stmt) : Arguments := match s with
  | .FunctionDef _ a _ _ _ _ _ _ _ _ => a
  | _ => { posonlyargs := [], args := [], vararg := none, kwonlyargs := [], kw_defaults := [], kwarg := none, defaults := [] }
def defBody (s : Stmt) : List Stmt := match s with
  | .FunctionDef _ _ b _ _ _ _ _ _ _ => b
  | _ => []
def defScope (s : Stmt) : Scope := match s with
  | .FunctionDef _ _ _ _ _ _ sc _ _ _ => sc
  | _ => { kind := .function, names := [], isGenerator := false, isCoroutine := false }
abbrev CX0 : CXT := fun _ _ _ _ _ _ => False
abbrev E0 : XK := fun _ _ _ => False
theorem pass0 {X : Cx} : Passes CX0 X E0 := fun _ _ _ _ _ _ _ h => h.elim
structure Fun (K : PySem.W.Frag) (x qual : Str) (st : Stmt) (f : Addr) (fd : FuncData) : Prop where
  ex : ∃ (oc : Value) (od : Option Addr) (kV doc pm : Value) (an : Option Addr) (cdv ct : Value) (osl : Array (Option Value)),
    fd = PySem.W.fnOf x qual (defArgs st) (defBody st) (defScope st) .none kV doc pm an cdv ct ∧ K.lookup f = some ⟨oc, od, .func fd, osl⟩ ∧ PySem.W.codeIn K cdv qual = true
  kp : PySem.W.keepIn K (.ref f) = true
section
variable {P : Program} {w : World} {K : PySem.W.Frag} {mg : Str → Option Value} {base : Heap}
theorem Fun.ok {x qual : Str} {st : Stmt} {f : Addr} {fd : FuncData} {N ps : List Str} {k : Nat} {sp : Sp} (F : Fun K x qual st f fd) (S : FnScope N ps (defScope st)) (len : ∀ vs H Q E, sp vs H Q E → vs.length = ps.length)
    (hbody : ∀ (cdv : Value) (A : Around) (outer : List Env) (s : Shared) (H : Hp) (vs : List V) (Q : VK) (E : XK), Room k (A.deeper (envOfC qual (defScope st) s.heap.objs.size f cdv)) → sp vs H Q E →
      ∃ t, PSs (cxOf CX0 P w K mg base N qual (defScope st) f cdv A outer s H E).nox (defBody st) t ∧ t { nx := fun _ H' => Q .non H', rt := Q } (start N vs) H) : FnOk P w K mg base CX0 (k + 1) f fd ps sp := by
  obtain ⟨oc, od, kV, doc, pm, an, cdv, ct, osl, rfl, lk, hcd⟩ := F.ex
  refine fn_of lk hcd S len fun A outer s H vs Q E hr hsp => ?_
  obtain ⟨t, h, q⟩ := hbody cdv A outer s H vs Q E hr hsp
  exact ⟨t, h.nox, q⟩
theorem Fun.binds {x qual : Str} {st : Stmt} {f : Addr} {fd : FuncData} {ps : List Str} (F : Fun K x qual st f fd)
    (h : ∀ (kV doc pm : Value) (an : Option Addr) (cdv ct : Value) (us : List Value), us.length = ps.length → bindArgs (PySem.W.fnOf x qual (defArgs st) (defBody st) (defScope st) .none kV doc pm an cdv ct) ⟨us, []⟩ = pure (ps.zip us)) : Binds K fd ps [] := by
  obtain ⟨oc, od, kV, doc, pm, an, cdv, ct, osl, rfl, lk, hcd⟩ := F.ex
  exact .all (h kV doc pm an cdv ct)
theorem fun_mk {x qual : Str} {st : Stmt} {f : Addr} {oc : Value} {od an : Option Addr} {osl : Array (Option Value)} {kV doc pm cdv ct : Value} (l : K.lookup f = some ⟨oc, od, .func (PySem.W.fnOf x qual (defArgs st) (defBody st) (defScope st) .none kV doc pm an cdv ct), osl⟩)
    (c : PySem.W.codeIn K cdv qual = true) (k : PySem.W.keepIn K (.ref f) = true) : Fun K x qual st f (PySem.W.fnOf x qual (defArgs st) (defBody st) (defScope st) .none kV doc pm an cdv ct) := ⟨⟨oc, od, kV, doc, pm, an, cdv, ct, osl, rfl, l, c⟩, k⟩
end
section
variable {X : Cx}
theorem pv (i : Nat) {x : Str} {pos : Pos} (hN : X.N[i]? = some x := by rfl) (hv : Vis X.env.scope x := by first | exact Or.inl rfl | exact Or.inr (Or.inl rfl) | exact Or.inr (Or.inr rfl)) (hd : (x == ("__debug__" : Str)) = false := by decide)
    (hcd : (x == ("__classdict__" : Str)) = false := by decide) : PE X (.Name x pos) (tVar i) := pe_var hN hv hd hcd
end
theorem iteF {A B : Prop} (h : B) : if false = true then A else B := by
  rw [if_neg Bool.false_ne_true]
  exact h
theorem iteT {A B : Prop} (h : A) : if true = true then A else B := by
  rw [if_pos rfl]
  exact h
def Same (H H' : Hp) : Prop := ∀ b o, H b = some o → H' b = some o
theorem Same.refl (H : Hp) : Same H H := fun _ _ h => h
theorem Same.trans {H H1 H2 : Hp} (a : Same H H1) (b : Same H1 H2) : Same H H2 := fun c o h => b c o (a c o h)
theorem Same.free {H H' : Hp} (e : Same H H') {l : Addr} (h : H' l = Option.none) : H l = Option.none := by
  cases q : H l with
  | none => rfl
  | some o =>
    rw [e l o q] at h
    cases h
theorem Same.seq {K : PySem.W.Frag} {H H' : Hp} {a : Addr} {xs : List V} (e : Same H H') (h : SqL K H a xs) : SqL K H' a xs := by
  rcases h with (h | ⟨o, h⟩) | h
  · exact .inl (.inl (e _ _ h))
  · exact .inl (.inr ⟨o, e _ _ h⟩)
  · exact .inr h
section
variable {κ : Type} [DecidableEq κ]
end
theorem at_of {xs : List V} {z : Int} {j : Nat} {v : V} (e : z = (j : Int)) (h : xs[j]? = some v) : atI xs z = some v := by
  rw [e]
  exact atI_nat h
theorem Same.made {H H1 : Hp} {x dx C : Addr} (nx : H x = Option.none) (nd : H dx = Option.none) (k : ∀ b o, (upd (upd H dx (.own x)) x (.ins C dx [])) b = some o → b ≠ x → H1 b = some o) : Same H H1 := fun b o e =>
  k b o (by rw [upd_ne (ne_of_none e nx), upd_ne (ne_of_none e nd)]; exact e) (ne_of_none e nx)
end L2
namespace My
theorem xor_half (a b : Nat) : (a ^^^ b) / 2 = (a / 2) ^^^ (b / 2) := Nat.xor_div_two_pow (n := 1)
theorem and_half (a b : Nat) : (a &&& b) / 2 = (a / 2) &&& (b / 2) := Nat.and_div_two_pow (n := 1)
theorem xor_low (a b : Nat) : (a ^^^ b) % 2 = (a % 2) ^^^ (b % 2) := Nat.xor_mod_two_pow (n := 1)
theorem and_low (a b : Nat) : (a &&& b) % 2 = (a % 2) &&& (b % 2) := Nat.and_mod_two_pow (n := 1)
theorem or_half (a b : Nat) : (a ||| b) / 2 = (a / 2) ||| (b / 2) := Nat.or_div_two_pow (n := 1)
theorem or_low (a b : Nat) : (a ||| b) % 2 = (a % 2) ||| (b % 2) := Nat.or_mod_two_pow (n := 1)
theorem xa {a b x n : Nat} (h : a / 2 + b / 2 = x / 2 + 2 * (n / 2)) (l : a % 2 + b % 2 = x % 2 + 2 * (n % 2)) : a + b = x + 2 * n := by omega
theorem oa {a b x n : Nat} (h : a / 2 + b / 2 = x / 2 + n / 2) (l : a % 2 + b % 2 = x % 2 + n % 2) : a + b = x + n := by omega
theorem xor_and : ∀ (a b : Nat), a + b = (a ^^^ b) + 2 * (a &&& b) := by
  intro a
  induction a using Nat.strongRecOn with
  | _ a ih =>
    intro b
    by_cases h0 : a = 0
    · subst h0; simp
    · have h := ih (a / 2) (by omega) (b / 2)
      rw [← xor_half, ← and_half] at h
      have l1 := xor_low a b
      have l2 := and_low a b
      rcases Nat.mod_two_eq_zero_or_one a with ha | ha <;> rcases Nat.mod_two_eq_zero_or_one b with hb | hb <;> rw [ha, hb] at l1 l2 <;> simp only [Nat.reduceXor, Nat.reduceAnd, Nat.reduceOr, Nat.xor_self, Nat.and_self, Nat.or_self, Nat.xor_zero, Nat.zero_xor, Nat.and_zero, Nat.zero_and, Nat.or_zero, Nat.zero_or] at l1 l2 <;> exact xa h (by rw [ha, hb, l1, l2])
theorem or_and : ∀ (a b : Nat), a + b = (a ||| b) + (a &&& b) := by
  intro a
  induction a using Nat.strongRecOn with
  | _ a ih =>
    intro b
    by_cases h0 : a = 0
    · subst h0; simp
    · have h := ih (a / 2) (by omega) (b / 2)
      rw [← or_half, ← and_half] at h
      have l1 := or_low a b
      have l2 := and_low a b
      rcases Nat.mod_two_eq_zero_or_one a with ha | ha <;> rcases Nat.mod_two_eq_zero_or_one b with hb | hb <;> rw [ha, hb] at l1 l2 <;> simp only [Nat.reduceXor, Nat.reduceAnd, Nat.reduceOr, Nat.xor_self, Nat.and_self, Nat.or_self, Nat.xor_zero, Nat.zero_xor, Nat.and_zero, Nat.zero_and, Nat.or_zero, Nat.zero_or] at l1 l2 <;> exact oa h (by rw [ha, hb, l1, l2])
end My
namespace My
def P : Nat := 0x82F63B78
def stp (c : Nat) : Nat := if c % 2 = 1 then Nat.xor (c / 2) 0x82F63B78 else c / 2
def sel (c : Nat) : Nat := if c % 2 = 1 then 0x82F63B78 else 0
theorem stp_eq (c : Nat) : stp c = (c / 2) ^^^ sel c := by
  unfold stp sel
  split
  · rfl
  · simp
theorem sel_xor (a b : Nat) : sel (a ^^^ b) = sel a ^^^ sel b := by
  have h : (a ^^^ b) % 2 = (a % 2) ^^^ (b % 2) := Nat.xor_mod_two_pow (n := 1)
  unfold sel
  rw [h]
  rcases Nat.mod_two_eq_zero_or_one a with ha | ha <;> rcases Nat.mod_two_eq_zero_or_one b with hb | hb <;> rw [ha, hb] <;> decide
theorem stp_xor (a b : Nat) : stp (a ^^^ b) = stp a ^^^ stp b := by
  rw [stp_eq, stp_eq, stp_eq, sel_xor]
  have h : (a ^^^ b) / 2 = (a / 2) ^^^ (b / 2) := Nat.xor_div_two_pow (n := 1)
  rw [h]
  rw [Nat.xor_assoc, Nat.xor_assoc]
  congr 1
  rw [← Nat.xor_assoc, ← Nat.xor_assoc, Nat.xor_comm (sel a)]
theorem stp_even (q : Nat) : stp (2 * q) = q := by
  unfold stp
  rw [if_neg (by omega)]
  omega
def stp4 (c : Nat) : Nat := stp (stp (stp (stp c)))
theorem stp4_xor (a b : Nat) : stp4 (a ^^^ b) = stp4 a ^^^ stp4 b := by
  unfold stp4
  rw [stp_xor, stp_xor, stp_xor, stp_xor]
theorem stp4_16 (q : Nat) : stp4 (16 * q) = q := by
  unfold stp4
  have h : 16 * q = 2 * (2 * (2 * (2 * q))) := by omega
  rw [h, stp_even, stp_even, stp_even, stp_even]
def tab : List Nat := [0, 274646895, 549293790, 820201905, 1098587580, 1361435347, 1640403810, 1905808397, 2197175160, 2460548119, 2722870694, 2987750089, 3280807620, 3553878443, 3811616794, 4084100981]
def nib (x : Nat) : Nat := (x / 16) ^^^ tab.getD (x % 16) 0
def turn (c b : Nat) : Nat := nib (nib (c ^^^ b))
def tab8 : List Nat := [0, 4067132163, 3778769143, 324072436, 3348797215, 904991772, 648144872, 3570033899, 2329499855, 2024987596, 1809983544, 2575936315, 1296289744, 3207089363, 2893594407, 1578318884, 274646895, 3795141740, 4049975192, 51262619, 3619967088, 632279923, 922689671, 3298075524, 2592579488, 1760304291, 2075979607, 2312596564, 1562183871, 2943781820, 3156637768, 1313733451, 549293790, 3537243613, 3246849577, 871202090, 3878099393, 357341890, 102525238, 4101499445, 2858735121, 1477399826, 1264559846, 3107202533, 1845379342, 2677391885, 2361733625, 2125378298, 820201905, 3263744690, 3520608582, 598981189, 4151959214, 85089709, 373468761, 3827903834, 3124367742, 1213305469, 1526817161, 2842354314, 2107672161, 2412447074, 2627466902, 1861252501, 1098587580, 3004210879, 2688576843, 1378610760, 2262928035, 1955203488, 1742404180, 2511436119, 3416409459, 969524848, 714683780, 3639785095, 205050476, 4266873199, 3976438427, 526918040, 1361435347, 2739821008, 2954799652, 1114974503, 2529119692, 1691668175, 2005155131, 2247081528, 3690758684, 697762079, 986182379, 3366744552, 476452099, 3993867776, 4250756596, 255256311, 1640403810, 2477592673, 2164122517, 1922457750, 2791048317, 1412925310, 1197962378, 3037525897, 3944729517, 427051182, 170179418, 4165941337, 746937522, 3740196785, 3451792453, 1070968646, 1905808397, 2213795598, 2426610938, 1657317369, 3053634322, 1147748369, 1463399397, 2773627110, 4215344322, 153784257, 444234805, 3893493558, 1021025245, 3467647198, 3722505002, 797665321, 2197175160, 1889384571, 1674398607, 2443626636, 1164749927, 3070701412, 2757221520, 1446797203, 137323447, 4198817972, 3910406976, 461344835, 3484808360, 1037989803, 781091935, 3705997148, 2460548119, 1623424788, 1939049696, 2180517859, 1429367560, 2807687179, 3020495871, 1180866812, 410100952, 3927582683, 4182430767, 186734380, 3756733383, 763408580, 1053836080, 3434856499, 2722870694, 1344288421, 1131464017, 2971354706, 1708204729, 2545590714, 2229949006, 1988219213, 680717673, 3673779818, 3383336350, 1002577565, 4010310262, 493091189, 238226049, 4233660802, 2987750089, 1082061258, 1395524158, 2705686845, 1972364758, 2279892693, 2494862625, 1725896226, 952904198, 3399985413, 3656866545, 731699698, 4283874585, 222117402, 510512622, 3959836397, 3280807620, 837199303, 582374963, 3504198960, 68661723, 4135334616, 3844915500, 390545967, 1230274059, 3141532936, 2825850620, 1510247935, 2395924756, 2091215383, 1878366691, 2644384480, 3553878443, 565732008, 854102364, 3229815391, 340358836, 3861050807, 4117890627, 119113024, 1493875044, 2875275879, 3090270611, 1247431312, 2660249211, 1828433272, 2141937292, 2378227087, 3811616794, 291187481, 34330861, 4032846830, 615137029, 3603020806, 3314634738, 939183345, 1776939221, 2609017814, 2295496738, 2058945313, 2926798794, 1545135305, 1330124605, 3173225534, 4084100981, 17165430, 307568514, 3762199681, 888469610, 3332340585, 3587147933, 665062302, 2042050490, 2346497209, 2559330125, 1793573966, 3190661285, 1279665062, 1595330642, 2910671697]
def stp8 (c : Nat) : Nat := stp4 (stp4 c)
theorem stp8_xor (a b : Nat) : stp8 (a ^^^ b) = stp8 a ^^^ stp8 b := by
  unfold stp8
  rw [stp4_xor, stp4_xor]
theorem stp8_256 (q : Nat) : stp8 (256 * q) = q := by
  unfold stp8
  have h : 256 * q = 16 * (16 * q) := by omega
  rw [h, stp4_16, stp4_16]
theorem split256 (x : Nat) : x = (256 * (x / 256)) ^^^ (x % 256) := by
  have h := Nat.two_pow_add_eq_or_of_lt (i := 8) (b := x % 256) (by omega) (x / 256)
  apply Nat.eq_of_testBit_eq
  intro i
  have e : x = 2 ^ 8 * (x / 256) + x % 256 := by omega
  rw [Nat.testBit_xor]
  conv => lhs; rw [e, h, Nat.testBit_or]
  show ((256 * (x / 256)).testBit i || (x % 256).testBit i) = _
  have : (256 * (x / 256)).testBit i = (decide (8 ≤ i) && (x / 256).testBit (i - 8)) := by
    rw [show 256 * (x / 256) = 2 ^ 8 * (x / 256) from rfl, Nat.testBit_two_pow_mul]
  rw [this]
  by_cases hi : 8 ≤ i
  · have : (x % 256).testBit i = false := Nat.testBit_lt_two_pow (Nat.lt_of_lt_of_le (show x % 256 < 2 ^ 8 by omega) (Nat.pow_le_pow_right (by decide) hi))
    simp [this]
  · simp [hi]
theorem tab8_ok : ∀ r, r < 256 → stp8 r = tab8.getD r 0 := by decide +kernel
theorem tab8_length : tab8.length = 256 := by decide +kernel
theorem turn8 {c b : Nat} (hb : b < 256) : Sv13.crcByte c b = (c / 256) ^^^ tab8.getD ((c ^^^ b) % 256) 0 := by
  have e : Sv13.crcByte c b = stp8 (c ^^^ b) := rfl
  rw [e]
  conv => lhs; rw [split256 (c ^^^ b)]
  rw [stp8_xor, stp8_256, tab8_ok _ (Nat.mod_lt _ (by decide))]
  congr 1
  have h : (c ^^^ b) / 256 = (c / 256) ^^^ (b / 256) := Nat.xor_div_two_pow (n := 8)
  rw [h, Nat.div_eq_of_lt hb, Nat.xor_zero]
theorem crcByte_lt {c b : Nat} (hc : c < 2 ^ 32) (hb : b < 256) : Sv13.crcByte c b < 2 ^ 32 := by
  rw [turn8 hb]
  refine Nat.xor_lt_two_pow (n := 32) (by omega) ?_
  have h : ∀ r, r < 256 → tab8.getD r 0 < 2 ^ 32 := by decide +kernel
  exact h _ (Nat.mod_lt _ (by decide))
theorem crc_lt {l : List Nat} {st : Nat} (hs : st < 2 ^ 32) (hl : ∀ x ∈ l, x < 256) : Sv13.crc l st < 2 ^ 32 := by
  have h : ∀ (l : List Nat) (c : Nat), c < 2 ^ 32 → (∀ x ∈ l, x < 256) → l.foldl Sv13.crcByte c < 2 ^ 32 := by
    intro l
    induction l with
    | nil => intro c hc _; exact hc
    | cons x r ih =>
      intro c hc hx
      exact ih _ (crcByte_lt hc (hx x List.mem_cons_self)) fun y hy => hx y (List.mem_cons_of_mem _ hy)
  unfold Sv13.crc
  exact Nat.xor_lt_two_pow (n := 32) (h l _ (Nat.xor_lt_two_pow (n := 32) hs (by decide)) hl) (by decide)
theorem crc_on (a b : List Nat) (st : Nat) : Sv13.crc (a ++ b) st = Sv13.crc b (Sv13.crc a st) := by
  unfold Sv13.crc
  rw [List.foldl_append]
  congr 2
  have : ∀ x y : Nat, Nat.xor (Nat.xor x y) y = x := fun x y => by
    show (x ^^^ y) ^^^ y = x
    rw [Nat.xor_assoc, Nat.xor_self, Nat.xor_zero]
  rw [this]
end My
set_option linter.all false
namespace My
open Sv13
structure BW where
  body : Bytes
  rs : List Nat
  n : Nat
  last : Bytes
def BW.new : BW := ⟨[], [0], 0, []⟩
def BW.sh (iv : Nat) (b : BW) (k : Bytes) : Nat := if b.n % iv ≠ 0 then common b.last k else 0
def BW.put (iv : Nat) (b : BW) (k v : Bytes) : BW :=
  ⟨b.body ++ varint (b.sh iv k) ++ varint (k.length - b.sh iv k) ++ varint v.length ++ k.drop (b.sh iv k) ++ v,
   if b.n % iv ≠ 0 then b.rs else if 0 < b.n then b.rs ++ [b.body.length] else b.rs, b.n + 1, k⟩
def BW.size (b : BW) : Nat := b.body.length + 4 * b.rs.length + 4
def BW.content (b : BW) : Bytes := b.body ++ b.rs.flatMap (little 4) ++ little 4 b.rs.length
def BW.ok (b : BW) : Prop := b.n = 0 → b.last = []
abbrev Blk := List Bytes × Bytes
structure DB where
  blocks : List Blk
  w : BW
  keys : List Bytes
def DB.new : DB := ⟨[], BW.new, []⟩
def DB.step (iv size : Nat) (s : DB) (e : Entry) : DB :=
  if size ≤ (s.w.put iv e.1 e.2).size then ⟨s.blocks ++ [(s.keys ++ [e.1], (s.w.put iv e.1 e.2).content)], BW.new, []⟩ else ⟨s.blocks, s.w.put iv e.1 e.2, s.keys ++ [e.1]⟩
def DB.fin (s : DB) : List Blk := if s.keys = [] then s.blocks else s.blocks ++ [(s.keys, s.w.content)]
def begun (p : Nat) : List Blk → List (Nat × List Bytes)
  | [] => []
  | b :: r => (p, b.1) :: begun (p + b.2.length + 5) r
def pieceKeys (bk : List (Nat × List Bytes)) (i : Nat) : List Bytes := bk.flatMap fun x => if x.1 / 2048 = i then x.2 else []
def pc (bits : Nat) (ks : List Bytes) : Bytes := if ks = [] then [] else filter bits ks
def res (bits : Nat) (bk : List (Nat × List Bytes)) (n : Nat) : Bytes := (List.range n).flatMap fun i => pc bits (pieceKeys bk i)
def offs (bits : Nat) (bk : List (Nat × List Bytes)) (n : Nat) : List Nat := (List.range n).map fun i => (res bits bk i).length
end My
set_option linter.all false
namespace My
open Sv13
def DB.open (iv : Nat) (s : DB) (e : Entry) : DB := ⟨s.blocks, s.w.put iv e.1 e.2, s.keys ++ [e.1]⟩
end My
set_option linter.all false
namespace My
open Sv13
theorem little_succ (k n : Nat) : little (k + 1) n = little k n ++ [n / 256 ^ k % 256] := by
  simp [little, List.range_succ]
theorem little_length (k n : Nat) : (little k n).length = k := by simp [little]
theorem div_pow_succ (n k : Nat) : n / 256 ^ (k + 1) = n / 256 ^ k / 256 := by
  rw [Nat.pow_succ, Nat.div_div_eq_div_mul]
def Sev (n : Nat) (done : Bytes) (rest : Nat) : Prop := ∃ f, sevens 10 n = done ++ sevens (f + 1) rest ∧ rest < 128 ^ (f + 1)
theorem ofLittle_append (a b : Bytes) : ofLittle (a ++ b) = ofLittle a + 256 ^ a.length * ofLittle b := by
  induction a with
  | nil => simp [ofLittle]
  | cons x r ih =>
    have e : ofLittle (x :: r ++ b) = x % 256 + 256 * ofLittle (r ++ b) := rfl
    have e2 : ofLittle (x :: r) = x % 256 + 256 * ofLittle r := rfl
    rw [e, ih, e2, List.length_cons, Nat.pow_succ]
    generalize ofLittle r = p
    generalize ofLittle b = q
    generalize 256 ^ r.length = z
    rw [Nat.mul_add, Nat.mul_comm z 256, Nat.mul_assoc]
    omega
theorem ofLittle_one {x : Nat} (h : x < 256) : ofLittle [x] = x := by
  show x % 256 + 256 * 0 = x
  omega
theorem slice_succ {b : Bytes} {i n x : Nat} (h : b[i + n]? = some x) : slice b i (n + 1) = slice b i n ++ [x] := by
  unfold slice
  rw [List.take_succ, List.getElem?_drop, h]
  rfl
theorem slice_length {b : Bytes} {i n : Nat} (h : i + n ≤ b.length) : (slice b i n).length = n := by
  unfold slice
  rw [List.length_take, List.length_drop]
  omega
theorem ofLittle_slice {b : Bytes} {i n x : Nat} (h : b[i + n]? = some x) (hx : x < 256) : ofLittle (slice b i (n + 1)) = ofLittle (slice b i n) + x * 256 ^ n := by
  have hl : i + n < b.length := (List.getElem?_eq_some_iff.mp h).1
  rw [slice_succ h, ofLittle_append, ofLittle_one hx, slice_length (by omega), Nat.mul_comm]
theorem ofLittle4 {a b c d : Nat} (ha : a < 256) (hb : b < 256) (hc : c < 256) (hd : d < 256) : ofLittle [a, b, c, d] = a + 2 ^ 8 * b + 2 ^ 16 * c + 2 ^ 24 * d := by
  show a % 256 + 256 * (b % 256 + 256 * (c % 256 + 256 * (d % 256 + 256 * 0))) = _
  omega
theorem or_split {a b k : Nat} (ha : a < 2 ^ k) : a ||| (b * 2 ^ k) = a + b * 2 ^ k := by
  have h := Nat.two_pow_add_eq_or_of_lt ha b
  rw [Nat.or_comm, Nat.mul_comm b, ← h, Nat.add_comm]
theorem turn_or {c k : Nat} {m : Nat} (hc : c < 2 ^ 32) (hk : k ≤ 32) (e : m = 2 ^ (32 - k)) : (c / 2 ^ k) ||| (c * m % 2 ^ 32) = c / 2 ^ k + c * m % 2 ^ 32 := by
  subst e
  have h32 : 2 ^ 32 = 2 ^ (32 - k) * 2 ^ k := by rw [← Nat.pow_add]; congr 1; omega
  have e1 : c * 2 ^ (32 - k) % 2 ^ 32 = (c % 2 ^ k) * 2 ^ (32 - k) := by
    rw [h32, Nat.mul_comm (2 ^ (32 - k)) (2 ^ k), Nat.mul_mod_mul_right]
  rw [e1]
  refine or_split ?_
  rw [Nat.div_lt_iff_lt_mul (Nat.two_pow_pos k), ← h32]
  exact hc
theorem word_lt (n : Nat) : word n < 2 ^ 32 := Nat.mod_lt _ (by decide)
theorem xor_lt {a b : Nat} (ha : a < 2 ^ 32) (hb : b < 2 ^ 32) : Nat.xor a b < 2 ^ 32 := Nat.xor_lt_two_pow ha hb
theorem mixed_lt (h w : Nat) : mixed h w < 2 ^ 32 := xor_lt (word_lt _) (Nat.lt_of_le_of_lt (Nat.div_le_self _ _) (word_lt _))
theorem hash_step {h : Nat} {k : Bytes} (hb : ∀ x ∈ k, x < 256) (hl : 4 ≤ k.length) : hashFrom h k = hashFrom (mixed h (ofLittle (k.take 4))) (k.drop 4) := by
  match k, hl with
  | a :: b :: c :: d :: r, _ =>
    have ha := hb a (by simp)
    have hb' := hb b (by simp)
    have hc := hb c (by simp)
    have hd := hb d (by simp)
    show hashFrom (mixed h (a + 2 ^ 8 * b + 2 ^ 16 * c + 2 ^ 24 * d)) r = hashFrom (mixed h (ofLittle [a, b, c, d])) r
    rw [ofLittle4 ha hb' hc hd]
theorem hash_over {h : Nat} {k : Bytes} (h0 : 0 < k.length) (h4 : k.length < 4) : hashFrom h k = Nat.xor (word ((h + ofLittle k) * 0xC6A4A793)) (word ((h + ofLittle k) * 0xC6A4A793) / 2 ^ 24) := by
  match k, h0, h4 with
  | [a], _, _ => rfl
  | [a, b], _, _ => rfl
  | [a, b, c], _, _ => rfl
def HashAt (k : Bytes) (j h : Nat) : Prop := Sv13.hash k = hashFrom h (k.drop (4 * j)) ∧ h < 2 ^ 32
theorem hashAt_start (k : Bytes) : HashAt k 0 (Nat.xor 0xBC9F1D34 (word (k.length * 0xC6A4A793))) := ⟨rfl, xor_lt (by decide) (word_lt _)⟩
theorem hashAt_step {k : Bytes} {j h : Nat} (hb : ∀ x ∈ k, x < 256) (hl : 4 * j + 4 ≤ k.length) (q : HashAt k j h) : HashAt k (j + 1) (mixed h (ofLittle (slice k (4 * j) 4))) := by
  refine ⟨?_, mixed_lt _ _⟩
  rw [q.1, hash_step (fun x hx => hb x (List.mem_of_mem_drop hx)) (by rw [List.length_drop]; omega), List.drop_drop]
  rfl
theorem hashAt_end0 {k : Bytes} {j h : Nat} (hl : k.length ≤ 4 * j) (q : HashAt k j h) : Sv13.hash k = h := by
  rw [q.1, List.drop_eq_nil_of_le hl]
  rfl
theorem hashAt_end {k : Bytes} {j h : Nat} (h0 : 4 * j < k.length) (h4 : k.length < 4 * j + 4) (q : HashAt k j h) :
    Sv13.hash k = Nat.xor (word ((h + ofLittle (slice k (4 * j) (k.length - 4 * j))) * 0xC6A4A793)) (word ((h + ofLittle (slice k (4 * j) (k.length - 4 * j))) * 0xC6A4A793) / 2 ^ 24) := by
  have e : slice k (4 * j) (k.length - 4 * j) = k.drop (4 * j) := by
    unfold slice
    rw [List.take_of_length_le (by rw [List.length_drop]; omega)]
  rw [q.1, hash_over (by rw [List.length_drop]; omega) (by rw [List.length_drop]; omega), e]
theorem hash_lt {k : Bytes} (hb : ∀ x ∈ k, x < 256) : Sv13.hash k < 2 ^ 32 := by
  have go : ∀ n j h, k.length - 4 * j ≤ n → HashAt k j h → Sv13.hash k < 2 ^ 32 := by
    intro n
    induction n with
    | zero => intro j h hl q; rw [hashAt_end0 (by omega) q]; exact q.2
    | succ n ih =>
      intro j h hl q
      by_cases h4 : 4 * j + 4 ≤ k.length
      · exact ih (j + 1) _ (by omega) (hashAt_step hb h4 q)
      · by_cases h0 : 4 * j < k.length
        · rw [hashAt_end h0 (by omega) q]
          exact xor_lt (word_lt _) (Nat.lt_of_le_of_lt (Nat.div_le_self _ _) (word_lt _))
        · rw [hashAt_end0 (by omega) q]; exact q.2
  exact go _ 0 _ (Nat.le_refl _) (hashAt_start k)
def stride (h : Nat) : Nat := word (h / 2 ^ 17 + h * 2 ^ 15)
theorem stride_eq {h : Nat} (hl : h < 2 ^ 32) : (h / 2 ^ 17) ||| (h * 2 ^ 15 % 2 ^ 32) = stride h := by
  rw [turn_or hl (by decide) (by rfl)]
  unfold stride word
  have h1 : h * 2 ^ 15 % 2 ^ 32 = (h % 2 ^ 17) * 2 ^ 15 := by
    rw [show (2 : Nat) ^ 32 = 2 ^ 17 * 2 ^ 15 from rfl, Nat.mul_mod_mul_right]
  have h2 : h / 2 ^ 17 < 2 ^ 15 := by omega
  have h3 : h % 2 ^ 17 < 2 ^ 17 := Nat.mod_lt _ (by decide)
  omega
def markAt (h j n : Nat) : Nat := word (h + j * stride h) % n
theorem marks_eq (k n : Nat) (key : Bytes) : marks k n key = (List.range k).map fun j => markAt (Sv13.hash key) j n := rfl
theorem word_step (h j d : Nat) : (word (h + j * d) + d) % 2 ^ 32 = word (h + (j + 1) * d) := by
  unfold word
  rw [Nat.add_mod, Nat.mod_mod, ← Nat.add_mod, Nat.add_mul, Nat.one_mul, Nat.add_assoc]
theorem marks_lt {k n : Nat} {key : Bytes} (hn : 0 < n) : ∀ m ∈ marks k n key, m < n := by
  intro m h
  rw [marks_eq] at h
  obtain ⟨j, _, rfl⟩ := List.mem_map.mp h
  exact Nat.mod_lt _ hn
end My
set_option linter.all false
namespace My
open Sv13
def kindN (first last : Bool) : Nat := if first = true then (if last = true then 1 else 2) else if last = true then 4 else 3
theorem piece_length (k : Nat) (b : Bytes) : (piece k b).length = 7 + b.length := by
  unfold piece
  rw [List.length_append, List.length_append, little_length, little_length, List.length_cons]
  omega
theorem logged_skip {f at_ : Nat} {first : Bool} {b : Bytes} (h : 32768 < at_ + 7) : logged (f + 1) at_ first b = List.replicate (32768 - at_) 0 ++ logged f 0 first b := by
  conv => lhs; unfold logged
  rw [if_pos (show BLOCK < at_ + 7 from h)]
  rfl
theorem logged_end {f at_ : Nat} {first : Bool} {b : Bytes} (h : at_ + 7 ≤ 32768) (hb : b.length ≤ 32768 - at_ - 7) : logged (f + 1) at_ first b = piece (kindN first true) b := by
  conv => lhs; unfold logged
  have hB : BLOCK = 32768 := rfl
  rw [if_neg (by rw [hB]; omega), hB]
  have e : min b.length (32768 - at_ - 7) = b.length := by omega
  simp only [e, decide_true, if_true, List.take_length]
  rfl
theorem logged_more {f at_ : Nat} {first : Bool} {b : Bytes} (h : at_ + 7 ≤ 32768) (hb : 32768 - at_ - 7 < b.length) :
    logged (f + 1) at_ first b = piece (kindN first false) (b.take (32768 - at_ - 7)) ++ logged f 0 false (b.drop (32768 - at_ - 7)) := by
  conv => lhs; unfold logged
  have hB : BLOCK = 32768 := rfl
  rw [if_neg (by rw [hB]; omega), hB]
  have e : min b.length (32768 - at_ - 7) = 32768 - at_ - 7 := by omega
  have e2 : decide (32768 - at_ - 7 = b.length) = false := decide_eq_false (by omega)
  simp only [e, e2, Bool.false_eq_true, if_false]
  have e3 : ∀ k, (at_ + (piece k (b.take (32768 - at_ - 7))).length) % 32768 = 0 := fun k => by
    rw [piece_length, List.length_take]
    have : at_ + (7 + min (32768 - at_ - 7) b.length) = 32768 := by omega
    rw [this]
  rw [e3]
  rfl
structure Logging (place : Nat) (data : Bytes) (out : Bytes) (begin_ : Nat) (first : Bool) : Prop where
  eq : ∃ f, logged (data.length + 2) (place % 32768) true data = out ++ logged (f + 1) ((place + out.length) % 32768) first (data.drop begin_) ∧ data.length - begin_ ≤ f ∧ (first = true → data.length - begin_ + 1 ≤ f)
  le : begin_ ≤ data.length
  fst : first = true → out = [] ∧ begin_ = 0
  ltr : first = false → (place + out.length) % 32768 = 0 ∧ begin_ < data.length ∧ out.length ≤ 14 * begin_ + 13
theorem Logging.start (place : Nat) (data : Bytes) : Logging place data [] 0 true := by
  refine ⟨⟨data.length + 1, ?_, by omega, fun _ => by omega⟩, Nat.zero_le _, fun _ => ⟨rfl, rfl⟩, fun h => nomatch h⟩
  simp
def padOf (place : Nat) (out : Bytes) : Bytes := if 32768 < (place + out.length) % 32768 + 7 then List.replicate (32768 - (place + out.length) % 32768) 0 else []
def leftOf (place : Nat) (out : Bytes) : Nat := if 32768 < (place + out.length) % 32768 + 7 then 32768 else 32768 - (place + out.length) % 32768
theorem leftOf_ge (place : Nat) (out : Bytes) : 7 ≤ leftOf place out ∧ leftOf place out ≤ 32768 := by
  unfold leftOf
  split <;> omega
theorem padOf_length (place : Nat) (out : Bytes) : (padOf place out).length ≤ 6 := by
  unfold padOf
  split
  · rw [List.length_replicate]; omega
  · exact Nat.zero_le _
theorem pad_at (place : Nat) (out : Bytes) : (place + (out ++ padOf place out).length) % 32768 = 32768 - leftOf place out := by
  unfold padOf leftOf
  split
  · rw [List.length_append, List.length_replicate]
    omega
  · rw [List.append_nil]
    omega
theorem Logging.pad {place : Nat} {data out : Bytes} {b : Nat} {first : Bool} (L : Logging place data out b first) :
    ∃ f, logged (data.length + 2) (place % 32768) true data = (out ++ padOf place out) ++ logged (f + 1) (32768 - leftOf place out) first (data.drop b) ∧ data.length - b ≤ f ∧ (leftOf place out = 32768 ∨ data.length - b + 1 ≤ f) := by
  obtain ⟨f, e, h1, h2⟩ := L.eq
  unfold padOf leftOf
  split
  · rename_i hp
    cases first with
    | false => exact absurd (L.ltr rfl).1 (by omega)
    | true =>
      have h3 := h2 rfl
      obtain ⟨g, rfl⟩ : ∃ g, f = g + 1 := ⟨f - 1, by omega⟩
      refine ⟨g, ?_, by omega, .inl rfl⟩
      rw [e, logged_skip hp, List.append_assoc]
  · rename_i hp
    refine ⟨f, ?_, h1, ?_⟩
    · rw [List.append_nil, e]
      congr 2
      omega
    · cases first with
      | true => exact .inr (h2 rfl)
      | false => exact .inl (by rw [(L.ltr rfl).1])
theorem Logging.done {place : Nat} {data out : Bytes} {b : Nat} {first : Bool} (L : Logging place data out b first) (h : data.length ≤ b + leftOf place out - 7) :
    logged (data.length + 2) (place % 32768) true data = (out ++ padOf place out) ++ piece (kindN first true) (data.drop b) ∧ (out ++ padOf place out).length + 7 + (data.length - b) ≤ 15 * data.length + 26 := by
  obtain ⟨f, e, h1, h2⟩ := L.pad
  have hl := leftOf_ge place out
  have hp := padOf_length place out
  have hle := L.le
  refine ⟨?_, ?_⟩
  · rw [e, logged_end (by omega)]
    rw [List.length_drop]
    omega
  · rw [List.length_append]
    cases first with
    | true =>
      obtain ⟨rfl, rfl⟩ := L.fst rfl
      simp only [List.length_nil] at *
      omega
    | false =>
      have := (L.ltr rfl).2
      omega
theorem Logging.step {place : Nat} {data out : Bytes} {b : Nat} {first : Bool} (L : Logging place data out b first) (h : b + leftOf place out - 7 < data.length) :
    Logging place data ((out ++ padOf place out) ++ piece (kindN first false) ((data.drop b).take (leftOf place out - 7))) (b + leftOf place out - 7) false := by
  obtain ⟨f, e, h1, h2⟩ := L.pad
  have hl := leftOf_ge place out
  have hp := padOf_length place out
  have hle := L.le
  have hat := pad_at place out
  have hlen : ((out ++ padOf place out) ++ piece (kindN first false) ((data.drop b).take (leftOf place out - 7))).length = (out ++ padOf place out).length + leftOf place out := by
    rw [List.length_append, piece_length, List.length_take, List.length_drop]
    omega
  have h0 : (place + ((out ++ padOf place out).length + leftOf place out)) % 32768 = 0 := by omega
  have hb : (data.drop b).drop (leftOf place out - 7) = data.drop (b + leftOf place out - 7) := by
    rw [List.drop_drop]
    congr 1
    omega
  have hmore : logged (f + 1) (32768 - leftOf place out) first (data.drop b) = piece (kindN first false) ((data.drop b).take (leftOf place out - 7)) ++ logged f 0 false (data.drop (b + leftOf place out - 7)) := by
    have hx : 32768 - (32768 - leftOf place out) - 7 = leftOf place out - 7 := by omega
    rw [logged_more (by omega) (by rw [hx, List.length_drop]; omega), hx, hb]
  have hf : 0 < f := by omega
  obtain ⟨g, rfl⟩ : ∃ g, f = g + 1 := ⟨f - 1, by omega⟩
  refine ⟨⟨g, ?_, ?_, (fun z => nomatch z)⟩, by omega, (fun z => nomatch z), fun _ => ⟨by rw [hlen]; exact h0, h, ?_⟩⟩
  · rw [hlen, h0, e, hmore, List.append_assoc, List.append_assoc, List.append_assoc]
  · omega
  · rw [hlen, List.length_append]
    cases first with
    | true =>
      obtain ⟨rfl, rfl⟩ := L.fst rfl
      simp only [List.length_nil] at *
      omega
    | false =>
      have h3 := (L.ltr rfl)
      have h4 : leftOf place out = 32768 := by
        unfold leftOf
        rw [h3.1]
        rfl
      omega
end My
set_option linter.all false
namespace My
open Sv13
end My
set_option linter.all false
namespace My
open Sv13
theorem readSevens_len : ∀ (f : Nat) (b : Bytes) {n : Nat} {r : Bytes}, readSevens f b = some (n, r) → ∃ k, 0 < k ∧ k ≤ b.length ∧ r = b.drop k
  | 0, _, _, _, h => by cases h
  | f + 1, [], _, _, h => by cases h
  | f + 1, c :: t, n, r, h => by
    unfold readSevens at h
    simp only at h
    split at h
    · cases h
      exact ⟨1, by omega, by simp, rfl⟩
    · cases e : readSevens f t with
      | none => rw [e] at h; cases h
      | some x =>
        obtain ⟨n1, r1⟩ := x
        rw [e] at h
        obtain ⟨k, h1, h2, h3⟩ := readSevens_len f t e
        have : r = r1 := by
          have := Option.some.inj h
          exact (congrArg Prod.snd this).symm
        subst this
        exact ⟨k + 1, by omega, by simp; omega, by rw [h3]; rfl⟩
theorem readVarint_len {b : Bytes} {n : Nat} {r : Bytes} (h : readVarint b = some (n, r)) : ∃ k, 0 < k ∧ k ≤ b.length ∧ r = b.drop k := by
  unfold readVarint at h
  cases e : readSevens 10 b with
  | none => rw [e] at h; cases h
  | some x =>
    rw [e] at h
    obtain ⟨n1, r1⟩ := x
    have h : (if n1 < 2 ^ 63 then some (n1, r1) else none) = some (n, r) := h
    split at h
    · cases h
      exact readSevens_len 10 b e
    · cases h
def entryAt (last b : Bytes) : Option (Nat × Bytes × Bytes × Bytes) :=
  (readVarint b).bind fun x => (readVarint x.2).bind fun y => (readVarint y.2).bind fun z =>
    if last.length < x.1 ∨ z.2.length < y.1 + z.1 then none else some (x.1, last.take x.1 ++ z.2.take y.1, slice z.2 y.1 z.1, z.2.drop (y.1 + z.1))
theorem entriesFrom_succ (f at_ : Nat) (last b : Bytes) : entriesFrom (f + 1) at_ last b = if b = [] then some [] else (entryAt last b).bind fun e => (entriesFrom f (at_ + (b.length - e.2.2.2.length)) e.2.1 e.2.2.2).map fun l => (at_, e.1, (e.2.1, e.2.2.1)) :: l := by
  conv => lhs; unfold entriesFrom
  unfold entryAt
  split
  · rfl
  · cases readVarint b with
    | none => rfl
    | some x =>
      simp only [Option.bind_some]
      cases readVarint x.2 with
      | none => rfl
      | some y =>
        simp only [Option.bind_some]
        cases readVarint y.2 with
        | none => rfl
        | some z =>
          simp only [Option.bind_some]
          split
          · rfl
          · rfl
theorem entryAt_some {last b : Bytes} {sh : Nat} {k v r : Bytes} (h : entryAt last b = some (sh, k, v, r)) : ∃ n, 2 < n ∧ n ≤ b.length ∧ r = b.drop n ∧ sh ≤ last.length ∧ k.length ≤ last.length + n := by
  unfold entryAt at h
  cases e1 : readVarint b with
  | none => rw [e1] at h; cases h
  | some x =>
    rw [e1] at h
    simp only [Option.bind_some] at h
    cases e2 : readVarint x.2 with
    | none => rw [e2] at h; cases h
    | some y =>
      rw [e2] at h
      simp only [Option.bind_some] at h
      cases e3 : readVarint y.2 with
      | none => rw [e3] at h; cases h
      | some z =>
        rw [e3] at h
        simp only [Option.bind_some] at h
        obtain ⟨x1, x2⟩ := x
        obtain ⟨y1, y2⟩ := y
        obtain ⟨z1, z2⟩ := z
        obtain ⟨i, i1, i2, rfl⟩ := readVarint_len e1
        obtain ⟨j, j1, j2, rfl⟩ := readVarint_len e2
        obtain ⟨m, m1, m2, rfl⟩ := readVarint_len e3
        simp only [List.length_drop] at j2 m2
        split at h
        · cases h
        · rename_i hn
          simp only [List.length_drop] at hn
          injection h with h
          injection h with ha h
          injection h with hb h
          injection h with hc hd
          subst ha hb hc hd
          refine ⟨i + j + m + (y1 + z1), by omega, by omega, ?_, by omega, ?_⟩
          · simp only [List.drop_drop, Nat.add_assoc]
          · simp only [List.length_append, List.length_take, List.length_drop]
            omega
def restartsOf (c : Bytes) : Option (List Nat) :=
  let n := ofLittle (c.drop (c.length - 4))
  if c.length < 4 ∨ n = 0 ∨ c.length < 4 + 4 * n then none else
    let rs := (List.range n).map fun i => ofLittle (slice c (c.length - 4 - 4 * n + 4 * i) 4)
    if rs.head? = some 0 ∧ (rs.zip (rs.drop 1)).all (fun x => decide (x.1 < x.2)) = true then some rs else none
structure BR where
  rs : List Nat
  body : Bytes
  p : Nat
  met : Nat
  sh : Nat
  key : Bytes
  val : Bytes
def BR.new (c : Bytes) : Option BR := (restartsOf c).map fun rs => ⟨rs, c.take (c.length - 4 - 4 * rs.length), 0, 1, 0, [], []⟩
def BR.adv (b : BR) : Option (Option BR) :=
  if b.p = b.body.length then (if b.met < b.rs.length then none else some none)
  else match entryAt b.key (b.body.drop b.p) with
  | none => none
  | some (sh, k, v, r) =>
    if b.rs[b.met]? = some b.p ∧ 0 < sh then none
    else if 0 < b.p ∧ before b.key k = false then none
    else some (some ⟨b.rs, b.body, b.body.length - r.length, if b.rs[b.met]? = some b.p then b.met + 1 else b.met, sh, k, v⟩)
def BR.list : Nat → BR → Option (List Entry)
  | 0, _ => none
  | f + 1, b => match b.adv with
    | none => none
    | some none => some []
    | some (some b') => (BR.list f b').map fun l => (b'.key, b'.val) :: l
def BR.rest (b : BR) : Option (List Entry) := BR.list (b.body.length - b.p + 1) b
theorem BR.adv_some {b b' : BR} (h : b.adv = some (some b')) : b'.rs = b.rs ∧ b'.body = b.body ∧ b.p < b'.p ∧ (b.p ≤ b.body.length → b'.p ≤ b.body.length) ∧ b'.sh ≤ b.key.length ∧ b'.key.length ≤ b.key.length + (b'.p - b.p) ∧ (b.p ≠ b.body.length) ∧ (0 < b.p → before b.key b'.key = true) := by
  unfold BR.adv at h
  split at h
  · split at h <;> cases h
  · rename_i hp
    cases e : entryAt b.key (b.body.drop b.p) with
    | none => rw [e] at h; cases h
    | some x =>
      obtain ⟨sh, k, v, r⟩ := x
      rw [e] at h
      simp only at h
      obtain ⟨n, h1, h2, h3, h4, h5⟩ := entryAt_some e
      rw [List.length_drop] at h2
      split at h
      · cases h
      · split at h
        · cases h
        · rename_i hr
          injection h with h
          injection h with h
          subst h
          subst h3
          have hl : ((b.body.drop b.p).drop n).length = b.body.length - b.p - n := by simp only [List.length_drop]
          refine ⟨rfl, rfl, ?_, fun _ => ?_, h4, ?_, hp, fun hb => ?_⟩
          · show b.p < b.body.length - ((b.body.drop b.p).drop n).length
            omega
          · show b.body.length - ((b.body.drop b.p).drop n).length ≤ b.body.length
            omega
          · show k.length ≤ b.key.length + (b.body.length - ((b.body.drop b.p).drop n).length - b.p)
            omega
          · show before b.key k = true
            cases q : before b.key k with
            | true => rfl
            | false => exact absurd ⟨hb, q⟩ hr
theorem BR.list_fuel : ∀ (f : Nat) (b : BR), b.p ≤ b.body.length → b.body.length - b.p + 1 ≤ f → BR.list f b = b.rest := by
  have key : ∀ (f g : Nat) (b : BR), b.p ≤ b.body.length → b.body.length - b.p + 1 ≤ f → b.body.length - b.p + 1 ≤ g → BR.list f b = BR.list g b := by
    intro f
    induction f with
    | zero => intro g b _ h; omega
    | succ f ih =>
      intro g b hp h1 h2
      obtain ⟨g, rfl⟩ : ∃ k, g = k + 1 := ⟨g - 1, by omega⟩
      show (match b.adv with | none => none | some none => some [] | some (some b') => (BR.list f b').map fun l => (b'.key, b'.val) :: l) = (match b.adv with | none => none | some none => some [] | some (some b') => (BR.list g b').map fun l => (b'.key, b'.val) :: l)
      cases e : b.adv with
      | none => rfl
      | some o =>
        cases o with
        | none => rfl
        | some b' =>
          obtain ⟨h3, h4, h5, h6, _⟩ := BR.adv_some e
          have h6 := h6 hp
          rw [← h4] at h6
          simp only
          rw [ih g b' h6 (by rw [h4]; omega) (by rw [h4]; omega)]
  intro f b hp hf
  exact key f _ b hp hf (Nat.le_refl _)
theorem BR.rest_step {b b' : BR} (hp : b.p ≤ b.body.length) (h : b.adv = some (some b')) : b.rest = b'.rest.map fun l => (b'.key, b'.val) :: l := by
  obtain ⟨h3, h4, h5, h6, _⟩ := BR.adv_some h
  have h6 := h6 hp
  unfold BR.rest
  show (match b.adv with | none => none | some none => some [] | some (some b') => (BR.list (b.body.length - b.p) b').map fun l => (b'.key, b'.val) :: l) = _
  rw [h]
  simp only
  rw [BR.list_fuel _ b' (by rw [h4]; exact h6) (by rw [h4]; omega)]
  rfl
theorem BR.rest_none {b : BR} (h : b.adv = none) : b.rest = none := by
  unfold BR.rest
  show (match b.adv with | none => none | some none => some [] | some (some b') => (BR.list (b.body.length - b.p) b').map fun l => (b'.key, b'.val) :: l) = _
  rw [h]
theorem BR.rest_end {b : BR} (h : b.adv = some none) : b.rest = some [] := by
  unfold BR.rest
  show (match b.adv with | none => none | some none => some [] | some (some b') => (BR.list (b.body.length - b.p) b').map fun l => (b'.key, b'.val) :: l) = _
  rw [h]
end My
set_option linter.all false
namespace My
open Sv13
theorem before_trans : ∀ {a b c : Bytes}, before a b = true → before b c = true → before a c = true
  | [], [], _, h, _ => by cases h
  | [], _ :: _, [], _, h => by cases h
  | [], _ :: _, _ :: _, _, _ => rfl
  | _ :: _, [], _, h, _ => by cases h
  | _ :: _, _ :: _, [], _, h => by cases h
  | x :: r, y :: s, z :: t, h1, h2 => by
    have h1 : (decide (x < y) || (x == y && before r s)) = true := h1
    have h2 : (decide (y < z) || (y == z && before s t)) = true := h2
    show (decide (x < z) || (x == z && before r t)) = true
    simp only [Bool.or_eq_true, Bool.and_eq_true, decide_eq_true_eq, beq_iff_eq] at h1 h2 ⊢
    rcases h1 with h1 | ⟨h1, h1'⟩
    · rcases h2 with h2 | ⟨h2, _⟩
      · exact .inl (by omega)
      · exact .inl (by omega)
    · rcases h2 with h2 | ⟨h2, h2'⟩
      · exact .inl (by omega)
      · exact .inr ⟨by omega, before_trans h1' h2'⟩
theorem before_self : ∀ a : Bytes, before a a = false
  | [] => rfl
  | x :: r => by
    show (decide (x < x) || (x == x && before r r)) = false
    rw [before_self r]
    simp
theorem before_total : ∀ {a b : Bytes}, before a b = false → a = b ∨ before b a = true
  | [], [], _ => .inl rfl
  | [], _ :: _, h => by cases h
  | _ :: _, [], _ => .inr rfl
  | x :: r, y :: s, h => by
    have h : (decide (x < y) || (x == y && before r s)) = false := h
    simp only [Bool.or_eq_false_iff, decide_eq_false_iff_not, Bool.and_eq_false_imp, beq_iff_eq] at h
    by_cases e : x = y
    · subst e
      rcases before_total (h.2 rfl) with q | q
      · exact .inl (by rw [q])
      · refine .inr ?_
        show (decide (x < x) || (x == x && before s r)) = true
        rw [q]
        simp
    · refine .inr ?_
      show (decide (y < x) || (y == x && before s r)) = true
      simp
      exact .inl (by omega)
theorem le_before {a b c : Bytes} (h1 : before b a = false) (h2 : before b c = true) : before a c = true := by
  rcases before_total h1 with q | q
  · rw [← q]; exact h2
  · exact before_trans q h2
theorem before_le {a b c : Bytes} (h1 : before a b = true) (h2 : before c b = false) : before a c = true := by
  rcases before_total h2 with q | q
  · rw [q]; exact h1
  · exact before_trans h1 q
theorem before_asymm {a b : Bytes} (h : before a b = true) : before b a = false := by
  cases q : before b a with
  | false => rfl
  | true =>
    have := before_trans h q
    rw [before_self] at this
    cases this
theorem pair_zip {α : Type} {R : α → α → Bool} (tr : ∀ a b c, R a b = true → R b c = true → R a c = true) : ∀ l : List α, ((l.zip (l.drop 1)).all fun x => R x.1 x.2) = true ↔ l.Pairwise fun x y => R x y = true
  | [] => by simp
  | [a] => by simp
  | a :: b :: r => by
    have ih := pair_zip tr (b :: r)
    have e : ((a :: b :: r).zip ((a :: b :: r).drop 1)) = (a, b) :: ((b :: r).zip ((b :: r).drop 1)) := rfl
    rw [e, List.all_cons, Bool.and_eq_true, ih]
    constructor
    · rintro ⟨h1, h2⟩
      refine List.pairwise_cons.mpr ⟨fun x hx => ?_, h2⟩
      rcases List.mem_cons.mp hx with rfl | hx
      · exact h1
      · exact tr _ _ _ h1 ((List.pairwise_cons.mp h2).1 x hx)
    · intro h
      obtain ⟨h1, h2⟩ := List.pairwise_cons.mp h
      exact ⟨h1 b List.mem_cons_self, h2⟩
theorem rising_iff (l : List Bytes) : rising l = true ↔ l.Pairwise fun x y => before x y = true := pair_zip (R := before) (fun _ _ _ h1 h2 => before_trans h1 h2) l
theorem lt_zip (l : List Nat) : ((l.zip (l.drop 1)).all fun x => decide (x.1 < x.2)) = true ↔ l.Pairwise (· < ·) := by
  rw [pair_zip (R := fun x y : Nat => decide (x < y)) (fun a b c h1 h2 => by simp only [decide_eq_true_eq] at *; omega) l]
  simp only [decide_eq_true_eq]
def greedy (rs : List Nat) : Nat → List (Nat × Nat × Entry) → Bool
  | met, [] => decide (rs.length ≤ met)
  | met, e :: l => if rs[met]? = some e.1 then (e.2.1 == 0) && greedy rs (met + 1) l else greedy rs met l
def okK : Bool → Bytes → List Entry → Bool
  | _, _, [] => true
  | c, last, e :: r => (!c || before last e.1) && okK true e.1 r
theorem okK_iff : ∀ (l : List Entry) (c : Bool) (last : Bytes), okK c last l = true ↔ (c = true → ∀ e, l.head? = some e → before last e.1 = true) ∧ (l.map fun e => e.1).Pairwise fun x y => before x y = true
  | [], c, last => by simp [okK]
  | e :: r, c, last => by
    unfold okK
    rw [Bool.and_eq_true, okK_iff r true e.1, List.map_cons, List.pairwise_cons]
    constructor
    · rintro ⟨h1, h2, h3⟩
      refine ⟨fun hc x hx => ?_, fun x hx => ?_, h3⟩
      · have : e = x := by simpa using hx
        subst this
        rw [hc] at h1
        simpa using h1
      · obtain ⟨y, hy, rfl⟩ := List.mem_map.mp hx
        cases r with
        | nil => cases hy
        | cons z t =>
          have hz := h2 rfl z rfl
          rcases List.mem_cons.mp hy with rfl | hy
          · exact hz
          · rw [List.map_cons, List.pairwise_cons] at h3
            exact before_trans hz (h3.1 _ (List.mem_map.mpr ⟨y, hy, rfl⟩))
    · rintro ⟨h1, h2, h3⟩
      refine ⟨?_, fun _ x hx => ?_, h3⟩
      · cases c with
        | false => rfl
        | true => simpa using h1 rfl e rfl
      · exact h2 _ (List.mem_map.mpr ⟨x, List.mem_of_mem_head? (by rw [hx]; rfl), rfl⟩)
theorem BR.list_eq : ∀ (f : Nat) (b : BR), b.p ≤ b.body.length → BR.list f b = (entriesFrom f b.p b.key (b.body.drop b.p)).bind fun l =>
    if greedy b.rs b.met l = true ∧ okK (decide (0 < b.p)) b.key (l.map fun e => e.2.2) = true then some (l.map fun e => e.2.2) else none
  | 0, b, _ => rfl
  | f + 1, b, hp => by
    rw [entriesFrom_succ]
    show (match b.adv with | none => none | some none => some [] | some (some b') => (BR.list f b').map fun l => (b'.key, b'.val) :: l) = _
    by_cases h0 : b.p = b.body.length
    · have e1 : b.body.drop b.p = [] := List.drop_eq_nil_of_le (by omega)
      rw [if_pos e1]
      unfold BR.adv
      rw [if_pos h0]
      show _ = if greedy b.rs b.met [] = true ∧ okK (decide (0 < b.p)) b.key [] = true then some [] else none
      unfold greedy okK
      by_cases hm : b.met < b.rs.length
      · rw [if_pos hm, if_neg (by rw [decide_eq_true_eq]; omega)]
      · rw [if_neg hm, if_pos (by rw [decide_eq_true_eq]; exact ⟨by omega, rfl⟩)]
    · have e1 : ¬ b.body.drop b.p = [] := by
        intro z
        have := congrArg List.length z
        rw [List.length_drop, List.length_nil] at this
        omega
      rw [if_neg e1]
      unfold BR.adv
      rw [if_neg h0]
      cases e : entryAt b.key (b.body.drop b.p) with
      | none => rfl
      | some x =>
        obtain ⟨sh, k, v, r⟩ := x
        obtain ⟨n, n1, n2, rfl, _⟩ := entryAt_some e
        rw [List.length_drop] at n2
        simp only [Option.bind_some]
        have hlen : ((b.body.drop b.p).drop n).length = b.body.length - b.p - n := by simp only [List.length_drop]
        have hp' : b.p + ((b.body.drop b.p).length - ((b.body.drop b.p).drop n).length) = b.body.length - ((b.body.drop b.p).drop n).length := by
          rw [hlen, List.length_drop]
          omega
        have hdr : b.body.drop (b.body.length - ((b.body.drop b.p).drop n).length) = (b.body.drop b.p).drop n := by
          rw [List.drop_drop]
          congr 1
          rw [List.length_drop]
          omega
        have hpos : decide (0 < b.body.length - ((b.body.drop b.p).drop n).length) = true := by
          rw [hlen, decide_eq_true_eq]
          omega
        rw [hp']
        by_cases hr : b.rs[b.met]? = some b.p
        · by_cases hsh : 0 < sh
          · rw [if_pos ⟨hr, hsh⟩]
            simp only
            cases entriesFrom f (b.body.length - ((b.body.drop b.p).drop n).length) k ((b.body.drop b.p).drop n) with
            | none => rfl
            | some l =>
              simp only [Option.map_some, Option.bind_some]
              rw [if_neg]
              rintro ⟨z, _⟩
              unfold greedy at z
              rw [if_pos hr] at z
              simp at z
              omega
          · rw [if_neg (fun z => hsh z.2)]
            have hsh0 : sh = 0 := by omega
            subst hsh0
            by_cases hk : 0 < b.p ∧ before b.key k = false
            · rw [if_pos hk]
              simp only
              cases entriesFrom f (b.body.length - ((b.body.drop b.p).drop n).length) k ((b.body.drop b.p).drop n) with
              | none => rfl
              | some l =>
                simp only [Option.map_some, Option.bind_some]
                rw [if_neg]
                rintro ⟨_, z⟩
                simp only [List.map_cons] at z
                unfold okK at z
                rw [decide_eq_true hk.1, hk.2] at z
                simp at z
            · rw [if_neg hk]
              simp only
              rw [BR.list_eq f _ (by show b.body.length - _ ≤ b.body.length; omega)]
              simp only
              rw [hdr, hpos]
              cases entriesFrom f (b.body.length - ((b.body.drop b.p).drop n).length) k ((b.body.drop b.p).drop n) with
              | none => rfl
              | some l =>
                simp only [Option.map_some, Option.bind_some, List.map_cons]
                have g1 : greedy b.rs b.met ((b.p, 0, (k, v)) :: l) = greedy b.rs (b.met + 1) l := by
                  conv => lhs; unfold greedy
                  rw [if_pos hr]
                  simp
                have g2 : okK (decide (0 < b.p)) b.key ((k, v) :: l.map fun e => e.2.2) = okK true k (l.map fun e => e.2.2) := by
                  conv => lhs; unfold okK
                  have : (!decide (0 < b.p) || before b.key k) = true := by
                    by_cases q : 0 < b.p
                    · rw [decide_eq_true q]
                      cases z : before b.key k with
                      | true => rfl
                      | false => exact absurd ⟨q, z⟩ hk
                    · rw [decide_eq_false q]; rfl
                  rw [this, Bool.true_and]
                rw [g1, g2, if_pos hr]
                split <;> rfl
        · rw [if_neg (fun z => hr z.1)]
          by_cases hk : 0 < b.p ∧ before b.key k = false
          · rw [if_pos hk]
            simp only
            cases entriesFrom f (b.body.length - ((b.body.drop b.p).drop n).length) k ((b.body.drop b.p).drop n) with
            | none => rfl
            | some l =>
              simp only [Option.map_some, Option.bind_some]
              rw [if_neg]
              rintro ⟨_, z⟩
              simp only [List.map_cons] at z
              unfold okK at z
              rw [decide_eq_true hk.1, hk.2] at z
              simp at z
          · rw [if_neg hk]
            simp only
            rw [BR.list_eq f _ (by show b.body.length - _ ≤ b.body.length; omega)]
            simp only
            rw [hdr, hpos]
            cases entriesFrom f (b.body.length - ((b.body.drop b.p).drop n).length) k ((b.body.drop b.p).drop n) with
            | none => rfl
            | some l =>
              simp only [Option.map_some, Option.bind_some, List.map_cons]
              have g1 : greedy b.rs b.met ((b.p, sh, (k, v)) :: l) = greedy b.rs b.met l := by
                conv => lhs; unfold greedy
                rw [if_neg hr]
              have g2 : okK (decide (0 < b.p)) b.key ((k, v) :: l.map fun e => e.2.2) = okK true k (l.map fun e => e.2.2) := by
                conv => lhs; unfold okK
                have : (!decide (0 < b.p) || before b.key k) = true := by
                  by_cases q : 0 < b.p
                  · rw [decide_eq_true q]
                    cases z : before b.key k with
                    | true => rfl
                    | false => exact absurd ⟨q, z⟩ hk
                  · rw [decide_eq_false q]; rfl
                rw [this, Bool.true_and]
              rw [g1, g2, if_neg hr]
              split <;> rfl
end My
set_option linter.all false
namespace My
open Sv13
theorem ef_rise : ∀ (f at_ : Nat) (last b : Bytes) {l : List (Nat × Nat × Entry)}, entriesFrom f at_ last b = some l → (∀ e ∈ l, at_ ≤ e.1) ∧ l.Pairwise fun x y => x.1 < y.1
  | 0, _, _, _, _, h => by cases h
  | f + 1, at_, last, b, l, h => by
    rw [entriesFrom_succ] at h
    split at h
    · cases h
      exact ⟨(fun e he => nomatch he), List.Pairwise.nil⟩
    · cases e : entryAt last b with
      | none => rw [e] at h; cases h
      | some x =>
        obtain ⟨sh, k, v, r⟩ := x
        rw [e] at h
        simp only [Option.bind_some] at h
        obtain ⟨n, n1, n2, rfl, _⟩ := entryAt_some e
        cases e2 : entriesFrom f (at_ + (b.length - (b.drop n).length)) k (b.drop n) with
        | none => rw [e2] at h; cases h
        | some l' =>
          rw [e2] at h
          simp only [Option.map_some] at h
          obtain rfl := (Option.some.inj h).symm
          obtain ⟨h1, h2⟩ := ef_rise f _ _ _ e2
          have hl : b.length - (b.drop n).length = n := by rw [List.length_drop]; omega
          rw [hl] at h1
          refine ⟨fun y hy => ?_, List.pairwise_cons.mpr ⟨fun y hy => ?_, h2⟩⟩
          · rcases List.mem_cons.mp hy with rfl | hy
            · exact Nat.le_refl _
            · have := h1 y hy
              omega
          · have := h1 y hy
            show at_ < y.1
            omega
theorem ef_head {f : Nat} {b : Bytes} {l : List (Nat × Nat × Entry)} (h : entriesFrom f 0 [] b = some l) (hl : l ≠ []) : ∃ e r, l = (0, 0, e) :: r := by
  cases f with
  | zero => cases h
  | succ f =>
    rw [entriesFrom_succ] at h
    split at h
    · cases h
      exact absurd rfl hl
    · cases e : entryAt [] b with
      | none => rw [e] at h; cases h
      | some x =>
        obtain ⟨sh, k, v, r⟩ := x
        rw [e] at h
        simp only [Option.bind_some] at h
        obtain ⟨n, n1, n2, rfl, h4, _⟩ := entryAt_some e
        have : sh = 0 := by simpa using h4
        subst this
        cases e2 : entriesFrom f (0 + (b.length - (b.drop n).length)) k (b.drop n) with
        | none => rw [e2] at h; cases h
        | some l' =>
          rw [e2] at h
          exact ⟨_, _, (Option.some.inj h).symm⟩
theorem any_none {l : List (Nat × Nat × Entry)} {r : Nat} (h : ∀ e ∈ l, e.1 ≠ r) : (l.any fun e => e.1 == r && e.2.1 == 0) = false := by
  rw [List.any_eq_false]
  intro e he
  have := h e he
  simp [this]
theorem greedy_all {rs : List Nat} (hrs : rs.Pairwise (· < ·)) : ∀ (l : List (Nat × Nat × Entry)) (met : Nat), (l.Pairwise fun x y => x.1 < y.1) → greedy rs met l = (rs.drop met).all fun r => l.any fun e => e.1 == r && e.2.1 == 0
  | [], met, _ => by
    unfold greedy
    by_cases h : rs.length ≤ met
    · rw [decide_eq_true h, List.drop_eq_nil_of_le h]
      rfl
    · rw [decide_eq_false h]
      rw [List.drop_eq_getElem_cons (by omega)]
      rfl
  | e :: l, met, hl => by
    obtain ⟨h1, h2⟩ := List.pairwise_cons.mp hl
    have ih := fun m => greedy_all hrs l m h2
    have hd : (rs.drop met).Pairwise (· < ·) := hrs.sublist (List.drop_sublist _ _)
    unfold greedy
    by_cases h : rs[met]? = some e.1
    · rw [if_pos h, ih]
      obtain ⟨hm, em⟩ := List.getElem?_eq_some_iff.mp h
      rw [List.drop_eq_getElem_cons hm, em] at hd ⊢
      obtain ⟨d1, d2⟩ := List.pairwise_cons.mp hd
      rw [List.all_cons, List.any_cons, any_none (fun x hx => by have := h1 x hx; omega)]
      simp only [beq_self_eq_true, Bool.true_and, Bool.or_false]
      congr 1
      rw [Bool.eq_iff_iff, List.all_eq_true, List.all_eq_true]
      constructor
      · intro q r hr
        rw [List.any_cons, q r hr, Bool.or_true]
      · intro q r hr
        have hq := q r hr
        have hlt := d1 r hr
        rw [List.any_cons] at hq
        have : (e.1 == r) = false := by simp; omega
        rw [this] at hq
        simpa using hq
    · rw [if_neg h, ih]
      cases q : rs.drop met with
      | nil => rfl
      | cons r0 t =>
        rw [q] at hd
        obtain ⟨d1, d2⟩ := List.pairwise_cons.mp hd
        have hr0 : rs[met]? = some r0 := by
          have : (rs.drop met)[0]? = some r0 := by rw [q]; rfl
          simpa using this
        have hne : r0 ≠ e.1 := fun z => h (by rw [hr0, z])
        by_cases hlt : r0 < e.1
        · have z1 : (l.any fun e => e.1 == r0 && e.2.1 == 0) = false := any_none fun x hx => by have := h1 x hx; omega
          rw [List.all_cons, List.all_cons, List.any_cons, z1]
          have : (e.1 == r0) = false := by simp; omega
          rw [this]
          rfl
        · rw [Bool.eq_iff_iff, List.all_eq_true, List.all_eq_true]
          have hall : ∀ r ∈ r0 :: t, (e.1 == r) = false := fun r hr => by
            rcases List.mem_cons.mp hr with rfl | hr
            · simp; omega
            · have := d1 r hr
              simp
              omega
          constructor
          · intro z r hr
            rw [List.any_cons, z r hr, Bool.or_true]
          · intro z r hr
            have hz := z r hr
            rw [List.any_cons, hall r hr] at hz
            simpa using hz
theorem block_run (c : Bytes) : (BR.new c).bind BR.rest = (entriesOf c).bind fun l => if rising (l.map fun e => e.1) = true then some l else none := by
  unfold BR.new restartsOf entriesOf
  simp only
  generalize hn : ofLittle (c.drop (c.length - 4)) = n
  by_cases hbad : c.length < 4 ∨ n = 0 ∨ c.length < 4 + 4 * n
  · rw [if_pos hbad, if_pos hbad]
    rfl
  · rw [if_neg hbad, if_neg hbad]
    have hbl : (c.take (c.length - 4 - 4 * n)).length = c.length - 4 - 4 * n := by rw [List.length_take]; omega
    rw [hbl]
    generalize hrs : ((List.range n).map fun i => ofLittle (slice c (c.length - 4 - 4 * n + 4 * i) 4)) = rs
    have hrl : rs.length = n := by rw [← hrs]; simp
    by_cases hok : rs.head? = some 0 ∧ ((rs.zip (rs.drop 1)).all fun x => decide (x.1 < x.2)) = true
    · rw [if_pos hok, Option.map_some, Option.bind_some]
      unfold BR.rest
      simp only [hrl]
      rw [BR.list_eq _ _ (Nat.zero_le _)]
      simp only [List.drop_zero, Nat.sub_zero, hbl, Nat.lt_irrefl, decide_false]
      cases e : entriesFrom (c.length - 4 - 4 * n + 1) 0 [] (c.take (c.length - 4 - 4 * n)) with
      | none => rfl
      | some l =>
        simp only [Option.bind_some]
        have hp : rs.Pairwise (· < ·) := (lt_zip rs).mp hok.2
        obtain ⟨_, hpl⟩ := ef_rise _ _ _ _ e
        have hg := greedy_all hp l 1 hpl
        obtain ⟨rs', rfl⟩ : ∃ t, rs = 0 :: t := by
          cases rs with
          | nil => simp at hok
          | cons a t => exact ⟨t, by have := hok.1; simp at this; rw [this]⟩
        have hiff : greedy (0 :: rs') 1 l = true ↔ ((0 :: rs').head? = some 0 ∧ (((0 :: rs').zip ((0 :: rs').drop 1)).all fun x => decide (x.1 < x.2)) = true ∧ (l = [] → (0 :: rs') = [0]) ∧ (l ≠ [] → ((0 :: rs').all fun r => l.any fun e => e.1 == r && e.2.1 == 0) = true)) := by
          constructor
          · intro hgr
            refine ⟨hok.1, hok.2, fun hl => ?_, fun hl => ?_⟩
            · subst hl
              unfold greedy at hgr
              simp only [decide_eq_true_eq, List.length_cons] at hgr
              have : rs'.length = 0 := by omega
              rw [List.length_eq_zero_iff.mp this]
            · obtain ⟨x, t, rfl⟩ := ef_head e hl
              rw [hg] at hgr
              rw [List.all_cons, List.any_cons]
              simp only [beq_self_eq_true, Bool.and_self, Bool.true_or, Bool.true_and]
              exact hgr
          · rintro ⟨_, _, z1, z2⟩
            by_cases hl : l = []
            · subst hl
              have : rs' = [] := by simpa using z1 rfl
              subst this
              rfl
            · have z3 := z2 hl
              rw [List.all_cons, Bool.and_eq_true] at z3
              rw [hg]
              exact z3.2
        have hk : okK false [] (l.map fun e => e.2.2) = true ↔ rising ((l.map fun e => e.2.2).map fun e => e.1) = true := by
          rw [okK_iff, rising_iff]
          constructor
          · exact fun z => z.2
          · exact fun z => ⟨(fun q => nomatch q), z⟩
        by_cases h1 : greedy (0 :: rs') 1 l = true
        · rw [if_pos (hiff.mp h1), Option.bind_some]
          by_cases h2 : okK false [] (l.map fun e => e.2.2) = true
          · rw [if_pos ⟨h1, h2⟩, if_pos (hk.mp h2)]
          · rw [if_neg (fun z => h2 z.2), if_neg (fun z => h2 (hk.mpr z))]
        · rw [if_neg (fun z => h1 z.1), if_neg (fun z => h1 (hiff.mpr z))]
          rfl
    · rw [if_neg hok]
      show none = _
      cases entriesFrom (c.length - 4 - 4 * n + 1) 0 [] (c.take (c.length - 4 - 4 * n)) with
      | none => rfl
      | some l =>
        simp only [Option.bind_some]
        rw [if_neg (fun z => hok ⟨z.1, z.2.1⟩)]
        rfl
end My
set_option linter.all false
namespace My
open Sv13
def blkRun (t : Bytes) (h : Handle) : Option (List Entry) := (blockAt t h).bind fun c => (BR.new c).bind BR.rest
def hsOf : Nat → List Entry → Option (List (Bytes × Handle))
  | _, [] => some []
  | e, x :: r => (handleOf x.2).bind fun h => if h.at_ < e then none else (hsOf (h.at_ + h.size + 5) r).map fun l => (x.1, h) :: l
def prevOk (prev : Option Bytes) (k : Bytes) : Bool := match prev with
  | some pk => before pk k
  | none => true
def lastKey (d : Bytes) (l : List Entry) : Bytes := match l.getLast? with
  | some e => e.1
  | none => d
theorem lastKey_cons (d : Bytes) (e : Entry) (l : List Entry) : lastKey d (e :: l) = lastKey e.1 l := by
  unfold lastKey
  cases l with
  | nil => rfl
  | cons x r => rw [List.getLast?_cons_cons]; cases q : (x :: r).getLast? with
    | none => simp at q
    | some y => rfl
def midRest (R : Option (List Entry)) (b : BR) (ik : Bytes) : Option (List Entry) := b.rest.bind fun l => if before ik (lastKey b.key l) = true then none else R.map fun es => l ++ es
def restFrom (t : Bytes) : Option Bytes → List (Bytes × Handle) → Option (List Entry)
  | _, [] => some []
  | prev, (ik, h) :: r => (blockAt t h).bind fun c => (BR.new c).bind fun b => match b.adv with
    | some (some b1) => if prevOk prev b1.key = true then (midRest (restFrom t (some ik) r) b1 ik).map fun es => (b1.key, b1.val) :: es else none
    | _ => none
theorem mid_step {R : Option (List Entry)} {b b' : BR} {ik : Bytes} (hp : b.p ≤ b.body.length) (h : b.adv = some (some b')) : midRest R b ik = (midRest R b' ik).map fun es => (b'.key, b'.val) :: es := by
  unfold midRest
  rw [BR.rest_step hp h]
  cases b'.rest with
  | none => rfl
  | some l =>
    simp only [Option.map_some, Option.bind_some]
    rw [lastKey_cons]
    split
    · rfl
    · cases R with
      | none => rfl
      | some es => rfl
theorem mid_end {R : Option (List Entry)} {b : BR} {ik : Bytes} (h : b.adv = some none) : midRest R b ik = if before ik b.key = true then none else R := by
  unfold midRest
  rw [BR.rest_end h]
  simp only [Option.bind_some]
  show (if before ik b.key = true then none else R.map fun es => [] ++ es) = _
  split
  · rfl
  · cases R with
    | none => rfl
    | some es => rfl
theorem mid_fail {R : Option (List Entry)} {b : BR} {ik : Bytes} (h : b.adv = none) : midRest R b ik = none := by
  unfold midRest
  rw [BR.rest_none h]
  rfl
theorem new_p {c : Bytes} {b : BR} (h : BR.new c = some b) : b.p = 0 ∧ b.key = [] ∧ b.val = [] ∧ b.met = 1 ∧ b.sh = 0 := by
  unfold BR.new at h
  cases e : restartsOf c with
  | none => rw [e] at h; cases h
  | some rs =>
    rw [e] at h
    obtain rfl := (Option.some.inj h).symm
    exact ⟨rfl, rfl, rfl, rfl, rfl⟩
theorem restFrom_cons (t : Bytes) (prev : Option Bytes) (ik : Bytes) (h : Handle) (r : List (Bytes × Handle)) : restFrom t prev ((ik, h) :: r) = (blkRun t h).bind fun l => match l with
    | [] => none
    | e :: l' => if prevOk prev e.1 = true ∧ before ik (lastKey e.1 l') = false then (restFrom t (some ik) r).map fun es => (e :: l') ++ es else none := by
  conv => lhs; unfold restFrom
  unfold blkRun
  cases blockAt t h with
  | none => rfl
  | some c =>
    simp only [Option.bind_some]
    cases hn : BR.new c with
    | none => rfl
    | some b =>
      simp only [Option.bind_some]
      have hp : b.p ≤ b.body.length := by rw [(new_p hn).1]; exact Nat.zero_le _
      cases ha : b.adv with
      | none => rw [BR.rest_none ha]; rfl
      | some o =>
        cases o with
        | none => rw [BR.rest_end ha]; rfl
        | some b1 =>
          rw [BR.rest_step hp ha]
          simp only
          unfold midRest
          cases b1.rest with
          | none =>
            simp only [Option.bind_none, Option.map_none]
            split <;> rfl
          | some l =>
            simp only [Option.bind_some, Option.map_some]
            cases restFrom t (some ik) r with
            | none =>
              simp only [Option.map_none, ite_self]
            | some es =>
              simp only [Option.map_some]
              by_cases h1 : prevOk prev b1.key = true
              · rw [if_pos h1]
                cases h2 : before ik (lastKey b1.key l) with
                | true => rw [if_pos rfl, if_neg (by simp)]; rfl
                | false => rw [if_neg (by simp), if_pos ⟨h1, rfl⟩]; rfl
              · rw [if_neg h1, if_neg (fun z => h1 z.1)]
abbrev Blk3 := Bytes × Handle × List Entry
def rd (t : Bytes) (e : Entry) : Option Blk3 := (handleOf e.2).bind fun h => ((blockAt t h).bind entriesOf).map fun l => (e.1, h, l)
def turnFrom : Nat → List Blk3 → Bool
  | _, [] => true
  | e, b :: r => !decide (b.2.1.at_ < e) && turnFrom (b.2.1.at_ + b.2.1.size + 5) r
def okOne (prev : Option Bytes) (ik : Bytes) : List Entry → Bool
  | [] => false
  | e :: l => rising ((e :: l).map fun e => e.1) && (prevOk prev e.1 && !before ik (lastKey e.1 l))
def okB : Option Bytes → List Blk3 → Bool
  | _, [] => true
  | prev, b :: r => okOne prev b.1 b.2.2 && okB (some b.1) r
theorem blkRun_eq (t : Bytes) (h : Handle) : blkRun t h = ((blockAt t h).bind entriesOf).bind fun l => if rising (l.map fun e => e.1) = true then some l else none := by
  unfold blkRun
  cases blockAt t h with
  | none => rfl
  | some c => simp only [Option.bind_some]; exact block_run c
theorem run_map (t : Bytes) : ∀ (ix : List Entry) (prev : Option Bytes) (e0 : Nat), (hsOf e0 ix).bind (fun hs => (restFrom t prev hs).map fun es => (hs, es)) = (ix.mapM (rd t)).bind fun bs =>
    if turnFrom e0 bs = true ∧ okB prev bs = true then some (bs.map (fun b => (b.1, b.2.1)), bs.flatMap fun b => b.2.2) else none
  | [], prev, e0 => rfl
  | x :: r, prev, e0 => by
    rw [List.mapM_cons]
    unfold hsOf
    show _ = (((handleOf x.2).bind fun h => ((blockAt t h).bind entriesOf).map fun l => (x.1, h, l)).bind fun b => (r.mapM (rd t)).bind fun bs => some (b :: bs)).bind _
    cases handleOf x.2 with
    | none => rfl
    | some h =>
      simp only [Option.bind_some]
      have ih := run_map t r (some x.1) (h.at_ + h.size + 5)
      have hb := blkRun_eq t h
      cases hc : (blockAt t h).bind entriesOf with
      | none =>
        rw [hc] at hb
        have hb : blkRun t h = none := hb
        simp only [Option.map_none, Option.bind_none]
        split
        · rfl
        · cases hsOf (h.at_ + h.size + 5) r with
          | none => rfl
          | some hs =>
            simp only [Option.map_some, Option.bind_some]
            rw [restFrom_cons, hb]
            rfl
      | some l =>
        rw [hc] at hb
        simp only [Option.bind_some] at hb
        simp only [Option.map_some, Option.bind_some]
        by_cases ht : h.at_ < e0
        · rw [if_pos ht]
          simp only [Option.bind_none]
          cases r.mapM (rd t) with
          | none => rfl
          | some bs =>
            simp only [Option.bind_some]
            rw [if_neg]
            rintro ⟨z, _⟩
            unfold turnFrom at z
            simp only at z
            rw [decide_eq_true ht] at z
            simp at z
        · rw [if_neg ht]
          have hl : ∀ hs, restFrom t prev ((x.1, h) :: hs) = if okOne prev x.1 l = true then (restFrom t (some x.1) hs).map fun es => l ++ es else none := fun hs => by
            rw [restFrom_cons, hb]
            cases l with
            | nil =>
              have : rising (([] : List Entry).map fun e => e.1) = true := rfl
              rw [if_pos this]
              rfl
            | cons e l =>
              by_cases hr : rising ((e :: l).map fun e => e.1) = true
              · rw [if_pos hr]
                unfold okOne
                simp only [Option.bind_some, hr, Bool.true_and, Bool.and_eq_true, Bool.not_eq_true']
              · rw [if_neg hr]
                simp only [Option.bind_none]
                rw [if_neg]
                intro z
                unfold okOne at z
                rw [Bool.and_eq_true] at z
                exact hr z.1
          have hrhs : ((r.mapM (rd t)).bind fun bs => some ((x.1, h, l) :: bs)).bind (fun bs => if turnFrom e0 bs = true ∧ okB prev bs = true then some (bs.map (fun b => (b.1, b.2.1)), bs.flatMap fun b => b.2.2) else none) =
              if okOne prev x.1 l = true then ((r.mapM (rd t)).bind fun bs => if turnFrom (h.at_ + h.size + 5) bs = true ∧ okB (some x.1) bs = true then some (bs.map (fun b => (b.1, b.2.1)), bs.flatMap fun b => b.2.2) else none).map fun y => ((x.1, h) :: y.1, l ++ y.2) else none := by
            cases r.mapM (rd t) with
            | none => simp only [Option.bind_none, Option.map_none, ite_self]
            | some bs =>
              simp only [Option.bind_some]
              have e1 : turnFrom e0 ((x.1, h, l) :: bs) = turnFrom (h.at_ + h.size + 5) bs := by
                conv => lhs; unfold turnFrom
                simp only
                rw [decide_eq_false ht]
                rfl
              have e2 : okB prev ((x.1, h, l) :: bs) = (okOne prev x.1 l && okB (some x.1) bs) := rfl
              rw [e1, e2]
              generalize okOne prev x.1 l = cc
              cases cc with
              | false => simp
              | true =>
                rw [if_pos rfl, Bool.true_and]
                split
                · rfl
                · rfl
          rw [hrhs, ← ih]
          cases hsOf (h.at_ + h.size + 5) r with
          | none => simp only [Option.map_none, Option.bind_none, ite_self]
          | some hs =>
            simp only [Option.map_some, Option.bind_some]
            rw [hl hs]
            split
            · cases restFrom t (some x.1) hs with
              | none => rfl
              | some es => rfl
            · rfl
end My
set_option linter.all false
namespace My
open Sv13
def flatK (bs : List Blk3) : List Bytes := bs.flatMap fun b => b.2.2.map fun e => e.1
theorem turn_in : ∀ (bs : List Blk3) (e0 : Nat), turnFrom e0 bs = true ↔ (∀ b, bs.head? = some b → e0 ≤ b.2.1.at_) ∧ inTurn bs = true
  | [], e0 => by simp [turnFrom, inTurn]
  | [b], e0 => by
    unfold turnFrom turnFrom inTurn
    simp
  | b :: c :: r, e0 => by
    have ih := turn_in (c :: r) (b.2.1.at_ + b.2.1.size + 5)
    unfold turnFrom
    rw [Bool.and_eq_true, ih]
    have e : inTurn (b :: c :: r) = (decide (b.2.1.at_ + b.2.1.size + 5 ≤ c.2.1.at_) && inTurn (c :: r)) := rfl
    rw [e, Bool.and_eq_true]
    simp only [Bool.not_eq_true', decide_eq_false_iff_not, decide_eq_true_eq, List.head?_cons, Option.some.injEq, forall_eq']
    constructor
    · rintro ⟨h1, h2, h3⟩
      exact ⟨by omega, h2, h3⟩
    · rintro ⟨h1, h2, h3⟩
      exact ⟨by omega, h2, h3⟩
def fstOk (prev : Option Bytes) (bs : List Blk3) : Prop := ∀ b e, bs.head? = some b → b.2.2.head? = some e → prevOk prev e.1 = true
theorem le_last {e : Entry} {l : List Entry} (hr : ((e :: l).map fun e => e.1).Pairwise fun x y => before x y = true) {x : Bytes} (hx : x ∈ (e :: l).map fun e => e.1) : before (lastKey e.1 l) x = false := by
  have hl : (e :: l).getLast? = some ((e :: l).getLast (by simp)) := List.getLast?_eq_some_getLast (by simp)
  have e1 : lastKey e.1 l = ((e :: l).getLast (by simp)).1 := by
    rw [← lastKey_cons [] e l]
    unfold lastKey
    rw [hl]
  have e2 : (e :: l).map (fun e => e.1) = ((e :: l).dropLast.map fun e => e.1) ++ [((e :: l).getLast (by simp)).1] := by
    conv => lhs; rw [← List.dropLast_concat_getLast (show (e :: l) ≠ [] by simp), List.map_append]
    rfl
  rw [e1]
  rw [e2] at hx hr
  rw [List.pairwise_append] at hr
  rcases List.mem_append.mp hx with q | q
  · exact before_asymm (hr.2.2 x q _ (by simp))
  · have : x = ((e :: l).getLast (by simp)).1 := by simpa using q
    rw [this]
    exact before_self _
theorem okB_iff : ∀ (bs : List Blk3) (prev : Option Bytes), okB prev bs = true ↔ (flatK bs).Pairwise (fun x y => before x y = true) ∧ keysOk bs = true ∧ fstOk prev bs
  | [], prev => by
    simp only [okB, flatK, List.flatMap_nil, List.Pairwise.nil, keysOk, true_and, true_iff]
    intro b e h
    cases h
  | b :: r, prev => by
    obtain ⟨ik, hd, l⟩ := b
    have ih := okB_iff r (some ik)
    show (okOne prev ik l && okB (some ik) r) = true ↔ _
    rw [Bool.and_eq_true, ih]
    have eF : flatK ((ik, hd, l) :: r) = (l.map fun e => e.1) ++ flatK r := rfl
    have eK : keysOk ((ik, hd, l) :: r) = ((match l.getLast? with | some e => !before ik e.1 | none => false) && ((match r.head?.bind fun c => c.2.2.head? with | some e => before ik e.1 | none => true) && keysOk r)) := rfl
    rw [eF, eK, List.pairwise_append]
    cases l with
    | nil =>
      constructor
      · rintro ⟨z, _⟩
        cases z
      · rintro ⟨_, z, _⟩
        simp at z
    | cons e l =>
      have hgl : (e :: l).getLast? = some ((e :: l).getLast (by simp)) := List.getLast?_eq_some_getLast (by simp)
      have hlk : lastKey e.1 l = ((e :: l).getLast (by simp)).1 := by
        rw [← lastKey_cons [] e l]
        unfold lastKey
        rw [hgl]
      rw [hgl]
      simp only
      rw [← hlk]
      unfold okOne
      simp only [Bool.and_eq_true, Bool.not_eq_true']
      rw [rising_iff]
      constructor
      · rintro ⟨⟨h1, h2, h3⟩, h4, h5, h6⟩
        have hnext : (match r.head?.bind fun c => c.2.2.head? with | some e => before ik e.1 | none => true) = true := by
          cases r with
          | nil => rfl
          | cons c r' =>
            simp only [List.head?_cons, Option.bind_some]
            cases q : c.2.2.head? with
            | none => rfl
            | some f => exact h6 c f rfl q
        refine ⟨⟨h1, h4, fun x hx y hy => ?_⟩, ⟨h3, hnext, h5⟩, fun b' e' q1 q2 => ?_⟩
        · have hx1 := le_last h1 hx
          have hik : before ik y = true := by
            cases r with
            | nil => cases hy
            | cons c r' =>
              obtain ⟨ck, ch, cl⟩ := c
              cases cl with
              | nil =>
                have : keysOk ((ck, ch, []) :: r') = true := h5
                unfold keysOk at this
                simp at this
              | cons f cl' =>
                have hf : before ik f.1 = true := h6 _ f rfl rfl
                have hy' : y ∈ f.1 :: ((cl'.map fun e => e.1) ++ flatK r') := hy
                have h4' : (f.1 :: ((cl'.map fun e => e.1) ++ flatK r')).Pairwise fun x y => before x y = true := h4
                rcases List.mem_cons.mp hy' with rfl | hy'
                · exact hf
                · exact before_trans hf ((List.pairwise_cons.mp h4').1 y hy')
          have h7 : before (lastKey e.1 l) y = true := le_before h3 hik
          exact le_before hx1 h7
        · have : (ik, hd, e :: l) = b' := by simpa using q1
          subst this
          have : e = e' := by simpa using q2
          subst this
          exact h2
      · rintro ⟨⟨h1, h4, hc⟩, ⟨h3, hnext, h5⟩, h6⟩
        refine ⟨⟨h1, h6 _ e rfl rfl, h3⟩, h4, h5, fun c f q1 q2 => ?_⟩
        rw [q1] at hnext
        simp only [Option.bind_some] at hnext
        rw [q2] at hnext
        exact hnext
theorem okB_keys : ∀ (bs : List Blk3) (prev : Option Bytes), okB prev bs = true → (bs.map fun b => b.1).Pairwise (fun x y => before x y = true) ∧ ∀ pk, prev = some pk → ∀ k ∈ bs.map fun b => b.1, before pk k = true
  | [], prev, _ => ⟨List.Pairwise.nil, fun _ _ k hk => nomatch hk⟩
  | b :: r, prev, h => by
    obtain ⟨ik, hd, l⟩ := b
    have h : (okOne prev ik l && okB (some ik) r) = true := h
    rw [Bool.and_eq_true] at h
    obtain ⟨h1, h2⟩ := okB_keys r (some ik) h.2
    have hone := h.1
    cases l with
    | nil => cases hone
    | cons e l =>
      unfold okOne at hone
      simp only [Bool.and_eq_true, Bool.not_eq_true'] at hone
      obtain ⟨o1, o2, o3⟩ := hone
      rw [rising_iff] at o1
      have hpk : ∀ pk, prev = some pk → before pk ik = true := fun pk hp => by
        subst hp
        have o2 : before pk e.1 = true := o2
        have o4 : before (lastKey e.1 l) e.1 = false := le_last o1 List.mem_cons_self
        exact before_le (before_le o2 o4) o3
      refine ⟨List.pairwise_cons.mpr ⟨fun k hk => h2 ik rfl k hk, h1⟩, fun pk hp k hk => ?_⟩
      rcases List.mem_cons.mp hk with rfl | hk
      · exact hpk pk hp
      · exact before_trans (hpk pk hp) (h2 ik rfl k hk)
def runFilter (t : Bytes) (m : Handle) : Option (Option Bytes) := (blkRun t m).bind fun l => match l with
  | [] => some none
  | [e] => if e.1 ≠ NAME then none else (handleOf e.2).bind fun h => (blockAt t h).bind fun c => (offsetsOf c).map fun _ => some c
  | _ => none
def runTable (t : Bytes) : Option (List (Bytes × Handle) × Option Bytes) := if t.length < 48 ∨ t.drop (t.length - 8) ≠ little 8 MAGIC then none else
  (readHandle (slice t (t.length - 48) 40)).bind fun m => (readHandle m.2).bind fun i => (runFilter t m.1).bind fun fb => (blkRun t i.1).bind fun ix => (hsOf 0 ix).map fun hs => (hs, fb)
def wholeRun (t : Bytes) : Option (List (Bytes × Handle) × Option Bytes × List Entry) := (runTable t).bind fun x => (restFrom t none x.1).map fun es => (x.1, x.2, es)
theorem mapM_keys (t : Bytes) : ∀ {ix : List Entry} {bs : List Blk3}, ix.mapM (rd t) = some bs → ix.map (fun e => e.1) = bs.map fun b => b.1
  | [], bs, h => by
    cases h
    rfl
  | x :: r, bs, h => by
    rw [List.mapM_cons] at h
    have h : ((rd t x).bind fun b => (r.mapM (rd t)).bind fun bs => some (b :: bs)) = some bs := h
    cases e1 : rd t x with
    | none => rw [e1] at h; cases h
    | some b =>
      rw [e1] at h
      simp only [Option.bind_some] at h
      cases e2 : r.mapM (rd t) with
      | none => rw [e2] at h; cases h
      | some bs' =>
        rw [e2] at h
        simp only [Option.bind_some] at h
        obtain rfl := (Option.some.inj h).symm
        rw [List.map_cons, List.map_cons, mapM_keys t e2]
        congr 1
        unfold rd at e1
        cases q : handleOf x.2 with
        | none => rw [q] at e1; cases e1
        | some hh =>
          rw [q] at e1
          simp only [Option.bind_some] at e1
          cases q2 : (blockAt t hh).bind entriesOf with
          | none => rw [q2] at e1; cases e1
          | some l =>
            rw [q2] at e1
            obtain rfl := (Option.some.inj e1).symm
            rfl
def metaTo (t : Bytes) (B : List Blk3) : List Entry → Option Table
  | [] => some ⟨B, none⟩
  | [e] => if e.1 ≠ NAME then none else (handleOf e.2).bind fun h => (blockAt t h).bind fun c => (offsetsOf c).map fun _ => ⟨B, some c⟩
  | _ => none
theorem tableOf_eq (t : Bytes) : tableOf t = if t.length < 48 ∨ t.drop (t.length - 8) ≠ little 8 MAGIC then none else
  (readHandle (slice t (t.length - 48) 40)).bind fun m => (readHandle m.2).bind fun i =>
  ((blockAt t m.1).bind entriesOf).bind fun meta_ => ((blockAt t i.1).bind entriesOf).bind fun index => (index.mapM (rd t)).bind fun blocks =>
  if rising (blocks.flatMap fun b => b.2.2.map fun e => e.1) = false ∨ keysOk blocks = false ∨ inTurn blocks = false then none else metaTo t blocks meta_ := rfl
theorem filt_eq (t : Bytes) (m : Handle) (B : List Blk3) : (((blockAt t m).bind entriesOf).bind fun meta_ => metaTo t B meta_) = (runFilter t m).map fun fb => ⟨B, fb⟩ := by
  unfold runFilter
  rw [blkRun_eq]
  cases (blockAt t m).bind entriesOf with
  | none => rfl
  | some l =>
    simp only [Option.bind_some]
    match l with
    | [] => rfl
    | [e] =>
      have : rising ([e].map fun e => e.1) = true := rfl
      rw [if_pos this]
      simp only [Option.bind_some]
      show (if e.1 ≠ NAME then none else (handleOf e.2).bind fun h => (blockAt t h).bind fun c => (offsetsOf c).map fun _ => (⟨B, some c⟩ : Table)) = _
      split
      · rfl
      · cases handleOf e.2 with
        | none => rfl
        | some h =>
          simp only [Option.bind_some]
          cases blockAt t h with
          | none => rfl
          | some c =>
            simp only [Option.bind_some]
            cases offsetsOf c with
            | none => rfl
            | some _ => rfl
    | e :: f :: r =>
      show none = _
      split <;> rfl
theorem table_run (t : Bytes) : (tableOf t).map (fun T => (T.blocks.map (fun b => (b.1, b.2.1)), T.filter, T.entries)) = wholeRun t := by
  rw [tableOf_eq]
  unfold wholeRun runTable
  split
  · rfl
  · cases readHandle (slice t (t.length - 48) 40) with
    | none => rfl
    | some m =>
      simp only [Option.bind_some]
      cases readHandle m.2 with
      | none => rfl
      | some i =>
        simp only [Option.bind_some]
        rw [show blkRun t i.1 = ((blockAt t i.1).bind entriesOf).bind fun l => if rising (l.map fun e => e.1) = true then some l else none from blkRun_eq t i.1]
        -- the parts in the other order
        have hswap : ∀ (index : List Entry), ((index.mapM (rd t)).bind fun blocks => if rising (blocks.flatMap fun b => b.2.2.map fun e => e.1) = false ∨ keysOk blocks = false ∨ inTurn blocks = false then none else some blocks) =
            if rising (index.map fun e => e.1) = true then ((hsOf 0 index).bind fun hs => (restFrom t none hs).map fun es => (hs, es)).bind (fun y => (index.mapM (rd t))) else none := fun index => by
          rw [run_map]
          cases e : index.mapM (rd t) with
          | none => simp only [Option.bind_none, ite_self]
          | some bs =>
            simp only [Option.bind_some]
            have hk := mapM_keys t e
            by_cases hok : turnFrom 0 bs = true ∧ okB none bs = true
            · obtain ⟨k1, _⟩ := okB_keys bs none hok.2
              obtain ⟨o1, o2, o3⟩ := (okB_iff bs none).mp hok.2
              have o4 := ((turn_in bs 0).mp hok.1).2
              rw [if_pos hok, hk, if_pos ((rising_iff _).mpr k1), Option.bind_some, if_neg]
              have o5 : rising (flatK bs) = true := (rising_iff _).mpr o1
              rintro (z | z | z)
              · have z : rising (flatK bs) = false := z
                rw [o5] at z
                cases z
              · rw [o2] at z
                cases z
              · rw [o4] at z
                cases z
            · rw [if_neg hok, Option.bind_none, ite_self, if_pos]
              by_cases z1 : rising (flatK bs) = true
              · by_cases z2 : keysOk bs = true
                · by_cases z3 : inTurn bs = true
                  · exact absurd ⟨(turn_in bs 0).mpr ⟨fun _ _ => Nat.zero_le _, z3⟩, (okB_iff bs none).mpr ⟨(rising_iff _).mp z1, z2, fun _ _ _ _ => rfl⟩⟩ hok
                  · exact .inr (.inr (by simpa using z3))
                · exact .inr (.inl (by simpa using z2))
              · exact .inl (by simpa [flatK] using z1)
        have hbl : ∀ (index : List Entry) (meta_ : List Entry), ((index.mapM (rd t)).bind fun blocks => if rising (blocks.flatMap fun b => b.2.2.map fun e => e.1) = false ∨ keysOk blocks = false ∨ inTurn blocks = false then none else metaTo t blocks meta_) = ((index.mapM (rd t)).bind fun blocks => if rising (blocks.flatMap fun b => b.2.2.map fun e => e.1) = false ∨ keysOk blocks = false ∨ inTurn blocks = false then none else some blocks).bind fun blocks => metaTo t blocks meta_ := fun index meta_ => by
          cases index.mapM (rd t) with
          | none => rfl
          | some bs =>
            simp only [Option.bind_some]
            split
            · rfl
            · rfl
        have hcomm : ∀ {α β γ : Type} (x : Option α) (y : Option β) (f : α → β → Option γ), (x.bind fun a => y.bind fun b => f a b) = y.bind fun b => x.bind fun a => f a b := by
          intro α β γ x y f
          cases x <;> cases y <;> rfl
        rw [hcomm]
        simp only [hbl]
        have hcomm2 : ∀ {α β γ : Type} (x : Option α) (y : Option β) (f : α → β → Option γ), (x.bind fun a => y.bind fun b => f a b) = y.bind fun b => x.bind fun a => f a b := hcomm
        rw [hcomm2 (runFilter t m.1)]
        cases (blockAt t i.1).bind entriesOf with
        | none => simp only [Option.bind_none, Option.map_none]
        | some index =>
          simp only [Option.bind_some]
          rw [hcomm]
          simp only [filt_eq]
          rw [hswap index]
          by_cases hr : rising (index.map fun e => e.1) = true
          · rw [if_pos hr, if_pos hr]
            simp only [Option.bind_some]
            have hrm := run_map t index none 0
            cases e : index.mapM (rd t) with
            | none =>
              rw [e] at hrm
              simp only [Option.bind_none] at hrm
              cases q : hsOf 0 index with
              | none =>
                simp only [Option.bind_none, Option.map_none]
                cases runFilter t m.1 <;> rfl
              | some hs =>
                rw [q] at hrm
                simp only [Option.bind_some] at hrm
                have q2 : restFrom t none hs = none := by
                  cases q3 : restFrom t none hs with
                  | none => rfl
                  | some es => rw [q3] at hrm; cases hrm
                simp only [Option.bind_some, q2, Option.map_none, Option.bind_none, Option.map_some]
                cases runFilter t m.1 with
                | none => rfl
                | some fb => simp only [Option.bind_some, q2, Option.map_none]
            | some bs =>
              rw [e] at hrm
              simp only [Option.bind_some] at hrm
              cases q : hsOf 0 index with
              | none =>
                simp only [Option.bind_none, Option.map_none]
                cases runFilter t m.1 <;> rfl
              | some hs =>
                rw [q] at hrm
                simp only [Option.bind_some] at hrm
                cases q3 : restFrom t none hs with
                | none =>
                  simp only [Option.bind_some, q3, Option.map_none, Option.bind_none, Option.map_some]
                  cases runFilter t m.1 with
                  | none => rfl
                  | some fb => simp only [Option.bind_some, q3, Option.map_none]
                | some es =>
                  rw [q3] at hrm
                  simp only [Option.map_some] at hrm
                  have hc : turnFrom 0 bs = true ∧ okB none bs = true := by
                    by_cases z : turnFrom 0 bs = true ∧ okB none bs = true
                    · exact z
                    · rw [if_neg z] at hrm
                      cases hrm
                  rw [if_pos hc] at hrm
                  injection hrm with hrm
                  injection hrm with a1 a2
                  subst a1 a2
                  simp only [Option.bind_some, q3, Option.map_some]
                  cases runFilter t m.1 with
                  | none => rfl
                  | some fb =>
                    simp only [Option.bind_some, q3, Option.map_some]
                    rfl
          · rw [if_neg hr, if_neg hr]
            simp only [Option.bind_none, Option.map_none]
end My
set_option linter.all false
namespace My
open Sv13
theorem all_range {R : Nat → Nat} {f : Nat → Nat → Bool} (n : Nat) : ((((List.range n).map R).zip (((List.range n).map R).drop 1)).all fun x => f x.1 x.2) = true ↔ ∀ j, j + 1 < n → f (R j) (R (j + 1)) = true := by
  rw [List.all_eq_true]
  constructor
  · intro h j hj
    have hl : j < (((List.range n).map R).zip (((List.range n).map R).drop 1)).length := by simp; omega
    have := h _ (List.getElem_mem hl)
    simpa [Nat.add_comm] using this
  · intro h x hx
    obtain ⟨j, hj, rfl⟩ := List.mem_iff_getElem.mp hx
    have hj' : j + 1 < n := by
      simp at hj
      omega
    have := h j hj'
    simpa [Nat.add_comm] using this
def rsAt (c : Bytes) (b j : Nat) : Nat := ofLittle (slice c (b + 4 * j) 4)
theorem restarts_gen {c : Bytes} {n : Nat} (h4 : 4 ≤ c.length) (hn : ofLittle (slice c (c.length - 4) 4) = n) (hb : ¬ (n = 0 ∨ c.length < 4 + 4 * n)) :
    restartsOf c = if ((List.range n).map (rsAt c (c.length - 4 - 4 * n))).head? = some 0 ∧ ((((List.range n).map (rsAt c (c.length - 4 - 4 * n))).zip (((List.range n).map (rsAt c (c.length - 4 - 4 * n))).drop 1)).all fun x => decide (x.1 < x.2)) = true then some ((List.range n).map (rsAt c (c.length - 4 - 4 * n))) else none := by
  have hs : slice c (c.length - 4) 4 = c.drop (c.length - 4) := by
    unfold slice
    rw [List.take_of_length_le (by rw [List.length_drop]; omega)]
  rw [hs] at hn
  unfold restartsOf
  simp only [hn]
  rw [if_neg (by rintro (z | z); omega; exact hb z)]
  rfl
theorem head_rs {c : Bytes} {b n : Nat} (h : n ≠ 0) : ((List.range n).map (rsAt c b)).head? = some 0 ↔ rsAt c b 0 = 0 := by
  obtain ⟨k, rfl⟩ : ∃ k, n = k + 1 := ⟨n - 1, by omega⟩
  rw [List.range_succ_eq_map]
  simp
theorem restarts_none {c : Bytes} {n : Nat} (h4 : 4 ≤ c.length) (hn : ofLittle (slice c (c.length - 4) 4) = n) (h : n = 0 ∨ c.length < 4 + 4 * n ∨ rsAt c (c.length - 4 - 4 * n) 0 ≠ 0 ∨ ∃ j, j + 1 < n ∧ rsAt c (c.length - 4 - 4 * n) (j + 1) ≤ rsAt c (c.length - 4 - 4 * n) j) : restartsOf c = none := by
  by_cases hb : n = 0 ∨ c.length < 4 + 4 * n
  · have hs : slice c (c.length - 4) 4 = c.drop (c.length - 4) := by
      unfold slice
      rw [List.take_of_length_le (by rw [List.length_drop]; omega)]
    rw [hs] at hn
    unfold restartsOf
    simp only [hn]
    rw [if_pos (.inr hb)]
  · rw [restarts_gen h4 hn hb, if_neg]
    rintro ⟨z1, z2⟩
    rw [head_rs (fun q => hb (.inl q))] at z1
    rw [all_range (R := rsAt c (c.length - 4 - 4 * n)) (f := fun x y => decide (x < y)) n] at z2
    rcases h with h | h | h | ⟨j, h1, h2⟩
    · exact hb (.inl h)
    · exact hb (.inr h)
    · exact h z1
    · have := of_decide_eq_true (z2 j h1)
      omega
theorem restarts_some {c : Bytes} {n : Nat} (h4 : 4 ≤ c.length) (hn : ofLittle (slice c (c.length - 4) 4) = n) (h0 : n ≠ 0) (hl : 4 + 4 * n ≤ c.length) (h1 : rsAt c (c.length - 4 - 4 * n) 0 = 0) (h2 : ∀ j, j + 1 < n → rsAt c (c.length - 4 - 4 * n) j < rsAt c (c.length - 4 - 4 * n) (j + 1)) :
    restartsOf c = some ((List.range n).map (rsAt c (c.length - 4 - 4 * n))) := by
  rw [restarts_gen h4 hn (by omega), if_pos]
  refine ⟨(head_rs h0).mpr h1, ?_⟩
  rw [all_range (R := rsAt c (c.length - 4 - 4 * n)) (f := fun x y => decide (x < y)) n]
  exact fun j hj => decide_eq_true (h2 j hj)
theorem new_eq {c : Bytes} {b : BR} (h : BR.new c = some b) : restartsOf c = some b.rs ∧ b = ⟨b.rs, c.take (c.length - 4 - 4 * b.rs.length), 0, 1, 0, [], []⟩ ∧ 4 + 4 * b.rs.length ≤ c.length := by
  unfold BR.new at h
  cases e : restartsOf c with
  | none => rw [e] at h; cases h
  | some rs =>
    rw [e] at h
    obtain rfl := (Option.some.inj h).symm
    refine ⟨rfl, rfl, ?_⟩
    unfold restartsOf at e
    simp only at e
    split at e
    · cases e
    · split at e
      · obtain rfl := (Option.some.inj e).symm
        simp
        omega
      · cases e
theorem adv_eq {b : BR} (hp : b.p ≠ b.body.length) {x y z : Nat} {r1 r2 r3 : Bytes} (h1 : readVarint (b.body.drop b.p) = some (x, r1)) (h2 : readVarint r1 = some (y, r2)) (h3 : readVarint r2 = some (z, r3)) :
    b.adv = if (b.rs[b.met]? = some b.p ∧ 0 < x) ∨ r3.length < y ∨ b.key.length < x ∨ (0 < b.p ∧ before (b.key.drop x) (r3.take y) = false) ∨ r3.length - y < z then none
      else some (some ⟨b.rs, b.body, b.body.length - (r3.drop (y + z)).length, if b.rs[b.met]? = some b.p then b.met + 1 else b.met, x, b.key.take x ++ r3.take y, slice r3 y z⟩) := by
  have hbf : ∀ (p a b : Bytes), before (p ++ a) (p ++ b) = before a b := by
    intro p
    induction p with
    | nil => intro a b; rfl
    | cons u r ih =>
      intro a b
      show (decide (u < u) || (u == u && before (r ++ a) (r ++ b))) = _
      rw [ih]
      simp
  have hk : before b.key (b.key.take x ++ r3.take y) = before (b.key.drop x) (r3.take y) := by
    conv => lhs; arg 1; rw [← List.take_append_drop x b.key]
    exact hbf _ _ _
  unfold BR.adv
  rw [if_neg hp]
  unfold entryAt
  rw [h1]
  simp only [Option.bind_some]
  rw [h2]
  simp only [Option.bind_some]
  rw [h3]
  simp only [Option.bind_some]
  by_cases c1 : b.key.length < x ∨ r3.length < y + z
  · have cc : (b.rs[b.met]? = some b.p ∧ 0 < x) ∨ r3.length < y ∨ b.key.length < x ∨ (0 < b.p ∧ before (b.key.drop x) (r3.take y) = false) ∨ r3.length - y < z := by
      rcases c1 with c1 | c1
      · exact .inr (.inr (.inl c1))
      · by_cases c2 : r3.length < y
        · exact .inr (.inl c2)
        · exact .inr (.inr (.inr (.inr (by omega))))
    rw [if_pos c1, if_pos cc]
  · rw [if_neg c1]
    simp only [hk]
    by_cases c2 : b.rs[b.met]? = some b.p ∧ 0 < x
    · rw [if_pos c2, if_pos (.inl c2)]
    · rw [if_neg c2]
      by_cases c3 : 0 < b.p ∧ before (b.key.drop x) (r3.take y) = false
      · rw [if_pos c3, if_pos (.inr (.inr (.inr (.inl c3))))]
      · have cc : ¬ ((b.rs[b.met]? = some b.p ∧ 0 < x) ∨ r3.length < y ∨ b.key.length < x ∨ (0 < b.p ∧ before (b.key.drop x) (r3.take y) = false) ∨ r3.length - y < z) := by
          rintro (q | q | q | q | q)
          · exact c2 q
          · omega
          · omega
          · exact c3 q
          · omega
        rw [if_neg c3, if_neg cc]
theorem adv_no {b : BR} (hp : b.p ≠ b.body.length) (h : readVarint (b.body.drop b.p) = none ∨ (∃ x r1, readVarint (b.body.drop b.p) = some (x, r1) ∧ (readVarint r1 = none ∨ ∃ y r2, readVarint r1 = some (y, r2) ∧ readVarint r2 = none))) : b.adv = none := by
  unfold BR.adv
  rw [if_neg hp]
  have : entryAt b.key (b.body.drop b.p) = none := by
    unfold entryAt
    rcases h with h | ⟨x, r1, h1, h | ⟨y, r2, h2, h⟩⟩
    · rw [h]; rfl
    · rw [h1]; simp only [Option.bind_some]; rw [h]; rfl
    · rw [h1]; simp only [Option.bind_some]; rw [h2]; simp only [Option.bind_some]; rw [h]; rfl
  rw [this]
end My
set_option linter.all false
namespace My
open Sv13
theorem offs_gen {c : Bytes} {e : Nat} (h5 : 5 ≤ c.length) (h11 : c.getLastD 0 = 11) (he : ofLittle (slice c (c.length - 5) 4) = e) (hle : e ≤ c.length - 5) (hm : (c.length - 5 - e) % 4 = 0) :
    offsetsOf c = if ((((List.range ((c.length - 5 - e) / 4 + 1)).map (rsAt c e)).zip (((List.range ((c.length - 5 - e) / 4 + 1)).map (rsAt c e)).drop 1)).all fun x => decide (x.1 ≤ x.2)) = true then some ((List.range ((c.length - 5 - e) / 4 + 1)).map (rsAt c e)) else none := by
  unfold offsetsOf
  simp only [he]
  rw [if_neg (by
    rintro (z | z | z | z)
    · omega
    · exact z h11
    · omega
    · exact z hm)]
  rfl
theorem offs_bad {c : Bytes} (h : c.length < 5 ∨ c.getLastD 0 ≠ 11 ∨ c.length - 5 < ofLittle (slice c (c.length - 5) 4) ∨ (c.length - 5 - ofLittle (slice c (c.length - 5) 4)) % 4 ≠ 0) : offsetsOf c = none := by
  unfold offsetsOf
  simp only
  rw [if_pos h]
theorem offs_none {c : Bytes} {e : Nat} (h5 : 5 ≤ c.length) (h11 : c.getLastD 0 = 11) (he : ofLittle (slice c (c.length - 5) 4) = e) (hle : e ≤ c.length - 5) (hm : (c.length - 5 - e) % 4 = 0) {j : Nat} (hj : j + 1 < (c.length - 5 - e) / 4 + 1) (hlt : rsAt c e (j + 1) < rsAt c e j) : offsetsOf c = none := by
  rw [offs_gen h5 h11 he hle hm, if_neg]
  intro z
  rw [all_range (R := rsAt c e) (f := fun x y => decide (x ≤ y))] at z
  have := of_decide_eq_true (z j hj)
  omega
theorem offs_some {c : Bytes} {e : Nat} (h5 : 5 ≤ c.length) (h11 : c.getLastD 0 = 11) (he : ofLittle (slice c (c.length - 5) 4) = e) (hle : e ≤ c.length - 5) (hm : (c.length - 5 - e) % 4 = 0) (h : ∀ j, j + 1 < (c.length - 5 - e) / 4 + 1 → rsAt c e j ≤ rsAt c e (j + 1)) : offsetsOf c = some ((List.range ((c.length - 5 - e) / 4 + 1)).map (rsAt c e)) := by
  rw [offs_gen h5 h11 he hle hm, if_pos]
  rw [all_range (R := rsAt c e) (f := fun x y => decide (x ≤ y))]
  exact fun j hj => decide_eq_true (h j hj)
end My
set_option Elab.async false
set_option linter.all false
set_option maxRecDepth 100000
namespace KL
open PySem PySem.W PyProof.Rows L2
inductive Arg where
  | int (i : Int)
  | nums (ns : List Int)
def Arg.data : Arg → WData
  | .int i => .int i
  | .nums ns => .list (ns.map WData.int)
def Arg.fits : Arg → Prop
  | .int _ => True
  | .nums ns => ns.length ≤ sizeLine
def ArgIs (K : Frag) (H : Hp) : Arg → V → Prop
  | .int i, v => v = .int i
  | .nums ns, v => ∃ a, v = .ref a ∧ SqL K H a (ns.map V.int)
def OnlyK (K : Frag) (H : Hp) : Prop := ∀ b, H b = none ∨ (K.lookup b = none ∧ ∃ o xs, H b = some (.frz o (.lst xs)))
theorem ints_of_wellAll {P : Params} {h : Heap} {ns : List Int} {vs : List Value} (w : WellAll P h vs (ns.map WData.int)) : IntsAre vs ns := Att.ints_of_wellAll ns vs w
theorem intsAre_inj : ∀ {vs : List Value} {ns ms : List Int}, IntsAre vs ns → IntsAre vs ms → ns = ms
  | _, _, _, .nil, h => by cases h; rfl
  | _, _, _, .cons n t h1, h => by
    cases h with
    | cons m u h2 => rw [intsAre_inj h1 h2]
def LiesAt (h : Heap) (b : Addr) (vs : List Value) (ns : List Int) : Prop := h.get? b = some { cls := .type "list", data := .seq vs.toArray } ∧ IntsAre vs ns ∧ ns.length ≤ sizeLine
open Classical in
noncomputable def argHp (K : Frag) (h : Heap) (as : List Addr) : Hp := fun b =>
  if q : K.lookup b = none ∧ b ∈ as ∧ ∃ p : List Value × List Int, LiesAt h b p.1 p.2 then
    some (.frz { cls := .type "list", data := .seq (choose q.2.2).1.toArray } (.lst ((choose q.2.2).2.map V.int)))
  else none
theorem argHp_some {K : Frag} {h : Heap} {as : List Addr} {b : Addr} {vs : List Value} {ns : List Int} (hk : K.lookup b = none) (hb : b ∈ as) (l : LiesAt h b vs ns) :
    argHp K h as b = some (.frz { cls := .type "list", data := .seq vs.toArray } (.lst (ns.map V.int))) := by
  have q : K.lookup b = none ∧ b ∈ as ∧ ∃ p : List Value × List Int, LiesAt h b p.1 p.2 := ⟨hk, hb, (vs, ns), l⟩
  unfold argHp
  rw [dif_pos q]
  obtain ⟨c1, c2, c3⟩ := Classical.choose_spec q.2.2
  have e1 : (Classical.choose q.2.2).1 = vs := by
    have e := c1.symm.trans l.1
    have e' : ((Classical.choose q.2.2).1.toArray : Array Value) = vs.toArray := by
      injection e with e
      injection e with _ _ e _
      injection e with e _
    simpa using e'
  have e2 : (Classical.choose q.2.2).2 = ns := by
    rw [e1] at c2
    exact intsAre_inj c2 l.2.1
  rw [e1, e2]
theorem argHp_of {K : Frag} {h : Heap} {as : List Addr} {b : Addr} {u : HO} (e : argHp K h as b = some u) :
    K.lookup b = none ∧ b ∈ as ∧ ∃ (vs : List Value) (ns : List Int), LiesAt h b vs ns ∧ u = .frz { cls := .type "list", data := .seq vs.toArray } (.lst (ns.map V.int)) := by
  by_cases q : K.lookup b = none ∧ b ∈ as ∧ ∃ p : List Value × List Int, LiesAt h b p.1 p.2
  · unfold argHp at e
    rw [dif_pos q] at e
    exact ⟨q.1, q.2.1, _, _, Classical.choose_spec q.2.2, (Option.some.inj e).symm⟩
  · unfold argHp at e
    rw [dif_neg q] at e
    cases e
def refs : List Value → List Addr
  | [] => []
  | .ref a :: r => a :: refs r
  | _ :: r => refs r
theorem args_are {P : Params} {K : Frag} {h : Heap} (KX : K.In h) (as : List Addr) : ∀ {us : List Value} {gs : List Arg}, WellAll P h us (gs.map Arg.data) → (∀ g ∈ gs, g.fits) → (∀ a ∈ refs us, a ∈ as) →
    ∃ vs : List V, Vals vs us ∧ Paired (fun g v => ArgIs K (argHp K h as) g v) gs vs
  | [], [], _, _, _ => ⟨[], .nil, .nil⟩
  | [], _ :: _, w, _, _ => by rw [List.map_cons] at w; cases w
  | _ :: _, [], w, _, _ => by rw [List.map_nil] at w; cases w
  | u :: us, g :: gs, w, hf, hr => by
    rw [List.map_cons] at w
    cases w with
    | cons w1 w2 =>
      cases g with
      | int i =>
        have w1 : Well P h u (.int i) := w1
        cases w1 with
        | int _ t =>
          obtain ⟨vs, r, p⟩ := args_are KX as w2 (fun g hg => hf g (List.mem_cons_of_mem _ hg)) hr
          exact ⟨.int i :: vs, .cons ⟨t, rfl⟩ r, .cons rfl p⟩
      | nums ns =>
        have w1 : Well P h u (.list (ns.map WData.int)) := w1
        cases w1 with
        | @list a vs0 xs ho hall =>
          have hi := ints_of_wellAll hall
          have hl : ns.length ≤ sizeLine := hf (.nums ns) List.mem_cons_self
          have hr' : a ∈ as := hr a (show a ∈ a :: refs us from List.mem_cons_self)
          obtain ⟨vs, r, p⟩ := args_are KX as w2 (fun g hg => hf g (List.mem_cons_of_mem _ hg)) fun b hb => hr b (show b ∈ a :: refs us from List.mem_cons_of_mem _ hb)
          refine ⟨.ref a :: vs, .cons rfl r, .cons ⟨a, rfl, ?_⟩ p⟩
          cases hk : K.lookup a with
          | none => exact .inl (.inr ⟨_, argHp_some hk hr' ⟨ho, hi, hl⟩⟩)
          | some o =>
            have e := KX a o hk
            rw [ho] at e
            cases e
            exact .inr ⟨_, vs0.toArray, _, hk, rfl, rfl, rfl, by rw [List.size_toArray, hi.length]; exact hl, by simpa using vals_ints hi⟩
theorem reads_ints {cl : Str → Option Addr} {h : Heap} : ∀ {its : List Value} {ns : List Int}, Vals (ns.map V.int) its → ReadsAllW [] cl h its (ns.map WData.int) []
  | [], [], _ => .nil
  | [], _ :: _, r => by rw [List.map_cons] at r; cases r
  | _ :: _, [], r => by rw [List.map_nil] at r; cases r
  | u :: us, n :: ns, r => by
    rw [List.map_cons] at r
    cases r with
    | cons r1 r2 =>
      obtain ⟨t, rfl⟩ := r1
      rw [List.map_cons]
      exact ReadsAllW.cons (as := []) (bs := []) (.int n t) (reads_ints r2)
structure DefAt (K : Frag) (mg : Str → Option Value) (x : Str) (st : Stmt) : Prop where
  ex : ∃ f fd, mg x = some (.ref f) ∧ Fun K x x st f fd
structure Fx (P : Program) (w : World) (K : Frag) (mg : Str → Option Value) (base : Heap) (x : Str) (k : Nat) (ps : List Str) (sp : Sp) : Prop where
  ex : ∃ f fd, mg x = some (.ref f) ∧ keepIn K (.ref f) = true ∧ Binds K fd ps [] ∧ FnOk P w K mg base CX0 k f fd ps sp
theorem pe_fx {X : Cx} {x : Str} {k : Nat} {ps : List Str} {sp : Sp} {p pos : Pos} {e : Expr} {es : List Expr} {t : TA} (F : Fx X.prog X.w X.K X.mg X.base x k ps sp) (hr : Room k X.A) (hg : Gl X x) (ha : PA X (e :: es) t)
    (hdb : (x == ("__debug__" : Str)) = false := by decide) (he : starEach (e :: es) X.env = (false, eval e X.env) :: starEach es X.env := by rfl) (hpl : (backTo pos (starEach es X.env)).any (·.1) = false := by rfl) :
    PE X (.Call (.Name x p) (e :: es) [] pos) (tCall sp [] E0 t) := by
  obtain ⟨f, fd, hm, hk, hb, G⟩ := F.ex
  exact pe_call G hr hg hm hk hb .nil pass0 ha hdb he hpl
section
variable {P : Program} {w : World} {K : Frag} {mg : Str → Option Value} {base : Heap}
theorem DefAt.fx {x : Str} {st : Stmt} {N ps : List Str} {k : Nat} {sp : Sp} (D : DefAt K mg x st) (S : FnScope N ps (defScope st))
    (hb : ∀ (kV doc pm : Value) (an : Option Addr) (cdv ct : Value) (us : List Value), us.length = ps.length → bindArgs (fnOf x x (defArgs st) (defBody st) (defScope st) .none kV doc pm an cdv ct) ⟨us, []⟩ = pure (ps.zip us))
    (len : ∀ vs H Q E, sp vs H Q E → vs.length = ps.length)
    (hbody : ∀ (f : Addr) (cdv : Value) (A : Around) (outer : List Env) (s : Shared) (H : Hp) (vs : List V) (Q : VK) (E : XK), Room k (A.deeper (envOfC x (defScope st) s.heap.objs.size f cdv)) → sp vs H Q E →
      ∃ t, PSs (cxOf CX0 P w K mg base N x (defScope st) f cdv A outer s H E).nox (defBody st) t ∧ t { nx := fun _ H' => Q .non H', rt := Q } (start N vs) H) : Fx P w K mg base x (k + 1) ps sp := by
  obtain ⟨f, fd, hm, F⟩ := D.ex
  exact ⟨f, fd, hm, F.kp, F.binds hb, F.ok S len fun cdv A outer s H vs Q E hr h => hbody f cdv A outer s H vs Q E hr h⟩
end
theorem dec_cons {c : Codec} {cs : List Codec} {ds : List WData} {a : c.denote} {r : Codec.denoteAll cs} (h : Codec.decAll (c :: cs) ds = some (a, r)) : ∃ d ds', ds = d :: ds' ∧ c.dec d = some a ∧ Codec.decAll cs ds' = some r := by
  cases ds with
  | nil => cases h
  | cons d ds =>
    have e : Codec.decAll (c :: cs) (d :: ds) = Codec.both Prod.mk (c.dec d) (Codec.decAll cs ds) := rfl
    rw [e] at h
    cases h1 : c.dec d with
    | none => rw [h1] at h; cases h
    | some a' =>
      cases h2 : Codec.decAll cs ds with
      | none => rw [h1, h2] at h; cases h
      | some r' =>
        rw [h1, h2] at h
        cases h
        exact ⟨d, ds, rfl, h1, h2⟩
theorem dec_nil {ds : List WData} {r : Codec.denoteAll []} (h : Codec.decAll [] ds = some r) : ds = [] := by
  cases ds with
  | nil => rfl
  | cons d ds => cases h
theorem dec_int {lo hi : Int} {d : WData} {k : Int} (h : (Codec.int lo hi).dec d = some k) : d = .int k ∧ lo ≤ k ∧ k ≤ hi := by
  have h : Codec.decInt lo hi d = some k := h
  cases d with
  | int z =>
    have h : (if Codec.inInt lo hi z = true then some z else none) = some k := h
    by_cases hc : Codec.inInt lo hi z = true
    · rw [if_pos hc] at h
      cases h
      unfold Codec.inInt at hc
      simp only [Bool.and_eq_true, decide_eq_true_eq] at hc
      exact ⟨rfl, hc.1, hc.2⟩
    · rw [if_neg hc] at h
      cases h
  | _ => cases h
theorem dec_items {lo hi : Int} : ∀ {ds : List WData} {ns : List Int}, Codec.decItems (Codec.decInt lo hi) ds = some ns → ds = ns.map WData.int ∧ ∀ x ∈ ns, lo ≤ x ∧ x ≤ hi
  | [], ns, h => by cases h; exact ⟨rfl, fun _ h => nomatch h⟩
  | d :: ds, ns, h => by
    have h : Codec.both List.cons (Codec.decInt lo hi d) (Codec.decItems (Codec.decInt lo hi) ds) = some ns := h
    cases h1 : Codec.decInt lo hi d with
    | none => rw [h1] at h; cases h
    | some a =>
      cases h2 : Codec.decItems (Codec.decInt lo hi) ds with
      | none => rw [h1, h2] at h; cases h
      | some r =>
        rw [h1, h2] at h
        cases h
        obtain ⟨e1, b1, b2⟩ := dec_int (lo := lo) (hi := hi) h1
        obtain ⟨e2, b3⟩ := dec_items h2
        refine ⟨by rw [e1, e2]; rfl, fun x hx => ?_⟩
        rcases List.mem_cons.mp hx with rfl | hx
        · exact ⟨b1, b2⟩
        · exact b3 x hx
theorem dec_list {least most : Nat} {lo hi : Int} {d : WData} {ns : List Int} (h : (Codec.list least most (.int lo hi)).dec d = some ns) : d = .list (ns.map WData.int) ∧ ns.length ≤ most ∧ ∀ x ∈ ns, lo ≤ x ∧ x ≤ hi := by
  have h : Codec.decList least most (Codec.decInt lo hi) d = some ns := h
  cases d with
  | list ds =>
    have h : (if Codec.inLen least most ds = true then Codec.decItems (Codec.decInt lo hi) ds else none) = some ns := h
    by_cases hc : Codec.inLen least most ds = true
    · rw [if_pos hc] at h
      obtain ⟨e, b⟩ := dec_items h
      unfold Codec.inLen Codec.inNat at hc
      simp only [Bool.and_eq_true, decide_eq_true_eq] at hc
      refine ⟨by rw [e], ?_, b⟩
      rw [e, List.length_map] at hc
      exact hc.2
    · rw [if_neg hc] at h
      cases h
  | _ => cases h
theorem post_list {r : OpenSpec} {as : List WData} {a : Codec.denoteAll r.args} {k : List Int} (h1 : Codec.decAll r.args as = some a) (h2 : r.ret.enc (Codec.app r.args r.f a) = .list (k.map WData.int)) : r.post as (.list (k.map WData.int)) = true := by
  refine os_post h1 ?_
  rw [h2]
  exact same_self _
end KL
set_option Elab.async false
set_option linter.all false
set_option maxRecDepth 100000
namespace KL
open PySem PySem.W PyProof.Rows L2
def vb (l : List Nat) : List V := l.map fun n : Nat => V.int (n : Int)
theorem vb_length (l : List Nat) : (vb l).length = l.length := List.length_map _
theorem vb_append (a b : List Nat) : vb (a ++ b) = vb a ++ vb b := List.map_append
theorem vb_get {l : List Nat} {i : Nat} {v : V} (h : (vb l)[i]? = some v) : ∃ n, l[i]? = some n ∧ v = V.int (n : Int) := by
  unfold vb at h
  rw [List.getElem?_map] at h
  cases e : l[i]? with
  | none => rw [e] at h; cases h
  | some n => rw [e] at h; exact ⟨n, rfl, (Option.some.inj h).symm⟩
theorem xor_nat (a b : Nat) : Builtin.bitXor (a : Int) (b : Int) = ((a ^^^ b : Nat) : Int) := by
  rw [bitXor_and]
  have e : Builtin.bitAnd (a : Int) (b : Int) = ((a &&& b : Nat) : Int) := by
    unfold Builtin.bitAnd
    have h1 : decide ((0 : Int) ≤ (a : Int)) = true := by simp
    have h2 : decide ((0 : Int) ≤ (b : Int)) = true := by simp
    rw [h1, h2]
    rfl
  rw [e]
  have := My.xor_and a b
  omega
theorem and_nat (a b : Nat) : Builtin.bitAnd (a : Int) (b : Int) = ((a &&& b : Nat) : Int) := by
  unfold Builtin.bitAnd
  have h1 : decide ((0 : Int) ≤ (a : Int)) = true := by simp
  have h2 : decide ((0 : Int) ≤ (b : Int)) = true := by simp
  rw [h1, h2]
  rfl
theorem or_nat (a b : Nat) : Builtin.bitOr (a : Int) (b : Int) = ((a ||| b : Nat) : Int) := by
  have h : Builtin.bitXor (a : Int) (b : Int) = Builtin.bitOr (a : Int) (b : Int) - Builtin.bitAnd (a : Int) (b : Int) := rfl
  rw [xor_nat, and_nat] at h
  have h1 := My.xor_and a b
  have h2 := My.or_and a b
  omega
end KL
namespace KL
open PySem PySem.W PyProof.Rows L2
structure Mtx (P : Program) (w : World) (K : Frag) (mg : Str → Option Value) (base : Heap) (C : Addr) (m : Str) (k : Nat) (ps : List Str) (sp : Sp) : Prop where
  ex : ∃ f fd, Cls K C ∧ Meth K C m f ∧ Binds K fd ps [] ∧ FnOk P w K mg base CX0 k f fd ps sp
structure Mkx (P : Program) (w : World) (K : Frag) (mg : Str → Option Value) (base : Heap) (x : Str) (C : Addr) (k : Nat) (ps : List Str) (sp : Sp) : Prop where
  ex : ∃ f fd, mg x = some (.ref C) ∧ Mk K C f ∧ Binds K fd ps [] ∧ FnOk P w K mg base CX0 k f fd ps sp
theorem pe_mx {X : Cx} {x : Str} {C : Addr} {k : Nat} {ps : List Str} {sp : Sp} {p pos : Pos} {e : Expr} {es : List Expr} {t : TA} (M : Mkx X.prog X.w X.K X.mg X.base x C k ps sp) (hr : Room (k + 1) X.A) (hg : Gl X x) (ha : PA X (e :: es) t)
    (hdb : (x == ("__debug__" : Str)) = false := by decide) (he : starEach (e :: es) X.env = (false, eval e X.env) :: starEach es X.env := by rfl) (hpl : (backTo pos (starEach es X.env)).any (·.1) = false := by rfl) :
    PE X (.Call (.Name x p) (e :: es) [] pos) (tMake C sp [] E0 t) := by
  obtain ⟨f, fd, hm, hk, hb, G⟩ := M.ex
  exact pe_make hk G hr hg hm hb .nil pass0 ha hdb he hpl
theorem pe_mt0 {X : Cx} {o : Expr} {C : Addr} {m : Str} {k : Nat} {ps : List Str} {sp : Sp} {apos pos : Pos} {ta : TE} {pl : Sem Bool} (he : PE X o ta) (M : Mtx X.prog X.w X.K X.mg X.base C m k ps sp) (hr : Room k X.A)
    (ht : eval (.Call (.Attribute o m apos) [] [] pos) X.env = (do
      let ov ← eval o X.env
      standAt apos.atName
      let (f, first) ← holding [ov] (getMethod ov m pl)
      callWith pos f first (backTo pos (starEach [] X.env)) (backToKw pos (keywordEach [] X.env))) := by rfl) :
    PE X (.Call (.Attribute o m apos) [] [] pos) (tMeth C m sp [] E0 ta tNil) := by
  obtain ⟨f, fd, hc, hm, hb, G⟩ := M.ex
  exact pe_meth0 he hc hm G hr hb .nil pass0 ht
theorem Same.upd {G H : Hp} {l : Addr} {o : HO} (s : Same G H) (h : G l = none) : Same G (L2.upd H l o) := fun b u e => by
  rw [upd_ne (ne_of_none e h)]
  exact s b u e
theorem Same.new {G H : Hp} {l : Addr} {o : HO} (s : Same G H) (h : H l = none) : Same G (L2.upd H l o) := Same.upd s (s.free h)
theorem Same.grow {G H : Hp} {l : Addr} {o : HO} (s : Same G H) (h : H l = some o) : Same (L2.upd G l o) H := fun b u e => by
  by_cases hb : b = l
  · subst hb
    rw [upd_same] at e
    rw [h, e]
  · rw [upd_ne hb] at e
    exact s b u e
theorem Same.at {G H : Hp} {l : Addr} {o : HO} (s : Same G H) (h : G l = some o) : H l = some o := s l o h
end KL
namespace KL
open PySem PySem.W PyProof.Rows L2
theorem pe_gint {X : Cx} {x : Str} {i : Int} {pos : Pos} (hg : Gl X x) (hm : ∃ t, X.mg x = some (.int i t)) (hd : (x == ("__debug__" : Str)) = false := by decide) : PE X (.Name x pos) (tC (.int i)) := by
  obtain ⟨t, hm⟩ := hm
  exact pe_glob (v := .int i) hg hm ⟨t, rfl⟩ hd
theorem pe_gstr {X : Cx} {x : Str} {i : Str} {pos : Pos} (hg : Gl X x) (hm : ∃ t, X.mg x = some (.str i t)) (hd : (x == ("__debug__" : Str)) = false := by decide) : PE X (.Name x pos) (tC (.str i)) := by
  obtain ⟨t, hm⟩ := hm
  exact pe_glob (v := .str i) hg hm ⟨t, rfl⟩ hd
theorem pe_gref {X : Cx} {x : Str} {a : Addr} {pos : Pos} (hg : Gl X x) (hm : X.mg x = some (.ref a)) (hd : (x == ("__debug__" : Str)) = false := by decide) : PE X (.Name x pos) (tC (.ref a)) :=
  pe_glob (v := .ref a) hg hm rfl hd
end KL
set_option Elab.async false
set_option linter.all false
set_option maxRecDepth 100000
namespace KL
open PySem PyProof.Rows
def lexBy (d : Int → Int → Bool) (e : Nat → Nat → Bool) : List Int → List Int → Bool
  | x :: xs, y :: ys => if x = y then lexBy d e xs ys else d x y
  | [], ys => e 0 ys.length
  | xs, [] => e xs.length 0
section
open PySem.SeqAt
open PySem.AutoSeq1 (wpAny_loadPart')
open PySem.MeetsSeq PySem.MeetsSeq2 PySem.MeetsSeq3
theorem ints_get {vs : List Value} {ns : List Int} (h : IntsAre vs ns) : ∀ {i : Nat} {n : Int}, ns[i]? = some n → ∃ t, vs[i]? = some (.int n t) := by
  induction h with
  | nil => intro i n e; simp at e
  | cons m t _ ih =>
    intro i n e
    cases i with
    | zero => simp at e; subst e; exact ⟨t, rfl⟩
    | succ i => exact ih (by simpa using e)
theorem lexBy_end (d : Int → Int → Bool) (e : Nat → Nat → Bool) (ns ms : List Int) (h : ns = [] ∨ ms = []) : lexBy d e ns ms = e ns.length ms.length := by
  rcases h with rfl | rfl
  · cases ms <;> rfl
  · cases ns <;> rfl
theorem lexBy_step (d : Int → Int → Bool) (e : Nat → Nat → Bool) (ns ms : List Int) (i : Nat) {x y : Int} (hx : ns[i]? = some x) (hy : ms[i]? = some y) : lexBy d e (ns.drop i) (ms.drop i) = if x = y then lexBy d e (ns.drop (i + 1)) (ms.drop (i + 1)) else d x y := by
  obtain ⟨h1, e1⟩ := List.getElem?_eq_some_iff.mp hx
  obtain ⟨h2, e2⟩ := List.getElem?_eq_some_iff.mp hy
  rw [List.drop_eq_getElem_cons h1, List.drop_eq_getElem_cons h2, e1, e2]
  rfl
theorem le_loop (l b : Addr) (items items2 : Array Value) (n n2 : Nat) (dd dd2 : Option Addr) (sl sl2 : Array (Option Value)) (ns ms : List Int) (hi : IntsAre items.toList ns) (hj : IntsAre items2.toList ms) (k : Nat) :
    ∀ i : Nat, items.size - i = k → (i ≤ items.size ∧ i ≤ items2.size) → Meets (Builtin.«list.__eq__.loop» ⟨[.ref l, .ref b, rawInt i, rawInt 1], []⟩)
      (fun A R s => s.heap.get? l = some { cls := .type "list", dict := dd, data := .seq items n, slots := sl } ∧ s.heap.get? b = some { cls := .type "list", dict := dd2, data := .seq items2 n2, slots := sl2 } ∧
        R (.ok (.ret (.bool (lexBy (fun x y => decide (x ≤ y)) (fun x y => decide (x ≤ y)) (ns.drop i) (ms.drop i))))) s) := by
  have z1 : items.size = ns.length := by rw [← hi.length]; simp
  have z2 : items2.size = ms.length := by rw [← hj.length]; simp
  induction k with
  | zero =>
    intro i hk hle prog w A R s h
    obtain ⟨hp, g, d, tk, os⟩ := s; obtain ⟨hl, hb, h⟩ := h
    wp_walk using wpAny_loadPart' hl, wpAny_loadPart' hb
    have hi1 : items[((i : Nat) : Int).toNat]? = none := by simp; omega
    have hd : ns.drop i = [] := by simp; omega
    rw [hi1]
    rw [lexBy_end _ _ _ _ (.inl hd), List.length_drop, List.length_drop] at h
    have e : decide (ns.length - i ≤ ms.length - i) = decide (items.size ≤ items2.size) := by
      rw [z1, z2]
      have h1 := hle.1
      have h2 := hle.2
      rw [z1] at h1
      rw [z2] at h2
      by_cases q : ns.length ≤ ms.length
      · rw [decide_eq_true q, decide_eq_true (by omega)]
      · rw [decide_eq_false q, decide_eq_false (by omega)]
    rw [e] at h
    wp_walk using wpAny_loadPart' hl, wpAny_loadPart' hb
    exact h
  | succ k ih =>
    intro i hk hle prog w A R s h
    obtain ⟨hp, g, d, tk, os⟩ := s; obtain ⟨hl, hb, h⟩ := h
    wp_walk using wpAny_loadPart' hl, wpAny_loadPart' hb
    have hlt : i < items.size := by omega
    have hx : ns[i]? = some ns[i] := List.getElem?_eq_getElem (by omega)
    obtain ⟨t, ht⟩ := ints_get hi hx
    have hi1 : items[((i : Nat) : Int).toNat]? = some (.int ns[i] t) := by
      rw [← ht]; simp
    by_cases hlt2 : i < items2.size
    · have hy : ms[i]? = some ms[i] := List.getElem?_eq_getElem (by omega)
      obtain ⟨u, hu⟩ := ints_get hj hy
      have hi2 : items2[((i : Nat) : Int).toNat]? = some (.int ms[i] u) := by
        rw [← hu]; simp
      have hc : ((i : Int) + 1) = ((i + 1 : Nat) : Int) := by push_cast; rfl
      rw [lexBy_step _ _ _ _ _ hx hy] at h
      rw [hi1, hi2]
      refine wpAny_bind (SeqAt.EqAt.int_int ns[i] t ms[i] u prog w _ _ ?_)
      by_cases q : ns[i] = ms[i]
      · rw [if_pos q] at h
        have q' : (ns[i] == ms[i]) = true := by simp [q]
        rw [q']
        wp_walk
        rw [hc]
        exact ⟨plainId_quiet plain_eq_loop _, codeAny_builtin entry_eq_loop (by
          rw [Around.under_plainId plain_eq_loop _]
          exact ih (i + 1) (by omega) ⟨by omega, by omega⟩ prog w A R _ ⟨hl, hb, h⟩)⟩
      · rw [if_neg q] at h
        have q' : (ns[i] == ms[i]) = false := by simp [q]
        rw [q']
        wp_walk using wpAny_loadPart' hl, wpAny_loadPart' hb
        rw [hi1, hi2]
        have hle' : ∀ (A : Around) (s : Shared) (E : Value → Shared → Prop) (Q : Value → Shared → Prop), Q (.bool (decide (ns[i] ≤ ms[i]))) s → wpAny (model prog w) A (richCompare .LtE (.int ns[i] t) (.int ms[i] u)) Q E s :=
          fun A s E Q h => (PyProof.Rows.le_int h : wpAny (model prog w) A (compareOp .LtE (.int ns[i] t) (.int ms[i] u)) Q E s)
        wp_walk using hle'
        exact h
    · have hi2 : items2[((i : Nat) : Int).toNat]? = none := by simp; omega
      have hd : ms.drop i = [] := by simp; omega
      rw [hi1, hi2]
      rw [lexBy_end _ _ _ _ (.inr hd), List.length_drop, List.length_drop] at h
      have e : decide (ns.length - i ≤ ms.length - i) = decide (items.size ≤ items2.size) := by
        rw [z1, z2, decide_eq_false (by omega), decide_eq_false (by omega)]
      rw [e] at h
      wp_walk using wpAny_loadPart' hl, wpAny_loadPart' hb
      exact h
theorem list_le_ints (l b : Addr) (items items2 : Array Value) (n n2 : Nat) (dd dd2 : Option Addr) (sl sl2 : Array (Option Value)) (ns ms : List Int) (hi : IntsAre items.toList ns) (hj : IntsAre items2.toList ms) :
    Meets (Builtin.«list.__le__» ⟨[.ref l, .ref b], []⟩)
      (fun _ R s => s.heap.get? l = some { cls := .type "list", dict := dd, data := .seq items n, slots := sl } ∧ s.heap.get? b = some { cls := .type "list", dict := dd2, data := .seq items2 n2, slots := sl2 } ∧
        R (.ok (.ret (.bool (lexBy (fun x y => decide (x ≤ y)) (fun x y => decide (x ≤ y)) ns ms)))) s) := by
  intro prog w A R s h
  obtain ⟨hp, g, d, tk, os⟩ := s; obtain ⟨hl, hb, h⟩ := h
  have f3 := AutoSeq1.sub_list_list
  wp_walk using wpAny_loadPart' hl, wpAny_loadPart' hb
  exact ⟨plainId_quiet plain_eq_loop _, codeAny_builtin entry_eq_loop (by
    rw [Around.under_plainId plain_eq_loop _]
    exact le_loop l b items items2 n n2 dd dd2 sl sl2 ns ms hi hj _ 0 rfl ⟨Nat.zero_le _, Nat.zero_le _⟩ prog w A R _ ⟨hl, hb, h⟩)⟩
end
end KL
set_option Elab.async false
set_option linter.all false
set_option maxRecDepth 100000
namespace KL
open PySem PySem.W PyProof.Rows L2
def rLeL (K : Frag) : R2 := fun x y H Q => ∃ (a b : Addr) (ns ms : List Int), x = .ref a ∧ y = .ref b ∧ SqL K H a (ns.map V.int) ∧ SqL K H b (ms.map V.int) ∧ Q (.bl (lexBy (fun x y => decide (x ≤ y)) (fun x y => decide (x ≤ y)) ns ms)) H
theorem op_leL {X : Cx} (hu : X.A.units < cLine) : OpR X (compareOp .LtE) (rLeL X.K) := by
  intro pins s σ H x y v u Q I rx ry h
  obtain ⟨a, b, ns, ms, rfl, rfl, ha, hb, q⟩ := h
  cases rx
  cases ry
  obtain ⟨its, r1, p1, _⟩ := I.list ha
  obtain ⟨its2, r2, p2, _⟩ := I.list hb
  have i1 : IntsAre its.toArray.toList ns := intsAre_of r1
  have i2 : IntsAre its2.toArray.toList ms := intsAre_of r2
  obtain ⟨⟨cls, dd, data, sl⟩, ho, hc, n, hd⟩ := id p1.isList
  obtain ⟨⟨cls2, dd2, data2, sl2⟩, ho2, hc2, n2, hd2⟩ := id p2.isList
  simp only at hc hd hc2 hd2
  subst hc hd hc2 hd2
  exact richCompare_meets_room (op := .LtE) ⟨_, ho, rfl⟩ ⟨_, ho2, rfl⟩ PySem.F.slot_list_le PySem.F.entry_list_le (PySem.F.args_list_le_2 _ _) (list_le_ints a b its.toArray its2.toArray n n2 dd dd2 sl sl2 ns ms i1 i2)
    ⟨ho, ho2, (fun x => nomatch x), .bl _, H, I, rfl, q⟩ hu
theorem lexBy_before : ∀ a b : List Nat, lexBy (fun x y => decide (x ≤ y)) (fun x y => decide (x ≤ y)) (a.map fun n : Nat => (n : Int)) (b.map fun n : Nat => (n : Int)) = !Sv13.before b a
  | [], b => by cases b <;> rfl
  | x :: r, [] => rfl
  | x :: r, y :: s => by
    show (if (x : Int) = (y : Int) then lexBy _ _ (r.map _) (s.map _) else decide ((x : Int) ≤ (y : Int))) = !(decide (y < x) || (y == x && Sv13.before s r))
    by_cases h : x = y
    · subst h
      rw [if_pos rfl, lexBy_before r s]
      simp
    · have h' : ¬ (x : Int) = (y : Int) := by omega
      have h2 : (y == x) = false := by simp; omega
      rw [if_neg h', h2]
      by_cases hl : y < x
      · rw [decide_eq_true hl, decide_eq_false (by omega)]; rfl
      · rw [decide_eq_false hl, decide_eq_true (by omega)]; rfl
end KL
set_option Elab.async false
set_option linter.all false
set_option maxRecDepth 100000
namespace KL
open PySem PySem.W PyProof.Rows L2
end KL
set_option Elab.async false
set_option linter.all false
set_option maxRecDepth 100000
namespace KL
open PySem PySem.W PyProof.Rows L2
theorem all_get : ∀ {xs ys : List Nat}, xs.length = ys.length → (List.range xs.length).all (fun j => decide (xs.getD j 0 = ys.getD j 0)) = decide (xs = ys) := by
  intro xs ys h
  rw [Bool.eq_iff_iff, List.all_eq_true, decide_eq_true_eq]
  constructor
  · intro q
    refine List.ext_getElem h fun i h1 h2 => ?_
    have := of_decide_eq_true (q i (List.mem_range.mpr h1))
    simpa [List.getD, h1, h2] using this
  · intro e j _
    rw [e]
    exact decide_eq_true rfl
theorem vb_items {l : List Nat} {its : List Value} (r : Vals (vb l) its) {j : Nat} (h : j < its.length) : RelV (V.int ((l.getD j 0 : Nat) : Int)) its[j] := by
  have hl : (vb l).length = its.length := r.length
  have hj : (vb l)[j]? = some (V.int ((l.getD j 0 : Nat) : Int)) := by
    rw [vb_length] at hl
    unfold vb
    rw [List.getElem?_map, List.getElem?_eq_getElem (by omega)]
    simp [List.getD, List.getElem?_eq_getElem (show j < l.length by omega)]
  obtain ⟨u, hu, ru⟩ := r.get hj
  rw [List.getElem?_eq_getElem h] at hu
  cases hu
  exact ru
theorem eqV_int (i j : Nat) : eqV (V.int (i : Int)) (V.int (j : Int)) = decide (i = j) := by
  show (((i : Int) == (j : Int)) : Bool) = _
  by_cases h : i = j
  · subst h
    simp
  · rw [decide_eq_false h]
    have : ¬ (i : Int) = (j : Int) := by omega
    simp [this]
def rEqB (K : Frag) (neg : Bool) : R2 := fun x y H Q => ∃ (a b : Addr) (xs ys : List Nat), x = .ref a ∧ y = .ref b ∧ SqL K H a (vb xs) ∧ SqL K H b (vb ys) ∧ Q (.bl (if neg then !decide (xs = ys) else decide (xs = ys))) H
theorem op_neB {X : Cx} (hu : X.A.units < cLine) : OpR X (compareOp .NotEq) (rEqB X.K true) := by
  intro pins s σ H x y v u Q I rx ry h
  obtain ⟨a, b, xs, ys, rfl, rfl, ha, hb, q⟩ := h
  cases rx
  cases ry
  obtain ⟨its, r1, p1, _⟩ := I.list ha
  obtain ⟨its2, r2, p2, _⟩ := I.list hb
  have h1 := r1.length
  have h2 := r2.length
  rw [vb_length] at h1 h2
  by_cases hl : xs.length = ys.length
  · refine SeqAt.RcNeAt.lists (e := fun j => decide (xs.getD j 0 = ys.getD j 0)) p1.isList p2.isList (by simp only [List.size_toArray]; omega) hu (fun j k1 k2 => ?_) _ _ _ _ ⟨.bl _, H, I, rfl, ?_⟩
    · rw [← eqV_int]
      have k1' : j < its.length := by simpa using k1
      have k2' : j < its2.length := by simpa using k2
      simp only [List.getElem_toArray]
      exact eqAt_V (vb_items r1 k1') (vb_items r2 k2') rfl rfl
    · rw [List.size_toArray, ← h1, all_get hl]
      exact q
  · have e : decide (xs = ys) = false := decide_eq_false fun z => hl (by rw [z])
    rw [e] at q
    exact SeqAt.RcNeAt.lists_lengths p1.isList p2.isList (by simp only [List.size_toArray, ← h1, ← h2, bne_iff_ne]; exact hl) hu _ _ _ _ ⟨.bl true, H, I, rfl, q⟩
end KL
set_option Elab.async false
set_option linter.all false
set_option maxRecDepth 100000
namespace KL
open PySem PyProof.Rows
section
open PySem.SeqAt
open PySem.AutoSeq1 (wpAny_loadPart')
open PySem.MeetsSeq PySem.MeetsSeq2 PySem.MeetsSeq3
theorem lt_loop (l b : Addr) (items items2 : Array Value) (n n2 : Nat) (dd dd2 : Option Addr) (sl sl2 : Array (Option Value)) (ns ms : List Int) (hi : IntsAre items.toList ns) (hj : IntsAre items2.toList ms) (k : Nat) :
    ∀ i : Nat, items.size - i = k → (i ≤ items.size ∧ i ≤ items2.size) → Meets (Builtin.«list.__eq__.loop» ⟨[.ref l, .ref b, rawInt i, rawInt 0], []⟩)
      (fun A R s => s.heap.get? l = some { cls := .type "list", dict := dd, data := .seq items n, slots := sl } ∧ s.heap.get? b = some { cls := .type "list", dict := dd2, data := .seq items2 n2, slots := sl2 } ∧
        R (.ok (.ret (.bool (lexBy (fun x y => decide (x < y)) (fun x y => decide (x < y)) (ns.drop i) (ms.drop i))))) s) := by
  have z1 : items.size = ns.length := by rw [← hi.length]; simp
  have z2 : items2.size = ms.length := by rw [← hj.length]; simp
  induction k with
  | zero =>
    intro i hk hle prog w A R s h
    obtain ⟨hp, g, d, tk, os⟩ := s; obtain ⟨hl, hb, h⟩ := h
    wp_walk using wpAny_loadPart' hl, wpAny_loadPart' hb
    have hi1 : items[((i : Nat) : Int).toNat]? = none := by simp; omega
    have hd : ns.drop i = [] := by simp; omega
    rw [hi1]
    rw [lexBy_end _ _ _ _ (.inl hd), List.length_drop, List.length_drop] at h
    have e : decide (ns.length - i < ms.length - i) = decide (items.size < items2.size) := by
      rw [z1, z2]
      have h1 := hle.1
      have h2 := hle.2
      rw [z1] at h1
      rw [z2] at h2
      by_cases q : ns.length < ms.length
      · rw [decide_eq_true q, decide_eq_true (by omega)]
      · rw [decide_eq_false q, decide_eq_false (by omega)]
    rw [e] at h
    wp_walk using wpAny_loadPart' hl, wpAny_loadPart' hb
    exact h
  | succ k ih =>
    intro i hk hle prog w A R s h
    obtain ⟨hp, g, d, tk, os⟩ := s; obtain ⟨hl, hb, h⟩ := h
    wp_walk using wpAny_loadPart' hl, wpAny_loadPart' hb
    have hlt : i < items.size := by omega
    have hx : ns[i]? = some ns[i] := List.getElem?_eq_getElem (by omega)
    obtain ⟨t, ht⟩ := ints_get hi hx
    have hi1 : items[((i : Nat) : Int).toNat]? = some (.int ns[i] t) := by
      rw [← ht]; simp
    by_cases hlt2 : i < items2.size
    · have hy : ms[i]? = some ms[i] := List.getElem?_eq_getElem (by omega)
      obtain ⟨u, hu⟩ := ints_get hj hy
      have hi2 : items2[((i : Nat) : Int).toNat]? = some (.int ms[i] u) := by
        rw [← hu]; simp
      have hc : ((i : Int) + 1) = ((i + 1 : Nat) : Int) := by push_cast; rfl
      rw [lexBy_step _ _ _ _ _ hx hy] at h
      rw [hi1, hi2]
      refine wpAny_bind (SeqAt.EqAt.int_int ns[i] t ms[i] u prog w _ _ ?_)
      by_cases q : ns[i] = ms[i]
      · rw [if_pos q] at h
        have q' : (ns[i] == ms[i]) = true := by simp [q]
        rw [q']
        wp_walk
        rw [hc]
        exact ⟨plainId_quiet plain_eq_loop _, codeAny_builtin entry_eq_loop (by
          rw [Around.under_plainId plain_eq_loop _]
          exact ih (i + 1) (by omega) ⟨by omega, by omega⟩ prog w A R _ ⟨hl, hb, h⟩)⟩
      · rw [if_neg q] at h
        have q' : (ns[i] == ms[i]) = false := by simp [q]
        rw [q']
        wp_walk using wpAny_loadPart' hl, wpAny_loadPart' hb
        rw [hi1, hi2]
        have hcm' : ∀ (A : Around) (s : Shared) (E : Value → Shared → Prop) (Q : Value → Shared → Prop), Q (.bool (decide (ns[i] < ms[i]))) s → wpAny (model prog w) A (richCompare .Lt (.int ns[i] t) (.int ms[i] u)) Q E s :=
          fun A s E Q h => (PyProof.Rows.lt_int h : wpAny (model prog w) A (compareOp .Lt (.int ns[i] t) (.int ms[i] u)) Q E s)
        wp_walk using hcm'
        exact h
    · have hi2 : items2[((i : Nat) : Int).toNat]? = none := by simp; omega
      have hd : ms.drop i = [] := by simp; omega
      rw [hi1, hi2]
      rw [lexBy_end _ _ _ _ (.inr hd), List.length_drop, List.length_drop] at h
      have e : decide (ns.length - i < ms.length - i) = decide (items.size < items2.size) := by
        rw [z1, z2, decide_eq_false (by omega), decide_eq_false (by omega)]
      rw [e] at h
      wp_walk using wpAny_loadPart' hl, wpAny_loadPart' hb
      exact h
theorem list_lt_ints (l b : Addr) (items items2 : Array Value) (n n2 : Nat) (dd dd2 : Option Addr) (sl sl2 : Array (Option Value)) (ns ms : List Int) (hi : IntsAre items.toList ns) (hj : IntsAre items2.toList ms) :
    Meets (Builtin.«list.__lt__» ⟨[.ref l, .ref b], []⟩)
      (fun _ R s => s.heap.get? l = some { cls := .type "list", dict := dd, data := .seq items n, slots := sl } ∧ s.heap.get? b = some { cls := .type "list", dict := dd2, data := .seq items2 n2, slots := sl2 } ∧
        R (.ok (.ret (.bool (lexBy (fun x y => decide (x < y)) (fun x y => decide (x < y)) ns ms)))) s) := by
  intro prog w A R s h
  obtain ⟨hp, g, d, tk, os⟩ := s; obtain ⟨hl, hb, h⟩ := h
  have f3 := AutoSeq1.sub_list_list
  wp_walk using wpAny_loadPart' hl, wpAny_loadPart' hb
  exact ⟨plainId_quiet plain_eq_loop _, codeAny_builtin entry_eq_loop (by
    rw [Around.under_plainId plain_eq_loop _]
    exact lt_loop l b items items2 n n2 dd dd2 sl sl2 ns ms hi hj _ 0 rfl ⟨Nat.zero_le _, Nat.zero_le _⟩ prog w A R _ ⟨hl, hb, h⟩)⟩
theorem ge_loop (l b : Addr) (items items2 : Array Value) (n n2 : Nat) (dd dd2 : Option Addr) (sl sl2 : Array (Option Value)) (ns ms : List Int) (hi : IntsAre items.toList ns) (hj : IntsAre items2.toList ms) (k : Nat) :
    ∀ i : Nat, items.size - i = k → (i ≤ items.size ∧ i ≤ items2.size) → Meets (Builtin.«list.__eq__.loop» ⟨[.ref l, .ref b, rawInt i, rawInt 5], []⟩)
      (fun A R s => s.heap.get? l = some { cls := .type "list", dict := dd, data := .seq items n, slots := sl } ∧ s.heap.get? b = some { cls := .type "list", dict := dd2, data := .seq items2 n2, slots := sl2 } ∧
        R (.ok (.ret (.bool (lexBy (fun x y => decide (y ≤ x)) (fun x y => decide (y ≤ x)) (ns.drop i) (ms.drop i))))) s) := by
  have z1 : items.size = ns.length := by rw [← hi.length]; simp
  have z2 : items2.size = ms.length := by rw [← hj.length]; simp
  induction k with
  | zero =>
    intro i hk hle prog w A R s h
    obtain ⟨hp, g, d, tk, os⟩ := s; obtain ⟨hl, hb, h⟩ := h
    wp_walk using wpAny_loadPart' hl, wpAny_loadPart' hb
    have hi1 : items[((i : Nat) : Int).toNat]? = none := by simp; omega
    have hd : ns.drop i = [] := by simp; omega
    rw [hi1]
    rw [lexBy_end _ _ _ _ (.inl hd), List.length_drop, List.length_drop] at h
    have e : decide (ms.length - i ≤ ns.length - i) = decide (items2.size ≤ items.size) := by
      rw [z1, z2]
      have h1 := hle.1
      have h2 := hle.2
      rw [z1] at h1
      rw [z2] at h2
      by_cases q : ms.length ≤ ns.length
      · rw [decide_eq_true q, decide_eq_true (by omega)]
      · rw [decide_eq_false q, decide_eq_false (by omega)]
    rw [e] at h
    wp_walk using wpAny_loadPart' hl, wpAny_loadPart' hb
    exact h
  | succ k ih =>
    intro i hk hle prog w A R s h
    obtain ⟨hp, g, d, tk, os⟩ := s; obtain ⟨hl, hb, h⟩ := h
    wp_walk using wpAny_loadPart' hl, wpAny_loadPart' hb
    have hlt : i < items.size := by omega
    have hx : ns[i]? = some ns[i] := List.getElem?_eq_getElem (by omega)
    obtain ⟨t, ht⟩ := ints_get hi hx
    have hi1 : items[((i : Nat) : Int).toNat]? = some (.int ns[i] t) := by
      rw [← ht]; simp
    by_cases hlt2 : i < items2.size
    · have hy : ms[i]? = some ms[i] := List.getElem?_eq_getElem (by omega)
      obtain ⟨u, hu⟩ := ints_get hj hy
      have hi2 : items2[((i : Nat) : Int).toNat]? = some (.int ms[i] u) := by
        rw [← hu]; simp
      have hc : ((i : Int) + 1) = ((i + 1 : Nat) : Int) := by push_cast; rfl
      rw [lexBy_step _ _ _ _ _ hx hy] at h
      rw [hi1, hi2]
      refine wpAny_bind (SeqAt.EqAt.int_int ns[i] t ms[i] u prog w _ _ ?_)
      by_cases q : ns[i] = ms[i]
      · rw [if_pos q] at h
        have q' : (ns[i] == ms[i]) = true := by simp [q]
        rw [q']
        wp_walk
        rw [hc]
        exact ⟨plainId_quiet plain_eq_loop _, codeAny_builtin entry_eq_loop (by
          rw [Around.under_plainId plain_eq_loop _]
          exact ih (i + 1) (by omega) ⟨by omega, by omega⟩ prog w A R _ ⟨hl, hb, h⟩)⟩
      · rw [if_neg q] at h
        have q' : (ns[i] == ms[i]) = false := by simp [q]
        rw [q']
        wp_walk using wpAny_loadPart' hl, wpAny_loadPart' hb
        rw [hi1, hi2]
        have hcm' : ∀ (A : Around) (s : Shared) (E : Value → Shared → Prop) (Q : Value → Shared → Prop), Q (.bool (decide (ms[i] ≤ ns[i]))) s → wpAny (model prog w) A (richCompare .GtE (.int ns[i] t) (.int ms[i] u)) Q E s :=
          fun A s E Q h => (PyProof.Rows.ge_int h : wpAny (model prog w) A (compareOp .GtE (.int ns[i] t) (.int ms[i] u)) Q E s)
        wp_walk using hcm'
        exact h
    · have hi2 : items2[((i : Nat) : Int).toNat]? = none := by simp; omega
      have hd : ms.drop i = [] := by simp; omega
      rw [hi1, hi2]
      rw [lexBy_end _ _ _ _ (.inr hd), List.length_drop, List.length_drop] at h
      have e : decide (ms.length - i ≤ ns.length - i) = decide (items2.size ≤ items.size) := by
        rw [z1, z2, decide_eq_true (by omega), decide_eq_true (by omega)]
      rw [e] at h
      wp_walk using wpAny_loadPart' hl, wpAny_loadPart' hb
      exact h
theorem list_ge_ints (l b : Addr) (items items2 : Array Value) (n n2 : Nat) (dd dd2 : Option Addr) (sl sl2 : Array (Option Value)) (ns ms : List Int) (hi : IntsAre items.toList ns) (hj : IntsAre items2.toList ms) :
    Meets (Builtin.«list.__ge__» ⟨[.ref l, .ref b], []⟩)
      (fun _ R s => s.heap.get? l = some { cls := .type "list", dict := dd, data := .seq items n, slots := sl } ∧ s.heap.get? b = some { cls := .type "list", dict := dd2, data := .seq items2 n2, slots := sl2 } ∧
        R (.ok (.ret (.bool (lexBy (fun x y => decide (y ≤ x)) (fun x y => decide (y ≤ x)) ns ms)))) s) := by
  intro prog w A R s h
  obtain ⟨hp, g, d, tk, os⟩ := s; obtain ⟨hl, hb, h⟩ := h
  have f3 := AutoSeq1.sub_list_list
  wp_walk using wpAny_loadPart' hl, wpAny_loadPart' hb
  exact ⟨plainId_quiet plain_eq_loop _, codeAny_builtin entry_eq_loop (by
    rw [Around.under_plainId plain_eq_loop _]
    exact ge_loop l b items items2 n n2 dd dd2 sl sl2 ns ms hi hj _ 0 rfl ⟨Nat.zero_le _, Nat.zero_le _⟩ prog w A R _ ⟨hl, hb, h⟩)⟩
end
end KL
namespace KL
open PySem PySem.W PyProof.Rows L2
def rLtL (K : Frag) : R2 := fun x y H Q => ∃ (a b : Addr) (ns ms : List Int), x = .ref a ∧ y = .ref b ∧ SqL K H a (ns.map V.int) ∧ SqL K H b (ms.map V.int) ∧ Q (.bl (lexBy (fun x y => decide (x < y)) (fun x y => decide (x < y)) ns ms)) H
theorem op_ltL {X : Cx} (hu : X.A.units < cLine) : OpR X (compareOp .Lt) (rLtL X.K) := by
  intro pins s σ H x y v u Q I rx ry h
  obtain ⟨a, b, ns, ms, rfl, rfl, ha, hb, q⟩ := h
  cases rx
  cases ry
  obtain ⟨its, r1, p1, _⟩ := I.list ha
  obtain ⟨its2, r2, p2, _⟩ := I.list hb
  have i1 : IntsAre its.toArray.toList ns := intsAre_of r1
  have i2 : IntsAre its2.toArray.toList ms := intsAre_of r2
  obtain ⟨⟨cls, dd, data, sl⟩, ho, hc, n, hd⟩ := id p1.isList
  obtain ⟨⟨cls2, dd2, data2, sl2⟩, ho2, hc2, n2, hd2⟩ := id p2.isList
  simp only at hc hd hc2 hd2
  subst hc hd hc2 hd2
  exact richCompare_meets_room (op := .Lt) ⟨_, ho, rfl⟩ ⟨_, ho2, rfl⟩ PySem.F.slot_list_lt PySem.F.entry_list_lt (PySem.F.args_list_lt_2 _ _) (list_lt_ints a b its.toArray its2.toArray n n2 dd dd2 sl sl2 ns ms i1 i2)
    ⟨ho, ho2, (fun x => nomatch x), .bl _, H, I, rfl, q⟩ hu
def rGeL (K : Frag) : R2 := fun x y H Q => ∃ (a b : Addr) (ns ms : List Int), x = .ref a ∧ y = .ref b ∧ SqL K H a (ns.map V.int) ∧ SqL K H b (ms.map V.int) ∧ Q (.bl (lexBy (fun x y => decide (y ≤ x)) (fun x y => decide (y ≤ x)) ns ms)) H
theorem op_geL {X : Cx} (hu : X.A.units < cLine) : OpR X (compareOp .GtE) (rGeL X.K) := by
  intro pins s σ H x y v u Q I rx ry h
  obtain ⟨a, b, ns, ms, rfl, rfl, ha, hb, q⟩ := h
  cases rx
  cases ry
  obtain ⟨its, r1, p1, _⟩ := I.list ha
  obtain ⟨its2, r2, p2, _⟩ := I.list hb
  have i1 : IntsAre its.toArray.toList ns := intsAre_of r1
  have i2 : IntsAre its2.toArray.toList ms := intsAre_of r2
  obtain ⟨⟨cls, dd, data, sl⟩, ho, hc, n, hd⟩ := id p1.isList
  obtain ⟨⟨cls2, dd2, data2, sl2⟩, ho2, hc2, n2, hd2⟩ := id p2.isList
  simp only at hc hd hc2 hd2
  subst hc hd hc2 hd2
  exact richCompare_meets_room (op := .GtE) ⟨_, ho, rfl⟩ ⟨_, ho2, rfl⟩ PySem.F.slot_list_ge PySem.F.entry_list_ge (PySem.F.args_list_ge_2 _ _) (list_ge_ints a b its.toArray its2.toArray n n2 dd dd2 sl sl2 ns ms i1 i2)
    ⟨ho, ho2, (fun x => nomatch x), .bl _, H, I, rfl, q⟩ hu
theorem lexLt_before : ∀ a b : List Nat, lexBy (fun x y => decide (x < y)) (fun x y => decide (x < y)) (a.map fun n : Nat => (n : Int)) (b.map fun n : Nat => (n : Int)) = Sv13.before a b
  | [], b => by cases b <;> rfl
  | x :: r, [] => rfl
  | x :: r, y :: s => by
    show (if (x : Int) = (y : Int) then lexBy _ _ (r.map _) (s.map _) else decide ((x : Int) < (y : Int))) = (decide (x < y) || (x == y && Sv13.before r s))
    by_cases h : x = y
    · subst h
      rw [if_pos rfl, lexLt_before r s]
      simp
    · have h' : ¬ (x : Int) = (y : Int) := by omega
      rw [if_neg h']
      have h2 : (x == y) = false := by simp; omega
      rw [h2, Bool.false_and, Bool.or_false]
      rw [decide_eq_decide]
      omega
theorem lexGe_before : ∀ a b : List Nat, lexBy (fun x y => decide (y ≤ x)) (fun x y => decide (y ≤ x)) (a.map fun n : Nat => (n : Int)) (b.map fun n : Nat => (n : Int)) = !Sv13.before a b
  | [], b => by cases b <;> rfl
  | x :: r, [] => rfl
  | x :: r, y :: s => by
    show (if (x : Int) = (y : Int) then lexBy _ _ (r.map _) (s.map _) else decide ((y : Int) ≤ (x : Int))) = !(decide (x < y) || (x == y && Sv13.before r s))
    by_cases h : x = y
    · subst h
      rw [if_pos rfl, lexGe_before r s]
      simp
    · have h' : ¬ (x : Int) = (y : Int) := by omega
      rw [if_neg h']
      have h2 : (x == y) = false := by simp; omega
      rw [h2, Bool.false_and, Bool.or_false, Bool.eq_iff_iff]
      simp
theorem ints_vb (l : List Nat) : (l.map fun n : Nat => (n : Int)).map V.int = vb l := by
  unfold vb
  rw [List.map_map]
  rfl
theorem rd_le {K : Frag} {H : Hp} {a b : Addr} {x y : List Nat} {Q : VK} (ha : SqL K H a (vb x)) (hb : SqL K H b (vb y)) (q : Q (.bl (!Sv13.before y x)) H) : rLeL K (.ref a) (.ref b) H Q :=
  ⟨a, b, x.map fun n : Nat => (n : Int), y.map fun n : Nat => (n : Int), rfl, rfl, by rw [ints_vb]; exact ha, by rw [ints_vb]; exact hb, by rw [lexBy_before]; exact q⟩
theorem rd_lt {K : Frag} {H : Hp} {a b : Addr} {x y : List Nat} {Q : VK} (ha : SqL K H a (vb x)) (hb : SqL K H b (vb y)) (q : Q (.bl (Sv13.before x y)) H) : rLtL K (.ref a) (.ref b) H Q :=
  ⟨a, b, x.map fun n : Nat => (n : Int), y.map fun n : Nat => (n : Int), rfl, rfl, by rw [ints_vb]; exact ha, by rw [ints_vb]; exact hb, by rw [lexLt_before]; exact q⟩
theorem rd_ge {K : Frag} {H : Hp} {a b : Addr} {x y : List Nat} {Q : VK} (ha : SqL K H a (vb x)) (hb : SqL K H b (vb y)) (q : Q (.bl (!Sv13.before x y)) H) : rGeL K (.ref a) (.ref b) H Q :=
  ⟨a, b, x.map fun n : Nat => (n : Int), y.map fun n : Nat => (n : Int), rfl, rfl, by rw [ints_vb]; exact ha, by rw [ints_vb]; exact hb, by rw [lexGe_before]; exact q⟩
end KL
set_option Elab.async false
set_option linter.all false
set_option maxRecDepth 100000
namespace KL
open PySem PySem.W PyProof.Rows L2
abbrev IsQ (h : Heap) (T : Addr) (a b c d : Value) : Prop := h.get? T = some { cls := .type "tuple", data := .seq #[a, b, c, d] }
structure Z4 (h : Heap) (n l1 l2 l3 l4 : Addr) (x1 x2 x3 x4 : Array Value) (f0 a b c d : Value) (k1 k2 k3 k4 : Nat) : Prop where
  z : IsZip h (n + 6) (n + 4) (n + 5) f0
  ti : IsQ h (n + 4) (.ref n) (.ref (n + 1)) (.ref (n + 2)) (.ref (n + 3))
  tO : IsQ h (n + 5) a b c d
  i1 : h.IsListIter n l1 k1
  i2 : h.IsListIter (n + 1) l2 k2
  i3 : h.IsListIter (n + 2) l3 k3
  i4 : h.IsListIter (n + 3) l4 k4
  q1 : h.IsList l1 x1
  q2 : h.IsList l2 x2
  q3 : h.IsList l3 x3
  q4 : h.IsList l4 x4
  b1 : l1 < n
  b2 : l2 < n
  b3 : l3 < n
  b4 : l4 < n
section
variable {h h' : Heap} {n l1 l2 l3 l4 : Addr} {x1 x2 x3 x4 : Array Value} {f0 f1 a b c d v : Value} {k1 k2 k3 k4 : Nat}
theorem ne6 {m n i : Nat} (q : m < n) : m ≠ n + i := by omega
theorem out6 {c n j : Nat} (q : c < n ∨ n + 6 < c) (hj : j ≤ 6) : c ≠ n + j := by omega
theorem out0 {c n : Nat} (q : c < n ∨ n + 6 < c) : c ≠ n := by omega
theorem nel {m n : Nat} (q : m < n) : m ≠ n := by omega
theorem nij {n i j : Nat} (q : i ≠ j) : n + i ≠ n + j := by omega
theorem n0j {n j : Nat} (q : 0 ≠ j) : n ≠ n + j := by omega
theorem nj0 {n j : Nat} (q : 0 ≠ j) : n + j ≠ n := by omega
theorem Z4.atz (Z : Z4 h n l1 l2 l3 l4 x1 x2 x3 x4 f0 a b c d k1 k2 k3 k4) (S : Heap.ExtBut (n + 6) h h') (hz : IsZip h' (n + 6) (n + 4) (n + 5) f1) : Z4 h' n l1 l2 l3 l4 x1 x2 x3 x4 f1 a b c d k1 k2 k3 k4 :=
  ⟨hz, S _ _ (nij (by decide)) Z.ti, S _ _ (nij (by decide)) Z.tO, Z.i1.extBut S (n0j (by decide)), Z.i2.extBut S (nij (by decide)), Z.i3.extBut S (nij (by decide)), Z.i4.extBut S (nij (by decide)),
    Z.q1.extBut S (ne6 Z.b1), Z.q2.extBut S (ne6 Z.b2), Z.q3.extBut S (ne6 Z.b3), Z.q4.extBut S (ne6 Z.b4), Z.b1, Z.b2, Z.b3, Z.b4⟩
theorem Z4.ato {a' b' c' d' : Value} (Z : Z4 h n l1 l2 l3 l4 x1 x2 x3 x4 f0 a b c d k1 k2 k3 k4) (S : Heap.ExtBut (n + 5) h h') (hz : IsQ h' (n + 5) a' b' c' d') : Z4 h' n l1 l2 l3 l4 x1 x2 x3 x4 f0 a' b' c' d' k1 k2 k3 k4 :=
  ⟨S _ _ (nij (by decide)) Z.z, S _ _ (nij (by decide)) Z.ti, hz, Z.i1.extBut S (n0j (by decide)), Z.i2.extBut S (nij (by decide)), Z.i3.extBut S (nij (by decide)), Z.i4.extBut S (nij (by decide)),
    Z.q1.extBut S (ne6 Z.b1), Z.q2.extBut S (ne6 Z.b2), Z.q3.extBut S (ne6 Z.b3), Z.q4.extBut S (ne6 Z.b4), Z.b1, Z.b2, Z.b3, Z.b4⟩
theorem Z4.at1 (Z : Z4 h n l1 l2 l3 l4 x1 x2 x3 x4 f0 a b c d k1 k2 k3 k4) (S : Heap.ExtBut n h h') (hi : h'.IsListIter n l1 (k1 + 1)) : Z4 h' n l1 l2 l3 l4 x1 x2 x3 x4 f0 a b c d (k1 + 1) k2 k3 k4 :=
  ⟨S _ _ (nj0 (by decide)) Z.z, S _ _ (nj0 (by decide)) Z.ti, S _ _ (nj0 (by decide)) Z.tO, hi, Z.i2.extBut S (nj0 (by decide)), Z.i3.extBut S (nj0 (by decide)), Z.i4.extBut S (nj0 (by decide)),
    Z.q1.extBut S (nel Z.b1), Z.q2.extBut S (nel Z.b2), Z.q3.extBut S (nel Z.b3), Z.q4.extBut S (nel Z.b4), Z.b1, Z.b2, Z.b3, Z.b4⟩
theorem Z4.at2 (Z : Z4 h n l1 l2 l3 l4 x1 x2 x3 x4 f0 a b c d k1 k2 k3 k4) (S : Heap.ExtBut (n + 1) h h') (hi : h'.IsListIter (n + 1) l2 (k2 + 1)) : Z4 h' n l1 l2 l3 l4 x1 x2 x3 x4 f0 a b c d k1 (k2 + 1) k3 k4 :=
  ⟨S _ _ (nij (by decide)) Z.z, S _ _ (nij (by decide)) Z.ti, S _ _ (nij (by decide)) Z.tO, Z.i1.extBut S (n0j (by decide)), hi, Z.i3.extBut S (nij (by decide)), Z.i4.extBut S (nij (by decide)),
    Z.q1.extBut S (ne6 Z.b1), Z.q2.extBut S (ne6 Z.b2), Z.q3.extBut S (ne6 Z.b3), Z.q4.extBut S (ne6 Z.b4), Z.b1, Z.b2, Z.b3, Z.b4⟩
theorem Z4.at3 (Z : Z4 h n l1 l2 l3 l4 x1 x2 x3 x4 f0 a b c d k1 k2 k3 k4) (S : Heap.ExtBut (n + 2) h h') (hi : h'.IsListIter (n + 2) l3 (k3 + 1)) : Z4 h' n l1 l2 l3 l4 x1 x2 x3 x4 f0 a b c d k1 k2 (k3 + 1) k4 :=
  ⟨S _ _ (nij (by decide)) Z.z, S _ _ (nij (by decide)) Z.ti, S _ _ (nij (by decide)) Z.tO, Z.i1.extBut S (n0j (by decide)), Z.i2.extBut S (nij (by decide)), hi, Z.i4.extBut S (nij (by decide)),
    Z.q1.extBut S (ne6 Z.b1), Z.q2.extBut S (ne6 Z.b2), Z.q3.extBut S (ne6 Z.b3), Z.q4.extBut S (ne6 Z.b4), Z.b1, Z.b2, Z.b3, Z.b4⟩
theorem Z4.at4 (Z : Z4 h n l1 l2 l3 l4 x1 x2 x3 x4 f0 a b c d k1 k2 k3 k4) (S : Heap.ExtBut (n + 3) h h') (hi : h'.IsListIter (n + 3) l4 (k4 + 1)) : Z4 h' n l1 l2 l3 l4 x1 x2 x3 x4 f0 a b c d k1 k2 k3 (k4 + 1) :=
  ⟨S _ _ (nij (by decide)) Z.z, S _ _ (nij (by decide)) Z.ti, S _ _ (nij (by decide)) Z.tO, Z.i1.extBut S (n0j (by decide)), Z.i2.extBut S (nij (by decide)), Z.i3.extBut S (nij (by decide)), hi,
    Z.q1.extBut S (ne6 Z.b1), Z.q2.extBut S (ne6 Z.b2), Z.q3.extBut S (ne6 Z.b3), Z.q4.extBut S (ne6 Z.b4), Z.b1, Z.b2, Z.b3, Z.b4⟩
def Kp (n : Addr) (h h' : Heap) : Prop := ∀ c o, c < n ∨ n + 6 < c → h.get? c = some o → h'.get? c = some o
theorem Kp.then {j : Nat} {h h1 h2 : Heap} (K : Kp n h h1) (S : Heap.ExtBut (n + j) h1 h2) (hj : j ≤ 6) : Kp n h h2 := fun c o q e => S c o (out6 q hj) (K c o q e)
theorem Kp.then0 {h h1 h2 : Heap} (K : Kp n h h1) (S : Heap.ExtBut n h1 h2) : Kp n h h2 := fun c o q e => S c o (out0 q) (K c o q e)
end
section
variable {prog : Program} {w : World} {A : Around} {E : Value → Shared → Prop} {s : Shared}
theorem upd_q {T : Addr} {a b c d x : Value} {k : Nat} {Q : Unit → Shared → Prop} (hT : IsQ s.heap T a b c d)
    (hq : ∀ h', h'.get? T = some { cls := .type "tuple", data := .seq ((#[a, b, c, d] : Array Value).setIfInBounds k x) } → Heap.SameBut T s.heap h' → Q () { s with heap := h' }) :
    wpAny (model prog w) A (updateSeq T (·.setIfInBounds k x)) Q E s := by
  refine wpAny_updateSeq hT rfl (hq _ ?_ (Heap.SameBut.update ..))
  rw [Heap.get?_update_self _ hT rfl]
  simp [Obj.mapSeq]
theorem zip4_next {n l1 l2 l3 l4 : Addr} {x1 x2 x3 x4 : Array Value} {a b c d : Value} {k : Nat} {Q : Value → Shared → Prop} (hh : A.handled = none)
    (Z : Z4 s.heap n l1 l2 l3 l4 x1 x2 x3 x4 .none a b c d k k k k)
    (hQ : ∀ v1 v2 v3 v4 h', x1[k]? = some v1 → x2[k]? = some v2 → x3[k]? = some v3 → x4[k]? = some v4 → Z4 h' n l1 l2 l3 l4 x1 x2 x3 x4 (rawInt s.heap.objs.size) v1 v2 v3 v4 (k + 1) (k + 1) (k + 1) (k + 1) →
      IsQ h' s.heap.objs.size v1 v2 v3 v4 → Kp n s.heap h' → Q (.ref s.heap.objs.size) { s with heap := h' })
    (hE : ∀ h' e, (x1[k]? = none ∨ x2[k]? = none ∨ x3[k]? = none ∨ x4[k]? = none) → Kp n s.heap h' → (∃ o, h'.get? e = some o ∧ o.cls = .type "StopIteration") → E (.ref e) { s with heap := h' }) :
    wpAny (model prog w) A (Builtin.«zip.__next__» ⟨[.ref (n + 6)], []⟩) (fun fin s' => ∃ v, fin = .done (.ret v) ∧ Q v s') E s := by
  show wpAny _ _ (field (.ref (n + 6)) 2 >>= _) _ _ _
  refine wpAny_bind (wpAny_field Z.z rfl (x := .bool false) rfl ?_)
  show wpAny _ _ (field (.ref (n + 6)) 3 >>= _) _ _ _
  refine wpAny_bind (wpAny_field Z.z rfl (x := .ref (n + 4)) rfl ?_)
  refine wpAny_bind (wpAny_seqItems Z.ti rfl ?_)
  show wpAny _ _ (Builtin.SmallTypes.ownedTupleIsFree (.ref (n + 6)) >>= _) _ _ _
  refine wpAny_bind ?_
  unfold Builtin.SmallTypes.ownedTupleIsFree
  refine wpAny_bind (wpAny_field Z.z rfl (x := .none) rfl (wpAny_pure ?_))
  simp only [if_true]
  refine wpAny_bind (wpAny_rule (wpAny_bind (wpAny_field Z.z rfl (x := .ref (n + 5)) rfl ?_)))
  refine wpAny_bind (wpAny_setField_rec Z.z (by simp) fun g0 y0 S0 => ?_)
  have Z0 := Z.atz (f1 := .ellipsis) S0.extBut y0
  have K0 : Kp n s.heap g0 := fun c o q e => S0.extBut c o (out6 q (by decide)) e
  have n0 := S0.1
  clear y0 S0
  refine wpAny_bind ?_
  simp only [List.zipIdx_cons, List.zipIdx_nil, List.forIn_cons, List.forIn_nil]
  refine wpAny_bind (wpAny_bind (wpAny_onRaise ?_))
  show wpAny _ _ (Builtin.SmallTypes.nextOf (.ref n) >>= _) _ _ _
  cases e1 : x1[k]? with
  | none =>
    refine wpAny_bind (wpAny_nextOf_list_end hh Z0.i1 Z0.q1 e1 fun g e S he => ?_)
    obtain ⟨oe, hoe, hce⟩ := he
    have hz : IsZip g (n + 6) (n + 4) (n + 5) .ellipsis := S _ _ (nj0 (by decide)) Z0.z
    have hez : e ≠ n + 6 := fun q => by subst q; rw [hz] at hoe; cases hoe; simp at hce
    exact wpAny_setField_rec hz (by simp) fun g' _ S' => hE g' e (.inl e1) ((K0.then0 S).then S'.extBut (by decide)) ⟨oe, S'.extBut _ _ hez hoe, hce⟩
  | some v1 =>
  refine wpAny_bind (wpAny_nextOf_list_item Z0.i1 Z0.q1 e1 fun g1 y1 S1 => wpAny_pure ?_)
  have Z1 := Z0.at1 S1.extBut y1
  have K1 := K0.then0 S1.extBut
  have n1 := S1.1.trans n0
  clear y1 S1 Z0 K0 n0
  refine wpAny_bind (wpAny_seqItems Z1.tO rfl ?_)
  refine wpAny_bind (upd_q Z1.tO fun g1 y1 S1 => ?_)
  replace Z1 := Z1.ato (a' := v1) (b' := b) (c' := c) (d' := d) S1.extBut y1
  replace K1 := K1.then S1.extBut (by decide)
  replace n1 := S1.1.trans n1
  clear y1 S1
  refine wpAny_bind (wpAny_letGo (wpAny_pure ?_))
  refine wpAny_bind (wpAny_bind (wpAny_onRaise ?_))
  show wpAny _ _ (Builtin.SmallTypes.nextOf (.ref (n + 1)) >>= _) _ _ _
  cases e2 : x2[k]? with
  | none =>
    refine wpAny_bind (wpAny_nextOf_list_end hh Z1.i2 Z1.q2 e2 fun g e S he => ?_)
    obtain ⟨oe, hoe, hce⟩ := he
    have hz : IsZip g (n + 6) (n + 4) (n + 5) .ellipsis := S _ _ (nij (by decide)) Z1.z
    have hez : e ≠ n + 6 := fun q => by subst q; rw [hz] at hoe; cases hoe; simp at hce
    exact wpAny_setField_rec hz (by simp) fun g' _ S' => hE g' e (.inr (.inl e2)) ((K1.then S (by decide)).then S'.extBut (by decide)) ⟨oe, S'.extBut _ _ hez hoe, hce⟩
  | some v2 =>
  refine wpAny_bind (wpAny_nextOf_list_item Z1.i2 Z1.q2 e2 fun g2 y2 S2 => wpAny_pure ?_)
  have Z2 := Z1.at2 S2.extBut y2
  have K2 := K1.then S2.extBut (by decide)
  have n2 := S2.1.trans n1
  clear y2 S2 Z1 K1 n1
  refine wpAny_bind (wpAny_seqItems Z2.tO rfl ?_)
  refine wpAny_bind (upd_q Z2.tO fun g2 y2 S2 => ?_)
  replace Z2 := Z2.ato (a' := v1) (b' := v2) (c' := c) (d' := d) S2.extBut y2
  replace K2 := K2.then S2.extBut (by decide)
  replace n2 := S2.1.trans n2
  clear y2 S2
  refine wpAny_bind (wpAny_letGo (wpAny_pure ?_))
  refine wpAny_bind (wpAny_bind (wpAny_onRaise ?_))
  show wpAny _ _ (Builtin.SmallTypes.nextOf (.ref (n + 2)) >>= _) _ _ _
  cases e3 : x3[k]? with
  | none =>
    refine wpAny_bind (wpAny_nextOf_list_end hh Z2.i3 Z2.q3 e3 fun g e S he => ?_)
    obtain ⟨oe, hoe, hce⟩ := he
    have hz : IsZip g (n + 6) (n + 4) (n + 5) .ellipsis := S _ _ (nij (by decide)) Z2.z
    have hez : e ≠ n + 6 := fun q => by subst q; rw [hz] at hoe; cases hoe; simp at hce
    exact wpAny_setField_rec hz (by simp) fun g' _ S' => hE g' e (.inr (.inr (.inl e3))) ((K2.then S (by decide)).then S'.extBut (by decide)) ⟨oe, S'.extBut _ _ hez hoe, hce⟩
  | some v3 =>
  refine wpAny_bind (wpAny_nextOf_list_item Z2.i3 Z2.q3 e3 fun g3 y3 S3 => wpAny_pure ?_)
  have Z3 := Z2.at3 S3.extBut y3
  have K3 := K2.then S3.extBut (by decide)
  have n3 := S3.1.trans n2
  clear y3 S3 Z2 K2 n2
  refine wpAny_bind (wpAny_seqItems Z3.tO rfl ?_)
  refine wpAny_bind (upd_q Z3.tO fun g3 y3 S3 => ?_)
  replace Z3 := Z3.ato (a' := v1) (b' := v2) (c' := v3) (d' := d) S3.extBut y3
  replace K3 := K3.then S3.extBut (by decide)
  replace n3 := S3.1.trans n3
  clear y3 S3
  refine wpAny_bind (wpAny_letGo (wpAny_pure ?_))
  refine wpAny_bind (wpAny_bind (wpAny_onRaise ?_))
  show wpAny _ _ (Builtin.SmallTypes.nextOf (.ref (n + 3)) >>= _) _ _ _
  cases e4 : x4[k]? with
  | none =>
    refine wpAny_bind (wpAny_nextOf_list_end hh Z3.i4 Z3.q4 e4 fun g e S he => ?_)
    obtain ⟨oe, hoe, hce⟩ := he
    have hz : IsZip g (n + 6) (n + 4) (n + 5) .ellipsis := S _ _ (nij (by decide)) Z3.z
    have hez : e ≠ n + 6 := fun q => by subst q; rw [hz] at hoe; cases hoe; simp at hce
    exact wpAny_setField_rec hz (by simp) fun g' _ S' => hE g' e (.inr (.inr (.inr e4))) ((K3.then S (by decide)).then S'.extBut (by decide)) ⟨oe, S'.extBut _ _ hez hoe, hce⟩
  | some v4 =>
  refine wpAny_bind (wpAny_nextOf_list_item Z3.i4 Z3.q4 e4 fun g4 y4 S4 => wpAny_pure ?_)
  have Z5 := Z3.at4 S4.extBut y4
  have K5 := K3.then S4.extBut (by decide)
  have n5 := S4.1.trans n3
  clear y4 S4 Z3 K3 n3
  refine wpAny_bind (wpAny_seqItems Z5.tO rfl ?_)
  refine wpAny_bind (upd_q Z5.tO fun g5 y5 S5 => ?_)
  replace Z5 := Z5.ato (a' := v1) (b' := v2) (c' := v3) (d' := v4) S5.extBut y5
  replace K5 := K5.then S5.extBut (by decide)
  replace n5 := S5.1.trans n5
  clear y5 S5
  refine wpAny_bind (wpAny_letGo (wpAny_pure (wpAny_pure ?_)))
  refine wpAny_bind (wpAny_seqItems Z5.tO rfl (wpAny_bind (wpAny_newTuple ?_)))
  have lz : n + 6 < g5.objs.size := Heap.lt_size Z5.z
  show wpAny _ _ (Builtin.SmallTypes.ownedTupleHandOut (.ref (n + 6)) (.ref g5.objs.size) >>= _) _ _ _
  refine wpAny_bind ?_
  unfold Builtin.SmallTypes.ownedTupleHandOut
  have Sp : Heap.ExtBut (n + 6) g5 (g5.push { cls := .type "tuple", data := .seq #[v1, v2, v3, v4] }) := fun c o _ e => Heap.get?_push_of_some _ e
  have Zp := Z5.atz Sp (Heap.get?_push_of_some _ Z5.z)
  have Kq := K5.then Sp (by decide)
  have Tq : IsQ (g5.push { cls := .type "tuple", data := .seq #[v1, v2, v3, v4] }) g5.objs.size v1 v2 v3 v4 := Heap.get?_push_size _ rfl
  refine wpAny_bind (wpAny_setField_rec Zp.z (by simp) fun g7 y7 S7 => ?_)
  have Z7 := Zp.atz (f1 := rawInt g5.objs.size) S7.extBut y7
  refine wpAny_setField_rec Z7.z (by simp) fun g8 y8 S8 => ?_
  have Z8 := Z7.atz (f1 := rawInt g5.objs.size) S8.extBut y8
  have T8 : IsQ g8 g5.objs.size v1 v2 v3 v4 := S8.extBut _ _ (Nat.ne_of_gt lz) (S7.extBut _ _ (Nat.ne_of_gt lz) Tq)
  have K8 := (Kq.then S7.extBut (by decide)).then S8.extBut (by decide)
  refine wpAny_pure ⟨_, rfl, ?_⟩
  show Q (.ref g5.objs.size) _
  have Z9 : Z4 g8 n l1 l2 l3 l4 x1 x2 x3 x4 (rawInt s.heap.objs.size) v1 v2 v3 v4 (k + 1) (k + 1) (k + 1) (k + 1) := n5 ▸ Z8
  have T9 : IsQ g8 s.heap.objs.size v1 v2 v3 v4 := n5 ▸ T8
  exact Eq.mpr (congrArg (fun m => Q (.ref m) { s with heap := g8 }) n5) (hQ v1 v2 v3 v4 g8 e1 e2 e3 e4 Z9 T9 K8)
theorem next_zip4 {n l1 l2 l3 l4 : Addr} {x1 x2 x3 x4 : Array Value} {a b c d : Value} {k : Nat} {Q : Option Value → Shared → Prop} (hh : A.handled = none)
    (Z : Z4 s.heap n l1 l2 l3 l4 x1 x2 x3 x4 .none a b c d k k k k)
    (hQ : ∀ v1 v2 v3 v4 h', x1[k]? = some v1 → x2[k]? = some v2 → x3[k]? = some v3 → x4[k]? = some v4 → Z4 h' n l1 l2 l3 l4 x1 x2 x3 x4 (rawInt s.heap.objs.size) v1 v2 v3 v4 (k + 1) (k + 1) (k + 1) (k + 1) →
      IsQ h' s.heap.objs.size v1 v2 v3 v4 → Kp n s.heap h' → Q (some (.ref s.heap.objs.size)) { s with heap := h' })
    (hE : ∀ h', (x1[k]? = none ∨ x2[k]? = none ∨ x3[k]? = none ∨ x4[k]? = none) → Kp n s.heap h' → Q none { s with heap := h' }) :
    wpAny (model prog w) A (pyNext (.ref (n + 6))) Q E s := by
  have hT : s.TypeIs (.ref (n + 6)) "zip" := ⟨_, Z.z, rfl⟩
  unfold pyNext
  refine wpAny_bind (wpAny_attempt (wpAny_callSpecial?_slot (name := Str.ofString "__next__") hT F.slot_zip_next (wpAny_call_entry F.slot_zip_next hT F.entry_zip_next
    (zip4_next hh Z (fun v1 v2 v3 v4 g e1 e2 e3 e4 Zg Tg Kg => wpAny_pure (hQ v1 v2 v3 v4 g e1 e2 e3 e4 Zg Tg Kg)) fun g e hn Kg he => ?_) (F.args_zip_next_1 _))))
  obtain ⟨o, ho, hc⟩ := he
  exact wpAny_bind (wpAny_isInstance (T := "StopIteration") (b := true) ⟨o, ho, hc⟩ isSubtype_stop (wpAny_pure (hE g hn Kg)))
end
theorem tcall_zip4 (a b c d : Value) : checkTypeCall "zip" ⟨[a, b, c, d], []⟩ = pure () := by kernel_rfl
theorem ncall_zip4 (a b c d : Value) : checkBuiltinCall "zip.__new__" ⟨[.type "zip", a, b, c, d], []⟩ = pure () := by kernel_rfl
theorem args_init5 (a b c d e : Value) : argsOk "object.__init__" ⟨[a, b, c, d, e], []⟩ := by
  unfold argsOk
  rw [signature?_of (id := "object.__init__") (n := ['_', '_', 't', 'i', 'n', 'i', '_', '_'])
    (o := ['t', 'c', 'e', 'j', 'b', 'o']) (by kernel_rfl) F.owner_object]
  kernel_rfl
abbrev itOb (l : Addr) : Obj := { cls := .type "list_iterator", data := .fields #[.ref l, .int 0 0] }
abbrev zA (h : Heap) (l1 l2 l3 l4 : Addr) : Heap := (((h.push (itOb l1)).push (itOb l2)).push (itOb l3)).push (itOb l4)
abbrev zB (h : Heap) (l1 l2 l3 l4 : Addr) : Heap := (zA h l1 l2 l3 l4).push { cls := .type "tuple", data := .seq #[.ref h.objs.size, .ref (h.push (itOb l1)).objs.size, .ref ((h.push (itOb l1)).push (itOb l2)).objs.size, .ref (((h.push (itOb l1)).push (itOb l2)).push (itOb l3)).objs.size] }
abbrev zC (h : Heap) (l1 l2 l3 l4 : Addr) : Heap := (zB h l1 l2 l3 l4).push { cls := .type "tuple", data := .seq #[.none, .none, .none, .none] }
abbrev zD (h : Heap) (l1 l2 l3 l4 : Addr) : Heap := (zC h l1 l2 l3 l4).push { cls := .type "zip", data := .fields #[.none, .bool false, .bool false, .ref (zA h l1 l2 l3 l4).objs.size, .ref (zB h l1 l2 l3 l4).objs.size] }
set_option maxHeartbeats 4000000 in
theorem meets_zip4 (l1 l2 l3 l4 : Addr) (x1 x2 x3 x4 : Array Value) :
    Meets (Builtin.«zip.__new__» ⟨[.type "zip", .ref l1, .ref l2, .ref l3, .ref l4], []⟩) (fun _ R s => s.heap.IsList l1 x1 ∧ s.heap.IsList l2 x2 ∧ s.heap.IsList l3 x3 ∧ s.heap.IsList l4 x4 ∧
      R (.ok (.ret (.ref (zC s.heap l1 l2 l3 l4).objs.size))) { s with heap := zD s.heap l1 l2 l3 l4 }) :=
  .of_wp fun prog w A R s h => by
    obtain ⟨hp, g, d, tk, os⟩ := s
    obtain ⟨h1, h2, h3, h4, h⟩ := h
    have hsub := sub_zip
    have q1 : Heap.IsList (Shared.heap ⟨hp, g, d, tk, os⟩) l1 x1 := h1
    have q2 : Heap.IsList (Shared.heap ⟨hp.push (itOb l1), g, d, tk, os⟩) l2 x2 := Heap.IsList.push h2 _
    have q3 : Heap.IsList (Shared.heap ⟨(hp.push (itOb l1)).push (itOb l2), g, d, tk, os⟩) l3 x3 := Heap.IsList.push (Heap.IsList.push h3 _) _
    have q4 : Heap.IsList (Shared.heap ⟨((hp.push (itOb l1)).push (itOb l2)).push (itOb l3), g, d, tk, os⟩) l4 x4 := Heap.IsList.push (Heap.IsList.push (Heap.IsList.push h4 _) _) _
    wp_walk using wpAny_pyIter_list q1, wpAny_pyIter_list q2, wpAny_pyIter_list q3, wpAny_pyIter_list q4
    exact ⟨_, rfl, h⟩
section
variable {prog : Program} {w : World} {A : Around} {E : Value → Shared → Prop} {s : Shared}
theorem call_zip4 {l1 l2 l3 l4 : Addr} {x1 x2 x3 x4 : Array Value} {Q : Value → Shared → Prop} (h1 : s.heap.IsList l1 x1) (h2 : s.heap.IsList l2 x2) (h3 : s.heap.IsList l3 x3) (h4 : s.heap.IsList l4 x4)
    (b1 : l1 < s.heap.objs.size) (b2 : l2 < s.heap.objs.size) (b3 : l3 < s.heap.objs.size) (b4 : l4 < s.heap.objs.size)
    (hQ : ∀ h', Z4 h' s.heap.objs.size l1 l2 l3 l4 x1 x2 x3 x4 .none .none .none .none .none 0 0 0 0 → (∀ c o, s.heap.get? c = some o → h'.get? c = some o) → Q (.ref (s.heap.objs.size + 6)) { s with heap := h' }) :
    wpAny (model prog w) A (call (.type "zip") [.ref l1, .ref l2, .ref l3, .ref l4]) Q E s := by
  refine callType_new F.called_zip (by decide) (tcall_zip4 _ _ _ _) (ncall_zip4 _ _ _ _) (fun obj => args_init5 obj _ _ _ _) F.entry_zip_new (meets_zip4 l1 l2 l3 l4 x1 x2 x3 x4) ⟨h1, h2, h3, h4, ?_⟩
  have z1 : (s.heap.push (itOb l1)).objs.size = s.heap.objs.size + 1 := Heap.size_push ..
  have z2 : ((s.heap.push (itOb l1)).push (itOb l2)).objs.size = s.heap.objs.size + 2 := by rw [Heap.size_push, z1]
  have z3 : (((s.heap.push (itOb l1)).push (itOb l2)).push (itOb l3)).objs.size = s.heap.objs.size + 3 := by rw [Heap.size_push, z2]
  have z4 : (zA s.heap l1 l2 l3 l4).objs.size = s.heap.objs.size + 4 := by rw [Heap.size_push, z3]
  have z5 : (zB s.heap l1 l2 l3 l4).objs.size = s.heap.objs.size + 5 := by rw [Heap.size_push, z4]
  have z6 : (zC s.heap l1 l2 l3 l4).objs.size = s.heap.objs.size + 6 := by rw [Heap.size_push, z5]
  have u6 : ∀ c o, (zC s.heap l1 l2 l3 l4).get? c = some o → (zD s.heap l1 l2 l3 l4).get? c = some o := fun c o e => Heap.get?_push_of_some _ e
  have u5 : ∀ c o, (zB s.heap l1 l2 l3 l4).get? c = some o → (zD s.heap l1 l2 l3 l4).get? c = some o := fun c o e => u6 c o (Heap.get?_push_of_some _ e)
  have u4 : ∀ c o, (zA s.heap l1 l2 l3 l4).get? c = some o → (zD s.heap l1 l2 l3 l4).get? c = some o := fun c o e => u5 c o (Heap.get?_push_of_some _ e)
  have u3 : ∀ c o, (((s.heap.push (itOb l1)).push (itOb l2)).push (itOb l3)).get? c = some o → (zD s.heap l1 l2 l3 l4).get? c = some o := fun c o e => u4 c o (Heap.get?_push_of_some _ e)
  have u2 : ∀ c o, ((s.heap.push (itOb l1)).push (itOb l2)).get? c = some o → (zD s.heap l1 l2 l3 l4).get? c = some o := fun c o e => u3 c o (Heap.get?_push_of_some _ e)
  have u1 : ∀ c o, (s.heap.push (itOb l1)).get? c = some o → (zD s.heap l1 l2 l3 l4).get? c = some o := fun c o e => u2 c o (Heap.get?_push_of_some _ e)
  have u0 : ∀ c o, s.heap.get? c = some o → (zD s.heap l1 l2 l3 l4).get? c = some o := fun c o e => u1 c o (Heap.get?_push_of_some _ e)
  have g6 : (zD s.heap l1 l2 l3 l4).get? (zC s.heap l1 l2 l3 l4).objs.size = some _ := Heap.get?_push_size _ rfl
  have g5 : (zD s.heap l1 l2 l3 l4).get? (zB s.heap l1 l2 l3 l4).objs.size = some _ := u6 _ _ (Heap.get?_push_size _ rfl)
  have g4 : (zD s.heap l1 l2 l3 l4).get? (zA s.heap l1 l2 l3 l4).objs.size = some _ := u5 _ _ (Heap.get?_push_size _ rfl)
  have g3 : (zD s.heap l1 l2 l3 l4).get? (((s.heap.push (itOb l1)).push (itOb l2)).push (itOb l3)).objs.size = some _ := u4 _ _ (Heap.get?_push_size _ rfl)
  have g2 : (zD s.heap l1 l2 l3 l4).get? ((s.heap.push (itOb l1)).push (itOb l2)).objs.size = some _ := u3 _ _ (Heap.get?_push_size _ rfl)
  have g1 : (zD s.heap l1 l2 l3 l4).get? (s.heap.push (itOb l1)).objs.size = some _ := u2 _ _ (Heap.get?_push_size _ rfl)
  have g0 : (zD s.heap l1 l2 l3 l4).get? s.heap.objs.size = some _ := u1 _ _ (Heap.get?_push_size _ rfl)
  show _ ∧ _
  rw [z4, z5, z6] at g6
  rw [z1, z2, z3, z4] at g4
  rw [z5] at g5
  rw [z3] at g3
  rw [z2] at g2
  rw [z1] at g1
  rw [z6]
  have up : ∀ {l : Addr} {x : Array Value}, s.heap.IsList l x → (zD s.heap l1 l2 l3 l4).IsList l x := fun q => Heap.IsList.at q (fun o e => u0 _ o e)
  exact ⟨⟨_, g6, rfl⟩, hQ _ ⟨g6, g4, g5, ⟨_, g0, rfl, rfl⟩, ⟨_, g1, rfl, rfl⟩, ⟨_, g2, rfl, rfl⟩, ⟨_, g3, rfl, rfl⟩, up h1, up h2, up h3, up h4, b1, b2, b3, b4⟩ u0⟩
end
end KL
set_option Elab.async false
set_option linter.all false
set_option maxRecDepth 100000
namespace KL
open PySem PySem.W PyProof.Rows L2
def Itz4 (K : Frag) (a b c d : Addr) : It :=
  ⟨fun i H => ∃ (w1 w2 w3 w4 : List V) (x1 x2 x3 x4 : V), (SqL K H a w1 ∧ w1[i]? = some x1) ∧ (SqL K H b w2 ∧ w2[i]? = some x2) ∧ (SqL K H c w3 ∧ w3[i]? = some x3) ∧ (SqL K H d w4 ∧ w4[i]? = some x4),
    fun i H v H' => ∃ T x1 x2 x3 x4, v = .ref T ∧ H T = none ∧ H' = upd H T (.tup [x1, x2, x3, x4]) ∧ (∀ ws, SqL K H a ws → ws[i]? = some x1) ∧ (∀ ws, SqL K H b ws → ws[i]? = some x2) ∧ (∀ ws, SqL K H c ws → ws[i]? = some x3) ∧ ∀ ws, SqL K H d ws → ws[i]? = some x4,
    fun i H => ∃ w1 w2 w3 w4 : List V, SqL K H a w1 ∧ SqL K H b w2 ∧ SqL K H c w3 ∧ SqL K H d w4 ∧ (w1.length ≤ i ∨ w2.length ≤ i ∨ w3.length ≤ i ∨ w4.length ≤ i)⟩
def Zs (h : Heap) (n a b c d : Addr) (i : Nat) : Prop :=
  IsZip h (n + 6) (n + 4) (n + 5) .none ∧ IsQ h (n + 4) (.ref n) (.ref (n + 1)) (.ref (n + 2)) (.ref (n + 3)) ∧ (∃ v1 v2 v3 v4, IsQ h (n + 5) v1 v2 v3 v4) ∧ (h.IsListIter n a i ∧ h.IsListIter (n + 1) b i ∧ h.IsListIter (n + 2) c i ∧ h.IsListIter (n + 3) d i) ∧ a < n ∧ b < n ∧ c < n ∧ d < n
def fp4 (n : Addr) : List Addr := [n + 6, n + 4, n + 5, n, n + 1, n + 2, n + 3]
theorem mem_fp4 {n c : Nat} (h : c ∈ fp4 n) : c = n + 6 ∨ c = n + 4 ∨ c = n + 5 ∨ c = n ∨ c = n + 1 ∨ c = n + 2 ∨ c = n + 3 := by simpa [fp4] using h
theorem fp4_out {n c : Nat} (h : c ∉ fp4 n) : c < n ∨ n + 6 < c := by
  simp only [fp4, List.mem_cons, List.not_mem_nil, or_false] at h
  omega
theorem fp4_lt {n c m : Nat} (h : c ∈ fp4 n) (hm : n + 6 < m) : c < m := by
  have := mem_fp4 h
  omega
theorem le_none {α : Type} {l : List α} {i : Nat} (h : l.length ≤ i) : l.toArray[i]? = none := by simp; exact h
theorem get_arr {α : Type} {l : List α} {i : Nat} {x : α} (h : l[i]? = some x) : l.toArray[i]? = some x := by simpa using h
theorem turn_zip4 {P : Program} {w : World} {K : Frag} {elts : List Expr} {kk : Nat} {tpos : Pos} {n a b c d : Addr} :
    Turn P w K (.Tuple elts kk tpos) (Itz4 K a b c d) (fp4 n) (n + 6) (fun i h => Zs h n a b c d i) where
  mem := by simp [fp4]
  obj := fun i h st y hy => by
    obtain ⟨hz, hti, ⟨v1, v2, v3, v4, hto⟩, ⟨⟨o1, e1, _, d1⟩, ⟨o2, e2, _, d2⟩, ⟨o3, e3, _, d3⟩, ⟨o4, e4, _, d4⟩⟩, _⟩ := st
    rcases mem_fp4 hy with q | q | q | q | q | q | q
    · rw [q]; exact ⟨_, hz, fun v q => nomatch q⟩
    · rw [q]; exact ⟨_, hti, fun v q => nomatch q⟩
    · rw [q]; exact ⟨_, hto, fun v q => nomatch q⟩
    · rw [q]; exact ⟨o1, e1, fun v q => by rw [d1] at q; cases q⟩
    · rw [q]; exact ⟨o2, e2, fun v q => by rw [d2] at q; cases q⟩
    · rw [q]; exact ⟨o3, e3, fun v q => by rw [d3] at q; cases q⟩
    · rw [q]; exact ⟨o4, e4, fun v q => by rw [d4] at q; cases q⟩
  keep := fun i h h' st k => by
    obtain ⟨hz, hti, ⟨v1, v2, v3, v4, hto⟩, ⟨h1, h2, h3, h4⟩, hl⟩ := st
    have m : ∀ {y : Addr}, y ∈ fp4 n → ∀ o, h.get? y = some o → h'.get? y = some o := fun hy o e => k _ hy o e
    exact ⟨m (by simp [fp4]) _ hz, m (by simp [fp4]) _ hti, ⟨v1, v2, v3, v4, m (by simp [fp4]) _ hto⟩, ⟨h1.at (m (by simp [fp4])), h2.at (m (by simp [fp4])), h3.at (m (by simp [fp4])), h4.at (m (by simp [fp4]))⟩, hl⟩
  item := by
    intro X hP hw hK hc i pins s σ H E I hf st hg
    subst hP hw hK
    obtain ⟨hz, hti, ⟨v1, v2, v3, v4, hto⟩, ⟨h1, h2, h3, h4⟩, b1, b2, b3, b4⟩ := st
    obtain ⟨w1, w2, w3, w4, x1, x2, x3, x4, ⟨hq1, hx1⟩, ⟨hq2, hx2⟩, ⟨hq3, hx3⟩, ⟨hq4, hx4⟩⟩ := hg
    obtain ⟨y1, r1, p1, _⟩ := I.list hq1
    obtain ⟨y2, r2, p2, _⟩ := I.list hq2
    obtain ⟨y3, r3, p3, _⟩ := I.list hq3
    obtain ⟨y4, r4, p4, _⟩ := I.list hq4
    obtain ⟨u1, hu1, ru1⟩ := r1.get hx1
    obtain ⟨u2, hu2, ru2⟩ := r2.get hx2
    obtain ⟨u3, hu3, ru3⟩ := r3.get hx3
    obtain ⟨u4, hu4, ru4⟩ := r4.get hx4
    have lz : n + 6 < s.heap.objs.size := Heap.lt_size hz
    have Z : Z4 s.heap n a b c d y1.toArray y2.toArray y3.toArray y4.toArray .none v1 v2 v3 v4 i i i i := ⟨hz, hti, hto, h1, h2, h3, h4, p1.isList, p2.isList, p3.isList, p4.isList, b1, b2, b3, b4⟩
    refine next_zip4 (I.ok.hd hc) Z (fun z1 z2 z3 z4 h' e1 e2 e3 e4 Z' T' K' => ?_) fun h' hn _ => ?_
    · rw [get_arr hu1] at e1; rw [get_arr hu2] at e2; rw [get_arr hu3] at e3; rw [get_arr hu4] at e4
      cases e1; cases e2; cases e3; cases e4
      refine ⟨_, rfl, wpAny_letOwnedTupleGo_zip (s := { s with heap := h' }) Z'.z fun h'' z'' sb => ?_⟩
      have Zn := Z'.atz (f1 := .none) sb.extBut z''
      have T2 : IsQ h'' s.heap.objs.size u1 u2 u3 u4 := (sb.2 _ (Nat.ne_of_gt lz)).trans T'
      have K2 : Kp n s.heap h'' := K'.then sb.extBut (by decide)
      have new : ObjOk X.prog X.w (upd H s.heap.objs.size (.tup [x1, x2, x3, x4])) h'' s.heap.objs.size (.tup [x1, x2, x3, x4]) :=
        ⟨by show 4 ≤ sizeLine; decide, [u1, u2, u3, u4], .cons ru1 (.cons ru2 (.cons ru3 (.cons ru4 .nil))), ⟨_, T2, rfl, _, rfl⟩⟩
      have I1 : Inv X pins σ (upd H s.heap.objs.size (.tup [x1, x2, x3, x4])) { s with heap := h'' } :=
        I.turnedNew (t' := s.toks) (ch := fp4 n) (fun y o hy q => K2 y o (fp4_out hy) q) hf (Nat.le_refl _) new
      refine ⟨.ref s.heap.objs.size, _, I1, rfl, ⟨_, x1, x2, x3, x4, rfl, I.hok.fresh (Nat.le_refl _), rfl, fun l hl => by rw [I.list_inj hl hq1]; exact hx1, fun l hl => by rw [I.list_inj hl hq2]; exact hx2, fun l hl => by rw [I.list_inj hl hq3]; exact hx3, fun l hl => by rw [I.list_inj hl hq4]; exact hx4⟩,
        ⟨Zn.z, Zn.ti, ⟨_, _, _, _, Zn.tO⟩, ⟨Zn.i1, Zn.i2, Zn.i3, Zn.i4⟩, b1, b2, b3, b4⟩, fun y hy => ?_⟩
      rw [upd_ne (Nat.ne_of_lt (fp4_lt hy lz))]
      exact (hf y hy).1
    · rw [get_arr hu1, get_arr hu2, get_arr hu3, get_arr hu4] at hn
      rcases hn with q | q | q | q <;> cases q
  done := by
    intro X hP hw hK hc i pins s σ H E I hf st hg
    subst hP hw hK
    obtain ⟨hz, hti, ⟨v1, v2, v3, v4, hto⟩, ⟨h1, h2, h3, h4⟩, b1, b2, b3, b4⟩ := st
    obtain ⟨w1, w2, w3, w4, hq1, hq2, hq3, hq4, hend⟩ := hg
    obtain ⟨y1, r1, p1, _⟩ := I.list hq1
    obtain ⟨y2, r2, p2, _⟩ := I.list hq2
    obtain ⟨y3, r3, p3, _⟩ := I.list hq3
    obtain ⟨y4, r4, p4, _⟩ := I.list hq4
    have l1 := r1.length
    have l2 := r2.length
    have l3 := r3.length
    have l4 := r4.length
    have Z : Z4 s.heap n a b c d y1.toArray y2.toArray y3.toArray y4.toArray .none v1 v2 v3 v4 i i i i := ⟨hz, hti, hto, h1, h2, h3, h4, p1.isList, p2.isList, p3.isList, p4.isList, b1, b2, b3, b4⟩
    refine next_zip4 (I.ok.hd hc) Z (fun z1 z2 z3 z4 h' e1 e2 e3 e4 _ _ _ => ?_) fun h' hn K' => ⟨rfl, I.turnedL (t' := s.toks) (ch := fp4 n) (fun y o hy q => K' y o (fp4_out hy) q) hf⟩
    rcases hend with q | q | q | q
    · rw [le_none (by omega)] at e1; cases e1
    · rw [le_none (by omega)] at e2; cases e2
    · rw [le_none (by omega)] at e3; cases e3
    · rw [le_none (by omega)] at e4; cases e4
  self := fun A i s Q E st h => wpAny_pyIter_zip st.1 h
def iZip4 (K : Frag) (ta : TA) : TI := fun σ H R => ta σ H fun vs H1 => ∃ a b c d w1 w2 w3 w4, vs = [.ref a, .ref b, .ref c, .ref d] ∧ SqL K H1 a w1 ∧ SqL K H1 b w2 ∧ SqL K H1 c w3 ∧ SqL K H1 d w4 ∧ R (Itz4 K a b c d) H1
theorem pi_zip4 {X : Cx} {e e2 e3 e4 : Expr} {ta : TA} {p pos tpos : Pos} {elts : List Expr} {kk : Nat} (hg : Gl X "zip") (hm : X.mg "zip" = none) (ha : PA X [e, e2, e3, e4] ta)
    (hs : starEach [e, e2, e3, e4] X.env = (false, eval e X.env) :: starEach [e2, e3, e4] X.env := by rfl) (hpl : (backTo pos (starEach [e2, e3, e4] X.env)).any (·.1) = false := by rfl) :
    PI X (.Tuple elts kk tpos) (.Call (.Name "zip" p) [e, e2, e3, e4] [] pos) (iZip4 X.K ta) := by
  intro pins s σ H R I h
  refine Call_ (ld_blt I hg hm boot_zip5 (PyProof.Rows.callWith_type1 (thn (ha pos pins s σ H _ I h) fun us s1 hqq => ?_) hs hpl))
  obtain ⟨vs, H1, I1, r1, q1⟩ := hqq
  obtain ⟨a, b, c, d, w1, w2, w3, w4, ex, hq1, hq2, hq3, hq4, q⟩ := q1
  subst ex
  cases r1 with
  | cons r1 rr =>
    cases rr with
    | cons r2 rr =>
      cases rr with
      | cons r3 rr =>
        cases rr with
        | cons r4 rr =>
          cases rr
          cases r1; cases r2; cases r3; cases r4
          obtain ⟨y1, r1, p1, _⟩ := I1.list hq1
          obtain ⟨y2, r2, p2, _⟩ := I1.list hq2
          obtain ⟨y3, r3, p3, _⟩ := I1.list hq3
          obtain ⟨y4, r4, p4, _⟩ := I1.list hq4
          refine call_zip4 p1.isList p2.isList p3.isList p4.isList p1.lt p2.lt p3.lt p4.lt fun h' Z hk => wpAny_pyIter_zip Z.z ?_
          have I2 : Inv X pins σ H1 { s1 with heap := h' } := I1.kept (t' := s1.toks) hk
          refine ⟨s1.heap.objs.size + 6, fp4 s1.heap.objs.size, _, _, H1, rfl, I2, turn_zip4, ⟨Z.z, Z.ti, ⟨_, _, _, _, Z.tO⟩, ⟨Z.i1, Z.i2, Z.i3, Z.i4⟩, p1.lt, p2.lt, p3.lt, p4.lt⟩, fun y hy => ?_, q⟩
          have hle : s1.heap.objs.size ≤ y := by
            have := mem_fp4 hy
            rcases this with z | z | z | z | z | z | z <;> (rw [z]; first | exact Nat.le_add_right _ _ | exact Nat.le_refl _)
          exact I1.fpOk hle (I1.hok.fresh hle)
end KL
set_option Elab.async false
set_option linter.all false
set_option maxRecDepth 100000
namespace KL
open PySem PySem.W PyProof.Rows L2
def stp {α : Type} (r : Nat) (l : List α) : List α := (List.range ((l.length - r + 3) / 4)).filterMap fun i => l[r + 4 * i]?
theorem fm_range {α : Type} (f : Nat → Option α) : ∀ n : Nat, (∀ i, i < n → f i ≠ none) → ((List.range n).filterMap f).length = n ∧ ∀ i, i < n → ((List.range n).filterMap f)[i]? = f i
  | 0, _ => ⟨rfl, fun i h => absurd h (Nat.not_lt_zero i)⟩
  | n + 1, h => by
    obtain ⟨h1, h2⟩ := fm_range f n fun i q => h i (Nat.lt_succ_of_lt q)
    cases q : f n with
    | none => exact absurd q (h n (Nat.lt_succ_self n))
    | some x =>
      have e : (List.range (n + 1)).filterMap f = (List.range n).filterMap f ++ [x] := by rw [List.range_succ, List.filterMap_append]; simp [q]
      rw [e]
      refine ⟨by rw [List.length_append, h1]; rfl, fun i hi => ?_⟩
      by_cases hl : i < n
      · rw [List.getElem?_append_left (by rw [h1]; exact hl)]
        exact h2 i hl
      · have : i = n := by omega
        subst this
        rw [List.getElem?_append_right (by rw [h1]; exact Nat.le_refl _), h1, Nat.sub_self, q]
        rfl
theorem stp_some {α : Type} {r : Nat} {l : List α} {i : Nat} (h : i < (l.length - r + 3) / 4) : l[r + 4 * i]? ≠ none := by
  intro q
  rw [List.getElem?_eq_none_iff] at q
  omega
theorem stp_get {α : Type} (r : Nat) (l : List α) (i : Nat) : (stp r l)[i]? = l[r + 4 * i]? := by
  have h := fm_range (fun i => l[r + 4 * i]?) ((l.length - r + 3) / 4) fun i q => stp_some q
  by_cases hi : i < (l.length - r + 3) / 4
  · exact h.2 i hi
  · have e1 : l[r + 4 * i]? = none := List.getElem?_eq_none_iff.mpr (by omega)
    rw [e1, List.getElem?_eq_none_iff]
    show ((List.range ((l.length - r + 3) / 4)).filterMap fun i => l[r + 4 * i]?).length ≤ i
    rw [h.1]
    omega
theorem stp_length {α : Type} (r : Nat) (l : List α) : (stp r l).length = (l.length - r + 3) / 4 := (fm_range (fun i => l[r + 4 * i]?) ((l.length - r + 3) / 4) fun i q => stp_some q).1
theorem vals_fm {xs : List V} {us : List Value} (g : Nat → Nat) (v : Vals xs us) : ∀ ns : List Nat, Vals (ns.filterMap fun i => xs[g i]?) (ns.filterMap fun i => us[g i]?)
  | [] => .nil
  | n :: ns => by
    have ih := vals_fm g v ns
    have hl := v.length
    cases q : xs[g n]? with
    | none =>
      have q2 : us[g n]? = none := by rw [List.getElem?_eq_none_iff] at q ⊢; omega
      rw [List.filterMap_cons_none (f := fun i => xs[g i]?) q, List.filterMap_cons_none (f := fun i => us[g i]?) q2]
      exact ih
    | some x =>
      obtain ⟨u, hu, ru⟩ := v.get q
      rw [List.filterMap_cons_some (f := fun i => xs[g i]?) q, List.filterMap_cons_some (f := fun i => us[g i]?) hu]
      exact .cons ru ih
theorem vals_stp {xs : List V} {us : List Value} (r : Nat) (v : Vals xs us) : Vals (stp r xs) (stp r us) := by
  have := vals_fm (fun i => r + 4 * i) v (List.range ((xs.length - r + 3) / 4))
  unfold stp
  rw [← v.length]
  exact this
theorem pick4 (its : List Value) (r : Nat) : slicePick its.toArray (some (r : Int)) none (some 4) = (stp r its).toArray := by
  have hb : sliceBounds (some (r : Int)) none (some 4) its.toArray.size = (((min r its.length : Nat) : Int), ((its.length : Nat) : Int), 4) := by
    unfold sliceBounds
    simp only [Option.getD_some, show (4 : Int) > 0 by decide, if_true, List.size_toArray]
    have h : ¬ ((r : Int) < 0) := by omega
    simp only [h, if_false]
    refine Prod.ext ?_ rfl
    show max 0 (min (r : Int) (its.length : Int)) = ((min r its.length : Nat) : Int)
    omega
  unfold slicePick stp
  rw [hb]
  refine congrArg List.toArray ?_
  unfold sliceRange
  simp only [show (4 : Int) > 0 by decide, if_true]
  rw [List.filterMap_map]
  by_cases hr : r < its.length
  · have hm : min r its.length = r := Nat.min_eq_left (Nat.le_of_lt hr)
    rw [hm, if_pos (by omega)]
    have hc : (((its.length : Int) - (r : Int) + 4 - 1) / 4).toNat = (its.length - r + 3) / 4 := by omega
    rw [hc]
    refine congrArg (fun f => List.filterMap f _) ?_
    funext k
    have hk : ((r : Int) + 4 * (k : Int)).toNat = r + 4 * k := by omega
    show its.toArray[((r : Int) + 4 * (k : Int)).toNat]? = _
    rw [hk]
    simp
  · have hm : min r its.length = its.length := Nat.min_eq_right (by omega)
    rw [hm, if_neg (by omega)]
    have hc : (its.length - r + 3) / 4 = 0 := by omega
    rw [hc]
    rfl
def tSl4 (K : Frag) (te : TE) (tl ts : TO) : TE := fun σ H Q => te σ H fun x H1 => tl σ H1 fun l H2 => ts σ H2 fun st H3 => ∃ (r : Nat) (a : Addr) (xs : List V), l = some (r : Int) ∧ st = some 4 ∧ x = .ref a ∧ SqL K H3 a xs ∧ ∀ p, H3 p = none → Q (.ref p) (upd H3 p (.lst (stp r xs)))
theorem pe_slice4 {X : Cx} {e : Expr} {te : TE} {lo : Option Expr} {st : Expr} {tl ts : TO} {pos p2 : Pos} (he : PE X e te) (hl : PO X lo tl) (ht : PO X (some st) ts) : PE X (.Subscript e (.Slice lo none (some st) p2) pos) (tSl4 X.K te tl ts) := by
  intro pins s σ H Q I h
  refine Subscript_ (thn (he pins s σ H _ I h) fun v s1 hqq => ?_)
  obtain ⟨x, H1, I1, r1, q1⟩ := hqq
  refine wpAny_Slice (thn (hl pins s1 σ H1 _ I1 q1) fun vl s2 hqq => ?_)
  obtain ⟨l, H2, I2, pl, q2⟩ := hqq
  rw [evalPart_none]
  refine wpAny_pure (thn (ht pins s2 σ H2 _ I2 q2) fun vt s3 hqq => ?_)
  obtain ⟨u, H3, I3, pu, q3⟩ := hqq
  obtain ⟨r, a, xs, rfl, rfl, rfl, hx, q⟩ := q3
  cases r1
  have I4 : Inv X pins σ H3 { s3 with heap := s3.heap.push { cls := .type "slice", data := .fields #[vl, .none, vt] } } := I3.kept (t' := s3.toks) fun b ob q => Heap.get?_push_of_some _ q
  obtain ⟨its, rv, p, hz⟩ := I4.list hx
  have hlen := rv.length
  show wpAny (model X.prog X.w) X.A (subscriptTail e (.Slice lo none (some st) p2) (.ref a) (.ref s3.heap.objs.size)) (EP X pins σ Q) X.xe { s3 with heap := s3.heap.push { cls := .type "slice", data := .fields #[vl, .none, vt] } }
  refine tail_any (ops := [.ref a, .ref s3.heap.objs.size]) p.isList.typeIs slot_list_getitem.lookup ?_ (by with_unfolding_all rfl)
  refine wpAny_getItem_list_slice (lo := some (r : Int)) (hi := none) (st := some 4) p.isList (Heap.IsSliceOf.new ..) pl .none pu (by simp) ?_ (by rw [List.size_toArray] <;> omega)
  rw [pick4]
  refine ⟨.ref (s3.heap.push { cls := .type "slice", data := .fields #[vl, .none, vt] }).objs.size, _, I4.laid (t' := s3.toks) (o := .lst (stp r xs)) (fun b ob q => Heap.get?_push_of_some _ q) (Nat.le_refl _) ?_, rfl, q _ (I4.hok.fresh (Nat.le_refl _))⟩
  refine ⟨Nat.le_trans ?_ hz, _, 0, vals_stp r rv, Heap.get?_push_size _ rfl⟩
  rw [stp_length]
  omega
end KL
set_option Elab.async false
set_option linter.all false
set_option maxRecDepth 100000
namespace KL
open PySem PySem.W PyProof.Rows L2
def isByte (l : List Nat) : Prop := ∀ x ∈ l, x < 256
def newL (xs : List V) (H : Hp) (Q : VK) : Prop := ∀ (l : Addr) (H' : Hp), Same H H' → H l = none → H' l = some (.lst xs) → Q (.ref l) H'
theorem vb_snoc (l : List Nat) {z : Int} {n : Nat} (e : z = (n : Int)) : some (HO.lst (vb l ++ [V.int z])) = some (HO.lst (vb (l ++ [n]))) := by
  rw [vb_append, e]
  rfl
theorem pow8 (i : Nat) : (2 : Int) ^ (8 * i) = ((256 ^ i : Nat) : Int) := by
  rw [show (256 : Nat) ^ i = 2 ^ (8 * i) from (Nat.pow_mul 2 8 i).symm]
  simp
theorem lt_size {n : Nat} (h : n ≤ 16777215) : n < sizeLine := by
  show n < 2 ^ 24
  omega
theorem le_size {n : Nat} (h : n ≤ 16777216) : n ≤ sizeLine := by
  show n ≤ 2 ^ 24
  omega
theorem cut_from {xs : List V} {n : Nat} : cutV xs (some (n : Int)) none = xs.drop n := by
  unfold cutV
  show (xs.drop (if (n : Int) < 0 then ((n : Int) + (xs.length : Int)).toNat else min (n : Int).toNat xs.length)).take (xs.length - (if (n : Int) < 0 then ((n : Int) + (xs.length : Int)).toNat else min (n : Int).toNat xs.length)) = _
  rw [if_neg (by omega)]
  have e : (n : Int).toNat = n := Int.toNat_natCast n
  rw [e]
  by_cases h : n ≤ xs.length
  · rw [Nat.min_eq_left h, List.take_of_length_le (by rw [List.length_drop]; omega)]
  · rw [Nat.min_eq_right (by omega), List.drop_eq_nil_of_le (Nat.le_refl _), List.drop_eq_nil_of_le (by omega), List.take_nil]
theorem cut_both {xs : List V} {i j : Nat} (hij : i ≤ j) (hj : j ≤ xs.length) : cutV xs (some (i : Int)) (some (j : Int)) = (xs.drop i).take (j - i) := by
  unfold cutV
  show (xs.drop (if (i : Int) < 0 then ((i : Int) + (xs.length : Int)).toNat else min (i : Int).toNat xs.length)).take ((if (j : Int) < 0 then ((j : Int) + (xs.length : Int)).toNat else min (j : Int).toNat xs.length) - (if (i : Int) < 0 then ((i : Int) + (xs.length : Int)).toNat else min (i : Int).toNat xs.length)) = _
  rw [if_neg (by omega), if_neg (by omega)]
  have e : (i : Int).toNat = i := Int.toNat_natCast i
  have e2 : (j : Int).toNat = j := Int.toNat_natCast j
  rw [e, e2, Nat.min_eq_left (show i ≤ xs.length by omega), Nat.min_eq_left hj]
theorem vb_take (l : List Nat) (n : Nat) : vb (l.take n) = (vb l).take n := List.map_take
theorem vb_drop (l : List Nat) (n : Nat) : vb (l.drop n) = (vb l).drop n := List.map_drop
theorem vb_slice (l : List Nat) (i n : Nat) : vb (Sv13.slice l i n) = ((vb l).drop i).take n := by
  unfold Sv13.slice
  rw [vb_take, vb_drop]
theorem vb_at {l : List Nat} {i x : Nat} (h : l[i]? = some x) : atI (vb l) (i : Int) = some (V.int (x : Int)) := by
  refine atI_nat ?_
  unfold vb
  rw [List.getElem?_map, h]
  rfl
theorem crc_snoc (bs : List Nat) (b c : Nat) : (bs ++ [b]).foldl Sv13.crcByte c = Sv13.crcByte (bs.foldl Sv13.crcByte c) b := by rw [List.foldl_append]; rfl
theorem and32 (a : Nat) : Builtin.bitAnd (a : Int) 4294967295 = ((a % 2 ^ 32 : Nat) : Int) := by
  rw [bitAnd_m32]
  omega
theorem masked_eq {c : Nat} (hc : c < 2 ^ 32) : Builtin.bitAnd (Builtin.bitOr ((c : Int) / 2 ^ (15 : Int).toNat) (Builtin.bitAnd ((c : Int) * 2 ^ (17 : Int).toNat) 4294967295) + 2726488792) 4294967295 = ((Sv13.masked c : Nat) : Int) := by
  have e1 : (c : Int) / 2 ^ (15 : Int).toNat = ((c / 2 ^ 15 : Nat) : Int) := by
    show (c : Int) / 32768 = _
    omega
  have e2 : (c : Int) * 2 ^ (17 : Int).toNat = ((c * 2 ^ 17 : Nat) : Int) := by
    show (c : Int) * 131072 = _
    omega
  rw [e1, e2, and32, or_nat, My.turn_or hc (by decide) rfl]
  have e3 : ((c / 2 ^ 15 + c * 2 ^ 17 % 2 ^ 32 : Nat) : Int) + 2726488792 = ((c / 2 ^ 15 + c * 2 ^ 17 % 2 ^ 32 + 2726488792 : Nat) : Int) := by omega
  rw [e3, and32]
  rfl
theorem seq_cut {t u : TS} {D : Ends} {σ : L2.St} {H : Hp} (M : L2.St → Hp → Prop) (h2 : ∀ σ' H', M σ' H' → u D σ' H') (h1 : (∀ σ' H', M σ' H' → u D σ' H') → t { D with nx := u D } σ H) : tSeq t u D σ H := h1 h2
theorem atI_last {α : Type} {xs : List α} {x : α} (h : xs.getLast? = some x) : atI xs (-1) = some x := by
  have hn : xs ≠ [] := fun e => by rw [e] at h; cases h
  have hl : 0 < xs.length := List.length_pos_iff.mpr hn
  unfold atI ixN
  rw [if_neg (by decide), if_pos (by omega)]
  show xs[((-1 : Int) + (xs.length : Int)).toNat]? = some x
  have e : ((-1 : Int) + (xs.length : Int)).toNat = xs.length - 1 := by omega
  rw [e, ← List.getLast?_eq_getElem?]
  exact h
theorem gname_nx {i : Nat} {v : V} {σ : L2.St} {H : Hp} {N : L2.St → Hp → Prop} (h : N (σ.set i (some v)) H) : gName i v σ H N := h
theorem lk_here {x : Str} {v : V} {r : List (Str × V)} : ((x, v) :: r).lookup x = some v := by simp only [List.lookup, beq_self_eq_true]
theorem lk_next {x y : Str} {v : V} {r : List (Str × V)} {o : Option V} (h : (x == y) = false) (t : r.lookup x = o) : ((y, v) :: r).lookup x = o := by simp only [List.lookup, h]; exact t
theorem lk_nil {x : Str} : ([] : List (Str × V)).lookup x = none := rfl
theorem pf_nil {x : Str} {v : V} : putF x v [] = [(x, v)] := rfl
theorem pf_here {x : Str} {v u : V} {r : List (Str × V)} : putF x v ((x, u) :: r) = (x, v) :: r := by simp only [putF, if_pos]
theorem pf_next {x y : Str} {v u : V} {r : List (Str × V)} (h : ¬ y = x) : putF x v ((y, u) :: r) = (y, u) :: putF x v r := by simp only [putF, if_neg h]
section
variable {P : Program} {w : World} {K : Frag} {mg : Str → Option Value} {base : Heap}
structure MethAt (K : Frag) (C : Addr) (m qual : Str) (st : Stmt) : Prop where
  ex : ∃ f fd, Meth K C m f ∧ Fun K m qual st f fd
theorem MethAt.mx {C : Addr} {m qual : Str} {st : Stmt} {N ps : List Str} {k : Nat} {sp : Sp} (D : MethAt K C m qual st) (c : Cls K C) (S : FnScope N ps (defScope st))
    (hb : ∀ (kV doc pm : Value) (an : Option Addr) (cdv ct : Value) (us : List Value), us.length = ps.length → bindArgs (fnOf m qual (defArgs st) (defBody st) (defScope st) .none kV doc pm an cdv ct) ⟨us, []⟩ = pure (ps.zip us))
    (len : ∀ vs H Q E, sp vs H Q E → vs.length = ps.length)
    (hbody : ∀ (f : Addr) (cdv : Value) (A : Around) (outer : List Env) (s : Shared) (H : Hp) (vs : List V) (Q : VK) (E : XK), Room k (A.deeper (envOfC qual (defScope st) s.heap.objs.size f cdv)) → sp vs H Q E →
      ∃ t, PSs (cxOf CX0 P w K mg base N qual (defScope st) f cdv A outer s H E).nox (defBody st) t ∧ t { nx := fun _ H' => Q .non H', rt := Q } (start N vs) H) : Mtx P w K mg base C m (k + 1) ps sp := by
  obtain ⟨f, fd, hm, F⟩ := D.ex
  exact ⟨f, fd, c, hm, F.binds hb, F.ok S len fun cdv A outer s H vs Q E hr h => hbody f cdv A outer s H vs Q E hr h⟩
structure MakeAt (K : Frag) (mg : Str → Option Value) (x : Str) (C : Addr) (qual : Str) (st : Stmt) : Prop where
  ex : ∃ f fd, mg x = some (.ref C) ∧ Mk K C f ∧ Fun K "__init__" qual st f fd
theorem MakeAt.mx {x : Str} {C : Addr} {qual : Str} {st : Stmt} {N ps : List Str} {k : Nat} {sp : Sp} (D : MakeAt K mg x C qual st) (S : FnScope N ps (defScope st))
    (hb : ∀ (kV doc pm : Value) (an : Option Addr) (cdv ct : Value) (us : List Value), us.length = ps.length → bindArgs (fnOf "__init__" qual (defArgs st) (defBody st) (defScope st) .none kV doc pm an cdv ct) ⟨us, []⟩ = pure (ps.zip us))
    (len : ∀ vs H Q E, sp vs H Q E → vs.length = ps.length)
    (hbody : ∀ (f : Addr) (cdv : Value) (A : Around) (outer : List Env) (s : Shared) (H : Hp) (vs : List V) (Q : VK) (E : XK), Room k (A.deeper (envOfC qual (defScope st) s.heap.objs.size f cdv)) → sp vs H Q E →
      ∃ t, PSs (cxOf CX0 P w K mg base N qual (defScope st) f cdv A outer s H E).nox (defBody st) t ∧ t { nx := fun _ H' => Q .non H', rt := Q } (start N vs) H) : Mkx P w K mg base x C (k + 1) ps sp := by
  obtain ⟨f, fd, h0, hm, F⟩ := D.ex
  exact ⟨f, fd, h0, hm, F.binds hb, F.ok S len fun cdv A outer s H vs Q E hr h => hbody f cdv A outer s H vs Q E hr h⟩
end
end KL
set_option Elab.async false
set_option linter.all false
set_option maxRecDepth 100000
namespace KL
open PySem PySem.W PyProof.Rows L2
theorem ok_there {P : Program} {w : World} {H : Hp} {h : Heap} {a : Addr} {o : HO} (x : ObjOk P w H h a o) : ∃ u, h.get? a = some u := by
  cases o with
  | lst xs => obtain ⟨_, _, _, _, e⟩ := x; exact ⟨_, e⟩
  | tup xs => obtain ⟨_, _, _, u, e, _⟩ := x; exact ⟨u, e⟩
  | dK kvs => obtain ⟨_, _, _, _, u, _, _, e, _⟩ := x; exact ⟨u, e⟩
  | dT kvs => obtain ⟨_, _, _, _, u, _, _, e, _⟩ := x; exact ⟨u, e⟩
  | set S n => obtain ⟨u, _, _, _, e, _⟩ := x; exact ⟨u, e⟩
  | ins C dx fs => obtain ⟨_, _, _, e, _⟩ := x; exact ⟨_, e⟩
  | own y => exact x
  | xd fs => obtain ⟨_, ⟨u, _, _, e, _⟩, _⟩ := x; exact ⟨u, e⟩
  | rng lo hi => obtain ⟨_, _, _, e⟩ := x; exact ⟨_, e⟩
  | frz ob u => exact ⟨_, x.1⟩
  | tbl ps => exact ⟨_, x⟩
  | met f y => exact ⟨_, x⟩
  | ext φ => exact x.2.1
def Cov (fs : List Addr) (h0 : Heap) (H' : Hp) (h B : Heap) : Prop := ∀ b o, h.get? b = some o → (H' b ≠ none ∨ ∃ o', h0.get? b = some o') → b ∉ fs → B.get? b = some o
def Fly (outer : List Env) (h0 : Heap) (a : Addr) (cls : Value) (H' : Hp) (h : Heap) : Prop := ∃ (B : Heap) (a0 : Value), Heap.FlyingW B outer a cls a0 h ∧ Cov (frs outer) h0 H' h B
def CX1 (P : Program) (w : World) : CXT := fun outer H s E e s' => ∃ (a : Addr) (cls : Value) (H' : Hp), e = .ref a ∧ Fly outer s.heap a cls H' s'.heap ∧ s'.os = s.os ∧ AllBare s'.gens ∧
  Un (frs outer) [] H H' s.heap s'.heap ∧ HOk P w H' s'.heap ∧ E cls none H'
theorem station {P : Program} {w : World} {fs : List Addr} {h0 h h' B : Heap} {H0 H' : Hp} (un : Un fs [] H0 H' h0 h) (hok : HOk P w H' h) (hf : ∀ b ∈ fs, H0 b = none ∧ ∃ o, h0.get? b = some o ∧ ∀ vs, o.data ≠ .fields vs)
    (ut : h.UpToSlots h') (st : B.StaysIn h') (hB : Cov fs h0 H' h B) : Cov fs h0 H' h' B ∧ Un fs [] H0 H' h0 h' ∧ HOk P w H' h' := by
  have nx : ∀ b : Addr, b ∉ ([] : List Addr) := fun b => by simp
  have keep : ∀ b o, h.get? b = some o → (H' b ≠ none ∨ ∃ o', h0.get? b = some o') → b ∉ fs → h'.get? b = some o := fun b o e hc hn => st b o (hB b o e hc hn)
  have frame : ∀ b, H' b ≠ none → b ∉ fs := fun b hb z => by
    obtain ⟨n, o, ho, _⟩ := hf b z
    exact hb (un.free b o ho n (nx b))
  have slotK : ∀ b o, h0.get? b = some o → b ∈ fs → ∃ sl, h'.get? b = some { o with slots := sl } := fun b o e hb => by
    obtain ⟨n, o2, ho2, hnf⟩ := hf b hb
    rw [e] at ho2
    cases ho2
    obtain ⟨sl, e1⟩ := un.slot b o e n hb (nx b)
    obtain ⟨sl', e2⟩ := ut b _ e1 hnf
    exact ⟨sl', e2⟩
  refine ⟨fun b o e hc hn => ?_, ⟨fun b o e n hb _ => ?_, fun b o e n hb _ => slotK b o e hb, fun b o e n _ => un.free b o e n (nx b), fun b o e _ => ?_, un.tups, un.frzs, un.tbls⟩, fun b u e => ?_⟩
  · have h1 : ∃ u, h.get? b = some u := by
      rcases hc with hc | ⟨o', e'⟩
      · cases q : H' b with
        | none => exact absurd q hc
        | some u => exact ok_there (hok b u q)
      · exact un.there b o' e' (nx b)
    obtain ⟨u, e1⟩ := h1
    have e2 := hB b u e1 hc hn
    have e3 := st b u e2
    rw [e] at e3
    cases e3
    exact e2
  · exact keep b o (un.keep b o e n hb (nx b)) (.inr ⟨o, e⟩) hb
  · by_cases hb : b ∈ fs
    · obtain ⟨sl, e2⟩ := slotK b o e hb
      exact ⟨_, e2⟩
    · obtain ⟨o', e1⟩ := un.there b o e (nx b)
      exact ⟨o', keep b o' e1 (.inr ⟨o, e⟩) hb⟩
  · refine (hok b u e).stay (fun c v hc q => ?_) (fun _ q => q) fun _ _ q => q
    have hn : H' c ≠ none := by
      rcases hc with rfl | hc
      · rw [e]; simp
      · rw [hc]; simp
    exact keep c v q (.inl hn) (frame c hn)
structure Top (X : Cx) : Prop where
  stk : X.stack = X.env :: X.outer
  fr : X.env.frame = some X.env.locals
  ex : X.ex = []
theorem Top.un {X : Cx} (T : Top X) {pins : List (Addr × Obj)} {σ : L2.St} {H : Hp} {s : Shared} (I : Inv X pins σ H s) : Un (frs X.outer) [] X.H₀ H X.s₀.heap s.heap := by
  have := I.base
  rw [T.ex] at this
  exact this
theorem Top.frames {X : Cx} {pins : List (Addr × Obj)} {σ : L2.St} {H : Hp} {s : Shared} (I : Inv X pins σ H s) : ∀ b ∈ frs X.outer, X.H₀ b = none ∧ ∃ o, X.s₀.heap.get? b = some o ∧ ∀ vs, o.data ≠ .fields vs := fun b hb =>
  ⟨I.ok.frf b hb, (I.ok.funs.mem hb).2⟩
theorem cov_up {X : Cx} {pins : List (Addr × Obj)} {σ : L2.St} {H H' : Hp} {s : Shared} {h B : Heap} (T : Top X) (I : Inv X pins σ H s) (hf : ∀ b ∈ frs X.stack, H' b = none) (cov : Cov (frs X.stack) s.heap H' h B) : Cov (frs X.outer) X.s₀.heap H' h B := fun b o e hc hn => by
  rcases hc with hc | ⟨o', e'⟩
  · exact cov b o e (.inl hc) fun z => hc (hf b z)
  · refine cov b o e (.inr (I.base.there b o' e' (by rw [T.ex]; simp))) fun z => ?_
    rcases List.mem_cons.mp (I.stkSub b z) with r | r
    · subst r
      exact absurd (Nat.lt_of_lt_of_le (Heap.lt_size e') I.ok.above) (Nat.lt_irrefl _)
    · exact hn r
theorem leave_on {X : Cx} {pins : List (Addr × Obj)} {σ : L2.St} {H : Hp} {s s' : Shared} {E : XK} {e : Value} {Ex : Value → Shared → Prop} (T : Top X) (I : Inv X pins σ H s) (h : CX1 X.prog X.w X.stack H s E e s') :
    wpAny (model X.prog X.w) X.A (leaving X.env e) (fun _ s'' => CX1 X.prog X.w X.outer X.H₀ X.s₀ E e s'') Ex s' := by
  obtain ⟨a, cls, H', rfl, ⟨B, a0, fl, cov⟩, os, bare, un, hok, q⟩ := h
  have I' : Inv X pins σ H' s' := I.call' os un hok bare (fun b z => absurd z (by simp))
  have hB := cov_up T I (fun b z => I'.stkFree b z) cov
  have hfr : X.A.frames = some (X.env :: X.outer) := by rw [← T.stk]; exact I.ok.frames
  rw [T.stk] at fl
  refine wpAny_leaves_onW hfr T.fr fl fun h' fl' ut => ?_
  obtain ⟨c1, c2, c3⟩ := station (T.un I') hok (Top.frames I') ut fl'.1 hB
  exact ⟨a, cls, H', rfl, ⟨B, a0, fl', c1⟩, I'.os, bare, c2, c3, q⟩
theorem top_cx {CX : CXT} {P : Program} {w : World} {K : Frag} {mg : Str → Option Value} {base : Heap} {N : List Str} {qual : Str} {scope : Scope} {f : Addr} {cd : Value} {A : Around} {outer : List Env} {s : Shared} {H : Hp} {E : XK} :
    Top (cxOf CX P w K mg base N qual scope f cd A outer s H E) := ⟨rfl, rfl, rfl⟩
theorem passX {P : Program} {w : World} {K : Frag} {mg : Str → Option Value} {base : Heap} {N : List Str} {qual : Str} {scope : Scope} {f : Addr} {cd : Value} {A : Around} {outer : List Env} {s : Shared} {H : Hp} {E : XK} :
    Passes (CX1 P w) (cxOf (CX1 P w) P w K mg base N qual scope f cd A outer s H E) E := fun pins σ H1 s1 e s' I h => leave_on top_cx I h
structure Fxe (P : Program) (w : World) (K : Frag) (mg : Str → Option Value) (base : Heap) (x : Str) (k : Nat) (ps : List Str) (sp : Sp) : Prop where
  ex : ∃ f fd, mg x = some (.ref f) ∧ keepIn K (.ref f) = true ∧ Binds K fd ps [] ∧ FnOk P w K mg base (CX1 P w) k f fd ps sp
structure Mtxe (P : Program) (w : World) (K : Frag) (mg : Str → Option Value) (base : Heap) (C : Addr) (m : Str) (k : Nat) (ps : List Str) (sp : Sp) : Prop where
  ex : ∃ f fd, Cls K C ∧ Meth K C m f ∧ Binds K fd ps [] ∧ FnOk P w K mg base (CX1 P w) k f fd ps sp
structure Mkxe (P : Program) (w : World) (K : Frag) (mg : Str → Option Value) (base : Heap) (x : Str) (C : Addr) (k : Nat) (ps : List Str) (sp : Sp) : Prop where
  ex : ∃ f fd, mg x = some (.ref C) ∧ Mk K C f ∧ Binds K fd ps [] ∧ FnOk P w K mg base (CX1 P w) k f fd ps sp
theorem pe_fxe {X : Cx} {E : XK} {x : Str} {k : Nat} {ps : List Str} {sp : Sp} {p pos : Pos} {e : Expr} {es : List Expr} {t : TA} (F : Fxe X.prog X.w X.K X.mg X.base x k ps sp) (hr : Room k X.A) (hg : Gl X x) (hp : Passes (CX1 X.prog X.w) X E) (ha : PA X (e :: es) t)
    (hdb : (x == ("__debug__" : Str)) = false := by decide) (he : starEach (e :: es) X.env = (false, eval e X.env) :: starEach es X.env := by rfl) (hpl : (backTo pos (starEach es X.env)).any (·.1) = false := by rfl) :
    PE X (.Call (.Name x p) (e :: es) [] pos) (tCall sp [] E t) := by
  obtain ⟨f, fd, hm, hk, hb, G⟩ := F.ex
  exact pe_call G hr hg hm hk hb .nil hp ha hdb he hpl
theorem pe_mxe {X : Cx} {E : XK} {x : Str} {C : Addr} {k : Nat} {ps : List Str} {sp : Sp} {p pos : Pos} {e : Expr} {es : List Expr} {t : TA} (M : Mkxe X.prog X.w X.K X.mg X.base x C k ps sp) (hr : Room (k + 1) X.A) (hg : Gl X x) (hp : Passes (CX1 X.prog X.w) X E) (ha : PA X (e :: es) t)
    (hdb : (x == ("__debug__" : Str)) = false := by decide) (he : starEach (e :: es) X.env = (false, eval e X.env) :: starEach es X.env := by rfl) (hpl : (backTo pos (starEach es X.env)).any (·.1) = false := by rfl) :
    PE X (.Call (.Name x p) (e :: es) [] pos) (tMake C sp [] E t) := by
  obtain ⟨f, fd, hm, hk, hb, G⟩ := M.ex
  exact pe_make hk G hr hg hm hb .nil hp ha hdb he hpl
theorem pe_mte {X : Cx} {E : XK} {o e : Expr} {es : List Expr} {C : Addr} {m : Str} {k : Nat} {ps : List Str} {sp : Sp} {apos pos : Pos} {ta : TE} {t : TA} {pl : Sem Bool} (he : PE X o ta) (M : Mtxe X.prog X.w X.K X.mg X.base C m k ps sp) (hr : Room k X.A) (hp : Passes (CX1 X.prog X.w) X E) (ha : PA X (e :: es) t)
    (hst : starEach (e :: es) X.env = (false, eval e X.env) :: starEach es X.env := by rfl) (hpl : (backTo pos (starEach es X.env)).any (·.1) = false := by rfl)
    (ht : eval (.Call (.Attribute o m apos) (e :: es) [] pos) X.env = (do
      let ov ← eval o X.env
      standAt apos.atName
      let (f, first) ← holding [ov] (getMethod ov m pl)
      callWith pos f first (backTo pos (starEach (e :: es) X.env)) (backToKw pos (keywordEach [] X.env))) := by rfl) :
    PE X (.Call (.Attribute o m apos) (e :: es) [] pos) (tMeth C m sp [] E ta t) := by
  obtain ⟨f, fd, hc, hm, hb, G⟩ := M.ex
  exact pe_meth he hc hm G hr hb .nil hp ha hst hpl ht
theorem pe_mte0 {X : Cx} {E : XK} {o : Expr} {C : Addr} {m : Str} {k : Nat} {ps : List Str} {sp : Sp} {apos pos : Pos} {ta : TE} {pl : Sem Bool} (he : PE X o ta) (M : Mtxe X.prog X.w X.K X.mg X.base C m k ps sp) (hr : Room k X.A) (hp : Passes (CX1 X.prog X.w) X E)
    (ht : eval (.Call (.Attribute o m apos) [] [] pos) X.env = (do
      let ov ← eval o X.env
      standAt apos.atName
      let (f, first) ← holding [ov] (getMethod ov m pl)
      callWith pos f first (backTo pos (starEach [] X.env)) (backToKw pos (keywordEach [] X.env))) := by rfl) :
    PE X (.Call (.Attribute o m apos) [] [] pos) (tMeth C m sp [] E ta tNil) := by
  obtain ⟨f, fd, hc, hm, hb, G⟩ := M.ex
  exact pe_meth0 he hc hm G hr hb .nil hp ht
section
variable {P : Program} {w : World} {K : Frag} {mg : Str → Option Value} {base : Heap}
theorem fun_oke {x qual : Str} {st : Stmt} {f : Addr} {fd : FuncData} {N ps : List Str} {k : Nat} {sp : Sp} (F : Fun K x qual st f fd) (S : FnScope N ps (defScope st)) (len : ∀ vs H Q E, sp vs H Q E → vs.length = ps.length)
    (hbody : ∀ (cdv : Value) (A : Around) (outer : List Env) (s : Shared) (H : Hp) (vs : List V) (Q : VK) (E : XK), Room k (A.deeper (envOfC qual (defScope st) s.heap.objs.size f cdv)) → sp vs H Q E →
      ∃ t, PSs (cxOf (CX1 P w) P w K mg base N qual (defScope st) f cdv A outer s H E) (defBody st) t ∧ t { nx := fun _ H' => Q .non H', rt := Q } (start N vs) H) : FnOk P w K mg base (CX1 P w) (k + 1) f fd ps sp := by
  obtain ⟨oc, od, kV, doc, pm, an, cdv, ct, osl, rfl, lk, hcd⟩ := F.ex
  exact fn_of lk hcd S len fun A outer s H vs Q E hr hsp => hbody cdv A outer s H vs Q E hr hsp
theorem DefAt.fxe {x : Str} {st : Stmt} {N ps : List Str} {k : Nat} {sp : Sp} (D : DefAt K mg x st) (S : FnScope N ps (defScope st))
    (hb : ∀ (kV doc pm : Value) (an : Option Addr) (cdv ct : Value) (us : List Value), us.length = ps.length → bindArgs (fnOf x x (defArgs st) (defBody st) (defScope st) .none kV doc pm an cdv ct) ⟨us, []⟩ = pure (ps.zip us))
    (len : ∀ vs H Q E, sp vs H Q E → vs.length = ps.length)
    (hbody : ∀ (f : Addr) (cdv : Value) (A : Around) (outer : List Env) (s : Shared) (H : Hp) (vs : List V) (Q : VK) (E : XK), Room k (A.deeper (envOfC x (defScope st) s.heap.objs.size f cdv)) → sp vs H Q E →
      ∃ t, PSs (cxOf (CX1 P w) P w K mg base N x (defScope st) f cdv A outer s H E) (defBody st) t ∧ t { nx := fun _ H' => Q .non H', rt := Q } (start N vs) H) : Fxe P w K mg base x (k + 1) ps sp := by
  obtain ⟨f, fd, hm, F⟩ := D.ex
  exact ⟨f, fd, hm, F.kp, F.binds hb, fun_oke F S len fun cdv A outer s H vs Q E hr h => hbody f cdv A outer s H vs Q E hr h⟩
theorem MethAt.mxe {C : Addr} {m qual : Str} {st : Stmt} {N ps : List Str} {k : Nat} {sp : Sp} (D : MethAt K C m qual st) (c : Cls K C) (S : FnScope N ps (defScope st))
    (hb : ∀ (kV doc pm : Value) (an : Option Addr) (cdv ct : Value) (us : List Value), us.length = ps.length → bindArgs (fnOf m qual (defArgs st) (defBody st) (defScope st) .none kV doc pm an cdv ct) ⟨us, []⟩ = pure (ps.zip us))
    (len : ∀ vs H Q E, sp vs H Q E → vs.length = ps.length)
    (hbody : ∀ (f : Addr) (cdv : Value) (A : Around) (outer : List Env) (s : Shared) (H : Hp) (vs : List V) (Q : VK) (E : XK), Room k (A.deeper (envOfC qual (defScope st) s.heap.objs.size f cdv)) → sp vs H Q E →
      ∃ t, PSs (cxOf (CX1 P w) P w K mg base N qual (defScope st) f cdv A outer s H E) (defBody st) t ∧ t { nx := fun _ H' => Q .non H', rt := Q } (start N vs) H) : Mtxe P w K mg base C m (k + 1) ps sp := by
  obtain ⟨f, fd, hm, F⟩ := D.ex
  exact ⟨f, fd, c, hm, F.binds hb, fun_oke F S len fun cdv A outer s H vs Q E hr h => hbody f cdv A outer s H vs Q E hr h⟩
theorem MakeAt.mxe {x : Str} {C : Addr} {qual : Str} {st : Stmt} {N ps : List Str} {k : Nat} {sp : Sp} (D : MakeAt K mg x C qual st) (S : FnScope N ps (defScope st))
    (hb : ∀ (kV doc pm : Value) (an : Option Addr) (cdv ct : Value) (us : List Value), us.length = ps.length → bindArgs (fnOf "__init__" qual (defArgs st) (defBody st) (defScope st) .none kV doc pm an cdv ct) ⟨us, []⟩ = pure (ps.zip us))
    (len : ∀ vs H Q E, sp vs H Q E → vs.length = ps.length)
    (hbody : ∀ (f : Addr) (cdv : Value) (A : Around) (outer : List Env) (s : Shared) (H : Hp) (vs : List V) (Q : VK) (E : XK), Room k (A.deeper (envOfC qual (defScope st) s.heap.objs.size f cdv)) → sp vs H Q E →
      ∃ t, PSs (cxOf (CX1 P w) P w K mg base N qual (defScope st) f cdv A outer s H E) (defBody st) t ∧ t { nx := fun _ H' => Q .non H', rt := Q } (start N vs) H) : Mkxe P w K mg base x C (k + 1) ps sp := by
  obtain ⟨f, fd, h0, hm, F⟩ := D.ex
  exact ⟨f, fd, h0, hm, F.binds hb, fun_oke F S len fun cdv A outer s H vs Q E hr h => hbody f cdv A outer s H vs Q E hr h⟩
end
abbrev bmE : List Value := [.type "Exception", .type "BaseException", .type "object"]
structure ExcAt (K : Frag) (mg : Str → Option Value) (x : Str) (C : Addr) : Prop where
  ns : nsIn K mainGlobals x = some (some (.ref C))
  ex : excIn K C [.type "Exception", .type "BaseException", .type "object"] "Exception.__new__" = true
  kp : keepIn K (.ref C) = true
  mg : mg x = some (.ref C)
structure ExcObj (C : Addr) (h : Heap) : Prop where
  ex : ∃ (tl : List Value) (N : Addr) (nm q : Str) (bs : List Value) (hd : Bool) (sn : List Str) (sub : List Value) (ab : Bool) (col : Option Bool) (dd : Option Addr) (k0 k1 k2 k3 k5 : Option Value) (mN : Str → Option Value),
    h.get? C = some (excClassObj nm q C N bs tl hd sn sub ab col dd k0 k1 k2 k3 k5 "Exception.__new__") ∧ h.Ns N mN ∧ mN "__init__" = none ∧ OwnTail h bmE tl
theorem ExcAt.obj {K : Frag} {mg : Str → Option Value} {x : Str} {C : Addr} {h : Heap} (O : ExcAt K mg x C) (hK : K.In h) : ExcObj C h := by
  have z := O.ex
  unfold excIn at z
  split at z
  · rename_i d1 cd slots look
    split at z
    · rename_i Cx tl w0 w1 w2 w3 nid w5 em es
      simp only [beq_iff_eq, Bool.not_eq_true', Bool.and_eq_true] at z
      obtain ⟨⟨⟨⟨⟨z1, z2⟩, z3⟩, z4⟩, z5⟩, z6⟩ := z
      subst z1 z2
      obtain ⟨cnm, cbs, cmro, cns, cqn, chd, csn, csub, cab, ccol, cdel⟩ := cd
      dsimp only at em z3 z5 z6
      subst em z3
      have e : slots = #[w0, w1, w2, w3, some (.builtin "Exception.__new__"), w5] := by
        cases slots with
        | mk l =>
          dsimp only at es
          rw [es]
      subst e
      exact ⟨tl, cns, cnm, cqn, cbs, chd, csn, csub, cab, ccol, d1, w0, w1, w2, w3, w5, _, hK _ _ look, .of_isNs (isNs_of_in hK z5), nsMap_none_of_in hK z5 z6, tail_of_in hK z4⟩
    · cases z
  · cases z
theorem fun_hide {h base B : Heap} : ∀ {l : List Env}, h.FunFrames base l → (∀ b ∈ frs l, B.get? b = none) → h.FunFrames B l
  | [], _, _ => trivial
  | env :: r, hl, hb => by
    obtain ⟨hk, ⟨L, o, hf, hn, ho, hd⟩, hr⟩ := hl
    refine ⟨hk, ⟨L, o, hf, hb L ?_, ho, hd⟩, fun_hide hr fun b z => hb b ?_⟩
    · unfold frs
      rw [List.filterMap_cons, hf]
      exact List.mem_cons_self
    · unfold frs at z ⊢
      rw [List.filterMap_cons, hf]
      exact List.mem_cons_of_mem _ z
structure Body (X : Cx) (E : XK) : Prop where
  top : Top X
  calm : X.calm = true
  xe : ∀ e s', wpAny (model X.prog X.w) X.A (leaving X.env e) (fun _ s'' => CX1 X.prog X.w X.outer X.H₀ X.s₀ E e s'') (fun e' s'' => CX1 X.prog X.w X.outer X.H₀ X.s₀ E e' s'') s' → X.xe e s'
theorem bodyX {P : Program} {w : World} {K : Frag} {mg : Str → Option Value} {base : Heap} {N : List Str} {qual : Str} {scope : Scope} {f : Addr} {cd : Value} {A : Around} {outer : List Env} {s : Shared} {H : Hp} {E : XK} :
    Body (cxOf (CX1 P w) P w K mg base N qual scope f cd A outer s H E) E := ⟨top_cx, rfl, fun _ _ h => h⟩
def tRaise (C : Addr) (E : XK) : TS := fun _ _ H => E (.ref C) none H
theorem ps_raise {X : Cx} {E : XK} {x : Str} {C : Addr} {np cpos pos : Pos} (B : Body X E) (O : ExcAt X.K X.mg x C) (hg : Gl X x) (hdb : (x == ("__debug__" : Str)) = false := by decide) :
    PS X (.Raise (some (.Call (.Name x np) [] [] cpos)) none pos) (tRaise C E) := by
  intro pins s σ H D I h
  obtain ⟨tl, N, nm, q, bs, hd, sn, sub, ab, col, dd, k0, k1, k2, k3, k5, mN, hC, hN, hni, T⟩ := (O.obj I.mod.kin).ex
  refine wpAny_Raise_call_subT (C := C) (nm := nm) (q := q) (N := N) (bs := bs) (bm := tl) (hdct := hd) (sn := sn) (sub := sub) (ab := ab) (col := col) (dd := dd) (k0 := k0) (k1 := k1) (k2 := k2) (k3 := k3) (k5 := k5)
    PySem.F.excBase_Exception (mN := mN) (T.hasType rfl) (I.ok.hd B.calm) rfl hni (ld_glob I hg O.mg ⟨rfl, ?_⟩ hdb)
  refine evalArgs_empty ⟨rfl, Nat.zero_le _, I.bk _ _ hC, hN.keeps I.bk, T.keeps I.bk, fun h' e hm => B.xe _ _ ?_⟩
  have hfr : X.A.frames = some (X.env :: X.outer) := by rw [← B.top.stk]; exact I.ok.frames
  have hfl : s.heap.FunFrames (hideAll s.heap (frs X.stack)) (X.env :: X.outer) := by
    rw [← B.top.stk]
    exact fun_hide I.stack fun b z => hideAll_none _ z
  refine wpAny_leaves_madeW (base := hideAll s.heap (frs X.stack)) hfr B.top.fr (fun b o z => of_hideAll _ z) hfl hm fun h2 t fl _ _ ut => ?_
  have I2 : Inv X pins σ H { s with heap := h', toks := s.toks } := I.kept hm.keeps
  have cov : Cov (frs X.stack) s.heap H h' (hideAll s.heap (frs X.stack)) := fun b o e1 hc hn => by
    have h1 : ∃ u, s.heap.get? b = some u := by
      rcases hc with hc | hc
      · cases z : H b with
        | none => exact absurd z hc
        | some u => exact ok_there (I.hok b u z)
      · exact hc
    obtain ⟨u, e2⟩ := h1
    have e3 := hm.keeps b u e2
    rw [e1] at e3
    cases e3
    exact hideAll_get _ e2 hn
  have hB := cov_up B.top I (fun b z => I.stkFree b z) cov
  obtain ⟨c1, c2, c3⟩ := station (B.top.un I2) I2.hok (Top.frames I2) ut fl.1 hB
  exact ⟨e, .ref C, H, rfl, ⟨_, _, fl, c1⟩, I2.os, I2.bare, c2, c3, h⟩
end KL
set_option Elab.async false
set_option linter.all false
set_option maxRecDepth 100000
namespace KL
open PySem PySem.W PyProof.Rows L2
abbrev wt (X : Cx) (pn : List (Addr × Obj)) (xe : Value → Shared → Prop) : Cx := { X with pn := X.pn ++ pn, xe := xe }
abbrev wh (X : Cx) (A : Around) : Cx := { X with A := A, calm := false, xe := fun _ _ => False }
theorem inv_wt {X : Cx} {pins : List (Addr × Obj)} {σ : L2.St} {H : Hp} {s : Shared} {xe : Value → Shared → Prop} (I : Inv X pins σ H s) : Inv (wt X pins xe) [] σ H s :=
  ⟨⟨I.ok.mod, I.ok.kind, I.ok.glob, I.ok.blt, I.ok.above, I.ok.inj, I.ok.has, I.ok.cab, I.ok.hd, I.ok.frames, I.ok.stk, I.ok.exf, I.ok.bs, I.ok.bsz, I.ok.noex, I.ok.exfs, I.ok.funs, I.ok.frf⟩,
    I.os, I.bare, I.base, I.loc, I.cell, I.free, I.freeC, (fun p hp => I.pin p (by rw [List.append_nil] at hp; exact hp)), I.hok, I.len⟩
theorem inv_unwt {X : Cx} {pn pins : List (Addr × Obj)} {σ : L2.St} {H : Hp} {s : Shared} {xe : Value → Shared → Prop} (I : Inv (wt X pn xe) pins σ H s) : Inv X pn σ H s :=
  ⟨⟨I.ok.mod, I.ok.kind, I.ok.glob, I.ok.blt, I.ok.above, I.ok.inj, I.ok.has, I.ok.cab, I.ok.hd, I.ok.frames, I.ok.stk, I.ok.exf, I.ok.bs, I.ok.bsz, I.ok.noex, I.ok.exfs, I.ok.funs, I.ok.frf⟩,
    I.os, I.bare, I.base, I.loc, I.cell, I.free, I.freeC, (fun p hp => I.pin p (List.mem_append_left _ hp)), I.hok, I.len⟩
theorem inv_wh {X : Cx} {pins : List (Addr × Obj)} {σ : L2.St} {H : Hp} {s : Shared} {A : Around} (I : Inv X pins σ H s) (hA : A.frames = X.A.frames) : Inv (wh X A) pins σ H s :=
  ⟨⟨I.ok.mod, I.ok.kind, I.ok.glob, I.ok.blt, I.ok.above, I.ok.inj, I.ok.has, I.ok.cab, (fun z => nomatch z), hA.trans I.ok.frames, I.ok.stk, I.ok.exf, I.ok.bs, I.ok.bsz, I.ok.noex, I.ok.exfs, I.ok.funs, I.ok.frf⟩,
    I.os, I.bare, I.base, I.loc, I.cell, I.free, I.freeC, I.pin, I.hok, I.len⟩
theorem inv_unwh {X : Cx} {pins : List (Addr × Obj)} {σ : L2.St} {H : Hp} {s : Shared} {A : Around} (ok : X.Ok) (I : Inv (wh X A) pins σ H s) : Inv X pins σ H s :=
  ⟨ok, I.os, I.bare, I.base, I.loc, I.cell, I.free, I.freeC, I.pin, I.hok, I.len⟩
theorem sp_unwt {X : Cx} {pins : List (Addr × Obj)} {xe : Value → Shared → Prop} {D : Ends} {f : Flow} {s' : Shared} (h : SP (wt X pins xe) [] D f s') : SP X pins D f s' := by
  cases f with
  | next => obtain ⟨σ', H', I, q⟩ := h; exact ⟨σ', H', inv_unwt I, q⟩
  | brk => obtain ⟨σ', H', I, q⟩ := h; exact ⟨σ', H', inv_unwt I, q⟩
  | cont => obtain ⟨σ', H', I, q⟩ := h; exact ⟨σ', H', inv_unwt I, q⟩
  | ret u => obtain ⟨v, σ', H', I, r, q⟩ := h; exact ⟨v, σ', H', inv_unwt I, r, q⟩
theorem sp_unwh {X : Cx} {pins : List (Addr × Obj)} {A : Around} {D : Ends} {f : Flow} {s' : Shared} (ok : X.Ok) (h : SP (wh X A) pins D f s') : SP X pins D f s' := by
  cases f with
  | next => obtain ⟨σ', H', I, q⟩ := h; exact ⟨σ', H', inv_unwh ok I, q⟩
  | brk => obtain ⟨σ', H', I, q⟩ := h; exact ⟨σ', H', inv_unwh ok I, q⟩
  | cont => obtain ⟨σ', H', I, q⟩ := h; exact ⟨σ', H', inv_unwh ok I, q⟩
  | ret u => obtain ⟨v, σ', H', I, r, q⟩ := h; exact ⟨v, σ', H', inv_unwh ok I, r, q⟩
structure Caught (X : Cx) (pins : List (Addr × Obj)) (σ : L2.St) (a : Addr) (cls : Value) (H' : Hp) (s : Shared) : Prop where
  inv : Inv X pins σ H' s
  ex : ∃ (h0 : Heap) (H0 : Hp) (s0 : Shared), s0.heap = h0 ∧ Inv X pins σ H0 s0 ∧ Fly X.stack h0 a cls H' s.heap ∧ Un (frs X.stack) [] H0 H' h0 s.heap
theorem stk_frames {X : Cx} {pins : List (Addr × Obj)} {σ : L2.St} {H : Hp} {s : Shared} (I : Inv X pins σ H s) : ∀ b ∈ frs X.stack, H b = none ∧ ∃ o, s.heap.get? b = some o ∧ ∀ vs, o.data ≠ .fields vs := fun b hb => ⟨I.stkFree b hb, (I.stack.mem hb).2⟩
theorem look_at {X : Cx} {pins : List (Addr × Obj)} {σ : L2.St} {H : Hp} {s s' : Shared} {E : XK} {e : Value} {Q : Flow → Shared → Prop} {Ex : Value → Shared → Prop} {hs : List ExceptHandler} (T : Top X) (I : Inv X pins σ H s) (h : CX1 X.prog X.w X.stack H s E e s')
    (k : ∀ a cls H' s3, e = .ref a → E cls none H' → Caught X pins σ a cls H' s3 → wpAny (model X.prog X.w) X.A (handleBy (.ref a) X.env hs) Q Ex s3) :
    wpAny (model X.prog X.w) X.A (noteFrame e X.env) (fun _ s₂ => wpAny (model X.prog X.w) X.A (setFlight e none) (fun _ s₃ => wpAny (model X.prog X.w) X.A (handleBy e X.env hs) Q Ex s₃) Ex s₂) Ex s' := by
  obtain ⟨a, cls, H', rfl, ⟨B, a0, fl, cov⟩, os, bare, un, hok, q⟩ := h
  have hf := stk_frames I
  have hfr : X.A.frames = some (X.env :: X.outer) := by rw [← T.stk]; exact I.ok.frames
  have fl1 : Heap.FlyingW B (X.env :: X.outer) a cls a0 s'.heap := by rw [← T.stk]; exact fl
  refine wpAny_looks_onW hfr T.fr fl1 fun h4 held ut => ?_
  obtain ⟨c1, c2, c3⟩ := station un hok hf ut held.1 cov
  refine wpAny_landsW held fun h5 fl5 ut5 => ?_
  obtain ⟨d1, d2, d3⟩ := station c2 c3 hf ut5 fl5.1 c1
  have fl6 : Heap.FlyingW B X.stack a cls a0 h5 := by rw [T.stk]; exact fl5
  have I5 : Inv X pins σ H' { s' with heap := h5 } := I.call' (s' := { s' with heap := h5 }) os d2 d3 bare (fun b z => absurd z (by simp))
  exact k a cls H' _ rfl q ⟨I5, s.heap, H, s, rfl, I, ⟨B, a0, fl6, d1⟩, d2⟩
theorem handle_here {X : Cx} {pins : List (Addr × Obj)} {σ : L2.St} {H' : Hp} {s : Shared} {a C : Addr} {x : Str} {np hpos : Pos} {b₀ : Stmt} {suite : List Stmt} {rest : List ExceptHandler} {Q : Flow → Shared → Prop} {Ex : Value → Shared → Prop}
    (O : ExcAt X.K X.mg x C) (hg : Gl X x) (G : Caught X pins σ a (.ref C) H' s)
    (k : ∀ s6, Inv X pins σ H' s6 → wpAny (model X.prog X.w) (X.A.mark (some (.ref a))) (execs (b₀ :: suite) X.env) Q (fun _ _ => False) s6) (hdb : (x == ("__debug__" : Str)) = false := by decide) :
    wpAny (model X.prog X.w) X.A (handleBy (.ref a) X.env (.ExceptHandler (some (.Name x np)) none (b₀ :: suite) hpos :: rest)) Q Ex s := by
  obtain ⟨I, h0, H0, s0, rfl, I0, ⟨B, a0, fl, cov⟩, un⟩ := G
  refine wpAny_handleBy_cons (codeAny_handlers_test ?_) (by intro q; cases q)
  have Iw : Inv (wh X (X.A.mark (some (.ref a)))) pins σ H' s := inv_wh I rfl
  refine ld_glob (X := wh X (X.A.mark (some (.ref a)))) Iw hg O.mg ?_ hdb
  obtain ⟨tl, N, nm, q, bs, hd, sn, sub, ab, col, dd, k0, k1, k2, k3, k5, mN, hC, hN, hni, T⟩ := (O.obj I.kIn).ex
  obtain ⟨ob, hob, hoc⟩ := fl.there
  have hos := I.os
  have hbare := I.bare
  obtain ⟨hh, g, d, tk, os⟩ := s
  refine wpAny_excMatches_sub_self hC hob hoc (T.hasType rfl) (codeAny_handlers_suite ?_)
  refine lands_againW fl fun h6 fl6 ut6 => ?_
  obtain ⟨c1, c2, c3⟩ := station un I.hok (stk_frames I0) ut6 fl6.1 cov
  have I6 : Inv X pins σ H' { heap := h6, gens := g, drawn := d, toks := tk, os := os } := I0.call' (s' := { heap := h6, gens := g, drawn := d, toks := tk, os := os }) (hos.trans I0.os.symm) c2 c3 hbare (fun b z => absurd z (by simp))
  exact wpAny_mono (k _ I6) (fun f s2 z => z) fun _ _ z => z.elim
def tTry (C : Addr) (E : XK) (tb th : TS) : TS := fun D σ H => (∀ c d H', E c d H' → c = .ref C ∧ ∀ σ', th D σ' H') ∧ tb D σ H
theorem ps_try {X : Cx} {E : XK} {x : Str} {C : Addr} {np hpos pos : Pos} {body : List Stmt} {b₀ : Stmt} {suite : List Stmt} {tb th : TS} (T : Top X) (O : ExcAt X.K X.mg x C) (hg : Gl X x)
    (hb : ∀ pn xe, Passes (CX1 X.prog X.w) (wt X pn xe) E → PSs (wt X pn xe) body tb) (hs : ∀ A', PSs (wh X A') (b₀ :: suite) th) (hdb : (x == ("__debug__" : Str)) = false := by decide) :
    PS X (.Try body [.ExceptHandler (some (.Name x np)) none (b₀ :: suite) hpos] [] [] pos) (tTry C E tb th) := by
  intro pins s σ H D I ⟨hE, h⟩
  refine wpAny_Try_except ?_
  refine wpAny_mono (hb pins (fun e s1 => wpAny (model X.prog X.w) X.A (noteFrame e X.env) (fun _ s₂ => wpAny (model X.prog X.w) X.A (setFlight e none) (fun _ s₃ =>
    wpAny (model X.prog X.w) X.A (handleBy e X.env [.ExceptHandler (some (.Name x np)) none (b₀ :: suite) hpos]) (SP X pins D) X.xe s₃) X.xe s₂) X.xe s1) ?_ [] s σ H D (inv_wt I) h) (fun f s1 q => ?_) fun e s1 q => q
  · intro pins' σ' H' s1 e s' I1 hx
    refine look_at T (inv_unwt I1) hx fun a cls H2 s3 he hc G => ?_
    obtain ⟨rfl, hth⟩ := hE _ _ _ hc
    refine handle_here O hg G (fun s6 I6 => ?_) hdb
    exact wpAny_mono (hs (X.A.mark (some (.ref a))) pins s6 σ' H2 D (inv_wh I6 rfl) (hth σ')) (fun f s7 q => sp_unwh I.ok q) fun _ _ z => z
  · have q' := sp_unwt q
    cases f with
    | next => exact wpAny_execs_nil q'
    | brk => exact q'
    | cont => exact q'
    | ret u => exact q'
section
variable {M : Model} {A : Around} {E : Value → Shared → Prop}
end
end KL
set_option Elab.async false
set_option linter.all false
set_option maxRecDepth 100000
namespace KL
open PySem PySem.W PyProof.Rows L2
def KB (S : List Addr) (H H' : Hp) : Prop := ∀ b o, H b = some o → b ∉ S → H' b = some o
theorem KB.refl (S : List Addr) (H : Hp) : KB S H H := fun _ _ h _ => h
theorem KB.trans {S : List Addr} {H H1 H2 : Hp} (a : KB S H H1) (b : KB S H1 H2) : KB S H H2 := fun c o h n => b c o (a c o h n) n
theorem KB.mono {S T : List Addr} {H H' : Hp} (a : KB S H H') (h : ∀ x ∈ S, x ∈ T) : KB T H H' := fun b o e n => a b o e fun z => n (h b z)
theorem KB.of {S : List Addr} {H H' : Hp} (s : Same H H') : KB S H H' := fun b o e _ => s b o e
theorem KB.upd {S : List Addr} {H H' : Hp} {p : Addr} {o : HO} (a : KB S H H') (h : p ∈ S) : KB S H (L2.upd H' p o) := fun b u e n => by
  have q : b ≠ p := fun z => n (by rw [z]; exact h)
  rw [upd_ne q]
  exact a b u e n
theorem KB.new {S : List Addr} {H H' : Hp} {l : Addr} {o : HO} (a : KB S H H') (h : H' l = none) : KB S H (L2.upd H' l o) := fun b u e n => by
  have := a b u e n
  rw [upd_ne (ne_of_none this h)]
  exact this
theorem KB.free {S : List Addr} {H H' : Hp} {l : Addr} (a : KB S H H') (h : H' l = none) (n : l ∉ S) : H l = none := by
  cases q : H l with
  | none => rfl
  | some o => rw [a l o q n] at h; cases h
theorem KB.at {S : List Addr} {H H' : Hp} {l : Addr} {o : HO} (a : KB S H H') (h : H l = some o) (n : l ∉ S) : H' l = some o := a l o h n
theorem KB.drop {S T : List Addr} {H H' : Hp} (a : KB S H H') (h : ∀ x ∈ S, x ∈ T ∨ H x = none) : KB T H H' := fun b o e n => a b o e fun z => by
  rcases h b z with q | q
  · exact n q
  · rw [q] at e
    cases e
theorem KB.same {S : List Addr} {H H' : Hp} (a : KB S H H') (h : ∀ x ∈ S, H x = none) : Same H H' := fun b o e => a b o e fun z => by
  rw [h b z] at e
  cases e
def SqO (K : Frag) (S : List Addr) (H : Hp) (a : Addr) (xs : List V) : Prop := (Rd H a (.lst xs) ∧ a ∉ S) ∨ ∀ H' : Hp, SqL K H' a xs
theorem SqO.sq {K : Frag} {S : List Addr} {H : Hp} {a : Addr} {xs : List V} (h : SqO K S H a xs) : SqL K H a xs := by
  rcases h with ⟨h, _⟩ | h
  · exact .inl h
  · exact h H
theorem SqO.of {K : Frag} {S : List Addr} {H : Hp} {a : Addr} {xs : List V} (h : SqL K H a xs) (n : Rd H a (.lst xs) → a ∉ S) : SqO K S H a xs := by
  rcases h with h | h
  · exact .inl ⟨h, n h⟩
  · exact .inr fun H' => .inr h
theorem Rd.some {H : Hp} {a : Addr} {o : HO} (h : Rd H a o) : H a ≠ none := by
  rcases h with h | ⟨_, h⟩ <;> rw [h] <;> simp
theorem SqO.lst {K : Frag} {S : List Addr} {H : Hp} {a : Addr} {xs : List V} (h : H a = some (.lst xs)) (n : a ∉ S) : SqO K S H a xs := .inl ⟨.inl h, n⟩
theorem SqO.kb {K : Frag} {S : List Addr} {H H' : Hp} {a : Addr} {xs : List V} (h : SqO K S H a xs) (k : KB S H H') : SqO K S H' a xs := by
  rcases h with ⟨h | ⟨o, h⟩, n⟩ | h
  · exact .inl ⟨.inl (k a _ h n), n⟩
  · exact .inl ⟨.inr ⟨o, k a _ h n⟩, n⟩
  · exact .inr h
theorem SqO.more {K : Frag} {S T : List Addr} {H : Hp} {a : Addr} {xs : List V} (h : SqO K S H a xs) (n : ∀ x ∈ T, x ∈ S ∨ H x = none ∨ x ≠ a) : SqO K T H a xs := by
  rcases h with ⟨h, q⟩ | h
  · refine .inl ⟨h, fun z => ?_⟩
    rcases n a z with r | r | r
    · exact q r
    · exact Rd.some h r
    · exact r rfl
  · exact .inr h
theorem SqO.same {K : Frag} {S : List Addr} {H H' : Hp} {a : Addr} {xs : List V} (h : SqO K S H a xs) (k : Same H H') : SqO K S H' a xs := h.kb (KB.of k)
theorem rd_ins {H : Hp} {a p C dx : Addr} {fs : List (Str × V)} {xs : List V} (h : Rd H a (.lst xs)) (hp : H p = some (.ins C dx fs)) : a ≠ p := by
  rcases h with h | ⟨o, h⟩
  · exact ne_of h hp (by intro z; cases z)
  · exact ne_of h hp (by intro z; cases z)
theorem sq_ins {K : Frag} {H : Hp} {a p C dx : Addr} {fs : List (Str × V)} {xs : List V} {o : HO} (h : SqL K H a xs) (hp : H p = some (.ins C dx fs)) : SqL K (L2.upd H p o) a xs := by
  rcases h with h | h
  · have n := rd_ins h hp
    rcases h with h | ⟨u, h⟩
    · exact .inl (.inl (by rw [upd_ne n]; exact h))
    · exact .inl (.inr ⟨u, by rw [upd_ne n]; exact h⟩)
  · exact .inr h
def Bad (C : Addr) (E : XK) : Prop := ∀ H', E (.ref C) none H'
theorem pe_fx0 {X : Cx} {x : Str} {k : Nat} {sp : Sp} {p pos : Pos} (F : Fx X.prog X.w X.K X.mg X.base x k [] sp) (hr : Room k X.A) (hg : Gl X x) (hdb : (x == ("__debug__" : Str)) = false := by decide) : PE X (.Call (.Name x p) [] [] pos) (tCall sp [] E0 tNil) := by
  obtain ⟨f, fd, hm, hk, hb, G⟩ := F.ex
  exact pe_call0 G hr hg hm hk hb .nil pass0 hdb
end KL
set_option linter.all false
set_option maxRecDepth 100000
namespace KL
open PySem PySem.W PyProof.Rows L2
theorem rfd {K : Frag} {H : Hp} {a C dx : Addr} {fs : List (Str × V)} {v : V} {f : Str} {Q : Addr → Addr → V → Prop} (ob : H a = some (.ins C dx fs)) (cl : Cls K C) (na : NoAttr K C f) (lk : fs.lookup f = some v) (h : Q a C v) :
    ∃ a' C' dx' fs' v', V.ref a = .ref a' ∧ H a' = some (.ins C' dx' fs') ∧ Cls K C' ∧ NoAttr K C' f ∧ fs'.lookup f = some v' ∧ Q a' C' v' := ⟨a, C, dx, fs, v, rfl, ob, cl, na, lk, h⟩
theorem rfs {K : Frag} {H : Hp} {a C dx : Addr} {fs : List (Str × V)} {f : Str} {Q : Addr → Addr → Addr → List (Str × V) → Prop} (ob : H a = some (.ins C dx fs)) (cl : Cls K C) (na : NoAttr K C f) (lt : fs.length < 1000) (h : Q a C dx fs) :
    ∃ a' C' dx' fs', V.ref a = .ref a' ∧ H a' = some (.ins C' dx' fs') ∧ Cls K C' ∧ NoAttr K C' f ∧ fs'.length < 1000 ∧ Q a' C' dx' fs' := ⟨a, C, dx, fs, rfl, ob, cl, na, lt, h⟩
theorem rmt {H : Hp} {a C dx : Addr} {fs : List (Str × V)} {m : Str} {Q : Prop} (ob : H a = some (.ins C dx fs)) (lk : fs.lookup m = none) (h : Q) :
    ∃ a' dx' fs', V.ref a = .ref a' ∧ H a' = some (.ins C dx' fs') ∧ fs'.lookup m = none ∧ Q := ⟨a, dx, fs, rfl, ob, lk, h⟩
end KL
set_option linter.all false
namespace KL
theorem ln1 {α : Type} {us : List α} (h : us.length = 1) : ∃ a, us = [a] := by
  match us, h with
  | [a], _ => exact ⟨a, rfl⟩
theorem ln2 {α : Type} {us : List α} (h : us.length = 2) : ∃ a b, us = [a, b] := by
  match us, h with
  | [a, b], _ => exact ⟨a, b, rfl⟩
theorem ln3 {α : Type} {us : List α} (h : us.length = 3) : ∃ a b c, us = [a, b, c] := by
  match us, h with
  | [a, b, c], _ => exact ⟨a, b, c, rfl⟩
theorem ln4 {α : Type} {us : List α} (h : us.length = 4) : ∃ a b c d, us = [a, b, c, d] := by
  match us, h with
  | [a, b, c, d], _ => exact ⟨a, b, c, d, rfl⟩
end KL
set_option Elab.async false
set_option linter.all false
set_option maxRecDepth 100000
namespace KL
open PySem PySem.W PyProof.Rows L2
theorem spec_callE {P : Program} {w : World} {K : Frag} {mg mb : Str → Option Value} {k : Nat} {x : Str} {fa : Addr} {ps : List Str} {sp : Sp} {s₁ : Shared} {us : List Value} {gs : List Arg} {cl : Str → Option Addr} {ans : List Int}
    (KX : K.In s₁.heap) (hns : s₁.heap.Ns mainGlobals mg) (hb : s₁.heap.Ns builtinsNs mb) (hbb : ∀ x : Str, x ≠ "__name__" → mb x = bootBuiltins x) (hlim : s₁.heap.NoLimit) (hg : s₁.gens = #[])
    (hw : WellAll w.params s₁.heap us (gs.map Arg.data)) (hf : ∀ g ∈ gs, g.fits) (hr : Room k callerA)
    (F : ∀ base : Heap, K.In base → base.Ns mainGlobals mg → Fxe P w K mg base x k ps sp) (hmg : mg x = some (.ref fa)) (hul : us.length = ps.length)
    (hsp : ∀ (H : Hp) (vs : List V), OnlyK K H → Paired (fun g v => ArgIs K H g v) gs vs → sp vs H (fun v H' => ∃ a, v = .ref a ∧ SqL K H' a (ans.map V.int)) fun _ _ _ => False) :
    codeAny (model P w) callerA (.call (.ref fa) ⟨us, []⟩) (fun r s' => (∃ u as, r = .ok (.ret u) ∧ ReadsW [] cl s'.heap u (.list (ans.map WData.int)) as) ∧ OldK s₁.heap s'.heap ∧ s'.os = s₁.os ∧ AllBare s'.gens) s₁ := by
  obtain ⟨vs, rv, pv⟩ := args_are KX (refs us) hw hf fun a h => h
  generalize hH : argHp K s₁.heap (refs us) = H at pv
  have hO : OnlyK K H := fun b => by
    cases q : H b with
    | none => exact .inl rfl
    | some u =>
      rw [← hH] at q
      obtain ⟨q1, _, vs, ns, _, rfl⟩ := argHp_of q
      exact .inr ⟨q1, _, _, rfl⟩
  have hok : HOk P w H s₁.heap := fun b u e => by
    rw [← hH] at e
    obtain ⟨_, _, vs, ns, ⟨l1, l2, l3⟩, rfl⟩ := argHp_of e
    exact ⟨l1, by rw [List.length_map]; exact l3, vs, _, vals_ints l2, l1⟩
  have base_of : ∀ {b : Addr} {o : Obj}, s₁.heap.get? b = some o → H b = none → (hidT s₁.heap H).get? b = some o := fun e n => hidT_get e n
  have noA : ∀ {b : Addr} {o : Obj} {es : Array DictEntry} {ep : Nat}, s₁.heap.get? b = some o → o.data = .dict es ep → H b = none := fun {b o es ep} e d => by
    cases q : H b with
    | none => rfl
    | some u =>
      rw [← hH] at q
      obtain ⟨_, _, vs, ns, ⟨l1, _, _⟩, _⟩ := argHp_of q
      rw [l1] at e
      cases e
      cases d
  have nsK : ∀ {b : Addr} {m : Str → Option Value}, s₁.heap.Ns b m → (hidT s₁.heap H).Ns b m := fun {b m} ⟨o, es, ep, e, d, r⟩ => ⟨o, es, ep, base_of e (noA e d), d, r⟩
  have freeK : ∀ b o, K.lookup b = some o → H b = none := fun b o e => by
    rcases hO b with z | ⟨z, _⟩
    · exact z
    · rw [e] at z; cases z
  have hKb : K.In (hidT s₁.heap H) := fun b o e => base_of (KX b o e) (freeK b o e)
  have hM : Mod K mg (hidT s₁.heap H) := ⟨hKb, nsK hns, ⟨mb, nsK hb, hbb⟩, let ⟨mc, h1, h2⟩ := hlim; ⟨mc, nsK h1, h2⟩⟩
  have e0 : Env0 P w K mg (hidT s₁.heap H) callerA [] s₁ H := ⟨rfl, hM, fun b o e => of_hidT e, Nat.le_of_eq (hidT_size _ _), trivial, fun b hb => absurd (show b ∈ ([] : List Addr) from hb) (by simp), hok, .of_eq hg⟩
  obtain ⟨f', fd, hm', _, hbd, G⟩ := (F _ hKb (nsK hns)).ex
  rw [hmg] at hm'
  cases hm'
  have hbind : BindsTo s₁ fd ⟨us, []⟩ (ps.zip us) := by
    have z := hbd s₁ us KX (by rw [List.append_nil]; exact hul)
    rw [List.append_nil] at z
    exact z
  refine codeAny_mono (G.run callerA [] s₁ H ⟨us, []⟩ us vs _ _ hr e0 hbind rv (hsp H vs hO pv)) fun r s' h => ?_
  cases r with
  | error e =>
    obtain ⟨_, _, _, _, _, _, _, _, _, hE⟩ := h
    exact hE.elim
  | ok fl =>
    cases fl with
    | next => exact False.elim h
    | brk => exact False.elim h
    | cont => exact False.elim h
    | ret u =>
      obtain ⟨v, H', os, bare, un, hok', r', a, rfl, hS⟩ := h
      obtain rfl : u = Value.ref a := r'
      have keeps : ∀ b o, s₁.heap.get? b = some o → s'.heap.get? b = some o := fun b o e => by
        cases q : H b with
        | none => exact un.keep b o e q (by intro z; exact absurd (show b ∈ ([] : List Addr) from z) (by simp)) (by simp)
        | some u =>
          rcases hO b with z | ⟨_, ob, xs, z⟩
          · rw [q] at z; cases z
          · have z2 := un.frzs b ob _ z
            obtain ⟨e1, _⟩ := hok b _ z
            obtain ⟨e2, _⟩ := hok' b _ z2
            rw [e] at e1; cases e1
            exact e2
      refine ⟨⟨.ref a, [a], rfl, ?_⟩, OldK.of_keep keeps, os, bare⟩
      · rcases hS with hS | ⟨o, its, n, e1, e2, e3, e4, _, rv2⟩
        · obtain ⟨_, its, n, rv2, e⟩ := hS.ok hok'
          exact ReadsW.list (as := []) e rfl rfl (by simpa using reads_ints rv2)
        · exact ReadsW.list (as := []) (keeps a o (KX a o e1)) e2 e4 (reads_ints rv2)
theorem walk_ofE {r : OpenSpec} {k : Nat} {q : Program} {loose : List Str} {XP : (Str → Option Value) → Heap → Prop} {YP : World → Heap → Prop} {d : DefRec} {K : Params → Frag} {sp : Frag → Sp} {ps : List Str}
    (hdf : d.params.defaults = []) (hr : Room k callerA)
    (hY : ∀ (w : World) (h : Heap), YP w h → (K w.params).In h)
    (hargs : ∀ args, r.pre args = true → ∃ (gs : List Arg) (ans : List Int), args = gs.map Arg.data ∧ (∀ g ∈ gs, g.fits) ∧ gs.length = ps.length ∧ r.post args (.list (ans.map WData.int)) = true ∧
      ∀ (w : World) (H : Hp) (vs : List V), OnlyK (K w.params) H → Paired (fun g v => ArgIs (K w.params) H g v) gs vs → sp (K w.params) vs H (fun v H' => ∃ a, v = .ref a ∧ SqL (K w.params) H' a (ans.map V.int)) fun _ _ _ => False)
    (F : ∀ (w : World) (mg : Str → Option Value) (h : Heap), (K w.params).In h → h.Ns mainGlobals mg →
      ∀ base : Heap, (K w.params).In base → base.Ns mainGlobals mg → Fxe r.prog w (K w.params) mg base d.name k ps (sp (K w.params))) :
    WalkOS q loose XP YP r d [] (fun f vs => PySem.call f vs) := by
  intro w s₀ s₁ mg mb G Y fa o pm cd doc dV kV ho hd hcd hD hmg hg args vals as hpre hlay hrd hwl hlo
  have KX := hY w _ Y
  obtain ⟨gs, ans, rfl, hfit, hlen, hpost, hsp⟩ := hargs args hpre
  have hul : vals.length = ps.length := by
    have : ∀ {P : Params} {h : Heap} {us : List Value} {ds : List WData}, WellAll P h us ds → us.length = ds.length := by
      intro P h us
      induction us with
      | nil => intro ds w; cases w; rfl
      | cons u us ih => intro ds w; cases w with | cons _ w => rw [List.length_cons, List.length_cons, ih w]
    rw [this hwl, List.length_map, hlen]
  refine enter_call (codeAny_mono (spec_callE (cl := classAt s₀.heap) (ans := ans) KX G.T.g G.T.b G.T.builtins G.T.nolimit hg hwl hfit hr (F w mg _ KX G.T.g) hmg hul (hsp w)) fun res s' hq => ?_)
  obtain ⟨⟨u, bs, rfl, hrd'⟩, h2, h3, h4⟩ := hq
  exact ⟨.inl ⟨u, _, bs, rfl, fun _ => rfl, hrd', osPost hpost, fun hu => by cases hu⟩, h2, h3, h4⟩
end KL
set_option Elab.async false
set_option linter.all false
set_option maxRecDepth 100000
namespace KL
open PySem PySem.W PyProof.Rows L2
theorem def_mk {K : Frag} {h : Heap} {mg : Str → Option Value} {x : Str} {st : Stmt} {f : Addr} {oc : Value} {od an : Option Addr} {osl : Array (Option Value)} {kV doc pm cdv ct : Value} (X : K.In h) (G : h.Ns mainGlobals mg)
    (a : nsIn K mainGlobals x = some (some (.ref f))) (l : K.lookup f = some ⟨oc, od, .func (fnOf x x (defArgs st) (defBody st) (defScope st) .none kV doc pm an cdv ct), osl⟩) (c : codeIn K cdv x = true) (k : keepIn K (.ref f) = true) : DefAt K mg x st :=
  ⟨f, _, mg_of X G a, fun_mk l c k⟩
theorem int_mk {K : Frag} {h : Heap} {mg : Str → Option Value} {x : Str} {i : Int} {t : Tok} (X : K.In h) (G : h.Ns mainGlobals mg) (a : nsIn K mainGlobals x = some (some (.int i t))) : ∃ t, mg x = some (.int i t) := ⟨t, mg_of X G a⟩
theorem str_mk {K : Frag} {h : Heap} {mg : Str → Option Value} {x i : Str} {t : Tok} (X : K.In h) (G : h.Ns mainGlobals mg) (a : nsIn K mainGlobals x = some (some (.str i t))) : ∃ t, mg x = some (.str i t) := ⟨t, mg_of X G a⟩
def chkT : List Nat → List Value → Bool
  | [], [] => true
  | n :: ns, .int i _ :: vs => decide (i = (n : Int)) && chkT ns vs
  | _, _ => false
theorem vals_chk : ∀ {ns : List Nat} {vs : List Value}, chkT ns vs = true → Vals (vb ns) vs
  | [], [], _ => .nil
  | [], _ :: _, h => by cases h
  | _ :: _, [], h => by cases h
  | n :: ns, v :: vs, h => by
    cases v with
    | int i t =>
      have h2 : (decide (i = (n : Int)) && chkT ns vs) = true := h
      rw [Bool.and_eq_true, decide_eq_true_eq] at h2
      obtain ⟨h3, h4⟩ := h2
      subst h3
      exact .cons ⟨t, rfl⟩ (vals_chk h4)
    | _ => cases h
theorem rem_mk {K : Frag} {h : Heap} {mg : Str → Option Value} {r : Addr} {od : Option Addr} {n : Nat} {sl : Array (Option Value)} {arr : Array Value} (X : K.In h) (G : h.Ns mainGlobals mg) (a : nsIn K mainGlobals "REMAINDERS" = some (some (.ref r)))
    (l : K.lookup r = some ⟨.type "tuple", od, .seq arr n, sl⟩) (c : chkT My.tab8 arr.toList = true) : ∃ a, mg "REMAINDERS" = some (.ref a) ∧ ∀ H, SqT K H a (vb My.tab8) := by
  have hv := vals_chk c
  have hl := hv.length
  rw [vb_length, My.tab8_length] at hl
  refine ⟨r, mg_of X G a, fun H => .inr ⟨_, _, _, l, rfl, rfl, ?_, hv⟩⟩
  rw [← Array.length_toList, ← hl]
  exact le_size (by decide)
theorem nats_back {ns : List Int} (h : ∀ x ∈ ns, (0 : Int) ≤ x ∧ x ≤ 255) : (ns.map Int.toNat).map (fun n : Nat => (n : Int)) = ns ∧ isByte (ns.map Int.toNat) := by
  refine ⟨?_, fun x hx => ?_⟩
  · rw [List.map_map]
    conv => rhs; rw [← List.map_id ns]
    refine List.map_congr_left fun x hx => ?_
    exact Int.toNat_of_nonneg (h x hx).1
  · obtain ⟨z, hz, rfl⟩ := List.mem_map.mp hx
    have := h z hz
    omega
theorem within_len {n : Nat} (h : n ≤ 100000) : Sv13.within (n : Int) 0 Sv13.SIZE = true := by
  unfold Sv13.within
  have h1 : (0 : Int) ≤ (n : Int) := by omega
  have h2 : (n : Int) ≤ Sv13.SIZE := by
    show (n : Int) ≤ 16777216
    omega
  rw [decide_eq_true h1, decide_eq_true h2]
  rfl
theorem seq_back {K : Frag} {H : Hp} {a : Addr} {bs : List Nat} (h : SqL K H a ((bs.map fun n : Nat => (n : Int)).map V.int)) : SqL K H a (vb bs) := by
  rw [List.map_map] at h
  exact h
end KL
set_option Elab.async false
set_option linter.all false
set_option maxRecDepth 100000
namespace KL
open PySem PySem.W PyProof.Rows L2
def top (i : Nat) : Stmt := PySem.Challenge.pw_keylogs_s06_may.main.body.getD i (.Pass ⟨0, 0, 0, 0⟩)
abbrev s_fixed : Stmt := top 5
abbrev s_number_at : Stmt := top 6
abbrev s_varint : Stmt := top 7
abbrev s_Scanner_init : Stmt := inClass (top 11) 0
abbrev s_Scanner_at_end : Stmt := inClass (top 11) 1
abbrev s_Scanner_taken : Stmt := inClass (top 11) 2
abbrev s_Scanner_taken_varint : Stmt := inClass (top 11) 3
abbrev s_BlockReader_init : Stmt := inClass (top 14) 0
abbrev s_BlockReader_advance : Stmt := inClass (top 14) 1
abbrev s_BlockReader_meet_restart : Stmt := inClass (top 14) 2
abbrev s_BlockReader_change_key : Stmt := inClass (top 14) 3
abbrev s_restarts_of : Stmt := top 15
abbrev s_begun : Stmt := top 20
abbrev s_words_of : Stmt := top 21
abbrev s_mixed_on : Stmt := top 22
abbrev s_key_hash : Stmt := top 23
abbrev s_bit_places : Stmt := top 30
abbrev s_places_of : Stmt := top 31
abbrev s_piece_may_have : Stmt := top 32
abbrev s_filter_may_have : Stmt := top 33
abbrev s_sum_from : Stmt := top 38
abbrev s_masked : Stmt := top 39
abbrev s_Handle_init : Stmt := inClass (top 42) 0
abbrev s_Handle_behind : Stmt := inClass (top 42) 1
abbrev s_Handle_packed : Stmt := inClass (top 42) 2
abbrev s_taken_handle : Stmt := top 43
abbrev s_handle_of : Stmt := top 44
abbrev s_seal_of : Stmt := top 45
abbrev s_content_at : Stmt := top 46
abbrev s_filter_key : Stmt := top 53
abbrev s_end_handles : Stmt := top 54
abbrev s_Table_init : Stmt := inClass (top 56) 0
abbrev s_Table_advance : Stmt := inClass (top 56) 1
abbrev s_Table_begin_block : Stmt := inClass (top 56) 2
abbrev s_Table_leave_block : Stmt := inClass (top 56) 3
abbrev s_filter_content : Stmt := top 57
abbrev s_data_handles : Stmt := top 58
abbrev s_handle_for : Stmt := top 60
abbrev s_may_have : Stmt := top 61
abbrev s_within : Stmt := top 65
abbrev s_is_length : Stmt := top 66
abbrev s_is_key_length : Stmt := top 67
abbrev s_may : Stmt := top 69
structure Consts (K : Frag) (mg : Str → Option Value) : Prop where
  OUT_OF_RANGE : ∃ t, mg "OUT_OF_RANGE" = some (.int (-2) t)
  NO_TABLE : ∃ t, mg "NO_TABLE" = some (.int (-3) t)
  LONGEST_VARINT : ∃ t, mg "LONGEST_VARINT" = some (.int 10 t)
  VARINT_LIMIT : ∃ t, mg "VARINT_LIMIT" = some (.int 9223372036854775808 t)
  NUMBER_WIDTH : ∃ t, mg "NUMBER_WIDTH" = some (.int 4 t)
  WORD : ∃ t, mg "WORD" = some (.int 4294967295 t)
  HASH_BEGIN : ∃ t, mg "HASH_BEGIN" = some (.int 3164544308 t)
  HASH_FACTOR : ∃ t, mg "HASH_FACTOR" = some (.int 3332679571 t)
  PLACE_WIDTH : ∃ t, mg "PLACE_WIDTH" = some (.int 4 t)
  END_WIDTH_bloom : ∃ t, mg "END_WIDTH_bloom" = some (.int 5 t)
  MOST_PROBES : ∃ t, mg "MOST_PROBES" = some (.int 30 t)
  STRETCH_BITS : ∃ t, mg "STRETCH_BITS" = some (.int 11 t)
  STRETCH : ∃ t, mg "STRETCH" = some (.int 2048 t)
  ALL_ONES : ∃ t, mg "ALL_ONES" = some (.int 4294967295 t)
  MASK_ADDEND : ∃ t, mg "MASK_ADDEND" = some (.int 2726488792 t)
  REMAINDERS : ∃ a, mg "REMAINDERS" = some (.ref a) ∧ ∀ H, SqT K H a (vb My.tab8)
  SEAL_WIDTH : ∃ t, mg "SEAL_WIDTH" = some (.int 5 t)
  FILTER_NAME : ∃ t, mg "FILTER_NAME" = some (.str "filter.leveldb.BuiltinBloomFilter2" t)
  HANDLES_WIDTH : ∃ t, mg "HANDLES_WIDTH" = some (.int 40 t)
  MAGIC : ∃ t, mg "MAGIC" = some (.int 15800726617472432983 t)
  MAGIC_WIDTH : ∃ t, mg "MAGIC_WIDTH" = some (.int 8 t)
  END_WIDTH_layout : ∃ t, mg "END_WIDTH_layout" = some (.int 48 t)
  LONGEST : ∃ t, mg "LONGEST" = some (.int 16777216 t)
  LONGEST_KEY : ∃ t, mg "LONGEST_KEY" = some (.int 65535 t)
  nlen : mg "len" = none
  nrange : mg "range" = none
  nzip : mg "zip" = none
  nenumerate : mg "enumerate" = none
  nlist : mg "list" = none
  nmin : mg "min" = none
  nmax : mg "max" = none
  nord : mg "ord" = none
end KL
set_option Elab.async false
set_option linter.all false
set_option maxRecDepth 100000
namespace KL
open PySem PySem.W PyProof.Rows L2
section
variable {P : Program} {w : World} {K : Frag} {mg : Str → Option Value} {base : Heap}
def sp_within : Sp := fun vs H Q _ => ∃ n lo hi : Int, vs = [.int n, .int lo, .int hi] ∧ Q (.bl (decide (lo ≤ n) && decide (n ≤ hi))) H
theorem sc_within : FnScope ["number", "low", "high"] ["number", "low", "high"] (defScope s_within) := ⟨rfl, rfl, rfl, by decide +kernel, rfl, by decide +kernel, by decide +kernel⟩
theorem fx_within (D : DefAt K mg "within" s_within) : Fx P w K mg base "within" 1 ["number", "low", "high"] sp_within := by
  refine D.fx sc_within (fun _ _ _ _ _ _ us hl => by obtain ⟨_, _, _, rfl⟩ := ln3 hl; rfl) (fun vs H Q E h => ?_) (fun f cdv A outer s H vs Q E hr h => ?_)
  · obtain ⟨n, lo, hi, rfl, _⟩ := h
    rfl
  · obtain ⟨n, lo, hi, rfl, k⟩ := h
    refine ⟨_, pss_one (ps_ret (pe_chain op_le op_le (pv 1) (pv 0) (pv 2))), ?_⟩
    try dsimp only [cxOf]
    refine ⟨_, rfl, _, rfl, _, _, rfl, rfl, _, rfl, ?_⟩
    by_cases h1 : lo ≤ n
    · rw [decide_eq_true h1]
      refine iteT ⟨_, rfl, _, _, rfl, rfl, ?_⟩
      rw [decide_eq_true h1, Bool.true_and] at k
      exact k
    · rw [decide_eq_false h1]
      refine iteF ?_
      rw [decide_eq_false h1, Bool.false_and] at k
      exact k
end
end KL
set_option Elab.async false
set_option linter.all false
set_option maxRecDepth 100000
namespace KL
open PySem PySem.W PyProof.Rows L2
section
variable {P : Program} {w : World} {K : Frag} {mg : Str → Option Value} {base : Heap}
def sp_is_length : Sp := fun vs H Q _ => ∃ n : Int, vs = [.int n] ∧ Q (.bl (decide (0 ≤ n) && decide (n ≤ 16777216))) H
theorem sc_is_length : FnScope ["number"] ["number"] (defScope s_is_length) := ⟨rfl, rfl, rfl, by decide +kernel, rfl, by decide +kernel, by decide +kernel⟩
theorem fx_is_length (D : DefAt K mg "is_length" s_is_length) (C : Consts K mg) (F : Fx P w K mg base "within" 1 ["number", "low", "high"] sp_within) : Fx P w K mg base "is_length" 2 ["number"] sp_is_length := by
  refine D.fx sc_is_length (fun _ _ _ _ _ _ us hl => by obtain ⟨_, rfl⟩ := ln1 hl; rfl) (fun vs H Q E h => ?_) (fun f cdv A outer s H vs Q E hr h => ?_)
  · obtain ⟨n, rfl, _⟩ := h
    rfl
  · obtain ⟨n, rfl, k⟩ := h
    refine ⟨_, pss_one (ps_ret (pe_fx F hr rfl (pa_cons (pv 0) (pa_cons pe_int (pa_cons (pe_gint rfl C.LONGEST) pa_nil))))), ?_⟩
    try dsimp only [cxOf]
    exact ⟨_, rfl, n, 0, 16777216, rfl, k⟩
end
end KL
set_option Elab.async false
set_option linter.all false
set_option maxRecDepth 100000
namespace KL
open PySem PySem.W PyProof.Rows L2
section
variable {P : Program} {w : World} {K : Frag} {mg : Str → Option Value} {base : Heap}
def sp_sum_from (K : Frag) : Sp := fun vs H Q _ => ∃ (st : Nat) (a : Addr) (bs : List Nat), vs = [.int (st : Int), .ref a] ∧ SqL K H a (vb bs) ∧ isByte bs ∧ Q (.int ((Sv13.crc bs st : Nat) : Int)) H
theorem tab8_at {x : Nat} : atI (vb My.tab8) ((x % 256 : Nat) : Int) = some (V.int ((My.tab8.getD (x % 256) 0 : Nat) : Int)) := by
  have hx : x % 256 < My.tab8.length := by rw [My.tab8_length]; exact Nat.mod_lt _ (by decide)
  refine atI_nat ?_
  unfold vb
  rw [List.getElem?_map, List.getElem?_eq_getElem hx]
  simp [List.getD, List.getElem?_eq_getElem hx]
theorem and255 (a : Nat) : Builtin.bitAnd (a : Int) 255 = ((a % 256 : Nat) : Int) := by
  rw [bitAnd_m8]
  omega
theorem shr8 (a : Nat) : (a : Int) / 2 ^ (8 : Int).toNat = ((a / 256 : Nat) : Int) := by
  show (a : Int) / 256 = _
  omega
theorem sc_sum_from : FnScope ["start", "data", "left", "byte"] ["start", "data"] (defScope s_sum_from) := ⟨rfl, rfl, rfl, by decide +kernel, rfl, by decide +kernel, by decide +kernel⟩
theorem fx_sum_from (D : DefAt K mg "sum_from" s_sum_from) (C : Consts K mg) : Fx P w K mg base "sum_from" 1 ["start", "data"] (sp_sum_from K) := by
  obtain ⟨ra, hrem, hS⟩ := C.REMAINDERS
  refine D.fx sc_sum_from (fun _ _ _ _ _ _ us hl => by obtain ⟨_, _, rfl⟩ := ln2 hl; rfl) (fun vs H Q E h => ?_) (fun f cdv A outer s H vs Q E hr h => ?_)
  · obtain ⟨st, a, bs, rfl, _⟩ := h
    rfl
  · obtain ⟨st, a, bs, rfl, ha, hby, k⟩ := h
    refine ⟨_, pss_cons (ps_set (i := 2) sc_sum_from.nd rfl (Or.inl rfl) (pe_op op_xor (pv 0) (pe_gint rfl C.ALL_ONES)))
      (pss_cons (ps_for PassesOwn.never rfl (pi_list (pv 1)) (pg_name (i := 3) sc_sum_from.nd rfl (Or.inl rfl))
        (pss_one (ps_set (i := 2) sc_sum_from.nd rfl (Or.inl rfl) (pe_op op_xor (pe_op op_shr (pv 2) pe_int) (pe_ix ix_tup (pe_gref rfl hrem) (pe_op op_and (pe_op op_xor (pv 2) (pv 3)) pe_int) (fun _ _ => rfl))))))
      (pss_one (ps_ret (pe_op op_xor (pv 2) (pe_gint rfl C.ALL_ONES))))), ?_⟩
    try dsimp only [cxOf]
    refine ⟨_, rfl, _, _, rfl, rfl, ?_⟩
    refine ⟨_, rfl, a, rfl, ⟨_, ha⟩, for_list (K := K) (a := a) (xs := vb bs) (fun i σ H2 => H2 = H ∧ ∃ v, σ = [some (.int (st : Int)), some (.ref a), some (.int (((bs.take i).foldl Sv13.crcByte (Nat.xor st (2 ^ 32 - 1)) : Nat) : Int)), v])
      ⟨rfl, none, ?_⟩ (fun i σ H2 _ ⟨e, _⟩ => by rw [e]; exact ha) ?_ ?_⟩
    · have e : Builtin.bitXor (st : Int) 4294967295 = ((Nat.xor st (2 ^ 32 - 1) : Nat) : Int) := xor_nat st 4294967295
      show [some (V.int (st : Int)), some (V.ref a), some (V.int (Builtin.bitXor (st : Int) 4294967295)), none] = _
      rw [e]
      rfl
    · rintro i x σ H2 hx ⟨rfl, v, rfl⟩
      obtain ⟨b, hb, rfl⟩ := vb_get hx
      have hlt : b < 256 := hby b (List.mem_of_getElem? hb)
      generalize hc : (bs.take i).foldl Sv13.crcByte (Nat.xor st (2 ^ 32 - 1)) = c
      have hnext : (bs.take (i + 1)).foldl Sv13.crcByte (Nat.xor st (2 ^ 32 - 1)) = (c / 256) ^^^ My.tab8.getD ((c ^^^ b) % 256) 0 := by
        rw [List.take_succ, hb]
        show ((bs.take i) ++ [b]).foldl Sv13.crcByte (Nat.xor st (2 ^ 32 - 1)) = _
        rw [crc_snoc, hc, My.turn8 hlt]
      have a1 : atI (vb My.tab8) (Builtin.bitAnd (Builtin.bitXor (c : Int) (b : Int)) 255) = some (V.int ((My.tab8.getD ((c ^^^ b) % 256) 0 : Nat) : Int)) := by
        rw [xor_nat, and255]
        exact tab8_at
      refine ⟨_, rfl, _, _, rfl, rfl, (by show (0 : Int) ≤ 8; decide), _, rfl, _, rfl, _, _, rfl, rfl, _, _, rfl, rfl, ra, _, _, _, rfl, rfl, hS _, a1, _, _, rfl, rfl, ?_⟩
      refine ⟨rfl, some (V.int (b : Int)), ?_⟩
      rw [hnext]
      show [some (V.int (st : Int)), some (V.ref a), some (V.int (Builtin.bitXor ((c : Int) / 2 ^ (8 : Int).toNat) ((My.tab8.getD ((c ^^^ b) % 256) 0 : Nat) : Int))), some (V.int (b : Int))] = _
      rw [shr8, xor_nat]
    · rintro σ H2 ⟨rfl, v, rfl⟩
      refine ⟨_, rfl, _, _, rfl, rfl, ?_⟩
      have e : (bs.take (vb bs).length) = bs := by rw [vb_length, List.take_length]
      rw [e]
      have e2 : Builtin.bitXor ((bs.foldl Sv13.crcByte (Nat.xor st (2 ^ 32 - 1)) : Nat) : Int) 4294967295 = ((Sv13.crc bs st : Nat) : Int) := xor_nat _ 4294967295
      show Q (V.int (Builtin.bitXor ((bs.foldl Sv13.crcByte (Nat.xor st (2 ^ 32 - 1)) : Nat) : Int) 4294967295)) _
      rw [e2]
      exact k
end
end KL
set_option Elab.async false
set_option linter.all false
set_option maxRecDepth 100000
namespace KL
open PySem PySem.W PyProof.Rows L2
section
variable {P : Program} {w : World} {K : Frag} {mg : Str → Option Value} {base : Heap}
def sp_masked : Sp := fun vs H Q _ => ∃ c : Nat, vs = [.int (c : Int)] ∧ c < 2 ^ 32 ∧ Q (.int ((Sv13.masked c : Nat) : Int)) H
theorem sc_masked : FnScope ["number", "turned"] ["number"] (defScope s_masked) := ⟨rfl, rfl, rfl, by decide +kernel, rfl, by decide +kernel, by decide +kernel⟩
theorem fx_masked (D : DefAt K mg "masked" s_masked) (C : Consts K mg) : Fx P w K mg base "masked" 1 ["number"] sp_masked := by
  refine D.fx sc_masked (fun _ _ _ _ _ _ us hl => by obtain ⟨_, rfl⟩ := ln1 hl; rfl) (fun vs H Q E h => ?_) (fun f cdv A outer s H vs Q E hr h => ?_)
  · obtain ⟨c, rfl, _⟩ := h
    rfl
  · obtain ⟨c, rfl, hc, k⟩ := h
    refine ⟨_, (pss_cons (ps_set (i := 1) sc_masked.nd rfl (Or.inl rfl) (pe_op op_or (pe_op op_shr (pv 0) pe_int) (pe_op op_and (pe_op op_shl (pv 0) pe_int) (pe_gint rfl C.ALL_ONES))))
      (pss_one (ps_ret (pe_op op_and (pe_op op_add (pv 1) (pe_gint rfl C.MASK_ADDEND)) (pe_gint rfl C.ALL_ONES))))), ?_⟩
    try dsimp only [cxOf]
    refine ⟨_, rfl, _, _, rfl, rfl, (by show (0 : Int) ≤ 15; decide), _, rfl, _, _, rfl, rfl, ⟨(by decide), (by decide), ?_⟩, _, _, rfl, rfl, _, _, rfl, rfl, ?_⟩
    · rw [Int.natAbs_natCast]
      omega
    · refine ⟨_, rfl, _, _, rfl, rfl, _, _, rfl, rfl, ?_⟩
      rw [← masked_eq hc] at k
      exact k
end
end KL
set_option Elab.async false
set_option linter.all false
set_option maxRecDepth 100000
namespace KL
open PySem PySem.W PyProof.Rows L2
section
variable {P : Program} {w : World} {K : Frag} {mg : Str → Option Value} {base : Heap}
def sp_fixed : Sp := fun vs H Q _ => ∃ n k : Nat, vs = [.int (n : Int), .int (k : Int)] ∧ k ≤ 8 ∧ newL (vb (Sv13.little k n)) H Q
theorem sc_fixed : FnScope ["number", "width", "packed", "rest", "place"] ["number", "width"] (defScope s_fixed) := ⟨rfl, rfl, rfl, by decide +kernel, rfl, by decide +kernel, by decide +kernel⟩
theorem fx_fixed (D : DefAt K mg "fixed" s_fixed) (C : Consts K mg) : Fx P w K mg base "fixed" 1 ["number", "width"] sp_fixed := by
  refine D.fx sc_fixed (fun _ _ _ _ _ _ us hl => by obtain ⟨_, _, rfl⟩ := ln2 hl; rfl) (fun vs H Q E h => ?_) (fun f cdv A outer s H vs Q E hr h => ?_)
  · obtain ⟨n, k, rfl, _⟩ := h
    rfl
  · obtain ⟨n, k, rfl, hk, q⟩ := h
    refine ⟨_, (pss_cons (ps_set (i := 2) sc_fixed.nd rfl (Or.inl rfl) (pe_lst pa_nil))
      (pss_cons (ps_set (i := 3) sc_fixed.nd rfl (Or.inl rfl) (pv 0))
      (pss_cons (ps_for PassesOwn.never rfl (pi_range1 rfl C.nrange (pa_cons (pv 1) pa_nil)) (pg_name (i := 4) sc_fixed.nd rfl (Or.inl rfl)) (pss_cons (ps_expr (pe_bm PySem.F.plainAttrs_list PySem.F.slot_list_append PySem.F.type_list_append mt_append (pv 2) (pa_cons (pe_op op_and (pv 3) pe_int) pa_nil)))
      (pss_one (ps_set (i := 3) sc_fixed.nd rfl (Or.inl rfl) (pe_op op_shr (pv 3) pe_int)))))
      (pss_one (ps_ret (pv 2)))))), ?_⟩
    try dsimp only [cxOf]
    refine ⟨Nat.zero_le _, fun l hl => ?_⟩
    refine ⟨_, rfl, _, rfl, (k : Int), rfl, by omega, by omega, for_range (n := (k : Int).toNat) (fun i σ H2 => Same H H2 ∧ H2 l = some (.lst (vb (Sv13.little i n))) ∧ ∃ v, σ = [some (.int (n : Int)), some (.int (k : Int)), some (.ref l), some (.int ((n / 256 ^ i : Nat) : Int)), v])
      ⟨Same.new (Same.refl H) hl, upd_same, none, ?_⟩ ?_ ?_⟩
    · show _ = [some (V.int (n : Int)), some (V.int (k : Int)), some (V.ref l), some (V.int ((n / 1 : Nat) : Int)), none]
      rw [Nat.div_one]
      rfl
    · rintro i σ H2 hi ⟨hs, h2, v, rfl⟩
      have hi : i < k := hi
      refine ⟨_, rfl, .inl ⟨rfl, _, SqL.of h2⟩, _, rfl, _, _, rfl, rfl, l, _, _, rfl, rfl, h2, lt_size (by rw [vb_length, My.little_length]; omega), ?_⟩
      refine ⟨_, rfl, _, _, rfl, rfl, (by show (0 : Int) ≤ 8; decide), ?_⟩
      refine ⟨Same.upd hs hl, ?_, some (V.int (0 + (i : Int))), ?_⟩
      · rw [upd_same, My.little_succ]
        have e : Builtin.bitAnd ((n / 256 ^ i : Nat) : Int) 255 = ((n / 256 ^ i % 256 : Nat) : Int) := by
          rw [bitAnd_m8]
          omega
        exact vb_snoc _ e
      · have e : ((n / 256 ^ i : Nat) : Int) / 2 ^ (8 : Int).toNat = ((n / 256 ^ (i + 1) : Nat) : Int) := by
          rw [My.div_pow_succ]
          show ((n / 256 ^ i : Nat) : Int) / 256 = _
          omega
        show [some (V.int (n : Int)), some (V.int (k : Int)), some (V.ref l), some (V.int (((n / 256 ^ i : Nat) : Int) / 2 ^ (8 : Int).toNat)), some (V.int (0 + (i : Int)))] = _
        rw [e]
    · rintro σ H2 ⟨hs, h2, v, rfl⟩
      exact ⟨_, rfl, q l H2 hs hl h2⟩
end
end KL
set_option Elab.async false
set_option linter.all false
set_option maxRecDepth 100000
namespace KL
open PySem PySem.W PyProof.Rows L2
section
variable {P : Program} {w : World} {K : Frag} {mg : Str → Option Value} {base : Heap}
def sp_number_at (K : Frag) : Sp := fun vs H Q _ => ∃ (a : Addr) (bs : List Nat) (b n : Nat), vs = [.ref a, .int (b : Int), .int (n : Int)] ∧ SqL K H a (vb bs) ∧ isByte bs ∧ b + n ≤ bs.length ∧ n ≤ 8 ∧ Q (.int ((Sv13.ofLittle (Sv13.slice bs b n) : Nat) : Int)) H
theorem sc_number_at : FnScope ["data", "begin", "width", "number", "place"] ["data", "begin", "width"] (defScope s_number_at) := ⟨rfl, rfl, rfl, by decide +kernel, rfl, by decide +kernel, by decide +kernel⟩
theorem fx_number_at (D : DefAt K mg "number_at" s_number_at) (C : Consts K mg) : Fx P w K mg base "number_at" 1 ["data", "begin", "width"] (sp_number_at K) := by
  refine D.fx sc_number_at (fun _ _ _ _ _ _ us hl => by obtain ⟨_, _, _, rfl⟩ := ln3 hl; rfl) (fun vs H Q E h => ?_) (fun f cdv A outer s H vs Q E hr h => ?_)
  · obtain ⟨a, bs, b, n, rfl, _⟩ := h
    rfl
  · obtain ⟨a, bs, b, n, rfl, ha, hby, hle, hn, q⟩ := h
    refine ⟨_, (pss_cons (ps_set (i := 3) sc_number_at.nd rfl (Or.inl rfl) pe_int)
      (pss_cons (ps_for PassesOwn.never rfl (pi_range1 rfl C.nrange (pa_cons (pv 2) pa_nil)) (pg_name (i := 4) sc_number_at.nd rfl (Or.inl rfl)) (pss_one (ps_aug (i := 3) sc_number_at.nd rfl (Or.inl rfl) (pe_op op_shl (pe_ix ix_list (pv 0) (pe_op op_add (pv 1) (pv 4)) (fun _ _ => rfl)) (pe_op op_mul pe_int (pv 4))) ip_add)))
      (pss_one (ps_ret (pv 3))))), ?_⟩
    try dsimp only [cxOf]
    refine ⟨_, rfl, (n : Int), rfl, by omega, by omega, for_range (n := (n : Int).toNat) (fun i σ H2 => H2 = H ∧ ∃ v, σ = [some (.ref a), some (.int (b : Int)), some (.int (n : Int)), some (.int ((Sv13.ofLittle (Sv13.slice bs b i) : Nat) : Int)), v])
      ⟨rfl, none, rfl⟩ ?_ ?_⟩
    · rintro i σ H2 hi ⟨rfl, v, rfl⟩
      have hi : i < n := hi
      have hx : bs[b + i]? = some bs[b + i] := List.getElem?_eq_getElem (by omega)
      have hlt : bs[b + i] < 256 := hby _ (List.getElem_mem _)
      refine ⟨_, rfl, _, rfl, _, rfl, _, rfl, _, _, rfl, rfl, a, _, _, _, rfl, rfl, ha, at_of (j := b + i) (v := V.int ((bs[b + i] : Nat) : Int)) ?_ ?_, _, rfl, _, _, rfl, rfl, .inl ⟨by decide, by decide⟩, _, _, rfl, rfl, ⟨?_, ?_, ?_⟩, _, _, rfl, rfl, ?_⟩
      · omega
      · unfold vb
        rw [List.getElem?_map, hx]
        rfl
      · omega
      · omega
      · show (((bs[b + i] : Nat) : Int)).natAbs < 2 ^ 64
        rw [Int.natAbs_natCast]
        omega
      · refine ⟨rfl, some (V.int (0 + (i : Int))), ?_⟩
        have e1 : ((8 : Int) * (0 + (i : Int))).toNat = 8 * i := by omega
        have e2 : ((bs[b + i] : Nat) : Int) * 2 ^ ((8 : Int) * (0 + (i : Int))).toNat = ((bs[b + i] * 256 ^ i : Nat) : Int) := by
          rw [e1, pow8]
          simp
        show [some (V.ref a), some (V.int (b : Int)), some (V.int (n : Int)), some (V.int (((Sv13.ofLittle (Sv13.slice bs b i) : Nat) : Int) + ((bs[b + i] : Nat) : Int) * 2 ^ ((8 : Int) * (0 + (i : Int))).toNat)), some (V.int (0 + (i : Int)))] = _
        rw [e2, My.ofLittle_slice hx hlt]
        simp
    · rintro σ H2 ⟨rfl, v, rfl⟩
      exact ⟨_, rfl, q⟩
end
end KL
set_option Elab.async false
set_option linter.all false
set_option maxRecDepth 100000
namespace KL
open PySem PySem.W PyProof.Rows L2
section
variable {P : Program} {w : World} {K : Frag} {mg : Str → Option Value} {base : Heap}
structure ScannerCls (K : Frag) (C : Addr) : Prop where
  cl : Cls K C
  nD : NoAttr K C "data"
  nP : NoAttr K C "place"
  nE : NoAttr K C "end"
def fsS (d : Addr) (p e : Nat) : List (Str × V) := [("data", .ref d), ("place", .int (p : Int)), ("end", .int (e : Int))]
theorem fsS_data {d : Addr} {p e : Nat} : (fsS d p e).lookup ("data" : Str) = some (.ref d) := lk_here
theorem fsS_place {d : Addr} {p e : Nat} : (fsS d p e).lookup ("place" : Str) = some (.int (p : Int)) := lk_next (by decide +kernel) lk_here
theorem fsS_end {d : Addr} {p e : Nat} : (fsS d p e).lookup ("end" : Str) = some (.int (e : Int)) := lk_next (by decide +kernel) (lk_next (by decide +kernel) lk_here)
theorem fsS_at_end {d : Addr} {p e : Nat} : (fsS d p e).lookup ("at_end" : Str) = none := lk_next (by decide +kernel) (lk_next (by decide +kernel) (lk_next (by decide +kernel) lk_nil))
theorem fsS_taken {d : Addr} {p e : Nat} : (fsS d p e).lookup ("taken" : Str) = none := lk_next (by decide +kernel) (lk_next (by decide +kernel) (lk_next (by decide +kernel) lk_nil))
theorem fsS_varint {d : Addr} {p e : Nat} : (fsS d p e).lookup ("taken_varint" : Str) = none := lk_next (by decide +kernel) (lk_next (by decide +kernel) (lk_next (by decide +kernel) lk_nil))
theorem fsS_put {d : Addr} {p p' e : Nat} {z : Int} (h : z = (p' : Int)) : putF "place" (.int z) (fsS d p e) = fsS d p' e := by
  subst h
  unfold fsS
  simp (disch := decide +kernel) only [pf_nil, pf_here, pf_next]
def sp_Scanner_init (C : Addr) : Sp := fun vs H Q _ => ∃ (p dx d : Addr) (pl e : Nat), vs = [.ref p, .ref d, .int (pl : Int), .int (e : Int)] ∧ H p = some (.ins C dx []) ∧ Q .non (upd H p (.ins C dx (fsS d pl e)))
theorem sc_Scanner_init : FnScope ["self", "data", "place", "end"] ["self", "data", "place", "end"] (defScope s_Scanner_init) := ⟨rfl, rfl, rfl, by decide +kernel, rfl, by decide +kernel, by decide +kernel⟩
theorem mx_Scanner_init {C : Addr} (D : MakeAt K mg "Scanner" C "Scanner.__init__" s_Scanner_init) (T : ScannerCls K C) : Mkx P w K mg base "Scanner" C 1 ["self", "data", "place", "end"] (sp_Scanner_init C) := by
  refine D.mx sc_Scanner_init (fun _ _ _ _ _ _ us hl => by obtain ⟨_, _, _, _, rfl⟩ := ln4 hl; rfl) (fun vs H Q E h => ?_) (fun f cdv A outer s H vs Q E hr h => ?_)
  · obtain ⟨p, dx, d, pl, e, rfl, _⟩ := h
    rfl
  · obtain ⟨p, dx, d, pl, e, rfl, hp, q⟩ := h
    refine ⟨_, (pss_cons (ps_fld (pv 0) (pv 1) rfl)
      (pss_cons (ps_fld (pv 0) (pv 2) rfl)
      (pss_one (ps_fld (pv 0) (pv 3) rfl)))), ?_⟩
    try dsimp only [cxOf]
    refine ⟨_, rfl, _, rfl, rfs hp T.cl T.nD (by show 0 < 1000; decide) ?_⟩
    refine ⟨_, rfl, _, rfl, rfs upd_same T.cl T.nP (by show 1 < 1000; decide) ?_⟩
    refine ⟨_, rfl, _, rfl, rfs upd_same T.cl T.nE (by show 2 < 1000; decide) ?_⟩
    rw [upd_upd, upd_upd]
    have e1 : putF "end" (V.int (e : Int)) (putF "place" (V.int (pl : Int)) (putF "data" (V.ref d) [])) = fsS d pl e := by
      unfold fsS
      simp (disch := decide +kernel) only [pf_nil, pf_here, pf_next]
    show Q .non (upd H p (.ins C dx (putF "end" (V.int (e : Int)) (putF "place" (V.int (pl : Int)) (putF "data" (V.ref d) [])))))
    rw [e1]
    exact q
def sp_at_end (C : Addr) : Sp := fun vs H Q _ => ∃ (p dx d : Addr) (pl e : Nat), vs = [.ref p] ∧ H p = some (.ins C dx (fsS d pl e)) ∧ Q (.bl (decide (pl = e))) H
theorem sc_Scanner_at_end : FnScope ["self"] ["self"] (defScope s_Scanner_at_end) := ⟨rfl, rfl, rfl, by decide +kernel, rfl, by decide +kernel, by decide +kernel⟩
theorem mx_at_end {C : Addr} (D : MethAt K C "at_end" "Scanner.at_end" s_Scanner_at_end) (T : ScannerCls K C) : Mtx P w K mg base C "at_end" 1 ["self"] (sp_at_end C) := by
  refine D.mx T.cl sc_Scanner_at_end (fun _ _ _ _ _ _ us hl => by obtain ⟨_, rfl⟩ := ln1 hl; rfl) (fun vs H Q E h => ?_) (fun f cdv A outer s H vs Q E hr h => ?_)
  · obtain ⟨p, dx, d, pl, e, rfl, _⟩ := h
    rfl
  · obtain ⟨p, dx, d, pl, e, rfl, hp, q⟩ := h
    refine ⟨_, (pss_one (ps_ret (pe_cmpR op_eq (pe_fld (pv 0) rfl) (pe_fld (pv 0) rfl) (nomark _)))), ?_⟩
    try dsimp only [cxOf]
    refine ⟨_, rfl, rfd hp T.cl T.nP fsS_place ⟨_, rfl, rfd hp T.cl T.nE fsS_end ⟨rfl, ?_⟩⟩⟩
    have e1 : decide (V.int (pl : Int) = V.int (e : Int)) = decide (pl = e) := by
      rw [decide_eq_decide]
      constructor
      · intro z
        injection z with z
        omega
      · intro z
        rw [z]
    rw [e1]
    exact q
def win (data : List Nat) (p e : Nat) : List Nat := (data.take e).drop p
theorem win_length {data : List Nat} {p e : Nat} (h : e ≤ data.length) : (win data p e).length = e - p := by
  unfold win
  rw [List.length_drop, List.length_take, Nat.min_eq_left h]
theorem win_slice {data : List Nat} {p e n : Nat} (h2 : p + n ≤ e) : Sv13.slice data p n = (win data p e).take n := by
  unfold win Sv13.slice
  rw [List.drop_take, List.take_take, Nat.min_eq_left (by omega)]
theorem win_drop (data : List Nat) (p e n : Nat) : (win data p e).drop n = win data (p + n) e := by
  unfold win
  rw [List.drop_drop]
structure ScAt (K : Frag) (C : Addr) (S : List Addr) (H : Hp) (p dx d : Addr) (data : List Nat) (pl e : Nat) : Prop where
  ob : H p = some (.ins C dx (fsS d pl e))
  dt : SqO K S H d (vb data)
  le : pl ≤ e
  len : e ≤ data.length
  byt : isByte data
  sz : data.length ≤ 100000
def sp_taken_k1 (C : Addr) (p dx d : Addr) (data : List Nat) (pl e n : Nat) (H : Hp) (Q : VK) : Prop := (n ≤ e - pl → ∀ (l : Addr) (H' : Hp), H' l = some (.lst (vb ((win data pl e).take n))) → H' p = some (.ins C dx (fsS d (pl + n) e)) → KB [p] H H' → H l = none → Q (.ref l) H')
def sp_taken (K : Frag) (C CN : Addr) : Sp := fun vs H Q E => ∃ (p dx d : Addr) (data : List Nat) (pl e n : Nat), vs = [.ref p, .int (n : Int)] ∧ ScAt K C [p] H p dx d data pl e ∧ (e - pl < n → Bad CN E) ∧ sp_taken_k1 C p dx d data pl e n H Q
theorem sc_Scanner_taken : FnScope ["self", "length", "begin"] ["self", "length"] (defScope s_Scanner_taken) := ⟨rfl, rfl, rfl, by decide +kernel, rfl, by decide +kernel, by decide +kernel⟩
theorem mx_taken {C CN : Addr} (D : MethAt K C "taken" "Scanner.taken" s_Scanner_taken) (T : ScannerCls K C) (O : ExcAt K mg "NoTable" CN) : Mtxe P w K mg base C "taken" 1 ["self", "length"] (sp_taken K C CN) := by
  refine D.mxe T.cl sc_Scanner_taken (fun _ _ _ _ _ _ us hl => by obtain ⟨_, _, rfl⟩ := ln2 hl; rfl) (fun vs H Q E h => ?_) (fun f cdv A outer s H vs Q E hr h => ?_)
  · obtain ⟨p, dx, d, data, pl, e, n, rfl, _⟩ := h
    rfl
  · obtain ⟨p, dx, d, data, pl, e, n, rfl, S, hbad, hok⟩ := h
    refine ⟨_, (pss_cons (ps_set (i := 2) sc_Scanner_taken.nd rfl (Or.inl rfl) (pe_fld (pv 0) rfl))
      (pss_cons (ps_if (pt_cmpR op_gt (pv 1) (pe_op op_sub (pe_fld (pv 0) rfl) (pv 2)) (nomark _)) (pss_one (ps_raise bodyX O rfl)) pss_nil)
      (pss_cons (ps_fld (pv 0) (pe_op op_add (pv 2) (pv 1)) rfl)
      (pss_one (ps_ret (pe_slice sl_list (pe_fld (pv 0) rfl) (po_some (pv 2)) (po_some (pe_op op_add (pv 2) (pv 1))))))))), ?_⟩
    try dsimp only [cxOf]
    have hle := S.le
    have hln := S.len
    refine ⟨_, rfl, rfd S.ob T.cl T.nP fsS_place ?_⟩
    refine ⟨_, rfl, _, rfl, rfd S.ob T.cl T.nE fsS_end ⟨_, rfl, _, _, rfl, rfl, _, _, rfl, rfl, _, rfl, ?_⟩⟩
    by_cases h1 : e - pl < n
    · rw [decide_eq_true (by omega)]
      exact iteT (hbad h1 _)
    · rw [decide_eq_false (by omega)]
      refine iteF ?_
      refine ⟨_, rfl, _, rfl, _, _, rfl, rfl, _, rfl, rfs S.ob T.cl T.nP (by show 3 < 1000; decide) ?_⟩
      rw [fsS_put (p' := pl + n) (by omega)]
      refine ⟨_, rfl, rfd upd_same T.cl T.nD fsS_data ?_⟩
      have hd : SqL K (upd H p (.ins C dx (fsS d (pl + n) e))) d (vb data) := sq_ins S.dt.sq S.ob
      refine ⟨_, rfl, _, rfl, _, rfl, _, rfl, _, _, rfl, rfl, _, rfl, d, _, rfl, hd, fun l hl => ?_⟩
      have np : p ≠ l := ne_of_none upd_same hl
      have hcut : cutV (vb data) (some (pl : Int)) (some ((pl : Int) + (n : Int))) = vb ((win data pl e).take n) := by
        rw [show (pl : Int) + (n : Int) = ((pl + n : Nat) : Int) by omega, cut_both (by omega) (by rw [vb_length]; omega), ← win_slice (by omega), vb_slice]
        congr 1
        omega
      have hl0 : H l = none := by
        rw [upd_ne (fun z => np z.symm)] at hl
        exact hl
      refine hok (by omega) l _ (by rw [upd_same, hcut]) (by rw [upd_ne np]; exact upd_same) (KB.new (KB.upd (KB.refl [p] H) (by simp)) hl) hl0
structure Sev (W : List Nat) (i acc : Nat) : Prop where
  eq : Sv13.readSevens 10 W = (Sv13.readSevens (10 - i) (W.drop i)).map fun x => (acc + 128 ^ i * x.1, x.2)
  le : i ≤ W.length
  i10 : i ≤ 10
theorem Sev.start (W : List Nat) : Sev W 0 0 := by
  refine ⟨?_, Nat.zero_le _, by omega⟩
  simp only [Nat.sub_zero, List.drop_zero, Nat.zero_add, Nat.pow_zero, Nat.one_mul]
  cases Sv13.readSevens 10 W <;> rfl
theorem Sev.last {W : List Nat} {i acc c : Nat} (h : Sev W i acc) (h9 : i < 10) (hc : W[i]? = some c) (hlt : c < 128) : Sv13.readSevens 10 W = some (acc + 128 ^ i * c, W.drop (i + 1)) := by
  obtain ⟨h1, e1⟩ := List.getElem?_eq_some_iff.mp hc
  rw [h.eq, List.drop_eq_getElem_cons h1, e1, show 10 - i = (10 - i - 1) + 1 from (Nat.sub_add_cancel (Nat.sub_pos_of_lt h9)).symm]
  unfold Sv13.readSevens
  simp only
  rw [if_pos hlt]
  rfl
theorem Sev.step {W : List Nat} {i acc c : Nat} (h : Sev W i acc) (h9 : i < 10) (hc : W[i]? = some c) (hge : 128 ≤ c) : Sev W (i + 1) (acc + 128 ^ i * (c - 128)) := by
  obtain ⟨h1, e1⟩ := List.getElem?_eq_some_iff.mp hc
  refine ⟨?_, by omega, by omega⟩
  rw [h.eq, List.drop_eq_getElem_cons h1, e1, show 10 - i = (10 - (i + 1)) + 1 from (Nat.sub_add_cancel (Nat.sub_pos_of_lt h9)).symm]
  conv => lhs; unfold Sv13.readSevens
  simp only
  rw [if_neg (by omega)]
  cases Sv13.readSevens (10 - (i + 1)) (W.drop (i + 1)) with
  | none => rfl
  | some x =>
    simp only [Option.map_some, Nat.pow_succ]
    congr 2
    rw [Nat.mul_add, ← Nat.mul_assoc]
    omega
theorem Sev.none_end {W : List Nat} {i acc : Nat} (h : Sev W i acc) (he : i = W.length ∨ i = 10) : Sv13.readSevens 10 W = none := by
  rw [h.eq]
  rcases he with rfl | rfl
  · rw [List.drop_length]
    cases 10 - W.length <;> rfl
  · rfl
end
end KL
set_option Elab.async false
set_option linter.all false
set_option maxRecDepth 100000
namespace KL
open PySem PySem.W PyProof.Rows L2
section
variable {P : Program} {w : World} {K : Frag} {mg : Str → Option Value} {base : Heap}
theorem tv_le {i w e pl : Nat} (h : i ≤ w) (hw : w = e - pl) (hp : pl ≤ e) (he : ¬ pl + i = e) : pl + (i + 1) ≤ e := by omega
def sp_taken_varint_k1 (C : Addr) (p dx d : Addr) (data : List Nat) (pl e : Nat) (H : Hp) (Q : VK) : Prop := (∀ n r, Sv13.readVarint (win data pl e) = some (n, r) → ∀ H' : Hp, H' p = some (.ins C dx (fsS d (e - r.length) e)) → KB [p] H H' → Q (.int (n : Int)) H')
def sp_taken_varint (K : Frag) (C CN : Addr) : Sp := fun vs H Q E => ∃ (p dx d : Addr) (data : List Nat) (pl e : Nat), vs = [.ref p] ∧ ScAt K C [p] H p dx d data pl e ∧ (Sv13.readVarint (win data pl e) = none → Bad CN E) ∧ sp_taken_varint_k1 C p dx d data pl e H Q
theorem sc_Scanner_taken_varint : FnScope ["self", "number", "step", "byte"] ["self"] (defScope s_Scanner_taken_varint) := ⟨rfl, rfl, rfl, by decide +kernel, rfl, by decide +kernel, by decide +kernel⟩
theorem and127 (a : Nat) : Builtin.bitAnd (a : Int) 127 = ((a % 128 : Nat) : Int) := by
  rw [bitAnd_m7]
  omega
theorem pow7 (i : Nat) : (2 : Int) ^ (7 * i) = ((128 ^ i : Nat) : Int) := by
  rw [show (128 : Nat) ^ i = 2 ^ (7 * i) from (Nat.pow_mul 2 7 i).symm]
  simp
theorem mx_taken_varint {C CN : Addr} (D : MethAt K C "taken_varint" "Scanner.taken_varint" s_Scanner_taken_varint) (T : ScannerCls K C) (Cs : Consts K mg) (O : ExcAt K mg "NoTable" CN) (M_at_end : Mtx P w K mg base C "at_end" 1 ["self"] (sp_at_end C)) :
    Mtxe P w K mg base C "taken_varint" 2 ["self"] (sp_taken_varint K C CN) := by
  refine D.mxe T.cl sc_Scanner_taken_varint (fun _ _ _ _ _ _ us hl => by obtain ⟨_, rfl⟩ := ln1 hl; rfl) (fun vs H Q E h => ?_) (fun f cdv A outer s H vs Q E hr h => ?_)
  · obtain ⟨p, dx, d, data, pl, e, rfl, _⟩ := h
    rfl
  · obtain ⟨p, dx, d, data, pl, e, rfl, S, hbad, hok⟩ := h
    try dsimp only [sp_taken_varint_k1] at hok
    refine ⟨_, (pss_cons (ps_set (i := 1) sc_Scanner_taken_varint.nd rfl (Or.inl rfl) pe_int)
      (pss_cons (ps_for PassesOwn.leaving rfl (pi_range1 rfl Cs.nrange (pa_cons (pe_gint rfl Cs.LONGEST_VARINT) pa_nil)) (pg_name (i := 2) sc_Scanner_taken_varint.nd rfl (Or.inl rfl)) (pss_cons (ps_if (pt_val (pe_mt0 (pv 0) M_at_end (hr.mono (by decide)))) (pss_one (ps_raise bodyX O rfl)) pss_nil)
      (pss_cons (ps_set (i := 3) sc_Scanner_taken_varint.nd rfl (Or.inl rfl) (pe_ix ix_list (pe_fld (pv 0) rfl) (pe_fld (pv 0) rfl) (fun _ _ => rfl)))
      (pss_cons (ps_fldaug (pv 0) pe_int in_add)
      (pss_cons (ps_aug (i := 1) sc_Scanner_taken_varint.nd rfl (Or.inl rfl) (pe_op op_shl (pe_op op_and (pv 3) pe_int) (pe_op op_mul pe_int (pv 2))) ip_add)
      (pss_one (ps_if (pt_cmpR op_lt (pv 3) pe_int (nomark _)) (pss_cons (ps_if (pt_cmpR op_ge (pv 1) (pe_gint rfl Cs.VARINT_LIMIT) (nomark _)) (pss_one (ps_raise bodyX O rfl)) pss_nil)
      (pss_one (ps_ret (pv 1)))) pss_nil)))))))
      (pss_one (ps_raise bodyX O rfl)))), ?_⟩
    try dsimp only [cxOf]
    have hle := S.le
    have hln := S.len
    have hW := win_length (p := pl) S.len
    generalize hw : win data pl e = W at hbad hok hW
    have hfail : Sv13.readSevens 10 W = none → Bad CN E := fun z => hbad (by unfold Sv13.readVarint; rw [z]; rfl)
    refine ⟨(10 : Int), rfl, by decide, by decide, for_range (n := 10) (fun i σ H2 => H2 p = some (.ins C dx (fsS d (pl + i) e)) ∧ KB [p] H H2 ∧ ∃ (acc : Nat) (v2 v3 : Option V), Sev W i acc ∧ acc < 128 ^ i ∧ σ = [some (.ref p), some (.int (acc : Int)), v2, v3])
      ⟨S.ob, KB.refl _ _, 0, none, none, Sev.start W, by decide, rfl⟩ ?_ ?_⟩
    · rintro i σ H2 hi ⟨hp2, kb, acc, v2, v3, sv, hacc, rfl⟩
      have hil := sv.le
      refine ⟨_, rfl, rmt hp2 fsS_at_end ⟨p, dx, d, pl + i, e, rfl, hp2, _, rfl, ?_⟩⟩
      by_cases he : pl + i = e
      · rw [decide_eq_true he]
        exact iteT (hfail (sv.none_end (.inl (by omega))) _)
      · rw [decide_eq_false he]
        refine iteF ?_
        obtain ⟨c, hx⟩ : ∃ c, data[pl + i]? = some c := ⟨_, List.getElem?_eq_getElem (by omega)⟩
        have hWi : W[i]? = some c := by
          rw [← hw]
          unfold win
          rw [List.getElem?_drop, List.getElem?_take_of_lt (by omega)]
          exact hx
        have hc : c < 256 := S.byt _ (List.mem_of_getElem? hx)
        have hd2 := (S.dt.kb kb).sq
        refine ⟨_, rfl, rfd hp2 T.cl T.nD fsS_data ⟨_, rfl, rfd hp2 T.cl T.nP fsS_place ⟨d, _, _, V.int (c : Int), rfl, rfl, hd2, vb_at hx, ?_⟩⟩⟩
        refine ⟨_, rfl, rfd hp2 T.cl T.nP fsS_place ⟨_, _, rfl, rfl, dx, _, hp2, (by show 3 < 1000; decide), ?_⟩⟩
        rw [fsS_put (p' := pl + i + 1) (by omega)]
        refine ⟨_, rfl, _, rfl, _, _, rfl, rfl, _, rfl, _, _, rfl, rfl, .inl ⟨by decide, by decide⟩, _, _, rfl, rfl, ⟨?_, ?_, ?_⟩, _, _, rfl, rfl, ?_⟩
        · omega
        · omega
        · rw [and127, Int.natAbs_natCast]
          omega
        have e1 : ((7 : Int) * (0 + (i : Int))).toNat = 7 * i := by omega
        have e2 : (acc : Int) + Builtin.bitAnd (c : Int) 127 * 2 ^ ((7 : Int) * (0 + (i : Int))).toNat = ((acc + 128 ^ i * (c % 128) : Nat) : Int) := by
          rw [and127, e1, pow7]
          simp only [Int.natCast_add, Int.natCast_mul]
          rw [Int.mul_comm]
        refine gname_nx ?_
        dsimp only
        rw [e2]
        have kb2 : KB [p] H (upd H2 p (.ins C dx (fsS d (pl + i + 1) e))) := KB.upd kb (by simp)
        refine ⟨_, rfl, _, _, rfl, rfl, _, rfl, ?_⟩
        by_cases hlt : c < 128
        · rw [decide_eq_true (by omega)]
          refine iteT ?_
          have hR := sv.last hi hWi hlt
          have hm : c % 128 = c := Nat.mod_eq_of_lt hlt
          rw [hm]
          refine ⟨_, rfl, _, _, rfl, rfl, _, rfl, ?_⟩
          by_cases hbig : 2 ^ 63 ≤ acc + 128 ^ i * c
          · rw [decide_eq_true (by show (9223372036854775808 : Int) ≤ _; omega)]
            refine iteT (hbad ?_ _)
            unfold Sv13.readVarint
            rw [hR]
            show (if acc + 128 ^ i * c < 2 ^ 63 then _ else none) = none
            rw [if_neg (by omega)]
          · rw [decide_eq_false (by show ¬ (9223372036854775808 : Int) ≤ _; omega)]
            refine iteF ⟨_, rfl, hok (acc + 128 ^ i * c) (W.drop (i + 1)) ?_ _ ?_ kb2⟩
            · unfold Sv13.readVarint
              rw [hR]
              show (if acc + 128 ^ i * c < 2 ^ 63 then _ else none) = _
              rw [if_pos (by omega)]
            · rw [upd_same, List.length_drop, hW, Nat.sub_sub, Nat.sub_sub_self (tv_le hil hW S.le he)]
              rfl
        · rw [decide_eq_false (by omega)]
          refine iteF ?_
          have hm : c % 128 = c - 128 := by omega
          refine ⟨upd_same, kb2, acc + 128 ^ i * (c % 128), _, _, by rw [hm]; exact sv.step hi hWi (by omega), ?_, rfl⟩
          have h128 : c % 128 < 128 := Nat.mod_lt _ (by decide)
          rw [Nat.pow_succ]
          have h3 : 128 ^ i * (c % 128) ≤ 128 ^ i * 127 := Nat.mul_le_mul_left _ (by omega)
          omega
    · rintro σ H2 ⟨hp2, kb, acc, v2, v3, sv, hacc, rfl⟩
      exact hfail (sv.none_end (.inr rfl)) _
end
end KL
set_option Elab.async false
set_option linter.all false
set_option maxRecDepth 100000
namespace KL
open PySem PySem.W PyProof.Rows L2
section
variable {P : Program} {w : World} {K : Frag} {mg : Str → Option Value} {base : Heap}
structure HandleCls (K : Frag) (C : Addr) : Prop where
  cl : Cls K C
  nB : NoAttr K C "begin"
  nL : NoAttr K C "length"
def fsH (h : Sv13.Handle) : List (Str × V) := [("begin", .int (h.at_ : Int)), ("length", .int (h.size : Int))]
theorem fsH_begin {h : Sv13.Handle} : (fsH h).lookup ("begin" : Str) = some (.int (h.at_ : Int)) := lk_here
theorem fsH_length {h : Sv13.Handle} : (fsH h).lookup ("length" : Str) = some (.int (h.size : Int)) := lk_next (by decide +kernel) lk_here
theorem fsH_behind {h : Sv13.Handle} : (fsH h).lookup ("behind" : Str) = none := lk_next (by decide +kernel) (lk_next (by decide +kernel) lk_nil)
def sp_Handle_init (C : Addr) : Sp := fun vs H Q _ => ∃ (p dx : Addr) (h : Sv13.Handle), vs = [.ref p, .int (h.at_ : Int), .int (h.size : Int)] ∧ H p = some (.ins C dx []) ∧ Q .non (upd H p (.ins C dx (fsH h)))
theorem sc_Handle_init : FnScope ["self", "begin", "length"] ["self", "begin", "length"] (defScope s_Handle_init) := ⟨rfl, rfl, rfl, by decide +kernel, rfl, by decide +kernel, by decide +kernel⟩
theorem mx_Handle_init {C : Addr} (D : MakeAt K mg "Handle" C "Handle.__init__" s_Handle_init) (T : HandleCls K C) : Mkx P w K mg base "Handle" C 1 ["self", "begin", "length"] (sp_Handle_init C) := by
  refine D.mx sc_Handle_init (fun _ _ _ _ _ _ us hl => by obtain ⟨_, _, _, rfl⟩ := ln3 hl; rfl) (fun vs H Q E h => ?_) (fun f cdv A outer s H vs Q E hr h => ?_)
  · obtain ⟨p, dx, h, rfl, _⟩ := h
    rfl
  · obtain ⟨p, dx, h, rfl, hp, q⟩ := h
    refine ⟨_, (pss_cons (ps_fld (pv 0) (pv 1) rfl)
      (pss_one (ps_fld (pv 0) (pv 2) rfl))), ?_⟩
    try dsimp only [cxOf]
    refine ⟨_, rfl, _, rfl, rfs hp T.cl T.nB (by show 0 < 1000; decide) ?_⟩
    refine ⟨_, rfl, _, rfl, rfs upd_same T.cl T.nL (by show 1 < 1000; decide) ?_⟩
    rw [upd_upd]
    have e1 : putF "length" (V.int (h.size : Int)) (putF "begin" (V.int (h.at_ : Int)) []) = fsH h := by
      unfold fsH
      simp (disch := decide +kernel) only [pf_nil, pf_here, pf_next]
    show Q .non (upd H p (.ins C dx (putF "length" (V.int (h.size : Int)) (putF "begin" (V.int (h.at_ : Int)) []))))
    rw [e1]
    exact q
def sp_behind (C : Addr) : Sp := fun vs H Q _ => ∃ (p dx : Addr) (h : Sv13.Handle), vs = [.ref p] ∧ H p = some (.ins C dx (fsH h)) ∧ Q (.int ((h.at_ + h.size + 5 : Nat) : Int)) H
theorem sc_Handle_behind : FnScope ["self"] ["self"] (defScope s_Handle_behind) := ⟨rfl, rfl, rfl, by decide +kernel, rfl, by decide +kernel, by decide +kernel⟩
theorem mx_behind {C : Addr} (D : MethAt K C "behind" "Handle.behind" s_Handle_behind) (T : HandleCls K C) (Cs : Consts K mg) : Mtx P w K mg base C "behind" 1 ["self"] (sp_behind C) := by
  refine D.mx T.cl sc_Handle_behind (fun _ _ _ _ _ _ us hl => by obtain ⟨_, rfl⟩ := ln1 hl; rfl) (fun vs H Q E h => ?_) (fun f cdv A outer s H vs Q E hr h => ?_)
  · obtain ⟨p, dx, h, rfl, _⟩ := h
    rfl
  · obtain ⟨p, dx, h, rfl, hp, q⟩ := h
    refine ⟨_, (pss_one (ps_ret (pe_op op_add (pe_op op_add (pe_fld (pv 0) rfl) (pe_fld (pv 0) rfl)) (pe_gint rfl Cs.SEAL_WIDTH)))), ?_⟩
    try dsimp only [cxOf]
    refine ⟨_, rfl, rfd hp T.cl T.nB fsH_begin ⟨_, rfl, rfd hp T.cl T.nL fsH_length ⟨_, _, rfl, rfl, _, _, rfl, rfl, ?_⟩⟩⟩
    have e : (h.at_ : Int) + (h.size : Int) + 5 = ((h.at_ + h.size + 5 : Nat) : Int) := by omega
    rw [← e] at q
    exact q
def sp_taken_handle_k1 (C Ch : Addr) (p dx d : Addr) (data : List Nat) (pl e : Nat) (H : Hp) (Q : VK) : Prop := (∀ h r, Sv13.readHandle (win data pl e) = some (h, r) → ∀ (ph dh : Addr) (H' : Hp), H' ph = some (.ins Ch dh (fsH h)) → H' p = some (.ins C dx (fsS d (e - r.length) e)) → KB [p] H H' → H ph = none → r = win data (e - r.length) e → r.length ≤ e - pl → Q (.ref ph) H')
def sp_taken_handle (K : Frag) (C Ch CN : Addr) : Sp := fun vs H Q E => ∃ (p dx d : Addr) (data : List Nat) (pl e : Nat), vs = [.ref p] ∧ ScAt K C [p] H p dx d data pl e ∧ (Sv13.readHandle (win data pl e) = none → Bad CN E) ∧ sp_taken_handle_k1 C Ch p dx d data pl e H Q
theorem sc_taken_handle : FnScope ["scanner", "begin", "length"] ["scanner"] (defScope s_taken_handle) := ⟨rfl, rfl, rfl, by decide +kernel, rfl, by decide +kernel, by decide +kernel⟩
theorem win_rest {data : List Nat} {pl e k : Nat} {r : List Nat} (hl : e ≤ data.length) (hr : r = (win data pl e).drop k) (hk : k ≤ e - pl) (hp : pl ≤ e) : r = win data (e - r.length) e ∧ r.length = e - pl - k := by
  have h1 : r.length = e - pl - k := by rw [hr, List.length_drop, win_length hl]
  refine ⟨?_, h1⟩
  rw [h1, hr, win_drop, Nat.sub_sub, Nat.sub_sub_self (by rw [Nat.add_comm]; exact Nat.add_le_of_le_sub hp hk)]
theorem wv {c : List Nat} {p e n : Nat} {r : List Nat} (hl : e ≤ c.length) (hp : p ≤ e) (h : Sv13.readVarint (win c p e) = some (n, r)) : r = win c (e - r.length) e ∧ r.length ≤ e - p := by
  obtain ⟨k, hk0, hk1, hk2⟩ := My.readVarint_len h
  rw [win_length hl] at hk1
  obtain ⟨a, b⟩ := win_rest hl hk2 hk1 hp
  exact ⟨a, by rw [b]; exact Nat.sub_le _ _⟩
theorem wv2 {e p r1 r2 : Nat} (h1 : r1 ≤ e - p) (h2 : r2 ≤ e - (e - r1)) : r2 ≤ e - p := by
  rw [Nat.sub_sub_self (Nat.le_trans h1 (Nat.sub_le _ _))] at h2
  exact Nat.le_trans h2 h1
theorem ScAt.kb {K : Frag} {C : Addr} {S : List Addr} {H H' : Hp} {p dx d : Addr} {data : List Nat} {pl pl' e : Nat} (h : ScAt K C S H p dx d data pl e) (k : KB S H H') (ho : H' p = some (.ins C dx (fsS d pl' e))) (hl : pl' ≤ e) : ScAt K C S H' p dx d data pl' e :=
  ⟨ho, h.dt.kb k, hl, h.len, h.byt, h.sz⟩
theorem fx_taken_handle {C Ch CN : Addr} (D : DefAt K mg "taken_handle" s_taken_handle) (M_taken_varint : Mtxe P w K mg base C "taken_varint" 2 ["self"] (sp_taken_varint K C CN)) (M_Handle : Mkx P w K mg base "Handle" Ch 1 ["self", "begin", "length"] (sp_Handle_init Ch)) :
    Fxe P w K mg base "taken_handle" 3 ["scanner"] (sp_taken_handle K C Ch CN) := by
  refine D.fxe sc_taken_handle (fun _ _ _ _ _ _ us hl => by obtain ⟨_, rfl⟩ := ln1 hl; rfl) (fun vs H Q E h => ?_) (fun f cdv A outer s H vs Q E hr h => ?_)
  · obtain ⟨p, dx, d, data, pl, e, rfl, _⟩ := h
    rfl
  · obtain ⟨p, dx, d, data, pl, e, rfl, S, hbad, hok⟩ := h
    try dsimp only [sp_taken_handle_k1] at hok
    refine ⟨_, (pss_cons (ps_set (i := 1) sc_taken_handle.nd rfl (Or.inl rfl) (pe_mte0 (pv 0) M_taken_varint (hr.mono (by decide)) passX))
      (pss_cons (ps_set (i := 2) sc_taken_handle.nd rfl (Or.inl rfl) (pe_mte0 (pv 0) M_taken_varint (hr.mono (by decide)) passX))
      (pss_one (ps_ret (pe_mx M_Handle (hr.mono (by decide)) rfl (pa_cons (pv 1) (pa_cons (pv 2) pa_nil))))))), ?_⟩
    try dsimp only [cxOf]
    unfold Sv13.readHandle at hbad hok
    refine ⟨_, rfl, rmt S.ob fsS_varint ⟨p, dx, d, data, pl, e, rfl, S, fun hn => hbad (by rw [hn]; rfl), fun n r hr1 H1 hp1 k1 => ?_⟩⟩
    rw [hr1] at hbad hok
    simp only [Option.bind_some] at hbad hok
    have w1 := wv S.len S.le hr1
    have hr2 := w1.1
    have S1 := S.kb k1 hp1 (Nat.sub_le _ _)
    rw [hr2] at hbad hok
    refine ⟨_, rfl, rmt hp1 fsS_varint ⟨p, dx, d, data, e - r.length, e, rfl, S1, fun hn => hbad (by rw [hn]; rfl), fun n2 r2 hr4 H2 hp2 k2 => ?_⟩⟩
    rw [hr4] at hok
    simp only [Option.map_some] at hok
    have w2 := wv S.len S1.le hr4
    have hr5 := w2.1
    have k12 := k1.trans k2
    refine ⟨_, rfl, _, rfl, fun ph dh hph hdh hne => ?_⟩
    refine ⟨ph, dh, ⟨n, n2⟩, rfl, upd_same, rfl, ?_⟩
    rw [upd_upd]
    have np : p ≠ ph := ne_of_none hp2 hph
    have nd : p ≠ dh := ne_of_none hp2 hdh
    have hph0 : H ph = none := k12.free hph (by simp; exact fun z => np z.symm)
    refine hok ⟨n, n2⟩ r2 rfl ph dh _ upd_same (by rw [upd_ne np, upd_ne nd]; exact hp2) ?_ hph0 hr5 (wv2 w1.2 w2.2)
    exact KB.new (KB.new k12 hdh) (by rw [upd_ne hne.symm]; exact hph)
def sp_handle_of_k1 (Ch : Addr) (v : List Nat) (H : Hp) (Q : VK) : Prop := (∀ h, Sv13.handleOf v = some h → ∀ (ph dh : Addr) (H' : Hp), H' ph = some (.ins Ch dh (fsH h)) → Same H H' → H ph = none → Q (.ref ph) H')
def sp_handle_of (K : Frag) (Ch CN : Addr) : Sp := fun vs H Q E => ∃ (a : Addr) (v : List Nat), vs = [.ref a] ∧ SqL K H a (vb v) ∧ isByte v ∧ v.length ≤ 100000 ∧ (Sv13.handleOf v = none → Bad CN E) ∧ sp_handle_of_k1 Ch v H Q
theorem sc_handle_of : FnScope ["value", "scanner", "handle"] ["value"] (defScope s_handle_of) := ⟨rfl, rfl, rfl, by decide +kernel, rfl, by decide +kernel, by decide +kernel⟩
theorem win_all (data : List Nat) : win data 0 data.length = data := by
  unfold win
  rw [List.take_length, List.drop_zero]
theorem fx_handle_of {C Ch CN : Addr} (D : DefAt K mg "handle_of" s_handle_of) (Cs : Consts K mg) (O : ExcAt K mg "NoTable" CN) (M_Scanner : Mkx P w K mg base "Scanner" C 1 ["self", "data", "place", "end"] (sp_Scanner_init C))
    (M_at_end : Mtx P w K mg base C "at_end" 1 ["self"] (sp_at_end C)) (F_taken_handle : Fxe P w K mg base "taken_handle" 3 ["scanner"] (sp_taken_handle K C Ch CN)) : Fxe P w K mg base "handle_of" 4 ["value"] (sp_handle_of K Ch CN) := by
  refine D.fxe sc_handle_of (fun _ _ _ _ _ _ us hl => by obtain ⟨_, rfl⟩ := ln1 hl; rfl) (fun vs H Q E h => ?_) (fun f cdv A outer s H vs Q E hr h => ?_)
  · obtain ⟨a, v, rfl, _⟩ := h
    rfl
  · obtain ⟨a, v, rfl, ha, hby, hsz, hbad, hok⟩ := h
    try dsimp only [sp_handle_of_k1] at hok
    refine ⟨_, (pss_cons (ps_set (i := 1) sc_handle_of.nd rfl (Or.inl rfl) (pe_mx M_Scanner (hr.mono (by decide)) rfl (pa_cons (pv 0) (pa_cons pe_int (pa_cons (pe_callB call_len_seq rfl Cs.nlen PySem.boot_len (pa_cons (pv 0) pa_nil)) pa_nil)))))
      (pss_cons (ps_set (i := 2) sc_handle_of.nd rfl (Or.inl rfl) (pe_fxe F_taken_handle (hr.mono (by decide)) rfl passX (pa_cons (pv 1) pa_nil)))
      (pss_cons (ps_if (pt_not (pt_val (pe_mt0 (pv 1) M_at_end (hr.mono (by decide))))) (pss_one (ps_raise bodyX O rfl)) pss_nil)
      (pss_one (ps_ret (pv 2)))))), ?_⟩
    try dsimp only [cxOf]
    unfold Sv13.handleOf at hbad hok
    refine ⟨_, rfl, _, rfl, a, _, rfl, .inl ha, fun p dx hp hdx hne => ?_⟩
    refine ⟨p, dx, a, 0, v.length, by rw [vb_length]; rfl, upd_same, rfl, ?_⟩
    rw [upd_upd]
    have s1 : Same H (upd (upd H dx (.own p)) p (.ins C dx (fsS a 0 v.length))) := Same.new (Same.new (Same.refl H) hdx) (by rw [upd_ne hne.symm]; exact hp)
    have hS : ScAt K C [p] (upd (upd H dx (.own p)) p (.ins C dx (fsS a 0 v.length))) p dx a v 0 v.length := by
      refine ⟨upd_same, ?_, Nat.zero_le _, Nat.le_refl _, hby, hsz⟩
      refine SqO.of (s1.seq ha) fun h => ?_
      have := rd_ins h (upd_same (H := upd H dx (.own p)) (a := p) (o := .ins C dx (fsS a 0 v.length)))
      simpa using this
    refine ⟨_, rfl, p, dx, a, v, 0, v.length, rfl, hS, fun hn => hbad (by rw [win_all] at hn; rw [hn]; rfl), fun h r hr1 ph dh H2 hph hp2 k2 hph0 hrw hrl => ?_⟩
    rw [win_all] at hr1
    rw [hr1] at hbad hok
    simp only [Option.bind_some] at hbad hok
    refine ⟨_, rfl, rmt hp2 fsS_at_end ⟨p, dx, a, v.length - r.length, v.length, rfl, hp2, _, rfl, ?_⟩⟩
    have hs2 : Same H H2 := fun b o e => k2 b o (s1 b o e) (by simp; exact ne_of_none e hp)
    by_cases hz : r = []
    · rw [if_pos hz] at hok
      subst hz
      rw [decide_eq_true (by simp)]
      exact iteF ⟨_, rfl, hok h rfl ph dh H2 hph hs2 (s1.free hph0)⟩
    · rw [if_neg hz] at hbad
      have hlen : 0 < r.length := List.length_pos_iff.mpr hz
      rw [decide_eq_false (by omega)]
      exact iteT (hbad rfl _)
def sp_seal_of (K : Frag) : Sp := fun vs H Q _ => ∃ (a : Addr) (c : List Nat), vs = [.ref a] ∧ SqL K H a (vb c) ∧ isByte c ∧ newL (vb (0 :: Sv13.little 4 (Sv13.masked (Sv13.crc (c ++ [0]) 0)))) H Q
theorem sc_seal_of : FnScope ["content"] ["content"] (defScope s_seal_of) := ⟨rfl, rfl, rfl, by decide +kernel, rfl, by decide +kernel, by decide +kernel⟩
theorem fx_seal_of (D : DefAt K mg "seal_of" s_seal_of) (Cs : Consts K mg) (F_fixed : Fx P w K mg base "fixed" 1 ["number", "width"] sp_fixed) (F_masked : Fx P w K mg base "masked" 1 ["number"] sp_masked) (F_sum_from : Fx P w K mg base "sum_from" 1 ["start", "data"] (sp_sum_from K)) :
    Fx P w K mg base "seal_of" 2 ["content"] (sp_seal_of K) := by
  refine D.fx sc_seal_of (fun _ _ _ _ _ _ us hl => by obtain ⟨_, rfl⟩ := ln1 hl; rfl) (fun vs H Q E h => ?_) (fun f cdv A outer s H vs Q E hr h => ?_)
  · obtain ⟨a, c, rfl, _⟩ := h
    rfl
  · obtain ⟨a, c, rfl, ha, hby, q⟩ := h
    refine ⟨_, (pss_one (ps_ret (pe_op op_cat (pe_lst (pa_cons pe_int pa_nil)) (pe_fx F_fixed (hr.mono (by decide)) rfl (pa_cons (pe_fx F_masked (hr.mono (by decide)) rfl (pa_cons (pe_fx F_sum_from (hr.mono (by decide)) rfl (pa_cons (pe_fx F_sum_from (hr.mono (by decide)) rfl (pa_cons pe_int (pa_cons (pv 0) pa_nil))) (pa_cons (pe_lst (pa_cons pe_int pa_nil)) pa_nil))) pa_nil)) (pa_cons pe_int pa_nil)))))), ?_⟩
    try dsimp only [cxOf]
    have h0 : isByte [0] := fun x hx => by rw [List.mem_singleton.mp hx]; decide
    refine ⟨(by show 1 ≤ sizeLine; decide), fun l1 hl1 => ?_⟩
    have s1 : Same H (upd H l1 (.lst [V.int 0])) := Same.new (Same.refl H) hl1
    refine ⟨_, rfl, 0, a, c, rfl, s1.seq ha, hby, ?_⟩
    refine ⟨(by show 1 ≤ sizeLine; decide), fun l2 hl2 => ?_⟩
    have s2 := Same.new s1 (o := .lst [V.int 0]) hl2
    refine ⟨Sv13.crc c 0, l2, [0], rfl, SqL.of upd_same, h0, ?_⟩
    have e : Sv13.crc (c ++ [0]) 0 = Sv13.crc [0] (Sv13.crc c 0) := My.crc_on c [0] 0
    rw [e] at q
    refine ⟨_, rfl, My.crc_lt (My.crc_lt (by decide) hby) h0, ?_⟩
    refine ⟨_, 4, rfl, by decide, fun l3 H3 s3 hl3 h3 => ?_⟩
    have n12 : l1 ≠ l2 := ne_of_none upd_same hl2
    refine ⟨l1, l3, _, _, rfl, rfl, s3 _ _ (by rw [upd_ne n12]; exact upd_same), h3, le_size (by simp only [vb_length, My.little_length, List.length_cons, List.length_nil]; omega), fun l4 hl4 => ?_⟩
    exact q l4 _ (Same.new (s2.trans s3) hl4) ((s2.trans s3).free hl4) upd_same
def sp_content_at (K : Frag) (Ch CN : Addr) : Sp := fun vs H Q E => ∃ (a : Addr) (t : List Nat) (lim : Nat) (ph dh : Addr) (h : Sv13.Handle), vs = [.ref a, .int (lim : Int), .ref ph] ∧ SqL K H a (vb t) ∧ isByte t ∧ lim + 48 = t.length ∧ t.length ≤ 100000 ∧ H ph = some (.ins Ch dh (fsH h)) ∧ (Sv13.blockAt t h = none → Bad CN E) ∧
  (∀ c, Sv13.blockAt t h = some c → isByte c → c.length ≤ 100000 → newL (vb c) H Q)
theorem sc_content_at : FnScope ["file", "end", "handle", "content"] ["file", "end", "handle"] (defScope s_content_at) := ⟨rfl, rfl, rfl, by decide +kernel, rfl, by decide +kernel, by decide +kernel⟩
theorem fx_content_at {Ch CN : Addr} (D : DefAt K mg "content_at" s_content_at) (Cs : Consts K mg) (O : ExcAt K mg "NoTable" CN) (T : HandleCls K Ch) (M_behind : Mtx P w K mg base Ch "behind" 1 ["self"] (sp_behind Ch)) (F_seal_of : Fx P w K mg base "seal_of" 2 ["content"] (sp_seal_of K)) :
    Fxe P w K mg base "content_at" 3 ["file", "end", "handle"] (sp_content_at K Ch CN) := by
  refine D.fxe sc_content_at (fun _ _ _ _ _ _ us hl => by obtain ⟨_, _, _, rfl⟩ := ln3 hl; rfl) (fun vs H Q E h => ?_) (fun f cdv A outer s H vs Q E hr h => ?_)
  · obtain ⟨a, t, lim, ph, dh, h, rfl, _⟩ := h
    rfl
  · obtain ⟨a, t, lim, ph, dh, h, rfl, ha, hby, hlim, hsz, hph, hbad, hok⟩ := h
    refine ⟨_, (pss_cons (ps_if (pt_cmpR op_gt (pe_mt0 (pv 2) M_behind (hr.mono (by decide))) (pv 1) (nomark _)) (pss_one (ps_raise bodyX O rfl)) pss_nil)
      (pss_cons (ps_set (i := 3) sc_content_at.nd rfl (Or.inl rfl) (pe_slice sl_list (pv 0) (po_some (pe_fld (pv 2) rfl)) (po_some (pe_op op_add (pe_fld (pv 2) rfl) (pe_fld (pv 2) rfl)))))
      (pss_cons (ps_if (pt_cmpR (op_neB hr.units0) (pe_slice sl_list (pv 0) (po_some (pe_op op_add (pe_fld (pv 2) rfl) (pe_fld (pv 2) rfl))) (po_some (pe_mt0 (pv 2) M_behind (hr.mono (by decide))))) (pe_fx F_seal_of (hr.mono (by decide)) rfl (pa_cons (pv 3) pa_nil)) (nomark _)) (pss_one (ps_raise bodyX O rfl)) pss_nil)
      (pss_one (ps_ret (pv 3)))))), ?_⟩
    try dsimp only [cxOf]
    unfold Sv13.blockAt at hbad hok
    refine ⟨_, rfl, rmt hph fsH_behind ⟨ph, dh, h, rfl, hph, _, rfl, _, _, rfl, rfl, _, rfl, ?_⟩⟩
    by_cases h1 : t.length < h.at_ + h.size + 5 + 48
    · rw [decide_eq_true (by omega)]
      rw [if_pos h1] at hbad
      exact iteT (hbad rfl _)
    · rw [decide_eq_false (by omega)]
      rw [if_neg h1] at hbad hok
      simp only at hbad hok
      refine iteF ?_
      refine ⟨_, rfl, _, rfl, rfd hph T.cl T.nB fsH_begin ⟨_, rfl, _, rfl, rfd hph T.cl T.nB fsH_begin ⟨_, rfl, rfd hph T.cl T.nL fsH_length ⟨_, _, rfl, rfl, _, rfl, a, _, rfl, ha, fun lc hlc => ?_⟩⟩⟩⟩
      have hcut : cutV (vb t) (some (h.at_ : Int)) (some ((h.at_ : Int) + (h.size : Int))) = vb (Sv13.slice t h.at_ h.size) := by
        rw [show (h.at_ : Int) + (h.size : Int) = ((h.at_ + h.size : Nat) : Int) by omega, cut_both (by omega) (by rw [vb_length]; omega), vb_slice]
        congr 1
        omega
      rw [hcut]
      have hcby : isByte (Sv13.slice t h.at_ h.size) := fun x hx => hby x (List.mem_of_mem_drop (List.mem_of_mem_take hx))
      have hcl : (Sv13.slice t h.at_ h.size).length ≤ 100000 := by
        unfold Sv13.slice
        simp only [List.length_take, List.length_drop]
        omega
      generalize Sv13.slice t h.at_ h.size = c at hbad hok hcby hcl
      have s1 := Same.new (Same.refl H) (o := .lst (vb c)) hlc
      have hph1 := s1 _ _ hph
      refine ⟨_, rfl, _, rfl, rfd hph1 T.cl T.nB fsH_begin ⟨_, rfl, rfd hph1 T.cl T.nL fsH_length ⟨_, _, rfl, rfl, _, rfl, _, rfl, rmt hph1 fsH_behind ⟨ph, dh, h, rfl, hph1, _, rfl, a, _, rfl, s1.seq ha, fun l2 hl2 => ?_⟩⟩⟩⟩
      have hcut2 : cutV (vb t) (some ((h.at_ : Int) + (h.size : Int))) (some ((h.at_ + h.size + 5 : Nat) : Int)) = vb (Sv13.slice t (h.at_ + h.size) 5) := by
        rw [show (h.at_ : Int) + (h.size : Int) = ((h.at_ + h.size : Nat) : Int) by omega, cut_both (by omega) (by rw [vb_length]; omega), vb_slice]
        congr 1
        omega
      rw [hcut2]
      have s2 := Same.new s1 (o := .lst (vb (Sv13.slice t (h.at_ + h.size) 5))) hl2
      have n12 : lc ≠ l2 := ne_of_none upd_same hl2
      have hc2 : (upd (upd H lc (.lst (vb c))) l2 (.lst (vb (Sv13.slice t (h.at_ + h.size) 5)))) lc = some (.lst (vb c)) := by rw [upd_ne n12]; exact upd_same
      refine ⟨_, rfl, lc, c, rfl, SqL.of hc2, hcby, fun l3 H3 s3 hl3 h3 => ?_⟩
      refine ⟨l2, l3, _, _, rfl, rfl, SqL.of (s3 _ _ upd_same), SqL.of h3, _, rfl, ?_⟩
      by_cases h2 : Sv13.slice t (h.at_ + h.size) 5 = 0 :: Sv13.little 4 (Sv13.masked (Sv13.crc (c ++ [0]) 0))
      · rw [if_pos h2] at hok
        have e : (if true = true then !decide (Sv13.slice t (h.at_ + h.size) 5 = 0 :: Sv13.little 4 (Sv13.masked (Sv13.crc (c ++ [0]) 0))) else decide (Sv13.slice t (h.at_ + h.size) 5 = 0 :: Sv13.little 4 (Sv13.masked (Sv13.crc (c ++ [0]) 0)))) = false := by
          rw [decide_eq_true h2]
          rfl
        rw [e]
        exact iteF ⟨_, rfl, hok c rfl hcby hcl lc H3 (s2.trans s3) hlc (s3 _ _ hc2)⟩
      · rw [if_neg h2] at hbad
        have e : (if true = true then !decide (Sv13.slice t (h.at_ + h.size) 5 = 0 :: Sv13.little 4 (Sv13.masked (Sv13.crc (c ++ [0]) 0))) else decide (Sv13.slice t (h.at_ + h.size) 5 = 0 :: Sv13.little 4 (Sv13.masked (Sv13.crc (c ++ [0]) 0)))) = true := by
          rw [decide_eq_false h2]
          rfl
        rw [e]
        exact iteT (hbad rfl _)
end
end KL
set_option Elab.async false
set_option linter.all false
set_option maxRecDepth 100000
namespace KL
open PySem PySem.W PyProof.Rows L2
section
variable {P : Program} {w : World} {K : Frag} {mg : Str → Option Value} {base : Heap}
theorem size4n {b n : Nat} : Builtin.Range.rangeSize (b : Int) ((b + 4 * n : Nat) : Int) 4 = (n : Int) := by
  unfold Builtin.Range.rangeSize
  rw [if_pos (by decide)]
  by_cases h0 : n = 0
  · subst h0
    rw [if_neg (by omega)]
    rfl
  · rw [if_pos (by omega)]
    omega
theorem rg4n {b n : Nat} (h : b + 4 * n ≤ 1000000) : RgC (b : Int) ((b + 4 * n : Nat) : Int) 4 n := by
  refine ⟨by decide, by decide, ?_, size4n⟩
  unfold Builtin.Range.small
  rw [size4n]
  have b1 : (0 : Int) ≤ (b : Int) ∧ (b : Int) ≤ 1000000 := by omega
  have b2 : (0 : Int) ≤ ((b + 4 * n : Nat) : Int) ∧ ((b + 4 * n : Nat) : Int) ≤ 1000000 := by omega
  have b3 : (0 : Int) ≤ (n : Int) ∧ (n : Int) ≤ 1000000 := by omega
  generalize ((b + 4 * n : Nat) : Int) = z at *
  generalize (n : Int) = k at *
  generalize (b : Int) = y at *
  simp only [Builtin.Range.rangeFitsLong, Bool.and_eq_true, Bool.or_eq_true, decide_eq_true_eq, beq_iff_eq, show (4 : Int) > 0 by decide, if_true]
  omega
theorem range_snoc {α : Type} (R : Nat → α) (n : Nat) : (List.range (n + 1)).map R = (List.range n).map R ++ [R n] := by
  rw [List.range_succ, List.map_append]
  rfl
def sp_restarts_of (K : Frag) (CN : Addr) : Sp := fun vs H Q E => ∃ (a : Addr) (c : List Nat), vs = [.ref a] ∧ SqL K H a (vb c) ∧ isByte c ∧ c.length ≤ 100000 ∧ (My.restartsOf c = none → Bad CN E) ∧ (∀ rs, My.restartsOf c = some rs → newL (vb rs) H Q)
theorem sc_restarts_of : FnScope ["block", "total", "begin", "restarts", "place", "restart"] ["block"] (defScope s_restarts_of) := ⟨rfl, rfl, rfl, by decide +kernel, rfl, by decide +kernel, by decide +kernel⟩
theorem fx_restarts_of {CN : Addr} (D : DefAt K mg "restarts_of" s_restarts_of) (C : Consts K mg) (O : ExcAt K mg "NoTable" CN) (F_number_at : Fx P w K mg base "number_at" 1 ["data", "begin", "width"] (sp_number_at K)) :
    Fxe P w K mg base "restarts_of" 2 ["block"] (sp_restarts_of K CN) := by
  refine D.fxe sc_restarts_of (fun _ _ _ _ _ _ us hl => by obtain ⟨_, rfl⟩ := ln1 hl; rfl) (fun vs H Q E h => ?_) (fun f cdv A outer s H vs Q E hr h => ?_)
  · obtain ⟨a, c, rfl, _⟩ := h
    rfl
  · obtain ⟨a, c, rfl, ha, hby, hsz, hbad, hok⟩ := h
    refine ⟨_, (pss_cons (ps_if (pt_cmpR op_lt (pe_callB call_len_seq rfl C.nlen PySem.boot_len (pa_cons (pv 0) pa_nil)) (pe_gint rfl C.NUMBER_WIDTH) (nomark _)) (pss_one (ps_raise bodyX O rfl)) pss_nil)
      (pss_cons (ps_set (i := 1) sc_restarts_of.nd rfl (Or.inl rfl) (pe_fx F_number_at (hr.mono (by decide)) rfl (pa_cons (pv 0) (pa_cons (pe_op op_sub (pe_callB call_len_seq rfl C.nlen PySem.boot_len (pa_cons (pv 0) pa_nil)) (pe_gint rfl C.NUMBER_WIDTH)) (pa_cons (pe_gint rfl C.NUMBER_WIDTH) pa_nil)))))
      (pss_cons (ps_set (i := 2) sc_restarts_of.nd rfl (Or.inl rfl) (pe_op op_sub (pe_callB call_len_seq rfl C.nlen PySem.boot_len (pa_cons (pv 0) pa_nil)) (pe_op op_mul (pe_gint rfl C.NUMBER_WIDTH) (pe_op op_add (pv 1) pe_int))))
      (pss_cons (ps_if (PW.pt (pw_or (pt_cmpR op_eq (pv 1) pe_int (nomark _)) (pw_or (pt_cmpR op_lt (pv 2) pe_int (nomark _)) (pw_or1 (pt_cmpR op_gt (pe_fx F_number_at (hr.mono (by decide)) rfl (pa_cons (pv 0) (pa_cons (pv 2) (pa_cons (pe_gint rfl C.NUMBER_WIDTH) pa_nil)))) pe_int (nomark _)))))) (pss_one (ps_raise bodyX O rfl)) pss_nil)
      (pss_cons (ps_set (i := 3) sc_restarts_of.nd rfl (Or.inl rfl) (pe_lst (pa_cons pe_int pa_nil)))
      (pss_cons (ps_for PassesOwn.leaving rfl (pi_range3 rfl C.nrange (pa_cons (pe_op op_add (pv 2) (pe_gint rfl C.NUMBER_WIDTH)) (pa_cons (pe_op op_sub (pe_callB call_len_seq rfl C.nlen PySem.boot_len (pa_cons (pv 0) pa_nil)) (pe_gint rfl C.NUMBER_WIDTH)) (pa_cons (pe_gint rfl C.NUMBER_WIDTH) pa_nil)))) (pg_name (i := 4) sc_restarts_of.nd rfl (Or.inl rfl)) (pss_cons (ps_set (i := 5) sc_restarts_of.nd rfl (Or.inl rfl) (pe_fx F_number_at (hr.mono (by decide)) rfl (pa_cons (pv 0) (pa_cons (pv 4) (pa_cons (pe_gint rfl C.NUMBER_WIDTH) pa_nil)))))
      (pss_cons (ps_if (pt_cmpR op_le (pv 5) (pe_ix ix_list (pv 3) (pe_un un_neg pe_int) (fun _ _ => rfl)) (nomark _)) (pss_one (ps_raise bodyX O rfl)) pss_nil)
      (pss_one (ps_expr (pe_bm PySem.F.plainAttrs_list PySem.F.slot_list_append PySem.F.type_list_append mt_append (pv 3) (pa_cons (pv 5) pa_nil)))))))
      (pss_one (ps_ret (pv 3))))))))), ?_⟩
    try dsimp only [cxOf]
    refine ⟨_, rfl, a, _, rfl, .inl ha, _, _, rfl, rfl, _, rfl, ?_⟩
    rw [vb_length]
    by_cases h4 : c.length < 4
    · rw [decide_eq_true (by omega)]
      refine iteT (hbad ?_ _)
      unfold My.restartsOf
      simp only
      rw [if_pos (.inl h4)]
    · rw [decide_eq_false (by omega)]
      refine iteF ?_
      refine ⟨_, rfl, _, rfl, a, _, rfl, .inl ha, _, _, rfl, rfl, a, c, c.length - 4, 4, ?_, ha, hby, by omega, by decide, ?_⟩
      · rw [vb_length]
        show [V.ref a, V.int ((c.length : Int) - 4), V.int 4] = _
        rw [show (c.length : Int) - 4 = ((c.length - 4 : Nat) : Int) by omega]
        rfl
      generalize hn : Sv13.ofLittle (Sv13.slice c (c.length - 4) 4) = n
      have hnb := fun z => hbad (My.restarts_none (by omega) hn z)
      have hnk := fun z1 z2 z3 z4 => hok _ (My.restarts_some (by omega) hn z1 z2 z3 z4)
      refine ⟨_, rfl, a, _, rfl, .inl ha, _, rfl, _, _, rfl, rfl, _, _, rfl, rfl, .inl ⟨by decide, by decide⟩, _, _, rfl, rfl, ?_⟩
      refine gname_nx ?_
      dsimp only
      rw [vb_length]
      refine ⟨_, rfl, rfl, _, rfl, ?_⟩
      by_cases h0 : n = 0
      · subst h0
        exact iteT (iteT (hnb (.inl rfl) _))
      · rw [decide_eq_false (by intro z; injection z with z; omega)]
        refine iteF ?_
        refine ⟨_, rfl, _, _, rfl, rfl, _, rfl, ?_⟩
        by_cases hl : c.length < 4 + 4 * n
        · rw [decide_eq_true (by omega)]
          exact iteT (iteT (hnb (.inr (.inl hl)) _))
        · rw [decide_eq_false (by omega)]
          refine iteF ?_
          have eb : (c.length : Int) - 4 * ((n : Int) + 1) = ((c.length - 4 - 4 * n : Nat) : Int) := by omega
          rw [eb]
          generalize hb : c.length - 4 - 4 * n = b at hnb hnk
          have hR : ∀ j, j < n → b + 4 * j + 4 ≤ c.length := fun j hj => by omega
          refine ⟨_, rfl, _, rfl, a, c, b, 4, rfl, ha, hby, by omega, by decide, _, _, rfl, rfl, _, rfl, ?_⟩
          have eR0 : Sv13.ofLittle (Sv13.slice c b 4) = My.rsAt c b 0 := rfl
          rw [eR0]
          by_cases hz : My.rsAt c b 0 = 0
          · rw [decide_eq_false (by omega)]
            refine iteF ?_
            refine ⟨(by show 1 ≤ sizeLine; decide), fun l hl0 => ?_⟩
            have s1 : Same H (upd H l (.lst [V.int 0])) := Same.new (Same.refl H) hl0
            refine ⟨_, rfl, _, _, rfl, rfl, _, rfl, a, _, rfl, .inl (s1.seq ha), _, _, rfl, rfl, ((b + 4 : Nat) : Int), ((b + 4 + 4 * (n - 1) : Nat) : Int), 4, n - 1, ?_, rg4n (by omega), ?_⟩
            · rw [vb_length]
              show [V.int ((b : Int) + 4), V.int ((c.length : Int) - 4), V.int 4] = _
              rw [show (b : Int) + 4 = ((b + 4 : Nat) : Int) by omega, show (c.length : Int) - 4 = ((b + 4 + 4 * (n - 1) : Nat) : Int) by omega]
            refine for_rangeC (n := n - 1) (fun i σ H2 => Same H H2 ∧ H2 l = some (.lst (vb ((List.range (i + 1)).map (My.rsAt c b)))) ∧ (∀ j, j + 1 ≤ i → My.rsAt c b j < My.rsAt c b (j + 1)) ∧ ∃ v4 v5, σ = [some (.ref a), some (.int (n : Int)), some (.int (b : Int)), some (.ref l), v4, v5])
              ⟨s1, ?_, fun j hj => by omega, none, none, rfl⟩ ?_ ?_
            · rw [upd_same]
              show some (HO.lst [V.int 0]) = some (HO.lst (vb [My.rsAt c b 0]))
              rw [hz]
              rfl
            · rintro i σ H2 hi ⟨s2, h2, hri, v4, v5, rfl⟩
              have ha2 := s2.seq ha
              refine ⟨_, rfl, _, rfl, a, c, b + 4 * (i + 1), 4, ?_, ha2, hby, hR (i + 1) (by omega), by decide, ?_⟩
              · show [V.ref a, V.int (((b + 4 : Nat) : Int) + ((i : Nat) : Int) * 4), V.int 4] = _
                rw [show ((b + 4 : Nat) : Int) + ((i : Nat) : Int) * 4 = ((b + 4 * (i + 1) : Nat) : Int) by omega]
                rfl
              have eR : Sv13.ofLittle (Sv13.slice c (b + 4 * (i + 1)) 4) = My.rsAt c b (i + 1) := rfl
              rw [eR]
              refine ⟨_, rfl, _, rfl, _, rfl, l, _, _, V.int ((My.rsAt c b i : Nat) : Int), rfl, rfl, SqL.of h2, ?_, _, _, rfl, rfl, _, rfl, ?_⟩
              · refine atI_last ?_
                rw [range_snoc, vb_append]
                simp [vb]
              by_cases hle : My.rsAt c b (i + 1) ≤ My.rsAt c b i
              · rw [decide_eq_true (by omega)]
                exact iteT (hnb (.inr (.inr (.inr ⟨i, by omega, hle⟩))) _)
              · rw [decide_eq_false (by omega)]
                refine iteF ?_
                refine ⟨_, rfl, .inl ⟨rfl, _, SqL.of h2⟩, _, rfl, l, _, _, rfl, rfl, h2, lt_size (by rw [vb_length]; simp; omega), ?_⟩
                refine ⟨Same.upd s2 hl0, ?_, fun j hj => ?_, _, _, rfl⟩
                · rw [upd_same, range_snoc (My.rsAt c b) (i + 1)]
                  exact vb_snoc _ rfl
                · by_cases hji : j + 1 ≤ i
                  · exact hri j hji
                  · have : j = i := by omega
                    subst this
                    omega
            · rintro σ H2 ⟨s2, h2, hri, v4, v5, rfl⟩
              refine ⟨_, rfl, hnk h0 (by omega) hz (fun j hj => hri j (by omega)) l H2 s2 hl0 ?_⟩
              rw [h2, show n - 1 + 1 = n from Nat.sub_add_cancel (Nat.one_le_iff_ne_zero.mpr h0)]
          · rw [decide_eq_true (by omega)]
            exact iteT (hnb (.inr (.inr (.inl hz))) _)
end
end KL
set_option Elab.async false
set_option linter.all false
set_option maxRecDepth 100000
namespace KL
open PySem PySem.W PyProof.Rows L2
section
variable {P : Program} {w : World} {K : Frag} {mg : Str → Option Value} {base : Heap}
structure BlockReaderCls (K : Frag) (C : Addr) : Prop where
  cl : Cls K C
  nR : NoAttr K C "restarts"
  nS : NoAttr K C "scanner"
  nM : NoAttr K C "met"
  nH : NoAttr K C "shared"
  nK : NoAttr K C "key"
  nV : NoAttr K C "value"
def fsR (lr ls : Addr) (met sh : Nat) (lk lv : Addr) : List (Str × V) := [("restarts", .ref lr), ("scanner", .ref ls), ("met", .int (met : Int)), ("shared", .int (sh : Int)), ("key", .ref lk), ("value", .ref lv)]
section
variable {lr ls lk lv : Addr} {met sh : Nat}
theorem fsR_restarts : (fsR lr ls met sh lk lv).lookup ("restarts" : Str) = some (.ref lr) := lk_here
theorem fsR_scanner : (fsR lr ls met sh lk lv).lookup ("scanner" : Str) = some (.ref ls) := lk_next (by decide +kernel) lk_here
theorem fsR_met : (fsR lr ls met sh lk lv).lookup ("met" : Str) = some (.int (met : Int)) := lk_next (by decide +kernel) (lk_next (by decide +kernel) lk_here)
theorem fsR_shared : (fsR lr ls met sh lk lv).lookup ("shared" : Str) = some (.int (sh : Int)) := lk_next (by decide +kernel) (lk_next (by decide +kernel) (lk_next (by decide +kernel) lk_here))
theorem fsR_key : (fsR lr ls met sh lk lv).lookup ("key" : Str) = some (.ref lk) := lk_next (by decide +kernel) (lk_next (by decide +kernel) (lk_next (by decide +kernel) (lk_next (by decide +kernel) lk_here)))
theorem fsR_value : (fsR lr ls met sh lk lv).lookup ("value" : Str) = some (.ref lv) := lk_next (by decide +kernel) (lk_next (by decide +kernel) (lk_next (by decide +kernel) (lk_next (by decide +kernel) (lk_next (by decide +kernel) lk_here))))
theorem fsR_no {m : Str} (h1 : (m == ("restarts" : Str)) = false) (h2 : (m == ("scanner" : Str)) = false) (h3 : (m == ("met" : Str)) = false) (h4 : (m == ("shared" : Str)) = false) (h5 : (m == ("key" : Str)) = false) (h6 : (m == ("value" : Str)) = false) : (fsR lr ls met sh lk lv).lookup m = none :=
  lk_next h1 (lk_next h2 (lk_next h3 (lk_next h4 (lk_next h5 (lk_next h6 lk_nil)))))
theorem fsR_advance : (fsR lr ls met sh lk lv).lookup ("advance" : Str) = none := fsR_no (by decide +kernel) (by decide +kernel) (by decide +kernel) (by decide +kernel) (by decide +kernel) (by decide +kernel)
theorem fsR_meet : (fsR lr ls met sh lk lv).lookup ("meet_restart" : Str) = none := fsR_no (by decide +kernel) (by decide +kernel) (by decide +kernel) (by decide +kernel) (by decide +kernel) (by decide +kernel)
theorem fsR_change : (fsR lr ls met sh lk lv).lookup ("change_key" : Str) = none := fsR_no (by decide +kernel) (by decide +kernel) (by decide +kernel) (by decide +kernel) (by decide +kernel) (by decide +kernel)
theorem putR_met {z : Int} {m : Nat} (h : z = (m : Int)) : putF "met" (.int z) (fsR lr ls met sh lk lv) = fsR lr ls m sh lk lv := by
  subst h
  unfold fsR
  simp (disch := decide +kernel) only [pf_nil, pf_here, pf_next]
theorem putR_shared {m : Nat} : putF "shared" (.int (m : Int)) (fsR lr ls met sh lk lv) = fsR lr ls met m lk lv := by
  unfold fsR
  simp (disch := decide +kernel) only [pf_nil, pf_here, pf_next]
theorem putR_value {lw : Addr} : putF "value" (.ref lw) (fsR lr ls met sh lk lv) = fsR lr ls met sh lk lw := by
  unfold fsR
  simp (disch := decide +kernel) only [pf_nil, pf_here, pf_next]
theorem putR_made : putF "value" (.ref lv) (putF "key" (.ref lk) (putF "shared" (.int (sh : Int)) (putF "met" (.int (met : Int)) (putF "scanner" (.ref ls) (putF "restarts" (.ref lr) []))))) = fsR lr ls met sh lk lv := by
  unfold fsR
  simp (disch := decide +kernel) only [pf_nil, pf_here, pf_next]
end
structure RF where
  dx : Addr
  lr : Addr
  ls : Addr
  ds : Addr
  lk : Addr
  lv : Addr
  lc : Addr
def RF.foot (F : RF) (p : Addr) : List Addr := [p, F.ls, F.lk]
def RF.all (F : RF) (p : Addr) : List Addr := [p, F.ls, F.lk, F.lr, F.lv]
structure RAt (K : Frag) (C Cs : Addr) (H : Hp) (p : Addr) (F : RF) (c : List Nat) (b : My.BR) : Prop where
  ob : H p = some (.ins C F.dx (fsR F.lr F.ls b.met b.sh F.lk F.lv))
  rs : H F.lr = some (.lst (vb b.rs))
  sc : H F.ls = some (.ins Cs F.ds (fsS F.lc b.p b.body.length))
  ky : H F.lk = some (.lst (vb b.key))
  vl : H F.lv = some (.lst (vb b.val))
  dt : SqO K (F.foot p) H F.lc (vb c)
  n1 : F.lk ≠ F.lr
  n2 : F.lk ≠ F.lv
  bd : b.body = c.take b.body.length
  bl : b.body.length ≤ c.length
  byt : isByte c
  sz : c.length ≤ 100000
  pl : b.p ≤ b.body.length
  kl : b.key.length ≤ b.p
  kb : isByte b.key
  vb' : isByte b.val
  vz : b.val.length ≤ 100000
theorem ins_ne {C C' dx dx' : Addr} {lr ls lk lv d : Addr} {met sh q e : Nat} : HO.ins C dx (fsR lr ls met sh lk lv) ≠ HO.ins C' dx' (fsS d q e) := by
  intro z
  injection z with _ _ z
  have := congrArg List.length z
  simp [fsR, fsS] at this
section
variable {C Cs : Addr} {H H' : Hp} {p : Addr} {F : RF} {c : List Nat} {b : My.BR}
theorem RAt.ps (R : RAt K C Cs H p F c b) : p ≠ F.ls := ne_of R.ob R.sc ins_ne
theorem RAt.pk (R : RAt K C Cs H p F c b) : p ≠ F.lk := ne_of R.ob R.ky (by intro z; cases z)
theorem RAt.pr (R : RAt K C Cs H p F c b) : p ≠ F.lr := ne_of R.ob R.rs (by intro z; cases z)
theorem RAt.pv (R : RAt K C Cs H p F c b) : p ≠ F.lv := ne_of R.ob R.vl (by intro z; cases z)
theorem RAt.sk (R : RAt K C Cs H p F c b) : F.ls ≠ F.lk := ne_of R.sc R.ky (by intro z; cases z)
theorem RAt.sr (R : RAt K C Cs H p F c b) : F.ls ≠ F.lr := ne_of R.sc R.rs (by intro z; cases z)
theorem RAt.sv (R : RAt K C Cs H p F c b) : F.ls ≠ F.lv := ne_of R.sc R.vl (by intro z; cases z)
theorem RAt.win (R : RAt K C Cs H p F c b) : KL.win c b.p b.body.length = b.body.drop b.p := by
  unfold KL.win
  rw [← R.bd]
theorem RAt.kbT (R : RAt K C Cs H p F c b) {T : List Addr} (hT : ∀ x ∈ F.all p, x ∉ T) (hd : SqO K T H F.lc (vb c)) (k : KB T H H') : RAt K C Cs H' p F c b := by
  have m : ∀ {x o}, x ∈ F.all p → H x = some o → H' x = some o := fun hx e => k _ _ e (hT _ hx)
  refine ⟨m (by simp [RF.all]) R.ob, m (by simp [RF.all]) R.rs, m (by simp [RF.all]) R.sc, m (by simp [RF.all]) R.ky, m (by simp [RF.all]) R.vl, ?_, R.n1, R.n2, R.bd, R.bl, R.byt, R.sz, R.pl, R.kl, R.kb, R.vb', R.vz⟩
  rcases R.dt with ⟨h, n⟩ | h
  · rcases hd with ⟨h2, n2⟩ | h2
    · exact .inl ⟨((SqO.kb (.inl ⟨h2, n2⟩ : SqO K T H F.lc (vb c)) k).elim (fun z => z.1) fun z => by
        rcases h2 with h2 | ⟨o, h2⟩
        · exact .inl (k _ _ h2 n2)
        · exact .inr ⟨o, k _ _ h2 n2⟩), n⟩
    · exact .inr h2
  · exact .inr h
theorem RAt.same (R : RAt K C Cs H p F c b) (k : Same H H') : RAt K C Cs H' p F c b :=
  ⟨k _ _ R.ob, k _ _ R.rs, k _ _ R.sc, k _ _ R.ky, k _ _ R.vl, R.dt.same k, R.n1, R.n2, R.bd, R.bl, R.byt, R.sz, R.pl, R.kl, R.kb, R.vb', R.vz⟩
end
def sp_BlockReader_init_k1 (K : Frag) (C Cs : Addr) (p a : Addr) (c : List Nat) (H : Hp) (Q : VK) : Prop := (∀ b, My.BR.new c = some b → ∀ (F : RF) (H' : Hp), F.lc = a → RAt K C Cs H' p F c b → KB [p] H H' → H F.ls = none → H F.lk = none → H F.lr = none → H F.lv = none → Q .non H')
def sp_BlockReader_init (K : Frag) (C Cs CN : Addr) : Sp := fun vs H Q E => ∃ (p dx a : Addr) (c : List Nat), vs = [.ref p, .ref a] ∧ H p = some (.ins C dx []) ∧ SqL K H a (vb c) ∧ isByte c ∧ c.length ≤ 100000 ∧ (My.BR.new c = none → Bad CN E) ∧ sp_BlockReader_init_k1 K C Cs p a c H Q
theorem sc_BlockReader_init : FnScope ["self", "block"] ["self", "block"] (defScope s_BlockReader_init) := ⟨rfl, rfl, rfl, by decide +kernel, rfl, by decide +kernel, by decide +kernel⟩
theorem mx_BlockReader_init {C Cs CN : Addr} (D : MakeAt K mg "BlockReader" C "BlockReader.__init__" s_BlockReader_init) (T : BlockReaderCls K C) (Cn : Consts K mg) (F_restarts_of : Fxe P w K mg base "restarts_of" 2 ["block"] (sp_restarts_of K CN)) (M_Scanner : Mkx P w K mg base "Scanner" Cs 1 ["self", "data", "place", "end"] (sp_Scanner_init Cs)) :
    Mkxe P w K mg base "BlockReader" C 3 ["self", "block"] (sp_BlockReader_init K C Cs CN) := by
  refine D.mxe sc_BlockReader_init (fun _ _ _ _ _ _ us hl => by obtain ⟨_, _, rfl⟩ := ln2 hl; rfl) (fun vs H Q E h => ?_) (fun f cdv A outer s H vs Q E hr h => ?_)
  · obtain ⟨p, dx, a, c, rfl, _⟩ := h
    rfl
  · obtain ⟨p, dx, a, c, rfl, hp, ha, hby, hsz, hbad, hok⟩ := h
    refine ⟨_, (pss_cons (ps_fld (pv 0) (pe_fxe F_restarts_of (hr.mono (by decide)) rfl passX (pa_cons (pv 1) pa_nil)) rfl)
      (pss_cons (ps_fld (pv 0) (pe_mx M_Scanner (hr.mono (by decide)) rfl (pa_cons (pv 1) (pa_cons pe_int (pa_cons (pe_op op_sub (pe_callB call_len_seq rfl Cn.nlen PySem.boot_len (pa_cons (pv 1) pa_nil)) (pe_op op_mul (pe_gint rfl Cn.NUMBER_WIDTH) (pe_op op_add (pe_callB call_len_seq rfl Cn.nlen PySem.boot_len (pa_cons (pe_fld (pv 0) rfl) pa_nil)) pe_int))) pa_nil)))) rfl)
      (pss_cons (ps_fld (pv 0) pe_int rfl)
      (pss_cons (ps_fld (pv 0) pe_int rfl)
      (pss_cons (ps_fld (pv 0) (pe_lst pa_nil) rfl)
      (pss_one (ps_fld (pv 0) (pe_lst pa_nil) rfl))))))), ?_⟩
    try dsimp only [cxOf]
    refine ⟨_, rfl, a, c, rfl, ha, hby, hsz, fun hn => hbad (by unfold My.BR.new; rw [hn]; rfl), fun rs hrs lr H1 s1 hlr h1 => ?_⟩
    have hnew : My.BR.new c = some ⟨rs, c.take (c.length - 4 - 4 * rs.length), 0, 1, 0, [], []⟩ := by
      unfold My.BR.new
      rw [hrs]
      rfl
    have hcl := (My.new_eq hnew).2.2
    have hcl : 4 + 4 * rs.length ≤ c.length := hcl
    have hp1 := s1 _ _ hp
    have npr : p ≠ lr := ne_of_none hp hlr
    refine ⟨_, rfl, rfs hp1 T.cl T.nR (by show 0 < 1000; decide) ?_⟩
    have k1 : KB [p] H (upd H1 p (.ins C dx (putF "restarts" (.ref lr) []))) := KB.upd (KB.of s1) (by simp)
    have ha2 : SqL K (upd H1 p (.ins C dx (putF "restarts" (.ref lr) []))) a (vb c) := sq_ins (s1.seq ha) hp1
    have hr2 : (upd H1 p (.ins C dx (putF "restarts" (.ref lr) []))) lr = some (.lst (vb rs)) := by rw [upd_ne npr.symm]; exact h1
    refine ⟨_, rfl, _, rfl, a, _, rfl, .inl ha2, _, rfl, rfd upd_same T.cl T.nR lk_here ⟨lr, _, rfl, .inl (SqL.of hr2), _, _, rfl, rfl, _, _, rfl, rfl, .inl ⟨by decide, by decide⟩, _, _, rfl, rfl, fun ls ds hls hds hne => ?_⟩⟩
    refine ⟨ls, ds, a, 0, c.length - 4 - 4 * rs.length, ?_, upd_same, rfl, ?_⟩
    · rw [vb_length, vb_length]
      show [V.ref ls, V.ref a, V.int 0, V.int ((c.length : Int) - 4 * ((rs.length : Int) + 1))] = _
      rw [show (c.length : Int) - 4 * ((rs.length : Int) + 1) = ((c.length - 4 - 4 * rs.length : Nat) : Int) by omega]
      rfl
    rw [upd_upd]
    generalize hH2 : upd H1 p (.ins C dx (putF "restarts" (.ref lr) [])) = H2 at *
    have hp2 : H2 p = some (.ins C dx (putF "restarts" (.ref lr) [])) := by rw [← hH2]; exact upd_same
    have nps : p ≠ ls := ne_of_none hp2 hls
    have npd : p ≠ ds := ne_of_none hp2 hds
    have nrs : lr ≠ ls := ne_of_none hr2 hls
    have nrd : lr ≠ ds := ne_of_none hr2 hds
    have hs3 : Same H2 (upd (upd H2 ds (.own ls)) ls (.ins Cs ds (fsS a 0 (c.length - 4 - 4 * rs.length)))) := Same.new (Same.new (Same.refl H2) hds) (by rw [upd_ne hne.symm]; exact hls)
    have k3 : KB [p] H (upd (upd H2 ds (.own ls)) ls (.ins Cs ds (fsS a 0 (c.length - 4 - 4 * rs.length)))) := k1.trans (KB.of hs3)
    generalize hH3 : upd (upd H2 ds (.own ls)) ls (.ins Cs ds (fsS a 0 (c.length - 4 - 4 * rs.length))) = H3 at *
    have hsc3 : H3 ls = some (.ins Cs ds (fsS a 0 (c.length - 4 - 4 * rs.length))) := by rw [← hH3]; exact upd_same
    have hp3 := hs3 _ _ hp2
    have hr3 := hs3 _ _ hr2
    have ha3 := hs3.seq ha2
    refine ⟨_, rfl, rfs hp3 T.cl T.nS (by show 1 < 1000; decide) ?_⟩
    refine ⟨_, rfl, rfs upd_same T.cl T.nM (by show 2 < 1000; decide) ?_⟩
    refine ⟨_, rfl, rfs upd_same T.cl T.nH (by show 3 < 1000; decide) ?_⟩
    refine ⟨Nat.zero_le _, fun lk hlk => ?_⟩
    have npk : p ≠ lk := ne_of_none upd_same hlk
    refine ⟨_, rfl, rfs (by rw [upd_ne npk]; exact upd_same) T.cl T.nK (by show 4 < 1000; decide) ?_⟩
    refine ⟨Nat.zero_le _, fun lv hlv => ?_⟩
    have npv : p ≠ lv := ne_of_none upd_same hlv
    refine ⟨_, rfl, rfs (by rw [upd_ne npv]; exact upd_same) T.cl T.nV (by show 5 < 1000; decide) ?_⟩
    have hlk3 : H3 lk = none := by
      rw [upd_ne npk.symm, upd_ne npk.symm, upd_ne npk.symm] at hlk
      exact hlk
    have nkv : lk ≠ lv := by
      refine ne_of_none (o := .lst []) ?_ hlv
      rw [upd_ne npk.symm]
      exact upd_same
    have hlv3 : H3 lv = none := by
      rw [upd_ne npv.symm, upd_ne nkv.symm, upd_ne npv.symm, upd_ne npv.symm, upd_ne npv.symm] at hlv
      exact hlv
    have kc : KB [p] H (upd (upd (upd (upd (upd (upd (upd H3 p (.ins C dx (putF "scanner" (.ref ls) (putF "restarts" (.ref lr) [])))) p (.ins C dx (putF "met" (.int 1) (putF "scanner" (.ref ls) (putF "restarts" (.ref lr) []))))) p (.ins C dx (putF "shared" (.int 0) (putF "met" (.int 1) (putF "scanner" (.ref ls) (putF "restarts" (.ref lr) [])))))) lk (.lst [])) p (.ins C dx (putF "key" (.ref lk) (putF "shared" (.int 0) (putF "met" (.int 1) (putF "scanner" (.ref ls) (putF "restarts" (.ref lr) []))))))) lv (.lst [])) p (.ins C dx (putF "value" (.ref lv) (putF "key" (.ref lk) (putF "shared" (.int 0) (putF "met" (.int 1) (putF "scanner" (.ref ls) (putF "restarts" (.ref lr) [])))))))) :=
      KB.upd (KB.new (KB.upd (KB.new (KB.upd (KB.upd (KB.upd k3 (by simp)) (by simp)) (by simp)) hlk) (by simp)) hlv) (by simp)
    have hH3k : ∀ x o, H3 x = some o → x ≠ p → x ≠ lk → x ≠ lv → (upd (upd (upd (upd (upd (upd (upd H3 p (.ins C dx (putF "scanner" (.ref ls) (putF "restarts" (.ref lr) [])))) p (.ins C dx (putF "met" (.int 1) (putF "scanner" (.ref ls) (putF "restarts" (.ref lr) []))))) p (.ins C dx (putF "shared" (.int 0) (putF "met" (.int 1) (putF "scanner" (.ref ls) (putF "restarts" (.ref lr) [])))))) lk (.lst [])) p (.ins C dx (putF "key" (.ref lk) (putF "shared" (.int 0) (putF "met" (.int 1) (putF "scanner" (.ref ls) (putF "restarts" (.ref lr) []))))))) lv (.lst [])) p (.ins C dx (putF "value" (.ref lv) (putF "key" (.ref lk) (putF "shared" (.int 0) (putF "met" (.int 1) (putF "scanner" (.ref ls) (putF "restarts" (.ref lr) [])))))))) x = some o := fun x o e n1 n2 n3 => by
      rw [upd_ne n1, upd_ne n3, upd_ne n1, upd_ne n2, upd_ne n1, upd_ne n1, upd_ne n1]
      exact e
    have hkn := ne_of_none hsc3 hlk3
    have hvn := ne_of_none hsc3 hlv3
    have hrk := ne_of_none hr3 hlk3
    have hrv := ne_of_none hr3 hlv3
    refine hok _ hnew ⟨dx, lr, ls, ds, lk, lv, a⟩ _ rfl ?_ kc ?_ ?_ hlr ?_
    · refine ⟨?_, hH3k _ _ hr3 npr.symm hrk hrv, ?_, ?_, ?_, ?_, hrk.symm, nkv, ?_, ?_, hby, hsz, Nat.zero_le _, Nat.zero_le _, (fun x h => nomatch h), (fun x h => nomatch h), Nat.zero_le _⟩
      · rw [upd_same]
        exact congrArg (fun z => some (HO.ins C dx z)) putR_made
      · have := hH3k _ _ hsc3 nps.symm hkn hvn
        refine this.trans ?_
        show _ = some (HO.ins Cs ds (fsS a 0 (c.take (c.length - 4 - 4 * rs.length)).length))
        rw [List.length_take, Nat.min_eq_left (by omega)]
      · show (upd _ p _) lk = _
        rw [upd_ne npk.symm, upd_ne nkv, upd_ne npk.symm]
        exact upd_same
      · show (upd _ p _) lv = _
        rw [upd_ne npv.symm]
        exact upd_same
      · rcases ha3 with h | h
        · have q1 := rd_ins h hp3
          have q2 : a ≠ lk := fun z => Rd.some h (by rw [z]; exact hlk3)
          have q3 : a ≠ lv := fun z => Rd.some h (by rw [z]; exact hlv3)
          have q4 := rd_ins h hsc3
          have q5 : a ∉ [p, ls, lk] := by simp [q1, q2, q4]
          rcases h with h | ⟨o, h⟩
          · exact .inl ⟨.inl (hH3k _ _ h q1 q2 q3), q5⟩
          · exact .inl ⟨.inr ⟨o, hH3k _ _ h q1 q2 q3⟩, q5⟩
        · exact .inr fun H' => .inr h
      · show c.take (c.length - 4 - 4 * rs.length) = c.take (c.take (c.length - 4 - 4 * rs.length)).length
        rw [List.length_take, Nat.min_eq_left (by omega)]
      · show (c.take (c.length - 4 - 4 * rs.length)).length ≤ c.length
        rw [List.length_take]
        omega
    · exact k1.free hls (by simp; exact nps.symm)
    · exact k3.free hlk3 (by simp; exact npk.symm)
    · exact k3.free hlv3 (by simp; exact npv.symm)
end
end KL
set_option Elab.async false
set_option linter.all false
set_option maxRecDepth 100000
namespace KL
open PySem PySem.W PyProof.Rows L2
section
variable {P : Program} {w : World} {K : Frag} {mg : Str → Option Value} {base : Heap}
def sp_meet_restart_k1 (C : Addr) (p dx lr ls lk lv : Addr) (met sh bg : Nat) (rs : List Nat) (H : Hp) (Q : VK) : Prop := (¬ (rs[met]? = some bg ∧ 0 < sh) → ∀ H' : Hp, H' p = some (.ins C dx (fsR lr ls (if rs[met]? = some bg then met + 1 else met) sh lk lv)) → KB [p] H H' → Q .non H')
def sp_meet_restart (C CN : Addr) : Sp := fun vs H Q E => ∃ (p dx lr ls lk lv : Addr) (met sh bg : Nat) (rs : List Nat), vs = [.ref p, .int (bg : Int)] ∧ H p = some (.ins C dx (fsR lr ls met sh lk lv)) ∧ H lr = some (.lst (vb rs)) ∧ (rs[met]? = some bg ∧ 0 < sh → Bad CN E) ∧ sp_meet_restart_k1 C p dx lr ls lk lv met sh bg rs H Q
theorem sc_BlockReader_meet_restart : FnScope ["self", "begin"] ["self", "begin"] (defScope s_BlockReader_meet_restart) := ⟨rfl, rfl, rfl, by decide +kernel, rfl, by decide +kernel, by decide +kernel⟩
theorem mx_meet_restart {C CN : Addr} (D : MethAt K C "meet_restart" "BlockReader.meet_restart" s_BlockReader_meet_restart) (T : BlockReaderCls K C) (Cn : Consts K mg) (O : ExcAt K mg "NoTable" CN) : Mtxe P w K mg base C "meet_restart" 1 ["self", "begin"] (sp_meet_restart C CN) := by
  refine D.mxe T.cl sc_BlockReader_meet_restart (fun _ _ _ _ _ _ us hl => by obtain ⟨_, _, rfl⟩ := ln2 hl; rfl) (fun vs H Q E h => ?_) (fun f cdv A outer s H vs Q E hr h => ?_)
  · obtain ⟨p, dx, lr, ls, lk, lv, met, sh, bg, rs, rfl, _⟩ := h
    rfl
  · obtain ⟨p, dx, lr, ls, lk, lv, met, sh, bg, rs, rfl, hp, hrs, hbad, hok⟩ := h
    try dsimp only [sp_meet_restart_k1] at hok
    refine ⟨_, (pss_one (ps_if (PW.pt (pw_and (pt_cmpR op_lt (pe_fld (pv 0) rfl) (pe_callB call_len_seq rfl Cn.nlen PySem.boot_len (pa_cons (pe_fld (pv 0) rfl) pa_nil)) (nomark _)) (pw_and1 (pt_cmpR op_eq (pe_ix ix_list (pe_fld (pv 0) rfl) (pe_fld (pv 0) rfl) (fun _ _ => rfl)) (pv 1) (nomark _))))) (pss_cons (ps_if (pt_cmpR op_gt (pe_fld (pv 0) rfl) pe_int (nomark _)) (pss_one (ps_raise bodyX O rfl)) pss_nil)
      (pss_one (ps_fldaug (pv 0) pe_int in_add))) pss_nil)), ?_⟩
    try dsimp only [cxOf]
    refine ⟨_, rfl, rfd hp T.cl T.nM fsR_met ⟨_, rfl, rfd hp T.cl T.nR fsR_restarts ⟨lr, _, rfl, .inl (SqL.of hrs), _, _, rfl, rfl, _, rfl, ?_⟩⟩⟩
    rw [vb_length]
    by_cases h1 : met < rs.length
    · rw [decide_eq_true (by omega)]
      refine iteT ?_
      have hx : rs[met]? = some rs[met] := List.getElem?_eq_getElem h1
      rw [hx] at hbad hok
      generalize rs[met] = x at hx hbad hok
      refine ⟨_, rfl, rfd hp T.cl T.nR fsR_restarts ⟨_, rfl, rfd hp T.cl T.nM fsR_met ⟨lr, _, _, V.int (x : Int), rfl, rfl, SqL.of hrs, vb_at hx, _, rfl, rfl, _, rfl, ?_⟩⟩⟩
      by_cases h2 : x = bg
      · subst h2
        rw [decide_eq_true rfl]
        refine iteT ?_
        refine ⟨_, rfl, rfd hp T.cl T.nH fsR_shared ⟨_, _, rfl, rfl, _, rfl, ?_⟩⟩
        by_cases h3 : 0 < sh
        · rw [decide_eq_true (by omega)]
          exact iteT (hbad ⟨rfl, h3⟩ _)
        · rw [decide_eq_false (by omega)]
          refine iteF ?_
          refine ⟨_, rfl, rfd hp T.cl T.nM fsR_met ⟨_, _, rfl, rfl, dx, _, hp, (by show 6 < 1000; decide), ?_⟩⟩
          rw [putR_met (m := met + 1) (by omega)]
          refine hok (fun z => h3 z.2) _ ?_ (KB.upd (KB.refl _ _) (by simp))
          rw [upd_same, if_pos rfl]
      · rw [decide_eq_false (by intro z; injection z with z; omega)]
        refine iteF ?_
        have hne : ¬ (some x = some bg) := fun z => h2 (Option.some.inj z)
        refine hok (fun z => hne z.1) _ ?_ (KB.refl _ _)
        rw [if_neg hne]
        exact hp
    · rw [decide_eq_false (by omega)]
      refine iteF ?_
      have hx : rs[met]? = none := List.getElem?_eq_none (by omega)
      rw [hx] at hok
      refine hok (fun z => nomatch z.1) _ ?_ (KB.refl _ _)
      rw [if_neg (fun z => nomatch z)]
      exact hp
def sp_change_key_k1 (lk : Addr) (sh bg : Nat) (key more : List Nat) (H : Hp) (Q : VK) : Prop := (¬ (key.length < sh ∨ (0 < bg ∧ Sv13.before (key.drop sh) more = false)) → ∀ H' : Hp, H' lk = some (.lst (vb (key.take sh ++ more))) → KB [lk] H H' → Q .non H')
def sp_change_key (C CN : Addr) : Sp := fun vs H Q E => ∃ (p dx lr ls lk lv lm : Addr) (met sh bg : Nat) (key more : List Nat), vs = [.ref p, .int (bg : Int), .ref lm] ∧ H p = some (.ins C dx (fsR lr ls met sh lk lv)) ∧ H lk = some (.lst (vb key)) ∧ H lm = some (.lst (vb more)) ∧ lk ≠ lm ∧ key.length + more.length ≤ 1000000 ∧ (key.length < sh ∨ (0 < bg ∧ Sv13.before (key.drop sh) more = false) → Bad CN E) ∧ sp_change_key_k1 lk sh bg key more H Q
theorem sc_BlockReader_change_key : FnScope ["self", "begin", "more", "dropped"] ["self", "begin", "more"] (defScope s_BlockReader_change_key) := ⟨rfl, rfl, rfl, by decide +kernel, rfl, by decide +kernel, by decide +kernel⟩
theorem mx_change_key {C CN : Addr} (D : MethAt K C "change_key" "BlockReader.change_key" s_BlockReader_change_key) (T : BlockReaderCls K C) (Cn : Consts K mg) (O : ExcAt K mg "NoTable" CN) : Mtxe P w K mg base C "change_key" 1 ["self", "begin", "more"] (sp_change_key C CN) := by
  refine D.mxe T.cl sc_BlockReader_change_key (fun _ _ _ _ _ _ us hl => by obtain ⟨_, _, _, rfl⟩ := ln3 hl; rfl) (fun vs H Q E h => ?_) (fun f cdv A outer s H vs Q E hr h => ?_)
  · obtain ⟨p, dx, lr, ls, lk, lv, lm, met, sh, bg, key, more, rfl, _⟩ := h
    rfl
  · obtain ⟨p, dx, lr, ls, lk, lv, lm, met, sh, bg, key, more, rfl, hp, hk, hm, hkm, hsz, hbad, hok⟩ := h
    refine ⟨_, (pss_cons (ps_if (pt_cmpR op_gt (pe_fld (pv 0) rfl) (pe_callB call_len_seq rfl Cn.nlen PySem.boot_len (pa_cons (pe_fld (pv 0) rfl) pa_nil)) (nomark _)) (pss_one (ps_raise bodyX O rfl)) pss_nil)
      (pss_cons (ps_set (i := 3) sc_BlockReader_change_key.nd rfl (Or.inl rfl) (pe_slice sl_list (pe_fld (pv 0) rfl) (po_some (pe_fld (pv 0) rfl)) po_none))
      (pss_cons (ps_if (PW.pt (pw_and (pt_cmpR op_gt (pv 1) pe_int (nomark _)) (pw_and1 (pt_cmpR (op_leL hr.units0) (pv 2) (pv 3) (nomark _))))) (pss_one (ps_raise bodyX O rfl)) pss_nil)
      (pss_cons (ps_while PassesOwn.leaving (pt_cmpR op_gt (pe_callB call_len_seq rfl Cn.nlen PySem.boot_len (pa_cons (pe_fld (pv 0) rfl) pa_nil)) (pe_fld (pv 0) rfl) (nomark _)) (pss_one (ps_expr (pe_bm0 PySem.F.plainAttrs_list PySem.F.slot_list_pop PySem.F.type_list_pop mt_pop (pe_fld (pv 0) rfl)))))
      (pss_one (ps_expr (pe_bm PySem.F.plainAttrs_list PySem.F.slot_list_extend PySem.F.type_list_extend mt_extend (pe_fld (pv 0) rfl) (pa_cons (pv 2) pa_nil)))))))), ?_⟩
    try dsimp only [cxOf]
    have npk : p ≠ lk := ne_of hp hk (by intro z; cases z)
    refine ⟨_, rfl, rfd hp T.cl T.nH fsR_shared ⟨_, rfl, rfd hp T.cl T.nK fsR_key ⟨lk, _, rfl, .inl (SqL.of hk), _, _, rfl, rfl, _, rfl, ?_⟩⟩⟩
    rw [vb_length]
    by_cases h1 : key.length < sh
    · rw [decide_eq_true (by omega)]
      exact iteT (hbad (.inl h1) _)
    · rw [decide_eq_false (by omega)]
      refine iteF ?_
      refine ⟨_, rfl, rfd hp T.cl T.nK fsR_key ⟨_, rfl, rfd hp T.cl T.nH fsR_shared ⟨_, rfl, lk, _, rfl, SqL.of hk, fun ld hld => ?_⟩⟩⟩
      rw [cut_from, ← vb_drop]
      have s1 := Same.new (Same.refl H) (o := .lst (vb (key.drop sh))) hld
      have nkd : lk ≠ ld := ne_of_none hk hld
      refine gname_nx ?_
      dsimp only
      refine seq_cut (t := tIfS _ _ _) (fun σ' H' => H' = upd H ld (.lst (vb (key.drop sh))) ∧ ¬ (key.length < sh ∨ (0 < bg ∧ Sv13.before (key.drop sh) more = false)) ∧ σ' = [some (.ref p), some (.int (bg : Int)), some (.ref lm), some (.ref ld)]) ?_ fun rest => ?_
      · rintro σ' H1 ⟨rfl, hgood, rfl⟩
        have hok := hok hgood
        have hp1 := s1 _ _ hp
        refine ⟨fun m σ H2 => σ = [some (.ref p), some (.int (bg : Int)), some (.ref lm), some (.ref ld)] ∧ KB [lk] H H2 ∧ H2 p = some (.ins C dx (fsR lr ls met sh lk lv)) ∧ H2 lm = some (.lst (vb more)) ∧ H2 lk = some (.lst (vb (key.take m))) ∧ sh ≤ m ∧ m ≤ key.length, ⟨key.length, rfl, KB.of s1, hp1, s1 _ _ hm, by rw [List.take_length]; exact s1 _ _ hk, by omega, Nat.le_refl _⟩, ?_⟩
        rintro m σ H2 ⟨rfl, kb, hp2, hm2, hk2, hm1, hm3⟩
        refine ⟨_, rfl, rfd hp2 T.cl T.nK fsR_key ⟨lk, _, rfl, .inl (SqL.of hk2), _, rfl, rfd hp2 T.cl T.nH fsR_shared ⟨_, _, rfl, rfl, _, rfl, ?_⟩⟩⟩
        have hml : (vb (key.take m)).length = m := by rw [vb_length, List.length_take]; omega
        rw [hml]
        by_cases h2 : sh < m
        · rw [decide_eq_true (by omega)]
          refine iteT ⟨_, fun σ' H' h => h, ?_⟩
          have hlast : (vb (key.take m))[(vb (key.take m)).length - 1]? = some (V.int ((key.getD (m - 1) 0 : Nat) : Int)) := by
            rw [hml]
            unfold vb
            rw [List.getElem?_map, List.getElem?_take_of_lt (by omega), List.getElem?_eq_getElem (by omega)]
            simp [List.getD, List.getElem?_eq_getElem (show m - 1 < key.length by omega)]
          refine ⟨_, rfl, rfd hp2 T.cl T.nK fsR_key ⟨.inl ⟨rfl, _, SqL.of hk2⟩, lk, _, _, rfl, rfl, hk2, hlast, ?_⟩⟩
          refine ⟨m - 1, by omega, rfl, KB.upd kb (by simp), by rw [upd_ne npk]; exact hp2, by rw [upd_ne hkm.symm]; exact hm2, ?_, by omega, by omega⟩
          rw [upd_same]
          congr 2
          rw [List.dropLast_eq_take, hml, ← vb_take, List.take_take, Nat.min_eq_left (by omega)]
        · rw [decide_eq_false (by omega)]
          have : m = sh := by omega
          subst this
          refine iteF ?_
          refine ⟨_, rfl, rfd hp2 T.cl T.nK fsR_key ⟨.inl ⟨rfl, _, SqL.of hk2⟩, _, rfl, lk, lm, _, _, rfl, rfl, hk2, hm2, le_size (by rw [hml, vb_length]; omega), ?_⟩⟩
          refine hok _ ?_ (KB.upd kb (by simp))
          rw [upd_same, vb_append]
      · refine ⟨_, rfl, _, _, rfl, rfl, _, rfl, ?_⟩
        by_cases h2 : 0 < bg
        · rw [decide_eq_true (by omega)]
          refine iteT ?_
          refine ⟨_, rfl, _, rfl, rd_le (SqL.of (s1 _ _ hm)) (SqL.of upd_same) ⟨_, rfl, ?_⟩⟩
          cases h3 : Sv13.before (key.drop sh) more with
          | true =>
            refine iteF (rest _ _ ⟨rfl, ?_, rfl⟩)
            rintro (z | ⟨_, z⟩)
            · omega
            · rw [h3] at z
              cases z
          | false => exact iteT (hbad (.inr ⟨h2, h3⟩) _)
        · rw [decide_eq_false (by omega)]
          refine iteF (iteF (rest _ _ ⟨rfl, ?_, rfl⟩))
          rintro (z | ⟨z, _⟩)
          · omega
          · exact h2 z
end
end KL
set_option Elab.async false
set_option linter.all false
set_option maxRecDepth 100000
namespace KL
open PySem PySem.W PyProof.Rows L2
section
variable {P : Program} {w : World} {K : Frag} {mg : Str → Option Value} {base : Heap}
structure Dist (p : Addr) (F : RF) : Prop where
  ps : p ≠ F.ls
  pk : p ≠ F.lk
  pr : p ≠ F.lr
  pv : p ≠ F.lv
  sk : F.ls ≠ F.lk
  sr : F.ls ≠ F.lr
  sv : F.ls ≠ F.lv
  kr : F.lk ≠ F.lr
  kv : F.lk ≠ F.lv
structure Mid (K : Frag) (C Cs : Addr) (H : Hp) (p : Addr) (F : RF) (c : List Nat) (e met sh q : Nat) (key rs val : List Nat) : Prop where
  ob : H p = some (.ins C F.dx (fsR F.lr F.ls met sh F.lk F.lv))
  sc : H F.ls = some (.ins Cs F.ds (fsS F.lc q e))
  ky : H F.lk = some (.lst (vb key))
  rs : H F.lr = some (.lst (vb rs))
  vl : H F.lv = some (.lst (vb val))
  dt : SqO K (F.foot p) H F.lc (vb c)
section
variable {C Cs : Addr} {H H' : Hp} {p : Addr} {F : RF} {c : List Nat} {e met sh q met' sh' q' : Nat} {key key' rs val : List Nat}
theorem Mid.sc' (M : Mid K C Cs H p F c e met sh q key rs val) (d : Dist p F) (k : KB [F.ls] H H') (h : H' F.ls = some (.ins Cs F.ds (fsS F.lc q' e))) : Mid K C Cs H' p F c e met sh q' key rs val :=
  ⟨k _ _ M.ob (by simp; exact d.ps), h, k _ _ M.ky (by simp; exact d.sk.symm), k _ _ M.rs (by simp; exact d.sr.symm), k _ _ M.vl (by simp; exact d.sv.symm), M.dt.kb (k.mono (by simp [RF.foot]))⟩
theorem Mid.ob' (M : Mid K C Cs H p F c e met sh q key rs val) (d : Dist p F) (k : KB [p] H H') (h : H' p = some (.ins C F.dx (fsR F.lr F.ls met' sh' F.lk F.lv))) : Mid K C Cs H' p F c e met' sh' q key rs val :=
  ⟨h, k _ _ M.sc (by simp; exact d.ps.symm), k _ _ M.ky (by simp; exact d.pk.symm), k _ _ M.rs (by simp; exact d.pr.symm), k _ _ M.vl (by simp; exact d.pv.symm), M.dt.kb (k.mono (by simp [RF.foot]))⟩
theorem Mid.ky' (M : Mid K C Cs H p F c e met sh q key rs val) (d : Dist p F) (k : KB [F.lk] H H') (h : H' F.lk = some (.lst (vb key'))) : Mid K C Cs H' p F c e met sh q key' rs val :=
  ⟨k _ _ M.ob (by simp; exact d.pk), k _ _ M.sc (by simp; exact d.sk), h, k _ _ M.rs (by simp; exact d.kr.symm), k _ _ M.vl (by simp; exact d.kv.symm), M.dt.kb (k.mono (by simp [RF.foot]))⟩
theorem Mid.scan (M : Mid K C Cs H p F c e met sh q key rs val) (hq : q ≤ e) (he : e ≤ c.length) (hb : isByte c) (hz : c.length ≤ 100000) : ScAt K Cs [F.ls] H F.ls F.ds F.lc c q e :=
  ⟨M.sc, M.dt.more (by simp [RF.foot]), hq, he, hb, hz⟩
end
theorem av0 {e p r1 r2 r3 : Nat} (h : p ≤ e) (a1 : r1 ≤ e - p) (j4 : r2 ≤ e - (e - r1)) (j6 : r3 ≤ e - (e - r2)) : r3 ≤ e ∧ p ≤ e - r3 := by
  have a4 : r3 ≤ e - p := wv2 (wv2 a1 j4) j6
  exact ⟨Nat.le_trans a4 (Nat.sub_le _ _), Nat.le_sub_of_add_le (by rw [Nat.add_comm]; exact Nat.add_le_of_le_sub h a4)⟩
theorem av1 {e r y : Nat} (h : r ≤ e) (hq : e - (e - r) < y) : r < y := by rw [Nat.sub_sub_self h] at hq; exact hq
theorem av1' {e r y : Nat} (h : r ≤ e) (hq : y ≤ e - (e - r)) : y ≤ r := by rw [Nat.sub_sub_self h] at hq; exact hq
theorem av2 {e r y z : Nat} (h : r ≤ e) (hy : y ≤ r) (hq : e - (e - r + y) < z) : r - y < z := by omega
theorem av2' {e r y z : Nat} (h : r ≤ e) (hy : y ≤ r) (hq : z ≤ e - (e - r + y)) : y + z ≤ r := by omega
theorem av3 {e r y z : Nat} (h : r ≤ e) (hq : y + z ≤ r) : ((e - r + y + z : Nat) : Int) = ((e - (r - (y + z)) : Nat) : Int) := by
  rw [Nat.sub_sub_right _ hq, Nat.sub_add_comm h, Nat.add_assoc]
theorem av4 {kl p x y z r e : Nat} (h1 : kl ≤ p) (h2 : p ≤ e - r) (h3 : y + z ≤ r) (h4 : r ≤ e) : min x kl + min y r ≤ e - (r - (y + z)) := by
  rw [Nat.sub_sub_right _ h3, Nat.sub_add_comm h4]
  exact Nat.add_le_add (Nat.le_trans (Nat.min_le_right _ _) (Nat.le_trans h1 h2)) (Nat.le_trans (Nat.min_le_left _ _) (Nat.le_add_right _ _))
theorem av5 {r y z e n : Nat} (h1 : r ≤ e) (h2 : e ≤ n) (h3 : n ≤ 100000) : min z (r - y) ≤ 100000 := Nat.le_trans (Nat.min_le_right _ _) (Nat.le_trans (Nat.sub_le _ _) (Nat.le_trans h1 (Nat.le_trans h2 h3)))
theorem av6 {e r y : Nat} (h : r ≤ e) (hy : y ≤ r) : e - r + y ≤ e := by omega
theorem av7 {kl p y r e n : Nat} (h1 : kl ≤ p) (h2 : p ≤ e) (h3 : r ≤ e) (h4 : e ≤ n) (h5 : n ≤ 100000) : kl + min y r ≤ 1000000 := by omega
theorem av8 {r y z : Nat} (h : y + z ≤ r) : ¬ r < y ∧ ¬ r - y < z := by omega
def sp_adv_k1 (K : Frag) (C Cs : Addr) (p : Addr) (F : RF) (c : List Nat) (b : My.BR) (H : Hp) (Q : VK) : Prop := (∀ b', b.adv = some (some b') → ∀ (lv : Addr) (H' : Hp), RAt K C Cs H' p { F with lv := lv } c b' → KB (F.foot p) H H' → H lv = none → Q (.bl true) H')
def sp_adv (K : Frag) (C Cs CN : Addr) : Sp := fun vs H Q E => ∃ (p : Addr) (F : RF) (c : List Nat) (b : My.BR), vs = [.ref p] ∧ RAt K C Cs H p F c b ∧ (b.adv = none → Bad CN E) ∧ (b.adv = some none → Q (.bl false) H) ∧ sp_adv_k1 K C Cs p F c b H Q
theorem sc_BlockReader_advance : FnScope ["self", "begin", "more_length", "value_length"] ["self"] (defScope s_BlockReader_advance) := ⟨rfl, rfl, rfl, by decide +kernel, rfl, by decide +kernel, by decide +kernel⟩
theorem mx_advance {C Cs CN : Addr} (D : MethAt K C "advance" "BlockReader.advance" s_BlockReader_advance) (T : BlockReaderCls K C) (Ts : ScannerCls K Cs) (Cn : Consts K mg) (O : ExcAt K mg "NoTable" CN) (M_at_end : Mtx P w K mg base Cs "at_end" 1 ["self"] (sp_at_end Cs))
    (M_taken_varint : Mtxe P w K mg base Cs "taken_varint" 2 ["self"] (sp_taken_varint K Cs CN)) (M_taken : Mtxe P w K mg base Cs "taken" 1 ["self", "length"] (sp_taken K Cs CN)) (M_meet_restart : Mtxe P w K mg base C "meet_restart" 1 ["self", "begin"] (sp_meet_restart C CN))
    (M_change_key : Mtxe P w K mg base C "change_key" 1 ["self", "begin", "more"] (sp_change_key C CN)) : Mtxe P w K mg base C "advance" 3 ["self"] (sp_adv K C Cs CN) := by
  refine D.mxe T.cl sc_BlockReader_advance (fun _ _ _ _ _ _ us hl => by obtain ⟨_, rfl⟩ := ln1 hl; rfl) (fun vs H Q E h => ?_) (fun f cdv A outer s H vs Q E hr h => ?_)
  · obtain ⟨p, F, c, b, rfl, _⟩ := h
    rfl
  · obtain ⟨p, F, c, b, rfl, R, hbad, hend, hok⟩ := h
    try dsimp only [sp_adv_k1] at hok
    refine ⟨_, (pss_cons (ps_if (pt_val (pe_mt0 (pe_fld (pv 0) rfl) M_at_end (hr.mono (by decide)))) (pss_cons (ps_if (pt_cmpR op_lt (pe_fld (pv 0) rfl) (pe_callB call_len_seq rfl Cn.nlen PySem.boot_len (pa_cons (pe_fld (pv 0) rfl) pa_nil)) (nomark _)) (pss_one (ps_raise bodyX O rfl)) pss_nil)
      (pss_one (ps_ret pe_bl))) pss_nil)
      (pss_cons (ps_set (i := 1) sc_BlockReader_advance.nd rfl (Or.inl rfl) (pe_fld (pe_fld (pv 0) rfl) rfl))
      (pss_cons (ps_fld (pv 0) (pe_mte0 (pe_fld (pv 0) rfl) M_taken_varint (hr.mono (by decide)) passX) rfl)
      (pss_cons (ps_set (i := 2) sc_BlockReader_advance.nd rfl (Or.inl rfl) (pe_mte0 (pe_fld (pv 0) rfl) M_taken_varint (hr.mono (by decide)) passX))
      (pss_cons (ps_set (i := 3) sc_BlockReader_advance.nd rfl (Or.inl rfl) (pe_mte0 (pe_fld (pv 0) rfl) M_taken_varint (hr.mono (by decide)) passX))
      (pss_cons (ps_expr (pe_mte (pv 0) M_meet_restart (hr.mono (by decide)) passX (pa_cons (pv 1) pa_nil)))
      (pss_cons (ps_expr (pe_mte (pv 0) M_change_key (hr.mono (by decide)) passX (pa_cons (pv 1) (pa_cons (pe_mte (pe_fld (pv 0) rfl) M_taken (hr.mono (by decide)) passX (pa_cons (pv 2) pa_nil)) pa_nil))))
      (pss_cons (ps_fld (pv 0) (pe_mte (pe_fld (pv 0) rfl) M_taken (hr.mono (by decide)) passX (pa_cons (pv 3) pa_nil)) rfl)
      (pss_one (ps_ret pe_bl)))))))))), ?_⟩
    try dsimp only [cxOf]
    have d : Dist p F := ⟨R.ps, R.pk, R.pr, R.pv, R.sk, R.sr, R.sv, R.n1, R.n2⟩
    have M0 : Mid K C Cs H p F c b.body.length b.met b.sh b.p b.key b.rs b.val := ⟨R.ob, R.sc, R.ky, R.rs, R.vl, R.dt⟩
    have hle := R.pl
    have hbl := R.bl
    have hwin := R.win
    have hby := R.byt
    have hsz := R.sz
    generalize he : b.body.length = e at M0 hle hbl hwin
    have kF : ∀ {x}, x ∈ [p] → x ∈ F.foot p := fun h => by simp [RF.foot] at h ⊢; exact .inl h
    have kS : ∀ {x}, x ∈ [F.ls] → x ∈ F.foot p := fun h => by simp [RF.foot] at h ⊢; exact .inr (.inl h)
    have kK : ∀ {x}, x ∈ [F.lk] → x ∈ F.foot p := fun h => by simp [RF.foot] at h ⊢; exact .inr (.inr h)
    refine ⟨_, rfl, rfd M0.ob T.cl T.nS fsR_scanner (rmt M0.sc fsS_at_end ⟨F.ls, F.ds, F.lc, b.p, e, rfl, M0.sc, _, rfl, ?_⟩)⟩
    by_cases hp : b.p = e
    · rw [decide_eq_true hp]
      refine iteT ?_
      refine ⟨_, rfl, rfd M0.ob T.cl T.nM fsR_met ⟨_, rfl, rfd M0.ob T.cl T.nR fsR_restarts ⟨F.lr, _, rfl, .inl (SqL.of M0.rs), _, _, rfl, rfl, _, rfl, ?_⟩⟩⟩
      rw [vb_length]
      have hadv : b.adv = if b.met < b.rs.length then none else some none := by
        unfold My.BR.adv
        rw [if_pos (by rw [he]; exact hp)]
      by_cases hm : b.met < b.rs.length
      · rw [decide_eq_true (by omega)]
        exact iteT (hbad (by rw [hadv, if_pos hm]) _)
      · rw [decide_eq_false (by omega)]
        exact iteF (hend (by rw [hadv, if_neg hm]))
    · rw [decide_eq_false hp]
      refine iteF ?_
      have hpb : b.p ≠ b.body.length := by rw [he]; exact hp
      have hno := fun z => hbad (My.adv_no hpb z)
      rw [← hwin] at hno
      refine ⟨_, rfl, rfd M0.ob T.cl T.nS fsR_scanner (rfd M0.sc Ts.cl Ts.nP fsS_place ?_)⟩
      refine ⟨_, rfl, rfd M0.ob T.cl T.nS fsR_scanner (rmt M0.sc fsS_varint ⟨F.ls, F.ds, F.lc, c, b.p, e, rfl, M0.scan hle hbl hby hsz, fun hn => hno (.inl hn), fun x r1 hx H1 hs1 k1 => ?_⟩)⟩
      have j12 := wv hbl hle hx
      have j1 := j12.1
      have M1 := M0.sc' d k1 hs1
      refine ⟨_, rfl, rfs M1.ob T.cl T.nH (by show 6 < 1000; decide) ?_⟩
      rw [putR_shared]
      have M2 := M1.ob' d (KB.upd (KB.refl _ _) (by simp)) (upd_same (H := H1) (a := p) (o := .ins C F.dx (fsR F.lr F.ls b.met x F.lk F.lv)))
      have k2 : KB (F.foot p) H (upd H1 p (.ins C F.dx (fsR F.lr F.ls b.met x F.lk F.lv))) := KB.upd (k1.mono fun _ h => kS h) (kF (by simp))
      generalize upd H1 p (.ins C F.dx (fsR F.lr F.ls b.met x F.lk F.lv)) = H2 at M2 k2
      have q1le : e - r1.length ≤ e := Nat.sub_le _ _
      refine ⟨_, rfl, rfd M2.ob T.cl T.nS fsR_scanner (rmt M2.sc fsS_varint ⟨F.ls, F.ds, F.lc, c, _, e, rfl, M2.scan q1le hbl hby hsz, fun hn => hno (.inr ⟨x, r1, hx, .inl (by rw [j1]; exact hn)⟩), fun y r2 hy H3 hs3 k3 => ?_⟩)⟩
      have hy' : Sv13.readVarint r1 = some (y, r2) := by rw [j1]; exact hy
      have j34 := wv hbl q1le hy
      have j3 := j34.1
      have M3 := M2.sc' d k3 hs3
      have k3' := k2.trans (k3.mono fun _ h => kS h)
      have q2le : e - r2.length ≤ e := Nat.sub_le _ _
      refine ⟨_, rfl, rfd M3.ob T.cl T.nS fsR_scanner (rmt M3.sc fsS_varint ⟨F.ls, F.ds, F.lc, c, _, e, rfl, M3.scan q2le hbl hby hsz, fun hn => hno (.inr ⟨x, r1, hx, .inr ⟨y, r2, hy', by rw [j3]; exact hn⟩⟩), fun z r3 hz H4 hs4 k4 => ?_⟩)⟩
      have hz' : Sv13.readVarint r2 = some (z, r3) := by rw [j3]; exact hz
      have j56 := wv hbl q2le hz
      have j5 := j56.1
      have M4 := M3.sc' d k4 hs4
      have k4' := k3'.trans (k4.mono fun _ h => kS h)
      have q3le : e - r3.length ≤ e := Nat.sub_le _ _
      have hadv := My.adv_eq hpb (by rw [← hwin]; exact hx) hy' hz'
      rw [hadv] at hbad hok
      have hr3by : isByte r3 := fun u hu => hby u (by
        rw [j5] at hu
        exact List.mem_of_mem_take (List.mem_of_mem_drop hu))
      have hr3 := av0 hle j12.2 j34.2 j56.2
      have hr3l := hr3.1
      have hp3 := hr3.2
      refine ⟨_, rfl, rmt M4.ob fsR_meet ⟨_, rfl, p, F.dx, F.lr, F.ls, F.lk, F.lv, b.met, x, b.p, b.rs, rfl, M4.ob, M4.rs, fun hq => hbad (by rw [if_pos (.inl hq)]), fun hq H5 hp5 k5 => ?_⟩⟩
      have M5 := M4.ob' d k5 hp5
      have k5' := k4'.trans (k5.mono fun _ h => kF h)
      refine ⟨_, rfl, rmt M5.ob fsR_change ⟨_, rfl, _, rfl, rfd M5.ob T.cl T.nS fsR_scanner (rmt M5.sc fsS_taken ⟨_, rfl, F.ls, F.ds, F.lc, c, _, e, y, rfl, M5.scan q3le hbl hby hsz, fun hq2 => hbad (by rw [if_pos (.inr (.inl (av1 hr3l hq2)))]), fun hq2 lm H6 hlm hs6 k6 hlm0 => ?_⟩)⟩⟩
      have M6 := M5.sc' d k6 hs6
      have k6' := k5'.trans (k6.mono fun _ h => kS h)
      rw [← j5] at hlm
      have nkm : F.lk ≠ lm := ne_of_none M5.ky hlm0
      have hkl := R.kl
      refine ⟨p, F.dx, F.lr, F.ls, F.lk, F.lv, lm, _, x, b.p, b.key, r3.take y, rfl, M6.ob, M6.ky, hlm, nkm, by rw [List.length_take]; exact av7 hkl hle hr3l hbl hsz, fun hq3 => hbad (by
        rcases hq3 with hq3 | hq3
        · rw [if_pos (.inr (.inr (.inl hq3)))]
        · rw [if_pos (.inr (.inr (.inr (.inl hq3))))]), fun hq3 H7 hk7 k7 => ?_⟩
      have M7 := M6.ky' d k7 hk7
      have k7' := k6'.trans (k7.mono fun _ h => kK h)
      refine ⟨_, rfl, rfd M7.ob T.cl T.nS fsR_scanner (rmt M7.sc fsS_taken ⟨_, rfl, F.ls, F.ds, F.lc, c, _, e, z, rfl, M7.scan (av6 hr3l (av1' hr3l hq2)) hbl hby hsz, fun hq4 => hbad (by rw [if_pos (.inr (.inr (.inr (.inr (av2 hr3l (av1' hr3l hq2) hq4)))))]), fun hq4 lv H8 hlv hs8 k8 hlv0 => ?_⟩)⟩
      have M8 := M7.sc' d k8 hs8
      have hyz : y + z ≤ r3.length := av2' hr3l (av1' hr3l hq2) hq4
      have k8' := k7'.trans (k8.mono fun _ h => kS h)
      have hcond : ¬ ((b.rs[b.met]? = some b.p ∧ 0 < x) ∨ r3.length < y ∨ b.key.length < x ∨ (0 < b.p ∧ Sv13.before (b.key.drop x) (r3.take y) = false) ∨ r3.length - y < z) := by
        rintro (w1 | w1 | w1 | w1 | w1)
        · exact hq w1
        · exact (av8 hyz).1 w1
        · exact hq3 (.inl w1)
        · exact hq3 (.inr w1)
        · exact (av8 hyz).2 w1
      rw [if_neg hcond] at hok hadv
      have a4 := (My.BR.adv_some hadv).2.2.2.1 (by rw [he]; exact hle)
      refine ⟨_, rfl, rfs M8.ob T.cl T.nV (by show 6 < 1000; decide) ?_⟩
      rw [putR_value]
      have npv : p ≠ lv := ne_of_none M7.ob hlv0
      have nkv : F.lk ≠ lv := ne_of_none M7.ky hlv0
      have hval : (win c (e - r3.length + y) e).take z = Sv13.slice r3 y z := by
        rw [← win_drop, ← j5]
        rfl
      rw [hval] at hlv
      have hdl : (r3.drop (y + z)).length = r3.length - (y + z) := List.length_drop
      have hlvH : H lv = none := by
        refine k7'.free hlv0 ?_
        have n1 := ne_of_none M7.ob hlv0
        have n2 := ne_of_none M7.sc hlv0
        simp [RF.foot]
        exact ⟨n1.symm, n2.symm, nkv.symm⟩
      refine hok _ rfl lv _ ⟨upd_same, ?_, ?_, ?_, ?_, ?_, d.kr, nkv, ?_, ?_, hby, hsz, a4, ?_, ?_, ?_, ?_⟩ (KB.upd k8' (kF (by simp))) hlvH
      · show (upd H8 p _) F.lr = _
        rw [upd_ne d.pr.symm]
        exact M8.rs
      · show (upd H8 p _) F.ls = some (.ins Cs F.ds (fsS F.lc (b.body.length - (r3.drop (y + z)).length) b.body.length))
        rw [upd_ne d.ps.symm, M8.sc, he, hdl]
        unfold fsS
        rw [av3 hr3l hyz]
      · show (upd H8 p _) F.lk = _
        rw [upd_ne d.pk.symm]
        exact M8.ky
      · show (upd H8 p _) lv = _
        rw [upd_ne npv.symm]
        exact hlv
      · exact M8.dt.kb (KB.upd (KB.refl _ _) (kF (by simp)))
      · exact R.bd
      · exact R.bl
      · show (b.key.take x ++ r3.take y).length ≤ b.body.length - (r3.drop (y + z)).length
        rw [List.length_append, List.length_take, List.length_take, he, hdl]
        exact av4 hkl hp3 hyz hr3l
      · intro u hu
        rcases List.mem_append.mp hu with w1 | w1
        · exact R.kb u (List.mem_of_mem_take w1)
        · exact hr3by u (List.mem_of_mem_take w1)
      · exact fun u hu => hr3by u (List.mem_of_mem_drop (List.mem_of_mem_take hu))
      · show (Sv13.slice r3 y z).length ≤ 100000
        unfold Sv13.slice
        rw [List.length_take, List.length_drop]
        exact av5 hr3l hbl hsz
end
end KL
set_option Elab.async false
set_option linter.all false
set_option maxRecDepth 100000
namespace KL
open PySem PySem.W PyProof.Rows L2
section
variable {P : Program} {w : World} {K : Frag} {mg : Str → Option Value} {base : Heap}
theorem lc_str {x : Str} {g : TG} {tt : TT} {te : TE} {vs : List Nat} {σ : L2.St} {H1 : Hp} {D : Addr} {Qd : Hp → Prop} (Pv : Nat → Hp → Prop) (h0 : Pv 0 (upd H1 D (.lst [])))
    (hs : ∀ i c H, x.cps[i]? = some c → Pv i H → g (.str ⟨#[c]⟩) (wipe σ vs) H fun σ2 H2 => wipe σ2 vs = wipe σ vs ∧ tt σ2 H2 fun b H3 =>
      if b = true then te σ2 H3 fun y H4 => ∃ acc, H4 D = some (.lst acc) ∧ acc.length < sizeLine ∧ Pv (i + 1) (upd H4 D (.lst (acc ++ [y]))) else Pv (i + 1) H3) (hd : ∀ H, Pv x.cps.size H → Qd H) :
    ∃ W : Nat → Nat → Hp → Prop, (∃ m, W 0 m (upd H1 D (.lst []))) ∧ ∀ i m H, W i m H →
      ((Its x).stop i H ∧ Qd H) ∨ ((Its x).go i H ∧ ∃ Nx : Hp → Prop, (∀ H', Nx H' → ∃ m', m' < m ∧ W (i + 1) m' H') ∧ ∀ y H', (Its x).yld i H y H' → g y (wipe σ vs) H' fun σ2 H2 => wipe σ2 vs = wipe σ vs ∧ tt σ2 H2 fun b H3 =>
        if b = true then te σ2 H3 fun y H4 => ∃ acc, H4 D = some (.lst acc) ∧ acc.length < sizeLine ∧ Nx (upd H4 D (.lst (acc ++ [y]))) else Nx H3) := by
  refine ⟨fun i m H => m = x.cps.size - i ∧ i ≤ x.cps.size ∧ Pv i H, ⟨x.cps.size, by simp, Nat.zero_le _, h0⟩, ?_⟩
  rintro i m H ⟨rfl, hi, p⟩
  by_cases hlt : i < x.cps.size
  · refine .inr ⟨hlt, Pv (i + 1), fun H' p' => ⟨x.cps.size - (i + 1), by omega, rfl, hlt, p'⟩, fun y H' hy => ?_⟩
    obtain ⟨rfl, c, hc, rfl⟩ := hy
    exact hs i c _ hc p
  · have e : i = x.cps.size := by omega
    subst e
    exact .inl ⟨Nat.le_refl _, hd H p⟩
def fname : Str := "filter.leveldb.BuiltinBloomFilter2"
theorem fname_cps : fname.cps.toList = Sv13.NAME := by decide +kernel
def sp_filter_key : Sp := fun vs H Q _ => vs = [] ∧ newL (vb Sv13.NAME) H Q
theorem sc_filter_key : FnScope ["sign"] [] (defScope s_filter_key) := ⟨rfl, rfl, rfl, by decide +kernel, rfl, by decide +kernel, by decide +kernel⟩
theorem blk_sign : BlkOk ["sign"] (defScope s_filter_key) { kind := .function, names := [(".0", .local), ("sign", .local), ("ord", .globalImplicit)], isGenerator := false, isCoroutine := false } [("sign", 0)] := blkOk_by (by decide +kernel)
theorem fx_filter_key (D : DefAt K mg "filter_key" s_filter_key) (Cs : Consts K mg) : Fx P w K mg base "filter_key" 1 [] sp_filter_key := by
  refine D.fx sc_filter_key (fun _ _ _ _ _ _ us hl => match us, hl with | [], _ => rfl) (fun vs H Q E h => ?_) (fun f cdv A outer s H vs Q E hr h => ?_)
  · obtain ⟨rfl, _⟩ := h
    rfl
  · obtain ⟨rfl, q⟩ := h
    refine ⟨_, (pss_one (ps_ret (pe_lc (own := [("sign", 0)]) rfl sc_filter_key.nd (pi_str (pe_gstr rfl Cs.FILTER_NAME)) blk_sign (fun _ _ _ _ _ => pg_name (i := 0) sc_filter_key.nd rfl (Or.inl rfl)) (fun _ _ _ _ _ => pts_nil) (fun _ _ _ _ _ => pe_callB call_ord rfl Cs.nord PyProof.Rows.boot_ord (pa_cons (pv 0) pa_nil))))), ?_⟩
    try dsimp only [cxOf]
    refine ⟨fname, rfl, fun ln hln => ?_⟩
    have ncps : fname.cps.size = Sv13.NAME.length := by rw [← fname_cps]; simp
    refine lc_str (x := fname) (fun i H8 => Same H H8 ∧ H8 ln = some (.lst (vb (Sv13.NAME.take i)))) ⟨Same.new (Same.refl _) hln, upd_same⟩ ?_ ?_
    · rintro i ch H8 hch ⟨s8, h8⟩
      have hN : Sv13.NAME[i]? = some ch := by
        rw [← fname_cps]
        simpa using hch
      refine ⟨rfl, _, rfl, ⟨#[ch]⟩, rfl, rfl, _, h8, lt_size ?_, Same.upd s8 hln, ?_⟩
      · rw [vb_length, List.length_take]
        have : Sv13.NAME.length = 34 := by decide
        omega
      · rw [upd_same, List.take_succ, hN]
        exact vb_snoc _ rfl
    · rintro H8 ⟨s8, h8⟩
      rw [ncps, List.take_length] at h8
      exact q ln H8 s8 hln h8
end
end KL
set_option Elab.async false
set_option linter.all false
set_option maxRecDepth 100000
namespace KL
open PySem PySem.W PyProof.Rows L2
section
variable {P : Program} {w : World} {K : Frag} {mg : Str → Option Value} {base : Heap}
def endH (t : List Nat) : Option (Sv13.Handle × Sv13.Handle) := if t.length < 48 ∨ t.drop (t.length - 8) ≠ Sv13.little 8 Sv13.MAGIC then none else
  (Sv13.readHandle (Sv13.slice t (t.length - 48) 40)).bind fun m => (Sv13.readHandle m.2).map fun i => (m.1, i.1)
def sp_end_handles_k1 (Ch : Addr) (t : List Nat) (H : Hp) (Q : VK) : Prop := (∀ m i, endH t = some (m, i) → 48 ≤ t.length → ∀ (tp pm dm pi di : Addr) (H' : Hp), H' tp = some (.tup [.ref pm, .ref pi]) → H' pm = some (.ins Ch dm (fsH m)) → H' pi = some (.ins Ch di (fsH i)) → Same H H' → Q (.ref tp) H')
def sp_end_handles (K : Frag) (Ch CN : Addr) : Sp := fun vs H Q E => ∃ (a : Addr) (t : List Nat), vs = [.ref a] ∧ SqL K H a (vb t) ∧ isByte t ∧ t.length ≤ 100000 ∧ (endH t = none → Bad CN E) ∧ sp_end_handles_k1 Ch t H Q
theorem sc_end_handles : FnScope ["file", "begin", "magic_begin", "scanner", "meta", "index"] ["file"] (defScope s_end_handles) := ⟨rfl, rfl, rfl, by decide +kernel, rfl, by decide +kernel, by decide +kernel⟩
theorem fx_end_handles {C Ch CN : Addr} (D : DefAt K mg "end_handles" s_end_handles) (Cs : Consts K mg) (O : ExcAt K mg "NoTable" CN) (F_fixed : Fx P w K mg base "fixed" 1 ["number", "width"] sp_fixed) (M_Scanner : Mkx P w K mg base "Scanner" C 1 ["self", "data", "place", "end"] (sp_Scanner_init C))
    (F_taken_handle : Fxe P w K mg base "taken_handle" 3 ["scanner"] (sp_taken_handle K C Ch CN)) : Fxe P w K mg base "end_handles" 4 ["file"] (sp_end_handles K Ch CN) := by
  refine D.fxe sc_end_handles (fun _ _ _ _ _ _ us hl => by obtain ⟨_, rfl⟩ := ln1 hl; rfl) (fun vs H Q E h => ?_) (fun f cdv A outer s H vs Q E hr h => ?_)
  · obtain ⟨a, t, rfl, _⟩ := h
    rfl
  · obtain ⟨a, t, rfl, ha, hby, hsz, hbad, hok⟩ := h
    try dsimp only [sp_end_handles_k1] at hok
    refine ⟨_, (pss_cons (ps_set (i := 1) sc_end_handles.nd rfl (Or.inl rfl) (pe_op op_sub (pe_callB call_len_seq rfl Cs.nlen PySem.boot_len (pa_cons (pv 0) pa_nil)) (pe_gint rfl Cs.END_WIDTH_layout)))
      (pss_cons (ps_set (i := 2) sc_end_handles.nd rfl (Or.inl rfl) (pe_op op_add (pv 1) (pe_gint rfl Cs.HANDLES_WIDTH)))
      (pss_cons (ps_if (PW.pt (pw_or (pt_cmpR op_lt (pv 1) pe_int (nomark _)) (pw_or1 (pt_cmpR (op_neB hr.units0) (pe_slice sl_list (pv 0) (po_some (pv 2)) po_none) (pe_fx F_fixed (hr.mono (by decide)) rfl (pa_cons (pe_gint rfl Cs.MAGIC) (pa_cons (pe_gint rfl Cs.MAGIC_WIDTH) pa_nil))) (nomark _))))) (pss_one (ps_raise bodyX O rfl)) pss_nil)
      (pss_cons (ps_set (i := 3) sc_end_handles.nd rfl (Or.inl rfl) (pe_mx M_Scanner (hr.mono (by decide)) rfl (pa_cons (pv 0) (pa_cons (pv 1) (pa_cons (pv 2) pa_nil)))))
      (pss_cons (ps_set (i := 4) sc_end_handles.nd rfl (Or.inl rfl) (pe_fxe F_taken_handle (hr.mono (by decide)) rfl passX (pa_cons (pv 3) pa_nil)))
      (pss_cons (ps_set (i := 5) sc_end_handles.nd rfl (Or.inl rfl) (pe_fxe F_taken_handle (hr.mono (by decide)) rfl passX (pa_cons (pv 3) pa_nil)))
      (pss_one (ps_ret (pe_tup (pa_cons (pv 4) (pa_cons (pv 5) pa_nil))))))))))), ?_⟩
    try dsimp only [cxOf]
    unfold endH at hbad hok
    refine ⟨_, rfl, a, _, rfl, .inl ha, _, _, rfl, rfl, ?_⟩
    refine ⟨_, rfl, _, _, rfl, rfl, ?_⟩
    refine gname_nx ?_
    dsimp only
    rw [vb_length]
    refine ⟨_, rfl, _, _, rfl, rfl, _, rfl, ?_⟩
    by_cases h1 : t.length < 48
    · rw [decide_eq_true (by omega)]
      exact iteT (iteT (hbad (by rw [if_pos (.inl h1)]) _))
    · rw [decide_eq_false (by omega)]
      refine iteF ?_
      have e1 : (t.length : Int) - 48 = ((t.length - 48 : Nat) : Int) := by omega
      have e2 : ((t.length - 48 : Nat) : Int) + 40 = ((t.length - 8 : Nat) : Int) := by omega
      rw [e1, e2]
      refine ⟨_, rfl, _, rfl, _, rfl, a, _, rfl, ha, fun l1 hl1 => ?_⟩
      rw [cut_from, ← vb_drop]
      have s1 := Same.new (Same.refl H) (o := .lst (vb (t.drop (t.length - 8)))) hl1
      refine ⟨Sv13.MAGIC, 8, rfl, by decide, fun l2 H2 s2 hl2 h2 => ?_⟩
      refine ⟨l1, l2, _, _, rfl, rfl, SqL.of (s2 _ _ upd_same), SqL.of h2, _, rfl, ?_⟩
      have s12 := s1.trans s2
      by_cases h3 : t.drop (t.length - 8) = Sv13.little 8 Sv13.MAGIC
      · have c1 : (if true = true then !decide (t.drop (t.length - 8) = Sv13.little 8 Sv13.MAGIC) else decide (t.drop (t.length - 8) = Sv13.little 8 Sv13.MAGIC)) = false := by
          rw [decide_eq_true h3]
          rfl
        rw [c1]
        refine iteF ?_
        have hcond : ¬ (t.length < 48 ∨ t.drop (t.length - 8) ≠ Sv13.little 8 Sv13.MAGIC) := by
          rintro (z | z)
          · omega
          · exact z h3
        rw [if_neg hcond] at hbad hok
        refine ⟨_, rfl, _, rfl, _, rfl, fun p dx hp hdx hne => ?_⟩
        refine ⟨p, dx, a, t.length - 48, t.length - 8, rfl, upd_same, rfl, ?_⟩
        rw [upd_upd]
        have s3 : Same H2 (upd (upd H2 dx (.own p)) p (.ins C dx (fsS a (t.length - 48) (t.length - 8)))) := Same.new (Same.new (Same.refl H2) hdx) (by rw [upd_ne hne.symm]; exact hp)
        have hpH : H p = none := s12.free hp
        have hS : ScAt K C [p] (upd (upd H2 dx (.own p)) p (.ins C dx (fsS a (t.length - 48) (t.length - 8)))) p dx a t (t.length - 48) (t.length - 8) := by
          refine ⟨upd_same, ?_, by omega, by omega, hby, hsz⟩
          refine SqO.of ((s12.trans s3).seq ha) fun h => ?_
          have := rd_ins h (upd_same (H := upd H2 dx (.own p)) (a := p) (o := .ins C dx (fsS a (t.length - 48) (t.length - 8))))
          simpa using this
        have hw : win t (t.length - 48) (t.length - 8) = Sv13.slice t (t.length - 48) 40 := by
          unfold win Sv13.slice
          rw [List.drop_take]
          congr 1
          omega
        have s13 := s12.trans s3
        generalize upd (upd H2 dx (.own p)) p (.ins C dx (fsS a (t.length - 48) (t.length - 8))) = H3 at hS s13
        refine ⟨_, rfl, p, dx, a, t, _, _, rfl, hS, fun hn => hbad (by rw [← hw, hn]; rfl), fun m r hm pm dm H4 hpm hp4 k4 hpm0 hr hrl => ?_⟩
        rw [← hw, hm] at hbad hok
        simp only [Option.bind_some] at hbad hok
        have S4 := hS.kb k4 hp4 (Nat.sub_le _ _)
        rw [hr] at hbad hok
        refine ⟨_, rfl, p, dx, a, t, _, _, rfl, S4, fun hn => hbad (by rw [hn]; rfl), fun i r2 hi pi di H5 hpi hp5 k5 hpi0 hr2 hrl2 => ?_⟩
        rw [hi] at hok
        simp only [Option.map_some] at hok
        have npm : pm ≠ p := fun z => by rw [z, hS.ob] at hpm0; cases hpm0
        have hpm5 : H5 pm = some (.ins Ch dm (fsH m)) := k5 _ _ hpm (by simp; exact npm)
        have sH : Same H H5 := fun b o e => k5 b o (k4 b o (s13 b o e) (by simp; exact ne_of_none e hpH)) (by simp; exact ne_of_none e hpH)
        refine ⟨_, rfl, _, rfl, (by show 2 ≤ sizeLine; decide), fun tp htp => ?_⟩
        have n1 := ne_of_none hpm5 htp
        have n2 := ne_of_none hpi htp
        exact hok m i rfl (by omega) tp pm dm pi di _ upd_same (by rw [upd_ne n1]; exact hpm5) (by rw [upd_ne n2]; exact hpi) (Same.new sH htp)
      · have c1 : (if true = true then !decide (t.drop (t.length - 8) = Sv13.little 8 Sv13.MAGIC) else decide (t.drop (t.length - 8) = Sv13.little 8 Sv13.MAGIC)) = true := by
          rw [decide_eq_false h3]
          rfl
        rw [c1]
        exact iteT (hbad (by rw [if_pos (.inr h3)]) _)
end
end KL
set_option Elab.async false
set_option linter.all false
set_option maxRecDepth 100000
namespace KL
open PySem PySem.W PyProof.Rows L2
section
variable {P : Program} {w : World} {K : Frag} {mg : Str → Option Value} {base : Heap}
theorem size4p {b k : Nat} : Builtin.Range.rangeSize (b : Int) ((b + 4 * k + 1 : Nat) : Int) 4 = ((k + 1 : Nat) : Int) := by
  unfold Builtin.Range.rangeSize
  rw [if_pos (by decide), if_pos (by omega)]
  omega
theorem rg4p {b k : Nat} (h : b + 4 * k ≤ 1000000) : RgC (b : Int) ((b + 4 * k + 1 : Nat) : Int) 4 (k + 1) := by
  refine ⟨by decide, by decide, ?_, size4p⟩
  unfold Builtin.Range.small
  rw [size4p]
  have b1 : (0 : Int) ≤ (b : Int) ∧ (b : Int) ≤ 1000000 := by omega
  have b2 : (0 : Int) ≤ ((b + 4 * k + 1 : Nat) : Int) ∧ ((b + 4 * k + 1 : Nat) : Int) ≤ 1000001 := by omega
  have b3 : (0 : Int) ≤ ((k + 1 : Nat) : Int) ∧ ((k + 1 : Nat) : Int) ≤ 1000001 := by omega
  generalize ((b + 4 * k + 1 : Nat) : Int) = z at *
  generalize ((k + 1 : Nat) : Int) = y at *
  generalize (b : Int) = x at *
  simp only [Builtin.Range.rangeFitsLong, Bool.and_eq_true, Bool.or_eq_true, decide_eq_true_eq, beq_iff_eq, show (4 : Int) > 0 by decide, if_true]
  omega
def sp_places_of (K : Frag) (CN : Addr) : Sp := fun vs H Q E => ∃ (a : Addr) (c : List Nat), vs = [.ref a] ∧ SqL K H a (vb c) ∧ isByte c ∧ c.length ≤ 100000 ∧ (Sv13.offsetsOf c = none → Bad CN E) ∧ (∀ l, Sv13.offsetsOf c = some l → newL (vb l) H Q)
theorem sc_places_of : FnScope ["content", "end", "told", "places", "before", "begin", "place"] ["content"] (defScope s_places_of) := ⟨rfl, rfl, rfl, by decide +kernel, rfl, by decide +kernel, by decide +kernel⟩
theorem fx_places_of {CN : Addr} (D : DefAt K mg "places_of" s_places_of) (C : Consts K mg) (O : ExcAt K mg "NoTable" CN) (F_number_at : Fx P w K mg base "number_at" 1 ["data", "begin", "width"] (sp_number_at K)) : Fxe P w K mg base "places_of" 2 ["content"] (sp_places_of K CN) := by
  refine D.fxe sc_places_of (fun _ _ _ _ _ _ us hl => by obtain ⟨_, rfl⟩ := ln1 hl; rfl) (fun vs H Q E h => ?_) (fun f cdv A outer s H vs Q E hr h => ?_)
  · obtain ⟨a, c, rfl, _⟩ := h
    rfl
  · obtain ⟨a, c, rfl, ha, hby, hsz, hbad, hok⟩ := h
    refine ⟨_, (pss_cons (ps_set (i := 1) sc_places_of.nd rfl (Or.inl rfl) (pe_op op_sub (pe_callB call_len_seq rfl C.nlen PySem.boot_len (pa_cons (pv 0) pa_nil)) (pe_gint rfl C.END_WIDTH_bloom)))
      (pss_cons (ps_if (PW.pt (pw_or (pt_cmpR op_lt (pv 1) pe_int (nomark _)) (pw_or1 (pt_cmpR op_ne (pe_ix ix_list (pv 0) (pe_un un_neg pe_int) (fun _ _ => rfl)) (pe_gint rfl C.STRETCH_BITS) (nomark _))))) (pss_one (ps_raise bodyX O rfl)) pss_nil)
      (pss_cons (ps_set (i := 2) sc_places_of.nd rfl (Or.inl rfl) (pe_fx F_number_at (hr.mono (by decide)) rfl (pa_cons (pv 0) (pa_cons (pv 1) (pa_cons (pe_gint rfl C.PLACE_WIDTH) pa_nil)))))
      (pss_cons (ps_if (PW.pt (pw_or (pt_cmpR op_gt (pv 2) (pv 1) (nomark _)) (pw_or1 (pt_cmpR op_ne (pe_op op_mod (pe_op op_sub (pv 1) (pv 2)) (pe_gint rfl C.PLACE_WIDTH)) pe_int (nomark _))))) (pss_one (ps_raise bodyX O rfl)) pss_nil)
      (pss_cons (ps_set (i := 3) sc_places_of.nd rfl (Or.inl rfl) (pe_lst pa_nil))
      (pss_cons (ps_set (i := 4) sc_places_of.nd rfl (Or.inl rfl) pe_int)
      (pss_cons (ps_for PassesOwn.leaving rfl (pi_range3 rfl C.nrange (pa_cons (pv 2) (pa_cons (pe_op op_add (pv 1) pe_int) (pa_cons (pe_gint rfl C.PLACE_WIDTH) pa_nil)))) (pg_name (i := 5) sc_places_of.nd rfl (Or.inl rfl)) (pss_cons (ps_set (i := 6) sc_places_of.nd rfl (Or.inl rfl) (pe_fx F_number_at (hr.mono (by decide)) rfl (pa_cons (pv 0) (pa_cons (pv 5) (pa_cons (pe_gint rfl C.PLACE_WIDTH) pa_nil)))))
      (pss_cons (ps_if (pt_cmpR op_lt (pv 6) (pv 4) (nomark _)) (pss_one (ps_raise bodyX O rfl)) pss_nil)
      (pss_cons (ps_expr (pe_bm PySem.F.plainAttrs_list PySem.F.slot_list_append PySem.F.type_list_append mt_append (pv 3) (pa_cons (pv 6) pa_nil)))
      (pss_one (ps_set (i := 4) sc_places_of.nd rfl (Or.inl rfl) (pv 6)))))))
      (pss_one (ps_ret (pv 3)))))))))), ?_⟩
    try dsimp only [cxOf]
    refine ⟨_, rfl, a, _, rfl, .inl ha, _, _, rfl, rfl, ?_⟩
    refine gname_nx ?_
    dsimp only
    rw [vb_length]
    refine ⟨_, rfl, _, _, rfl, rfl, _, rfl, ?_⟩
    by_cases h5 : c.length < 5
    · rw [decide_eq_true (by omega)]
      exact iteT (iteT (hbad (My.offs_bad (.inl h5)) _))
    · rw [decide_eq_false (by omega)]
      refine iteF ?_
      obtain ⟨x, hx⟩ : ∃ x, c.getLast? = some x := ⟨_, List.getLast?_eq_some_getLast (by intro z; subst z; simp at h5)⟩
      have hxD : c.getLastD 0 = x := by
        rw [List.getLastD_eq_getLast?, hx]
        rfl
      have hat : atI (vb c) (-1) = some (V.int (x : Int)) := by
        refine atI_last ?_
        unfold vb
        rw [List.getLast?_map, hx]
        rfl
      refine ⟨_, rfl, _, rfl, a, _, _, V.int (x : Int), rfl, rfl, ha, hat, rfl, _, rfl, ?_⟩
      by_cases h11 : x = 11
      · subst h11
        refine iteF ?_
        have e1 : (c.length : Int) - 5 = ((c.length - 5 : Nat) : Int) := by omega
        rw [e1]
        refine ⟨_, rfl, _, rfl, a, c, c.length - 5, 4, rfl, ha, hby, by omega, by decide, ?_⟩
        generalize he : Sv13.ofLittle (Sv13.slice c (c.length - 5) 4) = e
        refine ⟨_, rfl, _, rfl, _, _, rfl, rfl, _, rfl, ?_⟩
        by_cases hle : c.length - 5 < e
        · rw [decide_eq_true (by omega)]
          exact iteT (iteT (hbad (My.offs_bad (.inr (.inr (.inl (by rw [he]; exact hle))))) _))
        · rw [decide_eq_false (by omega)]
          refine iteF ?_
          refine ⟨_, rfl, _, rfl, _, _, rfl, rfl, _, _, rfl, rfl, (by show (0 : Int) < 4; decide), rfl, _, rfl, ?_⟩
          by_cases hm : (c.length - 5 - e) % 4 = 0
          · have c1 : (!decide (V.int ((((c.length - 5 : Nat) : Int) - (e : Int)) % 4) = V.int 0)) = false := by
              rw [decide_eq_true]
              · rfl
              · congr 1
                omega
            rw [c1]
            refine iteF ?_
            have h5' : 5 ≤ c.length := by omega
            have hnone := fun {j : Nat} (z1 : j + 1 < (c.length - 5 - e) / 4 + 1) z2 => hbad (My.offs_none h5' hxD he (by omega) hm z1 z2)
            have hsome := fun z => hok _ (My.offs_some h5' hxD he (by omega) hm z)
            generalize hk : (c.length - 5 - e) / 4 = k at hnone hsome
            have hend : c.length - 5 = e + 4 * k := by omega
            refine ⟨Nat.zero_le _, fun l hl => ⟨_, rfl, _, rfl, _, _, rfl, rfl, (e : Int), ((e + 4 * k + 1 : Nat) : Int), 4, k + 1, ?_, rg4p (by omega), ?_⟩⟩
            · show [V.int (e : Int), V.int (((c.length - 5 : Nat) : Int) + 1), V.int 4] = _
              rw [show ((c.length - 5 : Nat) : Int) + 1 = ((e + 4 * k + 1 : Nat) : Int) by omega]
            refine for_rangeC (n := k + 1) (fun i σ H2 => Same H H2 ∧ H2 l = some (.lst (vb ((List.range i).map (My.rsAt c e)))) ∧ (∀ j, j + 1 < i → My.rsAt c e j ≤ My.rsAt c e (j + 1)) ∧ ∃ bf v5 v6, (∀ j, j + 1 = i → bf = My.rsAt c e j) ∧ (i = 0 → bf = 0) ∧ σ = [some (.ref a), some (.int ((c.length - 5 : Nat) : Int)), some (.int (e : Int)), some (.ref l), some (.int (bf : Int)), v5, v6])
              ⟨Same.new (Same.refl H) hl, upd_same, fun j hj => by omega, 0, none, none, fun j hj => by omega, fun _ => rfl, rfl⟩ ?_ ?_
            · rintro i σ H2 hi ⟨s2, h2, hri, bf, v5, v6, hbf, hb0, rfl⟩
              refine ⟨_, rfl, _, rfl, a, c, e + 4 * i, 4, ?_, s2.seq ha, hby, by omega, by decide, ?_⟩
              · show [V.ref a, V.int ((e : Int) + ((i : Nat) : Int) * 4), V.int 4] = _
                rw [show (e : Int) + ((i : Nat) : Int) * 4 = ((e + 4 * i : Nat) : Int) by omega]
                rfl
              have eR : Sv13.ofLittle (Sv13.slice c (e + 4 * i) 4) = My.rsAt c e i := rfl
              rw [eR]
              refine ⟨_, rfl, _, rfl, _, _, rfl, rfl, _, rfl, ?_⟩
              by_cases hlt : My.rsAt c e i < bf
              · rw [decide_eq_true (by omega)]
                refine iteT ?_
                cases i with
                | zero =>
                  have := hb0 rfl
                  omega
                | succ j =>
                  have := hbf j rfl
                  exact hnone (j := j) (by omega) (by omega) _
              · rw [decide_eq_false (by omega)]
                refine iteF ?_
                refine ⟨_, rfl, .inl ⟨rfl, _, SqL.of h2⟩, _, rfl, l, _, _, rfl, rfl, h2, lt_size (by rw [vb_length]; simp; omega), _, rfl, ?_⟩
                refine ⟨Same.upd s2 hl, ?_, fun j hj => ?_, My.rsAt c e i, _, _, fun j hj => ?_, fun z => by omega, rfl⟩
                · rw [upd_same, range_snoc (My.rsAt c e) i]
                  exact vb_snoc _ rfl
                · by_cases hji : j + 1 < i
                  · exact hri j hji
                  · have hji : j + 1 = i := by omega
                    have := hbf j hji
                    rw [hji]
                    omega
                · have : j = i := by omega
                  rw [this]
            · rintro σ H2 ⟨s2, h2, hri, bf, v5, v6, hbf, hb0, rfl⟩
              exact ⟨_, rfl, hsome hri l H2 s2 hl h2⟩
          · have c1 : (!decide (V.int ((((c.length - 5 : Nat) : Int) - (e : Int)) % 4) = V.int 0)) = true := by
              rw [decide_eq_false]
              · rfl
              · intro z
                injection z with z
                omega
            rw [c1]
            exact iteT (hbad (My.offs_bad (.inr (.inr (.inr (by rw [he]; exact hm))))) _)
      · have c1 : (!decide (V.int (x : Int) = V.int 11)) = true := by
          rw [decide_eq_false]
          · rfl
          · intro z
            injection z with z
            omega
        rw [c1]
        exact iteT (hbad (My.offs_bad (.inr (.inl (by rw [hxD]; exact h11)))) _)
end
end KL
set_option Elab.async false
set_option linter.all false
set_option maxRecDepth 100000
namespace KL
open PySem PySem.W PyProof.Rows L2
section
variable {P : Program} {w : World} {K : Frag} {mg : Str → Option Value} {base : Heap}
theorem made_same {H H' : Hp} {p dx C : Addr} (hp : H p = none) (hdx : H dx = none) (k : KB [p] (upd (upd H dx (.own p)) p (.ins C dx [])) H') : Same H H' := fun b o e => by
  have n1 := ne_of_none e hp
  have n2 := ne_of_none e hdx
  exact k b o (by rw [upd_ne n1, upd_ne n2]; exact e) (by simp; exact n1)
theorem made_free {H : Hp} {p dx C x : Addr} (h : (upd (upd H dx (.own p)) p (.ins C dx [])) x = none) : H x = none := by
  by_cases h1 : x = p
  · rw [h1, upd_same] at h
    cases h
  · rw [upd_ne h1] at h
    by_cases h2 : x = dx
    · rw [h2, upd_same] at h
      cases h
    · rw [upd_ne h2] at h
      exact h
theorem made_sq {H : Hp} {p dx C a : Addr} {xs : List V} (hp : H p = none) (hdx : H dx = none) (h : SqL K H a xs) : SqL K (upd (upd H dx (.own p)) p (.ins C dx [])) a xs := by
  refine Same.seq (fun b o e => ?_) h
  rw [upd_ne (ne_of_none e hp), upd_ne (ne_of_none e hdx)]
  exact e
def sp_filter_content (K : Frag) (Ch CN : Addr) : Sp := fun vs H Q E => ∃ (a : Addr) (t : List Nat) (lim : Nat) (pm dm : Addr) (m : Sv13.Handle), vs = [.ref a, .int (lim : Int), .ref pm] ∧ SqL K H a (vb t) ∧ isByte t ∧ lim + 48 = t.length ∧ t.length ≤ 100000 ∧ H pm = some (.ins Ch dm (fsH m)) ∧
  (My.runFilter t m = none → Bad CN E) ∧ (My.runFilter t m = some none → ∀ H', Same H H' → Q .non H') ∧ (∀ c, My.runFilter t m = some (some c) → isByte c → c.length ≤ 100000 → newL (vb c) H Q)
theorem sc_filter_content : FnScope ["file", "limit", "meta", "reader", "content"] ["file", "limit", "meta"] (defScope s_filter_content) := ⟨rfl, rfl, rfl, by decide +kernel, rfl, by decide +kernel, by decide +kernel⟩
theorem fx_filter_content {C Cs Ch CN : Addr} (D : DefAt K mg "filter_content" s_filter_content) (Cn : Consts K mg) (O : ExcAt K mg "NoTable" CN) (T : BlockReaderCls K C) (F_content_at : Fxe P w K mg base "content_at" 3 ["file", "end", "handle"] (sp_content_at K Ch CN)) (F_handle_of : Fxe P w K mg base "handle_of" 4 ["value"] (sp_handle_of K Ch CN))
    (F_places_of : Fxe P w K mg base "places_of" 2 ["content"] (sp_places_of K CN)) (F_filter_key : Fx P w K mg base "filter_key" 1 [] sp_filter_key) (M_BlockReader : Mkxe P w K mg base "BlockReader" C 3 ["self", "block"] (sp_BlockReader_init K C Cs CN)) (M_advance : Mtxe P w K mg base C "advance" 3 ["self"] (sp_adv K C Cs CN)) :
    Fxe P w K mg base "filter_content" 5 ["file", "limit", "meta"] (sp_filter_content K Ch CN) := by
  refine D.fxe sc_filter_content (fun _ _ _ _ _ _ us hl => by obtain ⟨_, _, _, rfl⟩ := ln3 hl; rfl) (fun vs H Q E h => ?_) (fun f cdv A outer s H vs Q E hr h => ?_)
  · obtain ⟨a, t, lim, pm, dm, m, rfl, _⟩ := h
    rfl
  · obtain ⟨a, t, lim, pm, dm, m, rfl, ha, hby, hlim, hsz, hpm, hbad, hnone, hok⟩ := h
    refine ⟨_, (pss_cons (ps_set (i := 3) sc_filter_content.nd rfl (Or.inl rfl) (pe_mxe M_BlockReader (hr.mono (by decide)) rfl passX (pa_cons (pe_fxe F_content_at (hr.mono (by decide)) rfl passX (pa_cons (pv 0) (pa_cons (pv 1) (pa_cons (pv 2) pa_nil)))) pa_nil)))
      (pss_cons (ps_if (pt_not (pt_val (pe_mte0 (pv 3) M_advance (hr.mono (by decide)) passX))) (pss_one (ps_ret pe_non)) pss_nil)
      (pss_cons (ps_if (pt_cmpR (op_neB hr.units0) (pe_fld (pv 3) rfl) (pe_fx0 F_filter_key (hr.mono (by decide)) rfl) (nomark _)) (pss_one (ps_raise bodyX O rfl)) pss_nil)
      (pss_cons (ps_set (i := 4) sc_filter_content.nd rfl (Or.inl rfl) (pe_fxe F_content_at (hr.mono (by decide)) rfl passX (pa_cons (pv 0) (pa_cons (pv 1) (pa_cons (pe_fxe F_handle_of (hr.mono (by decide)) rfl passX (pa_cons (pe_fld (pv 3) rfl) pa_nil)) pa_nil)))))
      (pss_cons (ps_expr (pe_fxe F_places_of (hr.mono (by decide)) rfl passX (pa_cons (pv 4) pa_nil)))
      (pss_cons (ps_if (pt_val (pe_mte0 (pv 3) M_advance (hr.mono (by decide)) passX)) (pss_one (ps_raise bodyX O rfl)) pss_nil)
      (pss_one (ps_ret (pv 4))))))))), ?_⟩
    try dsimp only [cxOf]
    unfold My.runFilter My.blkRun at hbad hnone hok
    refine ⟨_, rfl, _, rfl, _, rfl, a, t, lim, pm, dm, m, rfl, ha, hby, hlim, hsz, hpm, fun hn => hbad (by rw [hn]; rfl), fun c hc hcb hcz lc H1 s1 hlc h1 => ?_⟩
    rw [hc] at hbad hnone hok
    simp only [Option.bind_some] at hbad hnone hok
    refine fun p dx hp hdx hne => ?_
    refine ⟨p, dx, lc, c, rfl, upd_same, made_sq hp hdx (SqL.of h1), hcb, hcz, fun hn => hbad (by rw [hn]; rfl), fun b hb F H2 hF R k2 hls hlk hlr hlv => ⟨rfl, ?_⟩⟩
    rw [hb] at hbad hnone hok
    simp only [Option.bind_some] at hbad hnone hok
    have s2 : Same H1 H2 := made_same hp hdx k2
    have hls1 := made_free hls
    have hlk1 := made_free hlk
    have sH2 := s1.trans s2
    have hpl : b.p ≤ b.body.length := R.pl
    have foot0 : ∀ x ∈ F.foot p, H x = none := by
      intro x hx
      simp [RF.foot] at hx
      rcases hx with rfl | rfl | rfl
      · exact s1.free hp
      · exact s1.free hls1
      · exact s1.free hlk1
    refine ⟨_, rfl, rmt R.ob fsR_advance ⟨p, F, c, b, rfl, R, fun hn => hbad (by rw [My.BR.rest_none hn]; rfl), fun he => ⟨_, rfl, iteT (hnone (by rw [My.BR.rest_end he]; rfl) H2 sH2)⟩, fun b1 hb1 lv H3 R3 k3 hlv3 => ⟨_, rfl, iteF ?_⟩⟩⟩
    have e1 : b.rest = b1.rest.map fun l => (b1.key, b1.val) :: l := My.BR.rest_step hpl hb1
    rw [e1] at hbad hok
    have sH3 : Same H H3 := fun x o e => k3 x o (sH2 x o e) (fun z => by rw [foot0 x z] at e; cases e)
    refine ⟨_, rfl, rfd R3.ob T.cl T.nK fsR_key ⟨rfl, fun ln H4 s4 hln h4 => ?_⟩⟩
    refine ⟨F.lk, ln, _, _, rfl, rfl, SqL.of (s4 _ _ R3.ky), SqL.of h4, _, rfl, ?_⟩
    have R4 := R3.same s4
    by_cases hname : b1.key = Sv13.NAME
    · have c1 : (if true = true then !decide (b1.key = Sv13.NAME) else decide (b1.key = Sv13.NAME)) = false := by
        rw [decide_eq_true hname]
        rfl
      rw [c1]
      refine iteF ?_
      have sH4 := sH3.trans s4
      refine ⟨_, rfl, _, rfl, _, rfl, rfd R4.ob T.cl T.nV fsR_value ⟨lv, b1.val, rfl, SqL.of R4.vl, R4.vb', R4.vz, fun hn => hbad ?_, fun h hh ph dh H5 hph s5 hph0 => ?_⟩⟩
      · cases b1.rest with
        | none => rfl
        | some l =>
          cases l with
          | nil =>
            show (if b1.key ≠ Sv13.NAME then none else (Sv13.handleOf b1.val).bind _) = none
            rw [hn]
            split <;> rfl
          | cons x r => rfl
      have sH5 := sH4.trans s5
      refine ⟨a, t, lim, ph, dh, h, rfl, sH5.seq ha, hby, hlim, hsz, hph, fun hn => hbad ?_, fun c2 hc2 hcb2 hcz2 l2 H6 s6 hl2 h6 => ?_⟩
      · cases b1.rest with
        | none => rfl
        | some l =>
          cases l with
          | nil =>
            show (if b1.key ≠ Sv13.NAME then none else (Sv13.handleOf b1.val).bind fun h => (Sv13.blockAt t h).bind _) = none
            rw [hh]
            simp only [Option.bind_some]
            rw [hn]
            split <;> rfl
          | cons x r => rfl
      have sH6 := sH5.trans s6
      refine ⟨_, rfl, l2, c2, rfl, SqL.of h6, hcb2, hcz2, fun hn => hbad ?_, fun offs ho l3 H7 s7 hl3 h7 => ?_⟩
      · cases b1.rest with
        | none => rfl
        | some l =>
          cases l with
          | nil =>
            show (if b1.key ≠ Sv13.NAME then none else (Sv13.handleOf b1.val).bind fun h => (Sv13.blockAt t h).bind fun c => (Sv13.offsetsOf c).map _) = none
            rw [hh]
            simp only [Option.bind_some]
            rw [hc2]
            simp only [Option.bind_some]
            rw [hn]
            split <;> rfl
          | cons x r => rfl
      have R7 := ((R4.same s5).same s6).same s7
      have sH7 := sH6.trans s7
      refine ⟨_, rfl, rmt R7.ob fsR_advance ⟨p, { F with lv := lv }, c, b1, rfl, R7, fun hn => hbad (by rw [My.BR.rest_none hn]; rfl), fun he => ⟨_, rfl, iteF ?_⟩, fun b2 hb2 lv2 H8 R8 k8 hlv8 => ⟨_, rfl, iteT (hbad ?_ _)⟩⟩⟩
      · rw [My.BR.rest_end he] at hok
        refine ⟨_, rfl, hok c2 ?_ hcb2 hcz2 l2 H7 sH7 (sH5.free hl2) (s7 _ _ h6)⟩
        show (if b1.key ≠ Sv13.NAME then none else (Sv13.handleOf b1.val).bind fun h => (Sv13.blockAt t h).bind fun c => (Sv13.offsetsOf c).map fun _ => some c) = _
        rw [if_neg (fun z => z hname), hh]
        simp only [Option.bind_some]
        rw [hc2]
        simp only [Option.bind_some]
        rw [ho]
        rfl
      · rw [My.BR.rest_step R7.pl hb2]
        cases b2.rest with
        | none => rfl
        | some l => rfl
    · have c1 : (if true = true then !decide (b1.key = Sv13.NAME) else decide (b1.key = Sv13.NAME)) = true := by
        rw [decide_eq_false hname]
        rfl
      rw [c1]
      refine iteT (hbad ?_ _)
      cases b1.rest with
      | none => rfl
      | some l =>
        cases l with
        | nil =>
          show (if b1.key ≠ Sv13.NAME then none else _) = none
          rw [if_pos hname]
        | cons x r => rfl
def HsAt (Ch : Addr) (H : Hp) (ps : List Addr) (hs : List (List Nat × Sv13.Handle)) : Prop := ps.length = hs.length ∧ ∀ (i : Nat) (p : Addr) (h : List Nat × Sv13.Handle), ps[i]? = some p → hs[i]? = some h → ∃ dh, H p = some (.ins Ch dh (fsH h.2))
theorem HsAt.mono {Ch : Addr} {H H' : Hp} {ps : List Addr} {hs : List (List Nat × Sv13.Handle)} (h : HsAt Ch H ps hs) (k : ∀ p ∈ ps, ∀ o, H p = some o → H' p = some o) : HsAt Ch H' ps hs :=
  ⟨h.1, fun i p x h1 h2 => by
    obtain ⟨dh, e⟩ := h.2 i p x h1 h2
    exact ⟨dh, k p (List.mem_of_getElem? h1) _ e⟩⟩
theorem HsAt.snoc {Ch : Addr} {H : Hp} {ps : List Addr} {hs : List (List Nat × Sv13.Handle)} {p dh : Addr} {x : List Nat × Sv13.Handle} (h : HsAt Ch H ps hs) (hp : H p = some (.ins Ch dh (fsH x.2))) : HsAt Ch H (ps ++ [p]) (hs ++ [x]) := by
  refine ⟨by rw [List.length_append, List.length_append, h.1]; rfl, fun i q y h1 h2 => ?_⟩
  by_cases hi : i < ps.length
  · rw [List.getElem?_append_left hi] at h1
    rw [List.getElem?_append_left (by rw [← h.1]; exact hi)] at h2
    exact h.2 i q y h1 h2
  · rw [List.getElem?_append_right (by omega)] at h1
    rw [List.getElem?_append_right (by rw [← h.1]; omega)] at h2
    rw [← h.1] at h2
    cases hz : i - ps.length with
    | zero =>
      rw [hz] at h1 h2
      have : p = q := by simpa using h1
      subst this
      have : x = y := by simpa using h2
      subst this
      exact ⟨dh, hp⟩
    | succ k =>
      rw [hz] at h1
      simp at h1
def sp_data_handles_k1 (Ch : Addr) (c : List Nat) (H : Hp) (Q : VK) : Prop := (∀ hs, ((My.BR.new c).bind My.BR.rest).bind (My.hsOf 0) = some hs → hs.length ≤ 100000 → ∀ (l : Addr) (ps : List Addr) (H' : Hp), H' l = some (.lst (ps.map V.ref)) → HsAt Ch H' ps hs → (∀ p ∈ ps, H p = none) → Same H H' → H l = none → Q (.ref l) H')
def sp_data_handles (K : Frag) (Ch CN : Addr) : Sp := fun vs H Q E => ∃ (a : Addr) (c : List Nat), vs = [.ref a] ∧ SqL K H a (vb c) ∧ isByte c ∧ c.length ≤ 100000 ∧ (((My.BR.new c).bind My.BR.rest).bind (My.hsOf 0) = none → Bad CN E) ∧ sp_data_handles_k1 Ch c H Q
theorem sc_data_handles : FnScope ["index_block", "handles", "end", "reader", "handle"] ["index_block"] (defScope s_data_handles) := ⟨rfl, rfl, rfl, by decide +kernel, rfl, by decide +kernel, by decide +kernel⟩
theorem fx_data_handles {C Cs Ch CN : Addr} (D : DefAt K mg "data_handles" s_data_handles) (Cn : Consts K mg) (O : ExcAt K mg "NoTable" CN) (T : BlockReaderCls K C) (Th : HandleCls K Ch) (F_handle_of : Fxe P w K mg base "handle_of" 4 ["value"] (sp_handle_of K Ch CN))
    (M_behind : Mtx P w K mg base Ch "behind" 1 ["self"] (sp_behind Ch)) (M_BlockReader : Mkxe P w K mg base "BlockReader" C 3 ["self", "block"] (sp_BlockReader_init K C Cs CN)) (M_advance : Mtxe P w K mg base C "advance" 3 ["self"] (sp_adv K C Cs CN)) :
    Fxe P w K mg base "data_handles" 5 ["index_block"] (sp_data_handles K Ch CN) := by
  refine D.fxe sc_data_handles (fun _ _ _ _ _ _ us hl => by obtain ⟨_, rfl⟩ := ln1 hl; rfl) (fun vs H Q E h => ?_) (fun f cdv A outer s H vs Q E hr h => ?_)
  · obtain ⟨a, c, rfl, _⟩ := h
    rfl
  · obtain ⟨a, c, rfl, ha, hby, hsz, hbad, hok⟩ := h
    try dsimp only [sp_data_handles_k1] at hok
    refine ⟨_, (pss_cons (ps_set (i := 1) sc_data_handles.nd rfl (Or.inl rfl) (pe_lst pa_nil))
      (pss_cons (ps_set (i := 2) sc_data_handles.nd rfl (Or.inl rfl) pe_int)
      (pss_cons (ps_set (i := 3) sc_data_handles.nd rfl (Or.inl rfl) (pe_mxe M_BlockReader (hr.mono (by decide)) rfl passX (pa_cons (pv 0) pa_nil)))
      (pss_cons (ps_while PassesOwn.leaving (pt_val (pe_mte0 (pv 3) M_advance (hr.mono (by decide)) passX)) (pss_cons (ps_set (i := 4) sc_data_handles.nd rfl (Or.inl rfl) (pe_fxe F_handle_of (hr.mono (by decide)) rfl passX (pa_cons (pe_fld (pv 3) rfl) pa_nil)))
      (pss_cons (ps_if (pt_cmpR op_lt (pe_fld (pv 4) rfl) (pv 2) (nomark _)) (pss_one (ps_raise bodyX O rfl)) pss_nil)
      (pss_cons (ps_set (i := 2) sc_data_handles.nd rfl (Or.inl rfl) (pe_mt0 (pv 4) M_behind (hr.mono (by decide))))
      (pss_one (ps_expr (pe_bm PySem.F.plainAttrs_list PySem.F.slot_list_append PySem.F.type_list_append mt_append (pv 1) (pa_cons (pv 4) pa_nil))))))))
      (pss_one (ps_ret (pv 1))))))), ?_⟩
    try dsimp only [cxOf]
    refine ⟨Nat.zero_le _, fun l hl => ?_⟩
    have s1 : Same H (upd H l (.lst [])) := Same.new (Same.refl H) hl
    refine ⟨_, rfl, fun p dx hp hdx hne => ?_⟩
    refine ⟨p, dx, a, c, rfl, upd_same, made_sq hp hdx (s1.seq ha), hby, hsz, fun hn => hbad (by rw [hn]; rfl), fun b hb F H2 hF R k2 hls hlk hlr hlv => ⟨rfl, ?_⟩⟩
    rw [hb] at hbad hok
    simp only [Option.bind_some] at hbad hok
    have s2 : Same (upd H l (.lst [])) H2 := made_same hp hdx k2
    have hls1 := made_free hls
    have hlk1 := made_free hlk
    have sH2 := s1.trans s2
    have foot0 : ∀ x ∈ F.foot p, H x = none := by
      intro x hx
      simp [RF.foot] at hx
      rcases hx with rfl | rfl | rfl
      · exact s1.free hp
      · exact s1.free hls1
      · exact s1.free hlk1
    have lfoot : l ∉ F.foot p := by
      have n1 : l ≠ p := ne_of_none upd_same hp
      have n2 : l ≠ F.ls := ne_of_none upd_same hls1
      have n3 : l ≠ F.lk := ne_of_none upd_same hlk1
      simp [RF.foot, n1, n2, n3]
    generalize hR0 : b.rest.bind (My.hsOf 0) = R0 at hbad hok
    refine ⟨fun m σ H2 => Same H H2 ∧ ∃ (lv : Addr) (b : My.BR) (ps : List Addr) (hs : List (List Nat × Sv13.Handle)) (e : Nat) (v4 : Option V), RAt K C Cs H2 p { F with lv := lv } c b ∧ m = b.body.length - b.p ∧ H2 l = some (.lst (ps.map V.ref)) ∧ HsAt Ch H2 ps hs ∧ (∀ x ∈ ps, H x = none ∧ x ∉ F.foot p) ∧ ps.length ≤ b.p ∧
        R0 = (b.rest.bind (My.hsOf e)).map (fun r => hs ++ r) ∧ σ = [some (.ref a), some (.ref l), some (.int (e : Int)), some (.ref p), v4],
      ⟨_, sH2, F.lv, b, [], [], 0, none, R, rfl, s2 _ _ upd_same, ⟨rfl, fun i p h h1 => nomatch h1⟩, (fun x hx => nomatch hx), Nat.zero_le _, ?_, rfl⟩, ?_⟩
    · rw [hR0]
      cases R0 <;> rfl
    rintro m σ H3 ⟨sH3, lv, b, ps, hs, e, v4, R3, rfl, hl3, hA, hps, hpl, hR, rfl⟩
    refine ⟨_, rfl, rmt R3.ob fsR_advance ⟨p, { F with lv := lv }, c, b, rfl, R3, fun hn => hbad (by rw [hR, My.BR.rest_none hn]; rfl), fun he => ⟨_, rfl, iteF ?_⟩, fun b1 hb1 lv1 H4 R4 k4 hlv4 => ⟨_, rfl, iteT ⟨_, fun σ' H' h => h, ?_⟩⟩⟩⟩
    · have hR' : R0 = some hs := by
        rw [hR, My.BR.rest_end he]
        show some (hs ++ []) = _
        rw [List.append_nil]
      refine ⟨_, rfl, hok hs hR' ?_ l ps H3 hl3 hA (fun x hx => (hps x hx).1) sH3 hl⟩
      have := hA.1
      have h1 := R3.pl
      have h2 := R3.bl
      have h3 := R3.sz
      omega
    · have aa := My.BR.adv_some hb1
      have a2 := aa.2.1
      have a3 := aa.2.2.1
      have a4 := aa.2.2.2.1 R3.pl
      rw [My.BR.rest_step R3.pl hb1] at hR
      have sH4 : Same H H4 := fun x o e => k4 x o (sH3 x o e) (fun z => by rw [foot0 x z] at e; cases e)
      have hl4 : H4 l = some (.lst (ps.map V.ref)) := k4 _ _ hl3 lfoot
      have hA4 : HsAt Ch H4 ps hs := hA.mono fun x hx o ho => k4 x o ho (hps x hx).2
      refine ⟨_, rfl, rfd R4.ob T.cl T.nV fsR_value ⟨lv1, b1.val, rfl, SqL.of R4.vl, R4.vb', R4.vz, fun hn => hbad ?_, fun h hh ph dh H5 hph s5 hph0 => ?_⟩⟩
      · rw [hR]
        cases b1.rest with
        | none => rfl
        | some r =>
          show Option.map _ (My.hsOf e ((b1.key, b1.val) :: r)) = none
          unfold My.hsOf
          rw [hn]
          rfl
      have R5 := R4.same s5
      have hR1 : R0 = if h.at_ < e then none else (b1.rest.bind (My.hsOf (h.at_ + h.size + 5))).map fun r => (hs ++ [(b1.key, h)]) ++ r := by
        rw [hR]
        cases b1.rest with
        | none =>
          show none = _
          split <;> rfl
        | some r =>
          show Option.map _ (My.hsOf e ((b1.key, b1.val) :: r)) = _
          unfold My.hsOf
          rw [hh]
          simp only [Option.bind_some]
          by_cases hlt : h.at_ < e
          · rw [if_pos hlt, if_pos hlt]
            rfl
          · rw [if_neg hlt, if_neg hlt]
            cases My.hsOf (h.at_ + h.size + 5) r with
            | none => rfl
            | some z =>
              show some (hs ++ ((b1.key, h) :: z)) = some ((hs ++ [(b1.key, h)]) ++ z)
              rw [List.append_assoc]
              rfl
      refine ⟨_, rfl, rfd hph Th.cl Th.nB fsH_begin ⟨_, rfl, _, _, rfl, rfl, _, rfl, ?_⟩⟩
      by_cases hlt : h.at_ < e
      · rw [decide_eq_true (by omega)]
        exact iteT (hbad (by rw [hR1, if_pos hlt]) _)
      · rw [decide_eq_false (by omega)]
        rw [if_neg hlt] at hR1
        refine iteF ?_
        refine ⟨_, rfl, rmt hph fsH_behind ⟨ph, dh, h, rfl, hph, ?_⟩⟩
        have hl5 := s5 _ _ hl4
        have a2' : b1.body.length = b.body.length := by rw [a2]
        have hlen : ps.length < b1.p := by omega
        have hz1 := R4.bl
        have hz2 := R4.sz
        refine ⟨_, rfl, .inl ⟨rfl, _, SqL.of hl5⟩, _, rfl, l, _, _, rfl, rfl, hl5, lt_size (by rw [List.length_map]; omega), ?_⟩
        have nlp : ph ≠ l := fun z => by rw [z, hl4] at hph0; cases hph0
        have phfoot : ph ∉ F.foot p := by
          have n1 : ph ≠ p := fun z => by rw [z, R4.ob] at hph0; cases hph0
          have n2 : ph ≠ F.ls := fun z => by rw [z, R4.sc] at hph0; cases hph0
          have n3 : ph ≠ F.lk := fun z => by rw [z, R4.ky] at hph0; cases hph0
          simp [RF.foot, n1, n2, n3]
        have lall : ∀ x ∈ ({ F with lv := lv1 } : RF).all p, x ∉ [l] := by
          intro x hx z
          have z : x = l := by simpa using z
          subst z
          have hx : x = p ∨ x = F.ls ∨ x = F.lk ∨ x = F.lr ∨ x = lv1 := by simpa [RF.all] using hx
          rcases hx with rfl | rfl | rfl | rfl | rfl
          · exact lfoot (by simp [RF.foot])
          · exact lfoot (by simp [RF.foot])
          · exact lfoot (by simp [RF.foot])
          · exact absurd (made_free hlr) (by rw [upd_same]; simp)
          · rw [hl3] at hlv4
            cases hlv4
        have hsq : SqO K [l] H5 ({ F with lv := lv1 } : RF).lc (vb c) := by
          have hlc : ({ F with lv := lv1 } : RF).lc = a := hF
          rw [hlc]
          rcases ha with h | h
          · refine SqO.same (H := H) (.inl ⟨h, fun z => ?_⟩) (sH4.trans s5)
            have z : a = l := by simpa using z
            subst z
            exact Rd.some h hl
          · exact .inr fun H' => .inr h
        refine ⟨b1.body.length - b1.p, by omega, Same.upd (sH4.trans s5) hl, lv1, b1, ps ++ [ph], hs ++ [(b1.key, h)], h.at_ + h.size + 5, _, R5.kbT lall hsq (KB.upd (KB.refl _ _) (by simp)), rfl, ?_, ?_, ?_, ?_, hR1, rfl⟩
        · rw [upd_same, List.map_append]
          rfl
        · refine HsAt.snoc ?_ (dh := dh) (by rw [upd_ne nlp]; exact hph)
          refine (hA4.mono fun x hx o ho => s5 _ _ ho).mono fun x hx o ho => ?_
          have nx : x ≠ l := fun z => by
            have := (hps x hx).1
            obtain ⟨i, hi, ei⟩ := List.mem_iff_getElem.mp hx
            have hi2 : i < hs.length := by rw [← hA.1]; exact hi
            obtain ⟨dd, q⟩ := hA4.2 i x hs[i] (by rw [List.getElem?_eq_getElem hi, ei]) (List.getElem?_eq_getElem hi2)
            rw [z, hl4] at q
            cases q
          rw [upd_ne nx]
          exact ho
        · intro x hx
          rcases List.mem_append.mp hx with q | q
          · exact hps x q
          · have : x = ph := by simpa using q
            subst this
            exact ⟨sH4.free hph0, phfoot⟩
        · rw [List.length_append]
          show ps.length + 1 ≤ b1.p
          omega
end
end KL
set_option Elab.async false
set_option linter.all false
set_option maxRecDepth 100000
namespace KL
open PySem PySem.W PyProof.Rows L2
section
variable {P : Program} {w : World} {K : Frag} {mg : Str → Option Value} {base : Heap}
structure TableCls (K : Frag) (C : Addr) : Prop where
  cl : Cls K C
  nF : NoAttr K C "file"
  nL : NoAttr K C "limit"
  nB : NoAttr K C "filter_bytes"
  nX : NoAttr K C "index_block"
  nH : NoAttr K C "handles"
  nR : NoAttr K C "index_reader"
  nG : NoAttr K C "begun"
  nK : NoAttr K C "block"
def fsT (lf : Addr) (lim : Nat) (fb : V) (lb lh pr : Addr) (i : Nat) (bv : V) : List (Str × V) := [("file", .ref lf), ("limit", .int (lim : Int)), ("filter_bytes", fb), ("index_block", .ref lb), ("handles", .ref lh), ("index_reader", .ref pr), ("begun", .int (i : Int)), ("block", bv)]
section
variable {lf lb lh pr : Addr} {lim i : Nat} {fb bv : V}
theorem fsT_file : (fsT lf lim fb lb lh pr i bv).lookup ("file" : Str) = some (.ref lf) := lk_here
theorem fsT_limit : (fsT lf lim fb lb lh pr i bv).lookup ("limit" : Str) = some (.int (lim : Int)) := lk_next (by decide +kernel) lk_here
theorem fsT_filter : (fsT lf lim fb lb lh pr i bv).lookup ("filter_bytes" : Str) = some fb := lk_next (by decide +kernel) (lk_next (by decide +kernel) lk_here)
theorem fsT_index : (fsT lf lim fb lb lh pr i bv).lookup ("index_block" : Str) = some (.ref lb) := lk_next (by decide +kernel) (lk_next (by decide +kernel) (lk_next (by decide +kernel) lk_here))
theorem fsT_handles : (fsT lf lim fb lb lh pr i bv).lookup ("handles" : Str) = some (.ref lh) := lk_next (by decide +kernel) (lk_next (by decide +kernel) (lk_next (by decide +kernel) (lk_next (by decide +kernel) lk_here)))
theorem fsT_reader : (fsT lf lim fb lb lh pr i bv).lookup ("index_reader" : Str) = some (.ref pr) := lk_next (by decide +kernel) (lk_next (by decide +kernel) (lk_next (by decide +kernel) (lk_next (by decide +kernel) (lk_next (by decide +kernel) lk_here))))
theorem fsT_begun : (fsT lf lim fb lb lh pr i bv).lookup ("begun" : Str) = some (.int (i : Int)) := lk_next (by decide +kernel) (lk_next (by decide +kernel) (lk_next (by decide +kernel) (lk_next (by decide +kernel) (lk_next (by decide +kernel) (lk_next (by decide +kernel) lk_here)))))
theorem fsT_block : (fsT lf lim fb lb lh pr i bv).lookup ("block" : Str) = some bv := lk_next (by decide +kernel) (lk_next (by decide +kernel) (lk_next (by decide +kernel) (lk_next (by decide +kernel) (lk_next (by decide +kernel) (lk_next (by decide +kernel) (lk_next (by decide +kernel) lk_here))))))
theorem fsT_no {m : Str} (h : ∀ x ∈ (["file", "limit", "filter_bytes", "index_block", "handles", "index_reader", "begun", "block"] : List Str), (m == x) = false) : (fsT lf lim fb lb lh pr i bv).lookup m = none :=
  lk_next (h _ (by simp)) (lk_next (h _ (by simp)) (lk_next (h _ (by simp)) (lk_next (h _ (by simp)) (lk_next (h _ (by simp)) (lk_next (h _ (by simp)) (lk_next (h _ (by simp)) (lk_next (h _ (by simp)) lk_nil)))))))
theorem fsT_advance : (fsT lf lim fb lb lh pr i bv).lookup ("advance" : Str) = none := fsT_no (by decide +kernel)
theorem fsT_begin : (fsT lf lim fb lb lh pr i bv).lookup ("begin_block" : Str) = none := fsT_no (by decide +kernel)
theorem fsT_leave : (fsT lf lim fb lb lh pr i bv).lookup ("leave_block" : Str) = none := fsT_no (by decide +kernel)
theorem putT_block {u : V} : putF "block" u (fsT lf lim fb lb lh pr i bv) = fsT lf lim fb lb lh pr i u := by
  unfold fsT
  simp (disch := decide +kernel) only [pf_nil, pf_here, pf_next]
theorem putT_begun {z : Int} {m : Nat} (h : z = (m : Int)) : putF "begun" (.int z) (fsT lf lim fb lb lh pr i bv) = fsT lf lim fb lb lh pr m bv := by
  subst h
  unfold fsT
  simp (disch := decide +kernel) only [pf_nil, pf_here, pf_next]
end
structure TX where
  dx : Addr
  lf : Addr
  lb : Addr
  lh : Addr
  pr : Addr
  ps : List Addr
  fb : V
  fbs : List Addr
  FI : RF
def TX.foot (X : TX) (p : Addr) : List Addr := p :: X.FI.foot X.pr
def TX.stat (X : TX) (p : Addr) : List Addr := p :: X.lb :: X.lh :: (X.ps ++ (X.fbs ++ X.FI.all X.pr))
def FbAt (H : Hp) (v : V) (ls : List Addr) (fb : Option (List Nat)) : Prop := (v = .non ∧ fb = none ∧ ls = []) ∨ ∃ (l : Addr) (c : List Nat), v = .ref l ∧ fb = some c ∧ ls = [l] ∧ H l = some (.lst (vb c)) ∧ isByte c ∧ c.length ≤ 100000
theorem FbAt.mono {H H' : Hp} {v : V} {ls : List Addr} {fb : Option (List Nat)} (h : FbAt H v ls fb) (k : ∀ x ∈ ls, ∀ o, H x = some o → H' x = some o) : FbAt H' v ls fb := by
  rcases h with h | ⟨l, c, h1, h2, h3, h4, h5⟩
  · exact .inl h
  · exact .inr ⟨l, c, h1, h2, h3, k l (by rw [h3]; simp) _ h4, h5⟩
theorem FbAt.lst {H : Hp} {v : V} {ls : List Addr} {fb : Option (List Nat)} (h : FbAt H v ls fb) {x : Addr} (hx : x ∈ ls) : ∃ xs, H x = some (.lst xs) := by
  rcases h with ⟨_, _, h⟩ | ⟨l, c, h1, h2, h3, h4, h5⟩
  · rw [h] at hx
    cases hx
  · rw [h3] at hx
    have : x = l := by simpa using hx
    rw [this]
    exact ⟨_, h4⟩
theorem HsAt.ins {Ch : Addr} {H : Hp} {ps : List Addr} {hs : List (List Nat × Sv13.Handle)} (h : HsAt Ch H ps hs) {x : Addr} (hx : x ∈ ps) : ∃ dh y, H x = some (.ins Ch dh (fsH y)) := by
  obtain ⟨i, hi, ei⟩ := List.mem_iff_getElem.mp hx
  have hi2 : i < hs.length := by rw [← h.1]; exact hi
  obtain ⟨dd, q⟩ := h.2 i x hs[i] (by rw [List.getElem?_eq_getElem hi, ei]) (List.getElem?_eq_getElem hi2)
  exact ⟨dd, _, q⟩
theorem ins_len {C C' dx dx' : Addr} {fs fs' : List (Str × V)} (h : fs.length ≠ fs'.length) : HO.ins C dx fs ≠ HO.ins C' dx' fs' := by
  intro z
  injection z with _ _ z
  exact h (congrArg List.length z)
def prevK (hs : List (List Nat × Sv13.Handle)) : Nat → Option (List Nat)
  | 0 => none
  | j + 1 => (hs[j]?).map fun x => x.1
structure TB (K : Frag) (Ct C Cs Ch : Addr) (H : Hp) (p : Addr) (X : TX) (t ci : List Nat) (hs : List (List Nat × Sv13.Handle)) (fb : Option (List Nat)) (bi : My.BR) (j i : Nat) (bv : V) (S : List Addr) : Prop where
  ob : H p = some (.ins Ct X.dx (fsT X.lf (t.length - 48) X.fb X.lb X.lh X.pr i bv))
  ft : SqO K (X.foot p ++ S) H X.lf (vb t)
  bo : H X.lb = some (.lst (vb ci))
  ho : H X.lh = some (.lst (X.ps.map V.ref))
  hp : HsAt Ch H X.ps hs
  fo : FbAt H X.fb X.fbs fb
  ri : RAt K C Cs H X.pr X.FI ci bi
  lc : X.FI.lc = X.lb
  nk : ∀ x ∈ X.lb :: X.lh :: X.fbs, x ≠ X.FI.lk
  dS : ∀ x ∈ S, x ∉ X.stat p
  byt : isByte t
  sz : t.length ≤ 100000
  ge : 48 ≤ t.length
  hl : hs.length ≤ 100000
  ix : ∃ es, bi.rest = some es ∧ (es.map fun e => e.1) = (hs.drop j).map fun e => e.1
  pk : 0 < j → prevK hs j = some bi.key
section
variable {Ct C Cs Ch : Addr} {H H' : Hp} {p : Addr} {X : TX} {t ci : List Nat} {hs : List (List Nat × Sv13.Handle)} {fb : Option (List Nat)} {bi : My.BR} {j i : Nat} {bv : V} {S : List Addr}
theorem TB.isS (T : TB K Ct C Cs Ch H p X t ci hs fb bi j i bv S) {x : Addr} (hx : x ∈ X.stat p) : H x ≠ none := by
  have h : x = p ∨ x = X.lb ∨ x = X.lh ∨ x ∈ X.ps ∨ x ∈ X.fbs ∨ x ∈ X.FI.all X.pr := by simpa [TX.stat] using hx
  rcases h with rfl | rfl | rfl | h | h | h
  · rw [T.ob]; simp
  · rw [T.bo]; simp
  · rw [T.ho]; simp
  · obtain ⟨_, _, q⟩ := T.hp.ins h
    rw [q]; simp
  · obtain ⟨_, q⟩ := T.fo.lst h
    rw [q]; simp
  · have h : x = X.pr ∨ x = X.FI.ls ∨ x = X.FI.lk ∨ x = X.FI.lr ∨ x = X.FI.lv := by simpa [RF.all] using h
    rcases h with rfl | rfl | rfl | rfl | rfl
    · rw [T.ri.ob]; simp
    · rw [T.ri.sc]; simp
    · rw [T.ri.ky]; simp
    · rw [T.ri.rs]; simp
    · rw [T.ri.vl]; simp
theorem foot_stat {x : Addr} (hx : x ∈ X.foot p) : x ∈ X.stat p := by
  have h : x = p ∨ x = X.pr ∨ x = X.FI.ls ∨ x = X.FI.lk := by simpa [TX.foot, RF.foot] using hx
  simp only [TX.stat, RF.all, List.mem_cons, List.mem_append]
  rcases h with h | h | h | h <;> simp [h]
theorem SqO.less {T : List Addr} {a : Addr} {xs : List V} (h : SqO K S H a xs) (n : ∀ x ∈ T, x ∈ S) : SqO K T H a xs := h.more fun x hx => .inl (n x hx)
theorem TB.out (T : TB K Ct C Cs Ch H p X t ci hs fb bi j i bv S) {U : List Addr} (hU : ∀ x ∈ U, x ∉ X.stat p) (hf : SqO K U H X.lf (vb t)) (k : KB U H H') : TB K Ct C Cs Ch H' p X t ci hs fb bi j i bv S := by
  have m : ∀ {x o}, x ∈ X.stat p → H x = some o → H' x = some o := fun hx e => k _ _ e fun z => hU _ z hx
  refine ⟨m (by simp [TX.stat]) T.ob, ?_, m (by simp [TX.stat]) T.bo, m (by simp [TX.stat]) T.ho, T.hp.mono fun x hx o e => m (by simp [TX.stat, hx]) e, T.fo.mono fun x hx o e => m (by simp [TX.stat, hx]) e, ?_, T.lc, T.nk, T.dS, T.byt, T.sz, T.ge, T.hl, T.ix, T.pk⟩
  · rcases T.ft with ⟨h, n⟩ | h
    · rcases hf with ⟨h2, n2⟩ | h2
      · refine .inl ⟨?_, n⟩
        rcases h2 with h2 | ⟨o, h2⟩
        · exact .inl (k _ _ h2 n2)
        · exact .inr ⟨o, k _ _ h2 n2⟩
      · exact .inr h2
    · exact .inr h
  · refine T.ri.kbT (T := U) (fun x hx z => hU x z (by simp only [TX.stat, List.mem_cons, List.mem_append]; simp [hx])) ?_ k
    rw [T.lc]
    exact SqO.lst T.bo fun z => hU _ z (by simp [TX.stat])
theorem TB.same (T : TB K Ct C Cs Ch H p X t ci hs fb bi j i bv S) (k : Same H H') : TB K Ct C Cs Ch H' p X t ci hs fb bi j i bv S := T.out (U := []) (fun x hx => nomatch hx) (T.ft.less fun x hx => nomatch hx) (KB.of k)
theorem TB.keep (T : TB K Ct C Cs Ch H p X t ci hs fb bi j i bv S) (k : KB S H H') : TB K Ct C Cs Ch H' p X t ci hs fb bi j i bv S := T.out T.dS (T.ft.less fun x hx => List.mem_append_right _ hx) k
theorem TB.bare (T : TB K Ct C Cs Ch H p X t ci hs fb bi j i bv S) : TB K Ct C Cs Ch H p X t ci hs fb bi j i bv [] :=
  ⟨T.ob, T.ft.less fun x hx => by rw [List.append_nil] at hx; exact List.mem_append_left _ hx, T.bo, T.ho, T.hp, T.fo, T.ri, T.lc, T.nk, (fun x hx => nomatch hx), T.byt, T.sz, T.ge, T.hl, T.ix, T.pk⟩
theorem TB.grow (T : TB K Ct C Cs Ch H p X t ci hs fb bi j i bv []) (h : ∀ x ∈ S, H x = Option.none) (k : Same H H') : TB K Ct C Cs Ch H' p X t ci hs fb bi j i bv S := by
  have T' := T.same k
  refine ⟨T'.ob, ?_, T'.bo, T'.ho, T'.hp, T'.fo, T'.ri, T'.lc, T'.nk, fun x hx z => T.isS z (h x hx), T'.byt, T'.sz, T'.ge, T'.hl, T'.ix, T'.pk⟩
  refine SqO.same (SqO.more T.ft fun x hx => ?_) k
  rcases List.mem_append.mp hx with q | q
  · exact .inl (List.mem_append_left _ q)
  · exact .inr (.inl (h x q))
theorem TB.np (T : TB K Ct C Cs Ch H p X t ci hs fb bi j i bv S) : p ∉ X.lb :: X.lh :: (X.ps ++ (X.fbs ++ X.FI.all X.pr)) := by
  intro z
  have h : p = X.lb ∨ p = X.lh ∨ p ∈ X.ps ∨ p ∈ X.fbs ∨ p ∈ X.FI.all X.pr := by simpa using z
  rcases h with h | h | h | h | h
  · exact ne_of T.ob T.bo (by intro z; cases z) h
  · exact ne_of T.ob T.ho (by intro z; cases z) h
  · obtain ⟨_, _, q⟩ := T.hp.ins h
    exact ne_of T.ob q (ins_len (by simp [fsT, fsH])) rfl
  · obtain ⟨_, q⟩ := T.fo.lst h
    exact ne_of T.ob q (by intro z; cases z) rfl
  · have h : p = X.pr ∨ p = X.FI.ls ∨ p = X.FI.lk ∨ p = X.FI.lr ∨ p = X.FI.lv := by simpa [RF.all] using h
    rcases h with h | h | h | h | h
    · exact ne_of T.ob T.ri.ob (ins_len (by simp [fsT, fsR])) h
    · exact ne_of T.ob T.ri.sc (ins_len (by simp [fsT, fsS])) h
    · exact ne_of T.ob T.ri.ky (by intro z; cases z) h
    · exact ne_of T.ob T.ri.rs (by intro z; cases z) h
    · exact ne_of T.ob T.ri.vl (by intro z; cases z) h
theorem TB.obj (T : TB K Ct C Cs Ch H p X t ci hs fb bi j i bv S) (i' : Nat) (bv' : V) : TB K Ct C Cs Ch (upd H p (.ins Ct X.dx (fsT X.lf (t.length - 48) X.fb X.lb X.lh X.pr i' bv'))) p X t ci hs fb bi j i' bv' S := by
  have np := T.np
  have m : ∀ {x o}, x ∈ X.lb :: X.lh :: (X.ps ++ (X.fbs ++ X.FI.all X.pr)) → H x = Option.some o → (upd H p (.ins Ct X.dx (fsT X.lf (t.length - 48) X.fb X.lb X.lh X.pr i' bv'))) x = Option.some o := fun {x o} hx e => by
    have : x ≠ p := fun z => np (by rw [← z]; exact hx)
    rw [upd_ne this]
    exact e
  refine ⟨upd_same, T.ft.kb (KB.upd (KB.refl _ _) (by simp [TX.foot])), m (by simp) T.bo, m (by simp) T.ho, T.hp.mono fun x hx o e => m (by simp [hx]) e, T.fo.mono fun x hx o e => m (by simp [hx]) e, ?_, T.lc, T.nk, T.dS, T.byt, T.sz, T.ge, T.hl, T.ix, T.pk⟩
  refine T.ri.kbT (T := [p]) (fun x hx z => ?_) ?_ (KB.upd (KB.refl _ _) (by simp))
  · have : x = p := by simpa using z
    subst this
    exact np (by simp [hx])
  · rw [T.lc]
    exact SqO.lst T.bo fun z => np (by have : X.lb = p := by simpa using z
                                       rw [← this]; simp)
theorem TB.idx (T : TB K Ct C Cs Ch H p X t ci hs fb bi j i bv S) {lv : Addr} {bi' : My.BR} {j' : Nat} (R : RAt K C Cs H' X.pr { X.FI with lv := lv } ci bi') (k : KB (X.FI.foot X.pr) H H') (ix : ∃ es, bi'.rest = Option.some es ∧ (es.map fun e => e.1) = (hs.drop j').map fun e => e.1) (pk : 0 < j' → prevK hs j' = Option.some bi'.key) :
    TB K Ct C Cs Ch H' p { X with FI := { X.FI with lv := lv } } t ci hs fb bi' j' i bv [] := by
  have m : ∀ {x o}, x ≠ X.FI.lk → x ≠ X.pr → x ≠ X.FI.ls → H x = Option.some o → H' x = Option.some o := fun {x o} n1 n2 n3 e => k _ _ e (by simp [RF.foot, n1, n2, n3])
  have l1 : ∀ {x xs}, H x = Option.some (.lst xs) → x ≠ X.pr := fun e z => by rw [z, T.ri.ob] at e; cases e
  have l2 : ∀ {x xs}, H x = Option.some (.lst xs) → x ≠ X.FI.ls := fun e z => by rw [z, T.ri.sc] at e; cases e
  refine ⟨?_, ?_, ?_, ?_, ?_, ?_, R, T.lc, T.nk, (fun x hx => nomatch hx), T.byt, T.sz, T.ge, T.hl, ix, pk⟩
  · exact m (ne_of T.ob T.ri.ky (by intro z; cases z)) (ne_of T.ob T.ri.ob (ins_len (by simp [fsT, fsR]))) (ne_of T.ob T.ri.sc (ins_len (by simp [fsT, fsS]))) T.ob
  · refine SqO.kb (T.ft.less fun x hx => ?_) (k.mono fun x hx => ?_)
    · rw [List.append_nil] at hx
      exact List.mem_append_left _ hx
    · rw [List.append_nil]
      exact List.mem_cons_of_mem _ hx
  · exact m (T.nk _ (by simp)) (l1 T.bo) (l2 T.bo) T.bo
  · exact m (T.nk _ (by simp)) (l1 T.ho) (l2 T.ho) T.ho
  · refine T.hp.mono fun x hx o e => ?_
    obtain ⟨_, _, q⟩ := T.hp.ins hx
    exact m (ne_of q T.ri.ky (by intro z; cases z)) (ne_of q T.ri.ob (ins_len (by simp [fsH, fsR]))) (ne_of q T.ri.sc (ins_len (by simp [fsH, fsS]))) e
  · refine T.fo.mono fun x hx o e => ?_
    obtain ⟨_, q⟩ := T.fo.lst hx
    exact m (T.nk _ (by simp [hx])) (l1 q) (l2 q) e
end
structure TM (K : Frag) (Ct C Cs Ch : Addr) (H : Hp) (p : Addr) (X : TX) (t ci : List Nat) (hs : List (List Nat × Sv13.Handle)) (fb : Option (List Nat)) (bi : My.BR) (pb : Addr) (FB : RF) (c : List Nat) (b : My.BR) (j i : Nat) : Prop where
  tb : TB K Ct C Cs Ch H p X t ci hs fb bi j i (.ref pb) (FB.foot pb)
  rb : RAt K C Cs H pb FB c b
  lc : H FB.lc = some (.lst (vb c))
  nl : FB.lc ≠ FB.lk
  d2 : ∀ x ∈ X.foot p, x ∉ FB.lc :: FB.all pb
  jl : j < hs.length
section
variable {Ct C Cs Ch : Addr} {H H' : Hp} {p : Addr} {X : TX} {t ci : List Nat} {hs : List (List Nat × Sv13.Handle)} {fb : Option (List Nat)} {bi : My.BR} {j i : Nat} {pb : Addr} {FB : RF} {c : List Nat} {b : My.BR}
theorem TM.adv (T : TM K Ct C Cs Ch H p X t ci hs fb bi pb FB c b j i) {lv : Addr} {b' : My.BR} (R : RAt K C Cs H' pb { FB with lv := lv } c b') (k : KB (FB.foot pb) H H') (hlv : H lv = none) : TM K Ct C Cs Ch H' p X t ci hs fb bi pb { FB with lv := lv } c b' j i := by
  refine ⟨T.tb.keep k, R, k _ _ T.lc ?_, T.nl, fun x hx z => ?_, T.jl⟩
  · have n1 : FB.lc ≠ pb := ne_of T.lc T.rb.ob (by intro z; cases z)
    have n2 : FB.lc ≠ FB.ls := ne_of T.lc T.rb.sc (by intro z; cases z)
    simp [RF.foot, n1, n2, T.nl]
  · have z : x = FB.lc ∨ x = pb ∨ x = FB.ls ∨ x = FB.lk ∨ x = FB.lr ∨ x = lv := by simpa [RF.all] using z
    have q := T.d2 x hx
    have q : x ≠ FB.lc ∧ x ≠ pb ∧ x ≠ FB.ls ∧ x ≠ FB.lk ∧ x ≠ FB.lr ∧ x ≠ FB.lv := by simpa [RF.all] using q
    rcases z with z | z | z | z | z | z
    · exact q.1 z
    · exact q.2.1 z
    · exact q.2.2.1 z
    · exact q.2.2.2.1 z
    · exact q.2.2.2.2.1 z
    · rw [z] at hx
      exact T.tb.isS (foot_stat hx) hlv
theorem TM.obj (T : TM K Ct C Cs Ch H p X t ci hs fb bi pb FB c b j i) (i' : Nat) : TM K Ct C Cs Ch (upd H p (.ins Ct X.dx (fsT X.lf (t.length - 48) X.fb X.lb X.lh X.pr i' (.ref pb)))) p X t ci hs fb bi pb FB c b j i' := by
  have q := T.d2 p (by simp [TX.foot])
  have n : FB.lc ≠ p := fun z => q (by rw [← z]; simp)
  refine ⟨T.tb.obj i' _, T.rb.kbT (T := [p]) (fun x hx z => ?_) (SqO.lst T.lc (by simp; exact n)) (KB.upd (KB.refl _ _) (by simp)), ?_, T.nl, T.d2, T.jl⟩
  · have : x = p := by simpa using z
    subst this
    exact q (List.mem_cons_of_mem _ hx)
  · rw [upd_ne n]
    exact T.lc
end
end
end KL
set_option Elab.async false
set_option linter.all false
set_option maxRecDepth 100000
namespace KL
open PySem PySem.W PyProof.Rows L2
section
variable {P : Program} {w : World} {K : Frag} {mg : Str → Option Value} {base : Heap}
theorem drop_cons {α : Type} {l : List α} {j : Nat} {x : α} (h : l[j]? = some x) : l.drop j = x :: l.drop (j + 1) := by
  obtain ⟨hj, e⟩ := List.getElem?_eq_some_iff.mp h
  rw [List.drop_eq_getElem_cons hj, e]
def sp_leave_k1 (K : Frag) (Ct C Cs Ch : Addr) (p : Addr) (X : TX) (t ci : List Nat) (hs : List (List Nat × Sv13.Handle)) (fb : Option (List Nat)) (pb : Addr) (b : My.BR) (j : Nat) (ik : List Nat) (H : Hp) (Q : VK) : Prop := (Sv13.before ik b.key = false → ∀ (X' : TX) (bi' : My.BR) (H' : Hp), TB K Ct C Cs Ch H' p X' t ci hs fb bi' (j + 1) (j + 1) (.ref pb) [] → X'.foot p = X.foot p → KB (X.foot p) H H' → Q .non H')
def sp_leave (K : Frag) (Ct C Cs Ch CN : Addr) : Sp := fun vs H Q E => ∃ (p : Addr) (X : TX) (t ci : List Nat) (hs : List (List Nat × Sv13.Handle)) (fb : Option (List Nat)) (bi : My.BR) (pb : Addr) (FB : RF) (c : List Nat) (b : My.BR) (j : Nat) (ik : List Nat) (h : Sv13.Handle), vs = [.ref p] ∧ TM K Ct C Cs Ch H p X t ci hs fb bi pb FB c b j (j + 1) ∧ hs[j]? = some (ik, h) ∧ (Sv13.before ik b.key = true → Bad CN E) ∧ sp_leave_k1 K Ct C Cs Ch p X t ci hs fb pb b j ik H Q
theorem sc_Table_leave_block : FnScope ["self"] ["self"] (defScope s_Table_leave_block) := ⟨rfl, rfl, rfl, by decide +kernel, rfl, by decide +kernel, by decide +kernel⟩
theorem mx_leave {Ct C Cs Ch CN : Addr} (D : MethAt K Ct "leave_block" "Table.leave_block" s_Table_leave_block) (T : TableCls K Ct) (TR : BlockReaderCls K C) (O : ExcAt K mg "NoTable" CN) (M_advance : Mtxe P w K mg base C "advance" 3 ["self"] (sp_adv K C Cs CN)) :
    Mtxe P w K mg base Ct "leave_block" 4 ["self"] (sp_leave K Ct C Cs Ch CN) := by
  refine D.mxe T.cl sc_Table_leave_block (fun _ _ _ _ _ _ us hl => by obtain ⟨_, rfl⟩ := ln1 hl; rfl) (fun vs H Q E h => ?_) (fun f cdv A outer s H vs Q E hr h => ?_)
  · obtain ⟨p, X, t, ci, hs, fb, bi, pb, FB, c, b, j, ik, h, rfl, _⟩ := h
    rfl
  · obtain ⟨p, X, t, ci, hs, fb, bi, pb, FB, c, b, j, ik, h, rfl, M, hj, hbad, hok⟩ := h
    refine ⟨_, (pss_cons (ps_expr (pe_mte0 (pe_fld (pv 0) rfl) M_advance (hr.mono (by decide)) passX))
      (pss_one (ps_if (pt_cmpR (op_ltL hr.units0) (pe_fld (pe_fld (pv 0) rfl) rfl) (pe_fld (pe_fld (pv 0) rfl) rfl) (nomark _)) (pss_one (ps_raise bodyX O rfl)) pss_nil))), ?_⟩
    try dsimp only [cxOf]
    have B := M.tb
    obtain ⟨es, he, hes⟩ := B.ix
    rw [drop_cons hj] at hes
    cases es with
    | nil => cases hes
    | cons e es =>
      have h1 : e.1 = ik := (List.cons.inj hes).1
      have h2 : (es.map fun e => e.1) = (hs.drop (j + 1)).map fun e => e.1 := (List.cons.inj hes).2
      refine ⟨_, rfl, rfd B.ob T.cl T.nR fsT_reader (rmt B.ri.ob fsR_advance ⟨X.pr, X.FI, ci, bi, rfl, B.ri, (fun hn => by rw [My.BR.rest_none hn] at he; cases he), (fun hn => by rw [My.BR.rest_end hn] at he; cases he), fun bi' hb lv H1 R1 k1 hlv => ?_⟩)⟩
      rw [My.BR.rest_step B.ri.pl hb] at he
      have hq : bi'.rest = some es ∧ bi'.key = ik := by
        cases hr : bi'.rest with
        | none => rw [hr] at he; cases he
        | some l =>
          rw [hr] at he
          injection he with he
          injection he with e1 e2
          rw [← e1] at h1
          exact ⟨by rw [e2], h1⟩
      have B1 := B.idx (j' := j + 1) R1 k1 ⟨es, hq.1, h2⟩ (fun _ => by show (hs[j]?).map _ = _; rw [hj, hq.2]; rfl)
      have hm : ∀ {x o}, x ∈ FB.all pb → H x = some o → H1 x = some o := fun {x o} hx e => k1 _ _ e fun z => M.d2 x (List.mem_cons_of_mem _ z) (List.mem_cons_of_mem _ hx)
      refine ⟨_, rfl, rfd B1.ob T.cl T.nR fsT_reader (rfd R1.ob TR.cl TR.nK fsR_key ⟨_, rfl, rfd B1.ob T.cl T.nK fsT_block (rfd (hm (by simp [RF.all]) M.rb.ob) TR.cl TR.nK fsR_key (rd_lt (SqL.of R1.ky) (SqL.of (hm (by simp [RF.all]) M.rb.ky)) ⟨_, rfl, ?_⟩))⟩)⟩
      rw [hq.2]
      cases hbf : Sv13.before ik b.key with
      | true => exact iteT (hbad hbf _)
      | false => exact iteF (hok hbf _ bi' H1 B1 rfl (k1.mono fun x hx => List.mem_cons_of_mem _ hx))
def sp_begin_k1 (K : Frag) (Ct C Cs Ch : Addr) (p : Addr) (X : TX) (t ci : List Nat) (hs : List (List Nat × Sv13.Handle)) (fb : Option (List Nat)) (bi : My.BR) (j : Nat) (ik : List Nat) (H : Hp) (Q : VK) : Prop := (∀ (pb : Addr) (FB : RF) (c : List Nat) (b : My.BR) (H' : Hp), TM K Ct C Cs Ch H' p X t ci hs fb bi pb FB c b j (j + 1) → My.restFrom t (prevK hs j) (hs.drop j) = (My.midRest (My.restFrom t (some ik) (hs.drop (j + 1))) b ik).map (fun es => (b.key, b.val) :: es) → KB [p] H H' → (∀ x ∈ FB.foot pb, H x = none) → Q .non H')
def sp_begin (K : Frag) (Ct C Cs Ch CN : Addr) : Sp := fun vs H Q E => ∃ (p : Addr) (X : TX) (t ci : List Nat) (hs : List (List Nat × Sv13.Handle)) (fb : Option (List Nat)) (bi : My.BR) (bv : V) (j : Nat) (ik : List Nat) (h : Sv13.Handle), vs = [.ref p] ∧ TB K Ct C Cs Ch H p X t ci hs fb bi j j bv [] ∧ hs[j]? = some (ik, h) ∧ (My.restFrom t (prevK hs j) (hs.drop j) = none → Bad CN E) ∧ sp_begin_k1 K Ct C Cs Ch p X t ci hs fb bi j ik H Q
theorem sc_Table_begin_block : FnScope ["self"] ["self"] (defScope s_Table_begin_block) := ⟨rfl, rfl, rfl, by decide +kernel, rfl, by decide +kernel, by decide +kernel⟩
theorem mx_begin {Ct C Cs Ch CN : Addr} (D : MethAt K Ct "begin_block" "Table.begin_block" s_Table_begin_block) (T : TableCls K Ct) (TR : BlockReaderCls K C) (O : ExcAt K mg "NoTable" CN) (F_content_at : Fxe P w K mg base "content_at" 3 ["file", "end", "handle"] (sp_content_at K Ch CN))
    (M_BlockReader : Mkxe P w K mg base "BlockReader" C 3 ["self", "block"] (sp_BlockReader_init K C Cs CN)) (M_advance : Mtxe P w K mg base C "advance" 3 ["self"] (sp_adv K C Cs CN)) :
    Mtxe P w K mg base Ct "begin_block" 5 ["self"] (sp_begin K Ct C Cs Ch CN) := by
  refine D.mxe T.cl sc_Table_begin_block (fun _ _ _ _ _ _ us hl => by obtain ⟨_, rfl⟩ := ln1 hl; rfl) (fun vs H Q E h => ?_) (fun f cdv A outer s H vs Q E hr h => ?_)
  · obtain ⟨p, X, t, ci, hs, fb, bi, bv, j, ik, h, rfl, _⟩ := h
    rfl
  · obtain ⟨p, X, t, ci, hs, fb, bi, bv, j, ik, h, rfl, B, hj, hbad, hok⟩ := h
    try dsimp only [sp_begin_k1] at hok
    refine ⟨_, (pss_cons (ps_fld (pv 0) (pe_mxe M_BlockReader (hr.mono (by decide)) rfl passX (pa_cons (pe_fxe F_content_at (hr.mono (by decide)) rfl passX (pa_cons (pe_fld (pv 0) rfl) (pa_cons (pe_fld (pv 0) rfl) (pa_cons (pe_ix ix_list (pe_fld (pv 0) rfl) (pe_fld (pv 0) rfl) (fun _ _ => rfl)) pa_nil)))) pa_nil)) rfl)
      (pss_cons (ps_if (pt_not (pt_val (pe_mte0 (pe_fld (pv 0) rfl) M_advance (hr.mono (by decide)) passX))) (pss_one (ps_raise bodyX O rfl)) pss_nil)
      (pss_cons (ps_if (PW.pt (pw_and (pt_cmpR op_gt (pe_fld (pv 0) rfl) pe_int (nomark _)) (pw_and1 (pt_cmpR (op_leL hr.units0) (pe_fld (pe_fld (pv 0) rfl) rfl) (pe_fld (pe_fld (pv 0) rfl) rfl) (nomark _))))) (pss_one (ps_raise bodyX O rfl)) pss_nil)
      (pss_one (ps_fldaug (pv 0) pe_int in_add))))), ?_⟩
    try dsimp only [cxOf]
    have hjl : j < hs.length := by
      obtain ⟨q, _⟩ := List.getElem?_eq_some_iff.mp hj
      exact q
    have hjp : j < X.ps.length := by rw [B.hp.1]; exact hjl
    obtain ⟨dh, hph⟩ := B.hp.2 j X.ps[j] (ik, h) (List.getElem?_eq_getElem hjp) hj
    have eR : My.restFrom t (prevK hs j) (hs.drop j) = (Sv13.blockAt t h).bind fun c => (My.BR.new c).bind fun b => match b.adv with
        | some (some b1) => if My.prevOk (prevK hs j) b1.key = true then (My.midRest (My.restFrom t (some ik) (hs.drop (j + 1))) b1 ik).map fun es => (b1.key, b1.val) :: es else none
        | _ => none := by
      rw [drop_cons hj]
      conv => lhs; unfold My.restFrom
      try rfl
    generalize My.restFrom t (prevK hs j) (hs.drop j) = RR at eR hbad hok
    generalize My.restFrom t (some ik) (hs.drop (j + 1)) = R1 at eR hok
    have hge := B.ge
    refine ⟨_, rfl, rfd B.ob T.cl T.nF fsT_file ⟨_, rfl, rfd B.ob T.cl T.nL fsT_limit ⟨_, rfl, rfd B.ob T.cl T.nH fsT_handles ⟨_, rfl, rfd B.ob T.cl T.nG fsT_begun ⟨X.lh, _, _, V.ref X.ps[j], rfl, rfl, SqL.of B.ho, ?_, X.lf, t, t.length - 48, X.ps[j], dh, h, rfl, B.ft.sq, B.byt, by omega, B.sz, hph, fun hn => hbad (by rw [eR, hn]; rfl), fun c hc hcb hcz lc H1 s1 hlc h1 => ?_⟩⟩⟩⟩⟩
    · refine atI_nat ?_
      rw [List.getElem?_map, List.getElem?_eq_getElem hjp]
      rfl
    rw [hc] at eR
    simp only [Option.bind_some] at eR
    refine fun pb dxb hp hdx hne => ?_
    refine ⟨pb, dxb, lc, c, rfl, upd_same, made_sq hp hdx (SqL.of h1), hcb, hcz, fun hn => hbad (by rw [eR, hn]; rfl), fun b hb FB H2 hF R k2 hls hlk hlr hlv => ⟨rfl, ?_⟩⟩
    rw [hb] at eR
    simp only [Option.bind_some] at eR
    have s2 : Same H1 H2 := made_same hp hdx k2
    have hls1 := made_free hls
    have hlk1 := made_free hlk
    have hlr1 := made_free hlr
    have hlv1 := made_free hlv
    have foot1 : ∀ x ∈ FB.foot pb, H1 x = none := by
      intro x hx
      simp [RF.foot] at hx
      rcases hx with rfl | rfl | rfl
      · exact hp
      · exact hls1
      · exact hlk1
    have B2 : TB K Ct C Cs Ch H2 p X t ci hs fb bi j j bv (FB.foot pb) := (B.same s1).grow foot1 s2
    have hlc2 : H2 FB.lc = some (.lst (vb c)) := by rw [hF]; exact s2 _ _ h1
    have M2 : TM K Ct C Cs Ch (upd H2 p (.ins Ct X.dx (fsT X.lf (t.length - 48) X.fb X.lb X.lh X.pr j (.ref pb)))) p X t ci hs fb bi pb FB c b j j := by
      have B1 := B.same s1
      have hall : ∀ x ∈ X.foot p, x ∉ FB.lc :: FB.all pb := by
        intro x hx z
        have z : x = FB.lc ∨ x = pb ∨ x = FB.ls ∨ x = FB.lk ∨ x = FB.lr ∨ x = FB.lv := by simpa [RF.all] using z
        have q0 := B.isS (foot_stat hx)
        have q1 := B1.isS (foot_stat hx)
        rcases z with z | z | z | z | z | z
        · rw [z, hF] at q0; exact q0 hlc
        · rw [z] at q1; exact q1 hp
        · rw [z] at q1; exact q1 hls1
        · rw [z] at q1; exact q1 hlk1
        · rw [z] at q1; exact q1 hlr1
        · rw [z] at q1; exact q1 hlv1
      have q := hall p (by simp [TX.foot])
      have n : FB.lc ≠ p := fun z => q (by rw [← z]; simp)
      refine ⟨B2.obj j _, R.kbT (T := [p]) (fun x hx z => ?_) (SqO.lst hlc2 (by simp; exact n)) (KB.upd (KB.refl _ _) (by simp)), ?_, ?_, hall, hjl⟩
      · have : x = p := by simpa using z
        subst this
        exact q (List.mem_cons_of_mem _ hx)
      · rw [upd_ne n]
        exact hlc2
      · rw [hF]
        exact ne_of_none h1 hlk1
    refine ⟨_, rfl, rfs B2.ob T.cl T.nK (by show 8 < 1000; decide) ?_⟩
    rw [putT_block]
    have k3 : KB [p] H (upd H2 p (.ins Ct X.dx (fsT X.lf (t.length - 48) X.fb X.lb X.lh X.pr j (.ref pb)))) := KB.upd (KB.of (s1.trans s2)) (by simp)
    have foot0 : ∀ x ∈ FB.foot pb, H x = none := fun x hx => s1.free (foot1 x hx)
    generalize upd H2 p (.ins Ct X.dx (fsT X.lf (t.length - 48) X.fb X.lb X.lh X.pr j (.ref pb))) = H3 at M2 k3
    refine ⟨_, rfl, rfd M2.tb.ob T.cl T.nK fsT_block (rmt M2.rb.ob fsR_advance ⟨pb, FB, c, b, rfl, M2.rb, fun hn => hbad (by rw [eR, hn]), fun he => ⟨_, rfl, iteT (hbad (by rw [eR, he]) _)⟩, fun b1 hb1 lv H4 R4 k4 hlv4 => ⟨_, rfl, iteF ?_⟩⟩)⟩
    rw [hb1] at eR
    simp only at eR
    have M4 := M2.adv R4 k4 hlv4
    have k4' : KB [p] H H4 := fun x o e n => k4 x o (k3 x o e n) fun z => by rw [foot0 x z] at e; cases e
    unfold tNext
    dsimp only
    refine seq_cut (t := tIfS _ _ _) (fun σ' H' => σ' = [some (.ref p)] ∧ H' = H4 ∧ My.prevOk (prevK hs j) b1.key = true) ?_ fun rest => ?_
    · rintro σ' H' ⟨rfl, rfl, hpo⟩
      refine ⟨_, rfl, rfd M4.tb.ob T.cl T.nG fsT_begun ⟨_, _, rfl, rfl, X.dx, _, M4.tb.ob, (by show 8 < 1000; decide), ?_⟩⟩
      rw [putT_begun (m := j + 1) (by omega)]
      exact hok pb _ c b1 _ (M4.obj (j + 1)) (by rw [eR, if_pos hpo]) (KB.upd k4' (by simp)) foot0
    · refine ⟨_, rfl, rfd M4.tb.ob T.cl T.nG fsT_begun ⟨_, _, rfl, rfl, _, rfl, ?_⟩⟩
      by_cases hj0 : 0 < j
      · rw [decide_eq_true (by omega)]
        refine iteT ?_
        have hpk := M4.tb.pk hj0
        rw [hpk] at eR rest
        refine ⟨_, rfl, rfd M4.tb.ob T.cl T.nK fsT_block (rfd M4.rb.ob TR.cl TR.nK fsR_key ⟨_, rfl, rfd M4.tb.ob T.cl T.nR fsT_reader (rfd M4.tb.ri.ob TR.cl TR.nK fsR_key (rd_le (SqL.of M4.rb.ky) (SqL.of M4.tb.ri.ky) ⟨_, rfl, ?_⟩))⟩)⟩
        cases hbf : Sv13.before bi.key b1.key with
        | true =>
          refine iteF (rest _ H4 ⟨rfl, rfl, hbf⟩)
        | false =>
          refine iteT (hbad ?_ _)
          rw [eR, if_neg]
          intro z
          have z : Sv13.before bi.key b1.key = true := z
          rw [hbf] at z
          cases z
      · rw [decide_eq_false (by omega)]
        refine iteF (rest _ H4 ⟨rfl, rfl, ?_⟩)
        have : j = 0 := by omega
        rw [this]
        rfl
def oFoot : Option (Addr × RF × List Nat × My.BR) → List Addr
  | none => []
  | some x => x.2.1.foot x.1
def tRest (t : List Nat) (hs : List (List Nat × Sv13.Handle)) (j : Nat) : Option (Addr × RF × List Nat × My.BR) → Option (List Sv13.Entry)
  | none => My.restFrom t none hs
  | some x => (hs[j]?).bind fun ih => My.midRest (My.restFrom t (some ih.1) (hs.drop (j + 1))) x.2.2.2 ih.1
def tMs (hs : List (List Nat × Sv13.Handle)) (j : Nat) : Option (Addr × RF × List Nat × My.BR) → Nat
  | none => hs.length * 200001 + 200000
  | some x => (hs.length - j) * 200001 + (x.2.2.2.body.length - x.2.2.2.p)
def TS (K : Frag) (Ct C Cs Ch : Addr) (H : Hp) (p : Addr) (X : TX) (t ci : List Nat) (hs : List (List Nat × Sv13.Handle)) (fb : Option (List Nat)) (bi : My.BR) (j : Nat) : Option (Addr × RF × List Nat × My.BR) → Prop
  | none => j = 0 ∧ TB K Ct C Cs Ch H p X t ci hs fb bi 0 0 .non []
  | some x => TM K Ct C Cs Ch H p X t ci hs fb bi x.1 x.2.1 x.2.2.1 x.2.2.2 j (j + 1)
def sp_tadv_k1 (K : Frag) (Ct C Cs Ch : Addr) (p : Addr) (X : TX) (t ci : List Nat) (hs : List (List Nat × Sv13.Handle)) (fb : Option (List Nat)) (j : Nat) (o : Option (Addr × RF × List Nat × My.BR)) (H : Hp) (Q : VK) : Prop := (tRest t hs j o = some [] → ∀ (X' : TX) (bi' : My.BR) (j' i' : Nat) (bv' : V) (H' : Hp), TB K Ct C Cs Ch H' p X' t ci hs fb bi' j' i' bv' [] → KB (X.foot p ++ oFoot o) H H' → Q (.bl false) H')
def sp_tadv_k2 (K : Frag) (Ct C Cs Ch : Addr) (p : Addr) (X : TX) (t ci : List Nat) (hs : List (List Nat × Sv13.Handle)) (fb : Option (List Nat)) (j : Nat) (o : Option (Addr × RF × List Nat × My.BR)) (H : Hp) (Q : VK) : Prop := (∀ (X' : TX) (bi' : My.BR) (j' : Nat) (pb : Addr) (FB : RF) (c : List Nat) (b : My.BR) (H' : Hp), TM K Ct C Cs Ch H' p X' t ci hs fb bi' pb FB c b j' (j' + 1) → tRest t hs j o = (tRest t hs j' (some (pb, FB, c, b))).map (fun es => (b.key, b.val) :: es) → tMs hs j' (some (pb, FB, c, b)) < tMs hs j o → KB (X.foot p ++ oFoot o) H H' → X'.foot p = X.foot p → (∀ x ∈ FB.foot pb, x ∈ oFoot o ∨ H x = none) → Q (.bl true) H')
def sp_tadv (K : Frag) (Ct C Cs Ch CN : Addr) : Sp := fun vs H Q E => ∃ (p : Addr) (X : TX) (t ci : List Nat) (hs : List (List Nat × Sv13.Handle)) (fb : Option (List Nat)) (bi : My.BR) (j : Nat) (o : Option (Addr × RF × List Nat × My.BR)), vs = [.ref p] ∧ TS K Ct C Cs Ch H p X t ci hs fb bi j o ∧ (tRest t hs j o = none → Bad CN E) ∧ sp_tadv_k1 K Ct C Cs Ch p X t ci hs fb j o H Q ∧ sp_tadv_k2 K Ct C Cs Ch p X t ci hs fb j o H Q
theorem sc_Table_advance : FnScope ["self"] ["self"] (defScope s_Table_advance) := ⟨rfl, rfl, rfl, by decide +kernel, rfl, by decide +kernel, by decide +kernel⟩
theorem mx_tadv {Ct C Cs Ch CN : Addr} (D : MethAt K Ct "advance" "Table.advance" s_Table_advance) (T : TableCls K Ct) (TR : BlockReaderCls K C) (Cn : Consts K mg) (M_advance : Mtxe P w K mg base C "advance" 3 ["self"] (sp_adv K C Cs CN))
    (M_leave_block : Mtxe P w K mg base Ct "leave_block" 4 ["self"] (sp_leave K Ct C Cs Ch CN)) (M_begin_block : Mtxe P w K mg base Ct "begin_block" 5 ["self"] (sp_begin K Ct C Cs Ch CN)) :
    Mtxe P w K mg base Ct "advance" 6 ["self"] (sp_tadv K Ct C Cs Ch CN) := by
  refine D.mxe T.cl sc_Table_advance (fun _ _ _ _ _ _ us hl => by obtain ⟨_, rfl⟩ := ln1 hl; rfl) (fun vs H Q E h => ?_) (fun f cdv A outer s H vs Q E hr h => ?_)
  · obtain ⟨p, X, t, ci, hs, fb, bi, j, o, rfl, _⟩ := h
    rfl
  · obtain ⟨p, X, t, ci, hs, fb, bi, j, o, rfl, S, hbad, hend, hok⟩ := h
    refine ⟨_, (pss_cons (ps_if (pt_cmpR op_notN (pe_fld (pv 0) rfl) pe_non (nomark _)) (pss_cons (ps_if (pt_val (pe_mte0 (pe_fld (pv 0) rfl) M_advance (hr.mono (by decide)) passX)) (pss_one (ps_ret pe_bl)) pss_nil)
      (pss_one (ps_expr (pe_mte0 (pv 0) M_leave_block (hr.mono (by decide)) passX)))) pss_nil)
      (pss_cons (ps_if (pt_cmpR op_eq (pe_fld (pv 0) rfl) (pe_callB call_len_seq rfl Cn.nlen PySem.boot_len (pa_cons (pe_fld (pv 0) rfl) pa_nil)) (nomark _)) (pss_one (ps_ret pe_bl)) pss_nil)
      (pss_cons (ps_expr (pe_mte0 (pv 0) M_begin_block (hr.mono (by decide)) passX))
      (pss_one (ps_ret pe_bl))))), ?_⟩
    try dsimp only [cxOf]
    refine seq_cut (t := tIfS _ _ _) (fun σ' H' => σ' = [some (.ref p)] ∧ ∃ (X' : TX) (bi' : My.BR) (bv : V) (j' : Nat), TB K Ct C Cs Ch H' p X' t ci hs fb bi' j' j' bv [] ∧ tRest t hs j o = My.restFrom t (prevK hs j') (hs.drop j') ∧ KB (X.foot p ++ oFoot o) H H' ∧ X'.foot p = X.foot p ∧ j' ≤ hs.length ∧ ∀ n, n ≤ 100000 → (hs.length - j') * 200001 + n < tMs hs j o ∨ hs.length ≤ j') ?_ fun rest => ?_
    · rintro σ' H' ⟨rfl, X', bi', bv, j', B, hR, k, hX, hle, hms⟩
      refine ⟨_, rfl, rfd B.ob T.cl T.nG fsT_begun ⟨_, rfl, rfd B.ob T.cl T.nH fsT_handles ⟨X'.lh, _, rfl, .inl (SqL.of B.ho), rfl, _, rfl, ?_⟩⟩⟩
      rw [List.length_map, B.hp.1]
      by_cases hjl : j' = hs.length
      · rw [decide_eq_true (by rw [hjl])]
        refine iteT ?_
        rw [hjl, List.drop_length] at hR
        exact hend hR X' bi' j' j' bv H' B k
      · rw [decide_eq_false (by intro z; injection z with z; omega)]
        refine iteF ?_
        have hlt : j' < hs.length := by omega
        have hj' : hs[j']? = some hs[j'] := List.getElem?_eq_getElem hlt
        refine ⟨_, rfl, rmt B.ob fsT_begin ⟨p, X', t, ci, hs, fb, bi', bv, j', hs[j'].1, hs[j'].2, rfl, B, hj', fun hn => hbad (by rw [hR]; exact hn), fun pb FB c b H2 M e2 k2 f2 => ?_⟩⟩
        refine hok X' bi' j' pb FB c b H2 M ?_ ?_ ?_ hX ?_
        · rw [hR, e2]
          unfold tRest
          rw [hj']
          rfl
        · rcases hms (b.body.length - b.p) (by have := M.rb.bl; have := M.rb.sz; omega) with q | q
          · exact q
          · omega
        · exact k.trans (k2.mono fun x hx => by have : x = p := by simpa using hx
                                                rw [this]; simp [TX.foot])
        · intro x hx
          have q := f2 x hx
          by_cases z : x ∈ X.foot p ++ oFoot o
          · rcases List.mem_append.mp z with z | z
            · rw [← hX] at z
              exact absurd q (B.isS (foot_stat z))
            · exact .inl z
          · exact .inr (k.free q z)
    · cases o with
      | none =>
        obtain ⟨rfl, B⟩ := S
        refine ⟨_, rfl, rfd B.ob T.cl T.nK fsT_block ⟨rfl, _, rfl, ?_⟩⟩
        refine iteF (rest _ H ⟨rfl, X, bi, .non, 0, B, rfl, KB.refl _ _, rfl, Nat.zero_le _, fun n hn => .inl ?_⟩)
        show (hs.length - 0) * 200001 + n < hs.length * 200001 + 200000
        omega
      | some x =>
        obtain ⟨pb, FB, c, b⟩ := x
        have M : TM K Ct C Cs Ch H p X t ci hs fb bi pb FB c b j (j + 1) := S
        have B := M.tb
        have hjl : j < hs.length := M.jl
        have hj : hs[j]? = some hs[j] := List.getElem?_eq_getElem hjl
        have hR : tRest t hs j (some (pb, FB, c, b)) = My.midRest (My.restFrom t (some hs[j].1) (hs.drop (j + 1))) b hs[j].1 := by
          unfold tRest
          rw [hj]
          rfl
        refine ⟨_, rfl, rfd B.ob T.cl T.nK fsT_block ⟨rfl, _, rfl, iteT ?_⟩⟩
        refine ⟨_, rfl, rfd B.ob T.cl T.nK fsT_block (rmt M.rb.ob fsR_advance ⟨pb, FB, c, b, rfl, M.rb, fun hn => hbad (by rw [hR, My.mid_fail hn]), fun he => ⟨_, rfl, iteF ?_⟩, fun b1 hb1 lv H1 R1 k1 hlv => ⟨_, rfl, iteT ?_⟩⟩)⟩
        · rw [My.mid_end he] at hR
          refine ⟨_, rfl, rmt B.ob fsT_leave ⟨p, X, t, ci, hs, fb, bi, pb, FB, c, b, j, hs[j].1, hs[j].2, rfl, M, hj, fun hn => hbad (by rw [hR, if_pos hn]), fun hn X' bi' H' B' hX k => ?_⟩⟩
          refine rest _ H' ⟨rfl, X', bi', .ref pb, j + 1, B', ?_, k.mono fun x hx => List.mem_append_left _ hx, hX, hjl, fun n hn => ?_⟩
          · rw [hR, if_neg (by rw [hn]; simp)]
            show _ = My.restFrom t ((hs[j]?).map fun x => x.1) _
            rw [hj]
            rfl
          · by_cases q : j + 1 < hs.length
            · left
              show (hs.length - (j + 1)) * 200001 + n < (hs.length - j) * 200001 + (b.body.length - b.p)
              omega
            · exact .inr (by omega)
        · refine hok X bi j pb _ c b1 H1 (M.adv R1 k1 hlv) ?_ ?_ (k1.mono fun x hx => List.mem_append_right _ hx) rfl fun x hx => .inl hx
          · rw [hR, My.mid_step M.rb.pl hb1]
            unfold tRest
            rw [hj]
            rfl
          · have aa := My.BR.adv_some hb1
            have a2 := aa.2.1
            have a3 := aa.2.2.1
            have a4 := aa.2.2.2.1 M.rb.pl
            show (hs.length - j) * 200001 + (b1.body.length - b1.p) < (hs.length - j) * 200001 + (b.body.length - b.p)
            rw [a2]
            omega
end
end KL
set_option Elab.async false
set_option linter.all false
set_option maxRecDepth 100000
namespace KL
open PySem PySem.W PyProof.Rows L2
section
variable {P : Program} {w : World} {K : Frag} {mg : Str → Option Value} {base : Heap}
theorem hsOf_keys : ∀ (l : List Sv13.Entry) (e : Nat) {hs : List (List Nat × Sv13.Handle)}, My.hsOf e l = some hs → (l.map fun x => x.1) = hs.map fun x => x.1
  | [], e, hs, h => by
    obtain rfl := (Option.some.inj h).symm
    rfl
  | x :: r, e, hs, h => by
    unfold My.hsOf at h
    cases h1 : Sv13.handleOf x.2 with
    | none => rw [h1] at h; cases h
    | some d =>
      rw [h1] at h
      simp only [Option.bind_some] at h
      by_cases hd : d.at_ < e
      · rw [if_pos hd] at h; cases h
      · rw [if_neg hd] at h
        cases h2 : My.hsOf (d.at_ + d.size + 5) r with
        | none => rw [h2] at h; cases h
        | some q =>
          rw [h2] at h
          obtain rfl := (Option.some.inj h).symm
          rw [List.map_cons, List.map_cons, hsOf_keys r _ h2]
theorem pT1 {x0 : V} : putF "file" x0 [] = [(("file" : Str), x0)] := by
  simp (disch := decide +kernel) only [pf_nil, pf_here, pf_next]
theorem pT2 {x0 x1 : V} : putF "limit" x1 [(("file" : Str), x0)] = [(("file" : Str), x0), (("limit" : Str), x1)] := by
  simp (disch := decide +kernel) only [pf_nil, pf_here, pf_next]
theorem pT3 {x0 x1 x2 : V} : putF "filter_bytes" x2 [(("file" : Str), x0), (("limit" : Str), x1)] = [(("file" : Str), x0), (("limit" : Str), x1), (("filter_bytes" : Str), x2)] := by
  simp (disch := decide +kernel) only [pf_nil, pf_here, pf_next]
theorem pT4 {x0 x1 x2 x3 : V} : putF "index_block" x3 [(("file" : Str), x0), (("limit" : Str), x1), (("filter_bytes" : Str), x2)] = [(("file" : Str), x0), (("limit" : Str), x1), (("filter_bytes" : Str), x2), (("index_block" : Str), x3)] := by
  simp (disch := decide +kernel) only [pf_nil, pf_here, pf_next]
theorem pT5 {x0 x1 x2 x3 x4 : V} : putF "handles" x4 [(("file" : Str), x0), (("limit" : Str), x1), (("filter_bytes" : Str), x2), (("index_block" : Str), x3)] = [(("file" : Str), x0), (("limit" : Str), x1), (("filter_bytes" : Str), x2), (("index_block" : Str), x3), (("handles" : Str), x4)] := by
  simp (disch := decide +kernel) only [pf_nil, pf_here, pf_next]
theorem pT6 {x0 x1 x2 x3 x4 x5 : V} : putF "index_reader" x5 [(("file" : Str), x0), (("limit" : Str), x1), (("filter_bytes" : Str), x2), (("index_block" : Str), x3), (("handles" : Str), x4)] = [(("file" : Str), x0), (("limit" : Str), x1), (("filter_bytes" : Str), x2), (("index_block" : Str), x3), (("handles" : Str), x4), (("index_reader" : Str), x5)] := by
  simp (disch := decide +kernel) only [pf_nil, pf_here, pf_next]
theorem pT7 {x0 x1 x2 x3 x4 x5 x6 : V} : putF "begun" x6 [(("file" : Str), x0), (("limit" : Str), x1), (("filter_bytes" : Str), x2), (("index_block" : Str), x3), (("handles" : Str), x4), (("index_reader" : Str), x5)] = [(("file" : Str), x0), (("limit" : Str), x1), (("filter_bytes" : Str), x2), (("index_block" : Str), x3), (("handles" : Str), x4), (("index_reader" : Str), x5), (("begun" : Str), x6)] := by
  simp (disch := decide +kernel) only [pf_nil, pf_here, pf_next]
theorem pT8 {x0 x1 x2 x3 x4 x5 x6 x7 : V} : putF "block" x7 [(("file" : Str), x0), (("limit" : Str), x1), (("filter_bytes" : Str), x2), (("index_block" : Str), x3), (("handles" : Str), x4), (("index_reader" : Str), x5), (("begun" : Str), x6)] = [(("file" : Str), x0), (("limit" : Str), x1), (("filter_bytes" : Str), x2), (("index_block" : Str), x3), (("handles" : Str), x4), (("index_reader" : Str), x5), (("begun" : Str), x6), (("block" : Str), x7)] := by
  simp (disch := decide +kernel) only [pf_nil, pf_here, pf_next]
theorem gseq {t u : L2.TS} {D : Ends} {σ : L2.St} {H : Hp} (h : ∀ N : L2.St → Hp → Prop, N = u D → t ⟨N, D.rt, D.bk, D.ct⟩ σ H) : tSeq t u D σ H := h _ rfl
theorem gnx {N N' : L2.St → Hp → Prop} {σ : L2.St} {H : Hp} (hN : N = N') (h : N' σ H) : N σ H := by rw [hN]; exact h
theorem gcut {t u : L2.TS} {D : Ends} {σ : L2.St} {H : Hp} (M : L2.St → Hp → Prop) (h2 : ∀ σ' H', M σ' H' → u D σ' H') (h1 : ∀ {N : L2.St → Hp → Prop}, (∀ σ' H', M σ' H' → N σ' H') → t ⟨N, D.rt, D.bk, D.ct⟩ σ H) : tSeq t u D σ H := h1 h2
def sp_Table_init_k1 (K : Frag) (Ct C Cs Ch : Addr) (p : Addr) (t : List Nat) (H : Hp) (Q : VK) : Prop := (∀ hs fb, My.runTable t = some (hs, fb) → ∀ (X : TX) (ci : List Nat) (bi : My.BR) (H' : Hp), TB K Ct C Cs Ch H' p X t ci hs fb bi 0 0 .non [] → My.BR.new ci = some bi → KB [p] H H' → (∀ x ∈ X.FI.foot X.pr, H x = none) → Q .non H')
def sp_Table_init (K : Frag) (Ct C Cs Ch CN : Addr) : Sp := fun vs H Q E => ∃ (p dx a : Addr) (t : List Nat), vs = [.ref p, .ref a] ∧ H p = some (.ins Ct dx []) ∧ SqL K H a (vb t) ∧ isByte t ∧ t.length ≤ 100000 ∧ (My.runTable t = none → Bad CN E) ∧ sp_Table_init_k1 K Ct C Cs Ch p t H Q
theorem sc_Table_init : FnScope ["self", "file", "handles"] ["self", "file"] (defScope s_Table_init) := ⟨rfl, rfl, rfl, by decide +kernel, rfl, by decide +kernel, by decide +kernel⟩
theorem mx_Table_init {Ct C Cs Ch CN : Addr} (D : MakeAt K mg "Table" Ct "Table.__init__" s_Table_init) (T : TableCls K Ct) (Cn : Consts K mg) (F_end_handles : Fxe P w K mg base "end_handles" 4 ["file"] (sp_end_handles K Ch CN)) (F_filter_content : Fxe P w K mg base "filter_content" 5 ["file", "limit", "meta"] (sp_filter_content K Ch CN))
    (F_content_at : Fxe P w K mg base "content_at" 3 ["file", "end", "handle"] (sp_content_at K Ch CN)) (F_data_handles : Fxe P w K mg base "data_handles" 5 ["index_block"] (sp_data_handles K Ch CN)) (M_BlockReader : Mkxe P w K mg base "BlockReader" C 3 ["self", "block"] (sp_BlockReader_init K C Cs CN)) :
    Mkxe P w K mg base "Table" Ct 6 ["self", "file"] (sp_Table_init K Ct C Cs Ch CN) := by
  refine D.mxe sc_Table_init (fun _ _ _ _ _ _ us hl => by obtain ⟨_, _, rfl⟩ := ln2 hl; rfl) (fun vs H Q E h => ?_) (fun f cdv A outer s H vs Q E hr h => ?_)
  · obtain ⟨p, dx, a, t, rfl, _⟩ := h
    rfl
  · obtain ⟨p, dx, a, t, rfl, hp, ha, hby, hsz, hbad, hok⟩ := h
    try dsimp only [sp_Table_init_k1] at hok
    refine ⟨_, (pss_cons (ps_set (i := 2) sc_Table_init.nd rfl (Or.inl rfl) (pe_fxe F_end_handles (hr.mono (by decide)) rfl passX (pa_cons (pv 1) pa_nil)))
      (pss_cons (ps_fld (pv 0) (pv 1) rfl)
      (pss_cons (ps_fld (pv 0) (pe_op op_sub (pe_callB call_len_seq rfl Cn.nlen PySem.boot_len (pa_cons (pv 1) pa_nil)) (pe_gint rfl Cn.END_WIDTH_layout)) rfl)
      (pss_cons (ps_fld (pv 0) (pe_fxe F_filter_content (hr.mono (by decide)) rfl passX (pa_cons (pv 1) (pa_cons (pe_fld (pv 0) rfl) (pa_cons (pe_ix ix_tup (pv 2) pe_int (fun _ _ => rfl)) pa_nil)))) rfl)
      (pss_cons (ps_fld (pv 0) (pe_fxe F_content_at (hr.mono (by decide)) rfl passX (pa_cons (pv 1) (pa_cons (pe_fld (pv 0) rfl) (pa_cons (pe_ix ix_tup (pv 2) pe_int (fun _ _ => rfl)) pa_nil)))) rfl)
      (pss_cons (ps_fld (pv 0) (pe_fxe F_data_handles (hr.mono (by decide)) rfl passX (pa_cons (pe_fld (pv 0) rfl) pa_nil)) rfl)
      (pss_cons (ps_fld (pv 0) (pe_mxe M_BlockReader (hr.mono (by decide)) rfl passX (pa_cons (pe_fld (pv 0) rfl) pa_nil)) rfl)
      (pss_cons (ps_fld (pv 0) pe_int rfl)
      (pss_one (ps_fld (pv 0) pe_non rfl)))))))))), ?_⟩
    try dsimp only [cxOf]
    have eT : My.runTable t = (endH t).bind fun mi => (My.runFilter t mi.1).bind fun fb => (My.blkRun t mi.2).bind fun ix => (My.hsOf 0 ix).map fun hs => (hs, fb) := by
      unfold My.runTable endH
      split
      · rfl
      · cases Sv13.readHandle (Sv13.slice t (t.length - 48) 40) with
        | none => rfl
        | some m =>
          simp only [Option.bind_some]
          cases Sv13.readHandle m.2 with
          | none => rfl
          | some i => rfl
    rw [eT] at hbad hok
    refine gseq fun N hN => ?_
    refine ⟨_, rfl, a, t, rfl, ha, hby, hsz, fun hn => hbad (by rw [hn]; rfl), fun m i hmi hge tp pm dm pi di H1 htp hpm hpi s1 => ?_⟩
    rw [hmi] at hbad hok
    simp only [Option.bind_some] at hbad hok
    refine gname_nx ?_
    refine gnx hN ?_
    have hp1 := s1 _ _ hp
    have ha1 := s1.seq ha
    have n1 : tp ≠ p := ne_of htp hp1 (by intro z; cases z)
    have n2 : pm ≠ p := ne_of hpm hp1 (ins_len (by simp [fsH]))
    have n3 : pi ≠ p := ne_of hpi hp1 (ins_len (by simp [fsH]))
    refine gseq fun N hN => ?_
    refine ⟨_, rfl, _, rfl, rfs hp1 T.cl T.nF (by show 0 < 1000; decide) ?_⟩
    refine gnx hN ?_
    refine gseq fun N hN => ?_
    have ha2 := sq_ins (o := .ins Ct dx (putF "file" (.ref a) [])) ha1 hp1
    refine ⟨_, rfl, a, _, rfl, .inl ha2, _, _, rfl, rfl, _, rfl, rfs upd_same T.cl T.nL (by show 1 < 1000; decide) ?_⟩
    refine gnx hN ?_
    dsimp only
    rw [upd_upd, vb_length]
    rw [show (t.length : Int) - 48 = ((t.length - 48 : Nat) : Int) by omega, pT1, pT2]
    have ha2 := sq_ins (o := .ins Ct dx [(("file" : Str), V.ref a), (("limit" : Str), V.int ((t.length - 48 : Nat) : Int))]) ha1 hp1
    have k2 : KB [p] H (upd H1 p (.ins Ct dx [(("file" : Str), V.ref a), (("limit" : Str), V.int ((t.length - 48 : Nat) : Int))])) := KB.upd (KB.of s1) (by simp)
    have hp2 : (upd H1 p (.ins Ct dx [(("file" : Str), V.ref a), (("limit" : Str), V.int ((t.length - 48 : Nat) : Int))])) p = _ := upd_same
    have htp2 : (upd H1 p (.ins Ct dx [(("file" : Str), V.ref a), (("limit" : Str), V.int ((t.length - 48 : Nat) : Int))])) tp = some (.tup [.ref pm, .ref pi]) := by rw [upd_ne n1]; exact htp
    have hpm2 : (upd H1 p (.ins Ct dx [(("file" : Str), V.ref a), (("limit" : Str), V.int ((t.length - 48 : Nat) : Int))])) pm = some (.ins Ch dm (fsH m)) := by rw [upd_ne n2]; exact hpm
    have hpi2 : (upd H1 p (.ins Ct dx [(("file" : Str), V.ref a), (("limit" : Str), V.int ((t.length - 48 : Nat) : Int))])) pi = some (.ins Ch di (fsH i)) := by rw [upd_ne n3]; exact hpi
    generalize upd H1 p (.ins Ct dx [(("file" : Str), V.ref a), (("limit" : Str), V.int ((t.length - 48 : Nat) : Int))]) = H2 at ha2 k2 hp2 htp2 hpm2 hpi2
    refine gcut (fun σ' H' => σ' = [some (.ref p), some (.ref a), some (.ref tp)] ∧ ∃ (v : V) (ls : List Addr) (fb : Option (List Nat)), My.runFilter t m = some fb ∧ FbAt H' v ls fb ∧ KB [p] H H' ∧ SqL K H' a (vb t) ∧ H' tp = some (.tup [.ref pm, .ref pi]) ∧ H' pi = some (.ins Ch di (fsH i)) ∧ H' p = some (.ins Ct dx [(("file" : Str), V.ref a), (("limit" : Str), V.int ((t.length - 48 : Nat) : Int)), (("filter_bytes" : Str), v)])) ?_ fun rest => ?_
    · rintro σ' H3 ⟨rfl, v, ls, fb, hfb, hF3, k3, ha3, htp3, hpi3, hp3⟩
      rw [hfb] at hbad hok
      simp only [Option.bind_some] at hbad hok
      unfold My.blkRun at hbad hok
      refine gseq fun N hN => ?_
      refine ⟨_, rfl, _, rfl, rfd hp3 T.cl T.nL (lk_next (by decide +kernel) lk_here) ⟨_, rfl, tp, _, _, V.ref pi, rfl, rfl, SqT.of htp3, rfl, a, t, t.length - 48, pi, di, i, rfl, ha3, hby, by omega, hsz, hpi3, fun hn => hbad (by rw [hn]; rfl), fun ci hc hcb hcz lb H4 s4 hlb h4 => ?_⟩⟩
      rw [hc] at hbad hok
      simp only [Option.bind_some] at hbad hok
      have hp4 := s4 _ _ hp3
      have nb : lb ≠ p := (ne_of_none hp3 hlb).symm
      refine ⟨_, rfl, rfs hp4 T.cl T.nX (by show 3 < 1000; decide) ?_⟩
      refine gnx hN ?_
      rw [pT4]
      have kG4 : KB [p] H (upd H4 p (.ins Ct dx [(("file" : Str), V.ref a), (("limit" : Str), V.int ((t.length - 48 : Nat) : Int)), (("filter_bytes" : Str), v), (("index_block" : Str), V.ref lb)])) := KB.upd (k3.trans (KB.of s4)) (by simp)
      have hpG4 : (upd H4 p (.ins Ct dx [(("file" : Str), V.ref a), (("limit" : Str), V.int ((t.length - 48 : Nat) : Int)), (("filter_bytes" : Str), v), (("index_block" : Str), V.ref lb)])) p = _ := upd_same
      have hbG4 : (upd H4 p (.ins Ct dx [(("file" : Str), V.ref a), (("limit" : Str), V.int ((t.length - 48 : Nat) : Int)), (("filter_bytes" : Str), v), (("index_block" : Str), V.ref lb)])) lb = some (.lst (vb ci)) := by rw [upd_ne nb]; exact h4
      have hFG4 : FbAt (upd H4 p (.ins Ct dx [(("file" : Str), V.ref a), (("limit" : Str), V.int ((t.length - 48 : Nat) : Int)), (("filter_bytes" : Str), v), (("index_block" : Str), V.ref lb)])) v ls fb := hF3.mono fun x hx o e => by
        obtain ⟨_, q⟩ := hF3.lst hx
        rw [upd_ne (ne_of q hp3 (by intro z; cases z))]
        exact s4 _ _ e
      generalize upd H4 p (.ins Ct dx [(("file" : Str), V.ref a), (("limit" : Str), V.int ((t.length - 48 : Nat) : Int)), (("filter_bytes" : Str), v), (("index_block" : Str), V.ref lb)]) = G4 at kG4 hpG4 hbG4 hFG4
      refine gseq fun N hN => ?_
      refine ⟨_, rfl, rfd hpG4 T.cl T.nX (lk_next (by decide +kernel) (lk_next (by decide +kernel) (lk_next (by decide +kernel) lk_here))) ⟨lb, ci, rfl, SqL.of hbG4, hcb, hcz, fun hn => hbad ?_, fun hs hhs hsl lh ps H5 h5 hA hps s5 hlh => ?_⟩⟩
      · cases q : (My.BR.new ci).bind My.BR.rest with
        | none => rfl
        | some l =>
          rw [q] at hn
          simp only [Option.bind_some] at hn ⊢
          rw [hn]
          rfl
      have hp5 := s5 _ _ hpG4
      have nh : lh ≠ p := (ne_of_none hpG4 hlh).symm
      refine ⟨_, rfl, rfs hp5 T.cl T.nH (by show 4 < 1000; decide) ?_⟩
      refine gnx hN ?_
      rw [pT5]
      have kG5 : KB [p] H (upd H5 p (.ins Ct dx [(("file" : Str), V.ref a), (("limit" : Str), V.int ((t.length - 48 : Nat) : Int)), (("filter_bytes" : Str), v), (("index_block" : Str), V.ref lb), (("handles" : Str), V.ref lh)])) := KB.upd (kG4.trans (KB.of s5)) (by simp)
      have hpG5 : (upd H5 p (.ins Ct dx [(("file" : Str), V.ref a), (("limit" : Str), V.int ((t.length - 48 : Nat) : Int)), (("filter_bytes" : Str), v), (("index_block" : Str), V.ref lb), (("handles" : Str), V.ref lh)])) p = _ := upd_same
      have hbG5 : (upd H5 p (.ins Ct dx [(("file" : Str), V.ref a), (("limit" : Str), V.int ((t.length - 48 : Nat) : Int)), (("filter_bytes" : Str), v), (("index_block" : Str), V.ref lb), (("handles" : Str), V.ref lh)])) lb = some (.lst (vb ci)) := by rw [upd_ne nb]; exact s5 _ _ hbG4
      have hhG5 : (upd H5 p (.ins Ct dx [(("file" : Str), V.ref a), (("limit" : Str), V.int ((t.length - 48 : Nat) : Int)), (("filter_bytes" : Str), v), (("index_block" : Str), V.ref lb), (("handles" : Str), V.ref lh)])) lh = some (.lst (ps.map V.ref)) := by rw [upd_ne nh]; exact h5
      have hFG5 : FbAt (upd H5 p (.ins Ct dx [(("file" : Str), V.ref a), (("limit" : Str), V.int ((t.length - 48 : Nat) : Int)), (("filter_bytes" : Str), v), (("index_block" : Str), V.ref lb), (("handles" : Str), V.ref lh)])) v ls fb := hFG4.mono fun x hx o e => by
        obtain ⟨_, q⟩ := hFG4.lst hx
        rw [upd_ne (ne_of q hpG4 (by intro z; cases z))]
        exact s5 _ _ e
      have hAG5 : HsAt Ch (upd H5 p (.ins Ct dx [(("file" : Str), V.ref a), (("limit" : Str), V.int ((t.length - 48 : Nat) : Int)), (("filter_bytes" : Str), v), (("index_block" : Str), V.ref lb), (("handles" : Str), V.ref lh)])) ps hs := hA.mono fun x hx o e => by
        rw [upd_ne (ne_of_none hpG4 (hps x hx)).symm]
        exact e
      have nps : ∀ x ∈ ps, x ≠ p := fun x hx => (ne_of_none hpG4 (hps x hx)).symm
      generalize upd H5 p (.ins Ct dx [(("file" : Str), V.ref a), (("limit" : Str), V.int ((t.length - 48 : Nat) : Int)), (("filter_bytes" : Str), v), (("index_block" : Str), V.ref lb), (("handles" : Str), V.ref lh)]) = G5 at kG5 hpG5 hbG5 hhG5 hFG5 hAG5
      cases hnew : My.BR.new ci with
      | none =>
        rw [hnew] at hhs
        cases hhs
      | some bi =>
        rw [hnew] at hhs hok
        simp only [Option.bind_some] at hhs hok
        cases hes : bi.rest with
        | none => rw [hes] at hhs; cases hhs
        | some es =>
          rw [hes] at hhs hok
          simp only [Option.bind_some] at hhs hok
          have hok := hok hs fb (by rw [hhs]; rfl)
          refine gseq fun N hN => ?_
          refine ⟨_, rfl, rfd hpG5 T.cl T.nX (lk_next (by decide +kernel) (lk_next (by decide +kernel) (lk_next (by decide +kernel) lk_here))) (fun pr dxr hpr hdx hne => ?_)⟩
          refine ⟨pr, dxr, lb, ci, rfl, upd_same, made_sq hpr hdx (SqL.of hbG5), hcb, hcz, (fun hn => by rw [hnew] at hn; cases hn), fun b hb FI H6 hF R k6 hls hlk hlr hlv => ⟨rfl, ?_⟩⟩
          rw [hnew] at hb
          obtain rfl := Option.some.inj hb
          have s6 : Same G5 H6 := made_same hpr hdx k6
          have hls5 := made_free hls
          have hlk5 := made_free hlk
          have hlr5 := made_free hlr
          have hlv5 := made_free hlv
          have hp6 := s6 _ _ hpG5
          refine ⟨_, rfl, rfs hp6 T.cl T.nR (by show 5 < 1000; decide) ?_⟩
          refine gnx hN ?_
          refine ⟨_, rfl, rfs upd_same T.cl T.nG (by rw [pT6]; show 6 < 1000; decide) ?_⟩
          refine ⟨_, rfl, rfs upd_same T.cl T.nK (by rw [pT6, pT7]; show 7 < 1000; decide) ?_⟩
          rw [upd_upd, upd_upd, pT6, pT7, pT8]
          have foot0 : ∀ x ∈ FI.foot pr, H x = none := by
            intro x hx
            have q : G5 x = none := by
              simp [RF.foot] at hx
              rcases hx with rfl | rfl | rfl
              · exact hpr
              · exact hls5
              · exact hlk5
            exact kG5.free q (by
              intro z
              have : x = p := by simpa using z
              rw [this, hpG5] at q
              cases q)
          have kf : ∀ {x o}, x ≠ p → H6 x = some o → (upd H6 p (.ins Ct dx (fsT a (t.length - 48) v lb lh pr 0 .non))) x = some o := fun {x o} n e => by
            rw [upd_ne n]
            exact e
          have kH : KB [p] H (upd H6 p (.ins Ct dx (fsT a (t.length - 48) v lb lh pr 0 .non))) := KB.upd (kG5.trans (KB.of s6)) (by simp)
          have npa : ∀ x ∈ FI.all pr, x ≠ p := by
            intro x hx z
            subst z
            have h : x = pr ∨ x = FI.ls ∨ x = FI.lk ∨ x = FI.lr ∨ x = FI.lv := by simpa [RF.all] using hx
            rcases h with h | h | h | h | h
            · rw [← h, hpG5] at hpr; cases hpr
            · rw [← h, hpG5] at hls5; cases hls5
            · rw [← h, hpG5] at hlk5; cases hlk5
            · rw [← h, hpG5] at hlr5; cases hlr5
            · rw [← h, hpG5] at hlv5; cases hlv5
          refine hok ⟨dx, a, lb, lh, pr, ps, v, ls, FI⟩ ci bi _ ⟨upd_same, ?_, kf nb (s6 _ _ hbG5), kf nh (s6 _ _ hhG5), hAG5.mono fun x hx o e => kf (nps x hx) (s6 _ _ e), hFG5.mono fun x hx o e => ?_, ?_, hF, ?_, (fun x hx => nomatch hx), hby, hsz, hge, hsl, ⟨es, hes, hsOf_keys es 0 hhs⟩, (fun z => by omega)⟩ hnew kH foot0
          · refine SqO.kb (SqO.of ha fun hrd z => ?_) (kH.mono fun x hx => by simp [TX.foot]; left; simpa using hx)
            rw [List.append_nil] at z
            rcases List.mem_cons.mp z with z | z
            · exact rd_ins hrd hp z
            · exact Rd.some hrd (foot0 _ z)
          · obtain ⟨_, q⟩ := hFG5.lst hx
            exact kf (ne_of q hpG5 (by intro z; cases z)) (s6 _ _ e)
          · refine R.kbT (T := [p]) (fun x hx z => npa x hx (by simpa using z)) ?_ (KB.upd (KB.refl _ _) (by simp))
            rw [hF]
            exact SqO.lst (s6 _ _ hbG5) (by simp; exact nb)
          · intro x hx z
            show False
            have q : G5 x ≠ none := by
              have h : x = lb ∨ x = lh ∨ x ∈ ls := by simpa using hx
              rcases h with h | h | h
              · rw [h, hbG5]; simp
              · rw [h, hhG5]; simp
              · obtain ⟨_, q⟩ := hFG5.lst h
                rw [q]; simp
            exact q (by rw [z]; exact hlk5)
    · refine ⟨_, rfl, _, rfl, rfd hp2 T.cl T.nL (lk_next (by decide +kernel) lk_here) ⟨_, rfl, tp, _, _, V.ref pm, rfl, rfl, SqT.of htp2, rfl, a, t, t.length - 48, pm, dm, m, rfl, ha2, hby, by omega, hsz, hpm2, fun hn => hbad (by rw [hn]; rfl), fun hn H' s' => ?_, fun c hc hcb hcz l H' s' hl hl' => ?_⟩⟩
      · refine ⟨_, rfl, rfs (s' _ _ hp2) T.cl T.nB (by show 2 < 1000; decide) ?_⟩
        rw [pT3]
        refine rest _ _ ⟨rfl, .non, [], none, hn, .inl ⟨rfl, rfl, rfl⟩, KB.upd (k2.trans (KB.of s')) (by simp), sq_ins (s'.seq ha2) (s' _ _ hp2), ?_, ?_, upd_same⟩
        · rw [upd_ne n1]; exact s' _ _ htp2
        · rw [upd_ne n3]; exact s' _ _ hpi2
      · refine ⟨_, rfl, rfs (s' _ _ hp2) T.cl T.nB (by show 2 < 1000; decide) ?_⟩
        rw [pT3]
        refine rest _ _ ⟨rfl, .ref l, [l], some c, hc, .inr ⟨l, c, rfl, rfl, rfl, ?_, hcb, hcz⟩, KB.upd (k2.trans (KB.of s')) (by simp), sq_ins (s'.seq ha2) (s' _ _ hp2), ?_, ?_, upd_same⟩
        · rw [upd_ne (ne_of_none hp2 hl).symm]; exact hl'
        · rw [upd_ne n1]; exact s' _ _ htp2
        · rw [upd_ne n3]; exact s' _ _ hpi2
end
end KL
set_option Elab.async false
set_option linter.all false
set_option maxRecDepth 100000
namespace KL
open PySem PySem.W PyProof.Rows L2
section
variable {P : Program} {w : World} {K : Frag} {mg : Str → Option Value} {base : Heap}
section
variable {Ct C Cs Ch CN : Addr} {H H' : Hp} {p : Addr} {X : TX} {t ci : List Nat} {hs : List (List Nat × Sv13.Handle)} {fb : Option (List Nat)} {bi : My.BR} {j i : Nat} {pb : Addr} {FB : RF} {c : List Nat} {b : My.BR} {o : Option (Addr × RF × List Nat × My.BR)}
theorem TM.same (T : TM K Ct C Cs Ch H p X t ci hs fb bi pb FB c b j i) (k : Same H H') : TM K Ct C Cs Ch H' p X t ci hs fb bi pb FB c b j i := ⟨T.tb.same k, T.rb.same k, k _ _ T.lc, T.nl, T.d2, T.jl⟩
theorem TS.same (T : TS K Ct C Cs Ch H p X t ci hs fb bi j o) (k : Same H H') : TS K Ct C Cs Ch H' p X t ci hs fb bi j o := by
  cases o with
  | none => exact ⟨T.1, TB.same T.2 k⟩
  | some x => exact TM.same T k
theorem TS.isS (T : TS K Ct C Cs Ch H p X t ci hs fb bi j o) {x : Addr} (hx : x ∈ X.foot p ++ oFoot o) : H x ≠ none := by
  cases o with
  | none =>
    rcases List.mem_append.mp hx with q | q
    · exact T.2.isS (foot_stat q)
    · cases q
  | some y =>
    obtain ⟨pb, FB, c, b⟩ := y
    have M : TM K Ct C Cs Ch H p X t ci hs fb bi pb FB c b j (j + 1) := T
    rcases List.mem_append.mp hx with q | q
    · exact M.tb.isS (foot_stat q)
    · have q : x = pb ∨ x = FB.ls ∨ x = FB.lk := by simpa [oFoot, RF.foot] using q
      rcases q with rfl | rfl | rfl
      · rw [M.rb.ob]; simp
      · rw [M.rb.sc]; simp
      · rw [M.rb.ky]; simp
theorem TM.lv (M : TM K Ct C Cs Ch H p X t ci hs fb bi pb FB c b j i) : FB.lv ∉ X.foot p ++ FB.foot pb := by
  intro z
  rcases List.mem_append.mp z with q | q
  · exact M.d2 _ q (by simp [RF.all])
  · have q : FB.lv = pb ∨ FB.lv = FB.ls ∨ FB.lv = FB.lk := by simpa [RF.foot] using q
    rcases q with q | q | q
    · exact M.rb.pv q.symm
    · exact M.rb.sv q.symm
    · exact M.rb.n2 q.symm
def TL (K : Frag) (Ct C Cs Ch : Addr) (H H2 : Hp) (p : Addr) (t ci : List Nat) (hs : List (List Nat × Sv13.Handle)) (fb : Option (List Nat)) (W : List Addr) (pre : List Sv13.Entry) (m : Nat) : Prop := Same H H2 ∧ ∃ (X : TX) (bi : My.BR) (j : Nat) (o : Option (Addr × RF × List Nat × My.BR)), TS K Ct C Cs Ch H2 p X t ci hs fb bi j o ∧ m = tMs hs j o ∧
  My.restFrom t none hs = (tRest t hs j o).map (fun es => pre ++ es) ∧ (∀ x ∈ X.foot p ++ oFoot o, H x = none) ∧ ∀ x ∈ W, x ∉ X.foot p ++ oFoot o
theorem TL.start (B : TB K Ct C Cs Ch H' p X t ci hs fb bi 0 0 .non []) (s : Same H H') (hf : ∀ x ∈ X.foot p, H x = none) : TL K Ct C Cs Ch H H' p t ci hs fb [] [] (tMs hs 0 none) := by
  refine ⟨s, X, bi, 0, none, ⟨rfl, B⟩, rfl, ?_, fun x hx => ?_, (fun x hx => nomatch hx)⟩
  · show _ = (My.restFrom t none hs).map _
    cases My.restFrom t none hs <;> rfl
  · rcases List.mem_append.mp hx with q | q
    · exact hf x q
    · cases q
variable {H2 H3 : Hp} {W : List Addr} {pre : List Sv13.Entry} {m : Nat}
theorem TL.same (T : TL K Ct C Cs Ch H H2 p t ci hs fb W pre m) (k : Same H2 H3) : TL K Ct C Cs Ch H H3 p t ci hs fb W pre m := by
  obtain ⟨s, X, bi, j, o, h1, h2⟩ := T
  exact ⟨s.trans k, X, bi, j, o, h1.same k, h2⟩
theorem TL.sub (T : TL K Ct C Cs Ch H H2 p t ci hs fb W pre m) {W' : List Addr} (h : ∀ x ∈ W', x ∈ W) : TL K Ct C Cs Ch H H2 p t ci hs fb W' pre m := by
  obtain ⟨s, X, bi, j, o, h1, h2, h3, h4, h5⟩ := T
  exact ⟨s, X, bi, j, o, h1, h2, h3, h4, fun y hy => h5 y (h y hy)⟩
theorem TL.obj (T : TL K Ct C Cs Ch H H2 p t ci hs fb W pre m) : ∃ (X : TX) (i : Nat) (bv : V), H2 p = some (.ins Ct X.dx (fsT X.lf (t.length - 48) X.fb X.lb X.lh X.pr i bv)) := by
  obtain ⟨s, X, bi, j, o, h1, _⟩ := T
  cases o with
  | none => exact ⟨X, _, _, h1.2.ob⟩
  | some x => exact ⟨X, _, _, h1.tb.ob⟩
theorem TL.adv (T : TL K Ct C Cs Ch H H2 p t ci hs fb W pre m) {Q : VK} {E : XK} (hbad : My.restFrom t none hs = none → Bad CN E)
    (hend : My.restFrom t none hs = some pre → ∀ (X' : TX) (bi' : My.BR) (j' i' : Nat) (bv' : V) (H' : Hp), TB K Ct C Cs Ch H' p X' t ci hs fb bi' j' i' bv' [] → Same H H' → (∀ x ∈ W, ∀ o, H2 x = some o → H' x = some o) → Q (.bl false) H')
    (hok : ∀ (m' : Nat) (X' : TX) (bi' : My.BR) (j' : Nat) (pb : Addr) (FB : RF) (c : List Nat) (b : My.BR) (H' : Hp), m' < m → TM K Ct C Cs Ch H' p X' t ci hs fb bi' pb FB c b j' (j' + 1) → TL K Ct C Cs Ch H H' p t ci hs fb (FB.lv :: W) (pre ++ [(b.key, b.val)]) m' → (∀ x ∈ W, ∀ o, H2 x = some o → H' x = some o) → Q (.bl true) H') :
    (∀ x ∈ W, H2 x ≠ none) → sp_tadv K Ct C Cs Ch CN [.ref p] H2 Q E := by
  intro hW
  obtain ⟨s, X, bi, j, o, h1, h2, h3, h4, h5⟩ := T
  refine ⟨p, X, t, ci, hs, fb, bi, j, o, rfl, h1, fun hn => hbad (by rw [h3, hn]; rfl), fun he X' bi' j' i' bv' H' B k => hend (by rw [h3, he]; show some (pre ++ []) = _; rw [List.append_nil]) X' bi' j' i' bv' H' B ?_ ?_, fun X' bi' j' pb FB c b H' M e lt k hX hF => hok (tMs hs j' (some (pb, FB, c, b))) X' bi' j' pb FB c b H' (by rw [h2]; exact lt) M ⟨?_, X', bi', j', some (pb, FB, c, b), M, rfl, ?_, ?_, ?_⟩ ?_⟩
  · exact fun x u e => k x u (s x u e) fun z => by rw [h4 x z] at e; cases e
  · exact fun x hx u e => k x u e (h5 x hx)
  · exact fun x u e => k x u (s x u e) fun z => by rw [h4 x z] at e; cases e
  · rw [h3, e]
    cases tRest t hs j' (some (pb, FB, c, b)) with
    | none => rfl
    | some es =>
      show some (pre ++ (_ :: es)) = some ((pre ++ [_]) ++ es)
      rw [List.append_assoc]
      rfl
  · intro x hx
    rcases List.mem_append.mp hx with q | q
    · rw [hX] at q
      exact h4 x (List.mem_append_left _ q)
    · rcases hF x q with q | q
      · exact h4 x (List.mem_append_right _ q)
      · exact s.free q
  · intro x hx z
    rcases List.mem_cons.mp hx with q | q
    · rw [q] at z
      exact M.lv z
    · rcases List.mem_append.mp z with r | r
      · rw [hX] at r
        exact h5 x q (List.mem_append_left _ r)
      · rcases hF x r with r | r
        · exact h5 x q (List.mem_append_right _ r)
        · exact hW x q r
  · exact fun x hx u e => k x u e (h5 x hx)
end
end
end KL
set_option Elab.async false
set_option linter.all false
set_option maxRecDepth 100000
namespace KL
open PySem PySem.W PyProof.Rows L2
section
variable {P : Program} {w : World} {K : Frag} {mg : Str → Option Value} {base : Heap}
def sp_is_key_length : Sp := fun vs H Q _ => ∃ n : Int, vs = [.int n] ∧ Q (.bl (decide (0 ≤ n) && decide (n ≤ 65535))) H
theorem sc_is_key_length : FnScope ["number"] ["number"] (defScope s_is_key_length) := ⟨rfl, rfl, rfl, by decide +kernel, rfl, by decide +kernel, by decide +kernel⟩
theorem fx_is_key_length (D : DefAt K mg "is_key_length" s_is_key_length) (C : Consts K mg) (F : Fx P w K mg base "within" 1 ["number", "low", "high"] sp_within) : Fx P w K mg base "is_key_length" 2 ["number"] sp_is_key_length := by
  refine D.fx sc_is_key_length (fun _ _ _ _ _ _ us hl => by obtain ⟨_, rfl⟩ := ln1 hl; rfl) (fun vs H Q E h => ?_) (fun f cdv A outer s H vs Q E hr h => ?_)
  · obtain ⟨n, rfl, _⟩ := h
    rfl
  · obtain ⟨n, rfl, k⟩ := h
    refine ⟨_, pss_one (ps_ret (pe_fx F hr rfl (pa_cons (pv 0) (pa_cons pe_int (pa_cons (pe_gint rfl C.LONGEST_KEY) pa_nil))))), ?_⟩
    try dsimp only [cxOf]
    exact ⟨_, rfl, n, 0, 65535, rfl, k⟩
end
end KL
set_option Elab.async false
set_option linter.all false
set_option maxRecDepth 100000
namespace KL
open PySem PySem.W PyProof.Rows L2
section
variable {P : Program} {w : World} {K : Frag} {mg : Str → Option Value} {base : Heap}
theorem lc_zip4 {K : Frag} {a b c d : Addr} {w1 w2 w3 w4 : List V} {g : TG} {tt : TT} {te : TE} {vs : List Nat} {σ : L2.St} {H1 : Hp} {D : Addr} {Qd : Hp → Prop} (Pv : Nat → Hp → Prop) (h0 : Pv 0 (upd H1 D (.lst [])))
    (hn : w4.length ≤ w1.length ∧ w4.length ≤ w2.length ∧ w4.length ≤ w3.length) (hl : ∀ i H, Pv i H → SqL K H a w1 ∧ SqL K H b w2 ∧ SqL K H c w3 ∧ SqL K H d w4)
    (hs : ∀ i x1 x2 x3 x4 T H, w1[i]? = some x1 → w2[i]? = some x2 → w3[i]? = some x3 → w4[i]? = some x4 → H T = none → Pv i H → g (.ref T) (wipe σ vs) (upd H T (.tup [x1, x2, x3, x4])) fun σ2 H2 => wipe σ2 vs = wipe σ vs ∧ tt σ2 H2 fun b H3 =>
      if b = true then te σ2 H3 fun y H4 => ∃ acc, H4 D = some (.lst acc) ∧ acc.length < sizeLine ∧ Pv (i + 1) (upd H4 D (.lst (acc ++ [y]))) else Pv (i + 1) H3) (hd : ∀ H, Pv w4.length H → Qd H) :
    ∃ W : Nat → Nat → Hp → Prop, (∃ m, W 0 m (upd H1 D (.lst []))) ∧ ∀ i m H, W i m H →
      ((Itz4 K a b c d).stop i H ∧ Qd H) ∨ ((Itz4 K a b c d).go i H ∧ ∃ Nx : Hp → Prop, (∀ H', Nx H' → ∃ m', m' < m ∧ W (i + 1) m' H') ∧ ∀ y H', (Itz4 K a b c d).yld i H y H' → g y (wipe σ vs) H' fun σ2 H2 => wipe σ2 vs = wipe σ vs ∧ tt σ2 H2 fun b H3 =>
        if b = true then te σ2 H3 fun y H4 => ∃ acc, H4 D = some (.lst acc) ∧ acc.length < sizeLine ∧ Nx (upd H4 D (.lst (acc ++ [y]))) else Nx H3) := by
  refine ⟨fun i m H => m = w4.length - i ∧ i ≤ w4.length ∧ Pv i H, ⟨w4.length, by simp, Nat.zero_le _, h0⟩, ?_⟩
  rintro i m H ⟨rfl, hi, p⟩
  obtain ⟨q1, q2, q3, q4⟩ := hl i H p
  by_cases hlt : i < w4.length
  · obtain ⟨n1, n2, n3⟩ := hn
    refine .inr ⟨⟨w1, w2, w3, w4, _, _, _, _, ⟨q1, List.getElem?_eq_getElem (Nat.lt_of_lt_of_le hlt n1)⟩, ⟨q2, List.getElem?_eq_getElem (Nat.lt_of_lt_of_le hlt n2)⟩, ⟨q3, List.getElem?_eq_getElem (Nat.lt_of_lt_of_le hlt n3)⟩, ⟨q4, List.getElem?_eq_getElem hlt⟩⟩,
      Pv (i + 1), fun H' p' => ⟨w4.length - (i + 1), by omega, rfl, hlt, p'⟩, fun y H' hy => ?_⟩
    obtain ⟨T, x1, x2, x3, x4, rfl, hT, rfl, e1, e2, e3, e4⟩ := hy
    exact hs i x1 x2 x3 x4 T H (e1 _ q1) (e2 _ q2) (e3 _ q3) (e4 _ q4) hT p
  · have e : i = w4.length := by omega
    subst e
    exact .inl ⟨⟨w1, w2, w3, w4, q1, q2, q3, q4, .inr (.inr (.inr (Nat.le_refl _)))⟩, hd H p⟩
def wordsOf (x : List Nat) : List Nat := (List.range (x.length / 4)).map fun i => Sv13.ofLittle (Sv13.slice x (4 * i) 4)
theorem wordsOf_length (x : List Nat) : (wordsOf x).length = x.length / 4 := by simp [wordsOf]
theorem wordsOf_get {x : List Nat} {i : Nat} (h : i < x.length / 4) : (wordsOf x)[i]? = some (Sv13.ofLittle (Sv13.slice x (4 * i) 4)) := by simp [wordsOf, h]
theorem slice_four {x : List Nat} {i a b c d : Nat} (ha : x[i]? = some a) (hb : x[i + 1]? = some b) (hc : x[i + 2]? = some c) (hd : x[i + 3]? = some d) : Sv13.slice x i 4 = [a, b, c, d] := by
  have e0 : Sv13.slice x i 0 = [] := by simp [Sv13.slice]
  rw [My.slice_succ (n := 3) hd, My.slice_succ (n := 2) hc, My.slice_succ (n := 1) hb, My.slice_succ (n := 0) ha, e0]
  rfl
theorem word_is {x : List Nat} {i a b c d : Nat} (hx : isByte x) (ha : x[i]? = some a) (hb : x[i + 1]? = some b) (hc : x[i + 2]? = some c) (hd : x[i + 3]? = some d) :
    (((a : Int) + (b : Int) * 2 ^ (8 : Int).toNat) + (c : Int) * 2 ^ (16 : Int).toNat) + (d : Int) * 2 ^ (24 : Int).toNat = ((Sv13.ofLittle (Sv13.slice x i 4) : Nat) : Int) := by
  rw [slice_four ha hb hc hd, My.ofLittle4 (hx _ (List.mem_of_getElem? ha)) (hx _ (List.mem_of_getElem? hb)) (hx _ (List.mem_of_getElem? hc)) (hx _ (List.mem_of_getElem? hd))]
  show (((a : Int) + (b : Int) * 256) + (c : Int) * 65536) + (d : Int) * 16777216 = ((a + 256 * b + 65536 * c + 16777216 * d : Nat) : Int)
  omega
def sp_begun : Sp := fun vs H Q _ => ∃ n : Nat, vs = [.int (n : Int)] ∧ n ≤ 1000000 ∧ Q (.int ((Nat.xor 0xBC9F1D34 (Sv13.word (n * 0xC6A4A793)) : Nat) : Int)) H
theorem sc_begun : FnScope ["length"] ["length"] (defScope s_begun) := ⟨rfl, rfl, rfl, by decide +kernel, rfl, by decide +kernel, by decide +kernel⟩
theorem fx_begun (D : DefAt K mg "begun" s_begun) (C : Consts K mg) : Fx P w K mg base "begun" 1 ["length"] sp_begun := by
  refine D.fx sc_begun (fun _ _ _ _ _ _ us hl => by obtain ⟨_, rfl⟩ := ln1 hl; rfl) (fun vs H Q E h => ?_) (fun f cdv A outer s H vs Q E hr h => ?_)
  · obtain ⟨n, rfl, _⟩ := h
    rfl
  · obtain ⟨n, rfl, hn, q⟩ := h
    refine ⟨_, (pss_one (ps_ret (pe_op op_xor (pe_gint rfl C.HASH_BEGIN) (pe_op op_and (pe_op op_mul (pv 0) (pe_gint rfl C.HASH_FACTOR)) (pe_gint rfl C.WORD))))), ?_⟩
    try dsimp only [cxOf]
    refine ⟨_, rfl, _, _, rfl, rfl, .inl ⟨by omega, by omega⟩, _, _, rfl, rfl, _, _, rfl, rfl, ?_⟩
    have e : (n : Int) * 3332679571 = ((n * 3332679571 : Nat) : Int) := by
      rw [Int.natCast_mul]
      rfl
    show Q (V.int (Builtin.bitXor 3164544308 (Builtin.bitAnd ((n : Int) * 3332679571) 4294967295))) H
    rw [e, and32]
    exact (xor_nat 3164544308 (Sv13.word (n * 0xC6A4A793))).symm ▸ q
def sp_words_of (K : Frag) : Sp := fun vs H Q _ => ∃ (a : Addr) (x : List Nat), vs = [.ref a] ∧ SqL K H a (vb x) ∧ isByte x ∧ x.length ≤ 1000000 ∧ newL (vb (wordsOf x)) H Q
theorem sc_words_of : FnScope ["data", "a", "b", "c", "d"] ["data"] (defScope s_words_of) := ⟨rfl, rfl, rfl, by decide +kernel, rfl, by decide +kernel, by decide +kernel⟩
theorem blk_words : BlkOk ["data", "a", "b", "c", "d"] (defScope s_words_of) { kind := .function, names := [(".0", .local), ("a", .local), ("b", .local), ("c", .local), ("d", .local)], isGenerator := false, isCoroutine := false } [("a", 1), ("b", 2), ("c", 3), ("d", 4)] := blkOk_by (by decide +kernel)
theorem fx_words_of (D : DefAt K mg "words_of" s_words_of) (C : Consts K mg) : Fx P w K mg base "words_of" 1 ["data"] (sp_words_of K) := by
  refine D.fx sc_words_of (fun _ _ _ _ _ _ us hl => by obtain ⟨_, rfl⟩ := ln1 hl; rfl) (fun vs H Q E h => ?_) (fun f cdv A outer s H vs Q E hr h => ?_)
  · obtain ⟨a, x, rfl, _⟩ := h
    rfl
  · obtain ⟨a, x, rfl, ha, hby, hxl, q⟩ := h
    refine ⟨_, (pss_one (ps_ret (pe_lc (own := [("a", 1), ("b", 2), ("c", 3), ("d", 4)]) (g := gTup K 4 (gCons (gName 1) (gCons (gName 2) (gCons (gName 3) (gCons (gName 4) gNil))))) rfl sc_words_of.nd (pi_zip4 rfl C.nzip (pa_cons (pe_slice4 (pv 0) (po_some pe_int) (po_some pe_int)) (pa_cons (pe_slice4 (pv 0) (po_some pe_int) (po_some pe_int)) (pa_cons (pe_slice4 (pv 0) (po_some pe_int) (po_some pe_int)) (pa_cons (pe_slice4 (pv 0) (po_some pe_int) (po_some pe_int)) pa_nil))))) blk_words
      (fun _ _ _ _ _ => pg_tup rfl (pgs_cons (pg_name (i := 1) sc_words_of.nd rfl (Or.inl rfl)) (pgs_cons (pg_name (i := 2) sc_words_of.nd rfl (Or.inl rfl)) (pgs_cons (pg_name (i := 3) sc_words_of.nd rfl (Or.inl rfl)) (pgs_cons (pg_name (i := 4) sc_words_of.nd rfl (Or.inl rfl)) pgs_nil))))) (fun _ _ _ _ _ => pts_nil)
      (fun _ _ _ _ _ => pe_op op_add (pe_op op_add (pe_op op_add (pv 1) (pe_op op_shl (pv 2) pe_int)) (pe_op op_shl (pv 3) pe_int)) (pe_op op_shl (pv 4) pe_int))))), ?_⟩
    try dsimp only [cxOf]
    refine ⟨_, rfl, _, rfl, _, rfl, 0, a, _, rfl, rfl, rfl, ha, fun p1 h1 => ?_⟩
    have s1 : Same H (upd H p1 (.lst (stp 0 (vb x)))) := Same.new (Same.refl H) h1
    refine ⟨_, rfl, _, rfl, _, rfl, 1, a, _, rfl, rfl, rfl, s1.seq ha, fun p2 h2 => ?_⟩
    have s2 := Same.new (o := .lst (stp 1 (vb x))) s1 h2
    refine ⟨_, rfl, _, rfl, _, rfl, 2, a, _, rfl, rfl, rfl, s2.seq ha, fun p3 h3 => ?_⟩
    have s3 := Same.new (o := .lst (stp 2 (vb x))) s2 h3
    refine ⟨_, rfl, _, rfl, _, rfl, 3, a, _, rfl, rfl, rfl, s3.seq ha, fun p4 h4 => ?_⟩
    have s4 := Same.new (o := .lst (stp 3 (vb x))) s3 h4
    have g1 := ((Same.new (Same.new (Same.new (o := .lst (stp 1 (vb x))) (Same.refl _) h2) h3) h4) : Same _ (upd (upd (upd (upd H p1 (.lst (stp 0 (vb x)))) p2 (.lst (stp 1 (vb x)))) p3 (.lst (stp 2 (vb x)))) p4 (.lst (stp 3 (vb x))))) p1 _ upd_same
    have g2 := ((Same.new (Same.new (o := .lst (stp 2 (vb x))) (Same.refl _) h3) h4) : Same _ (upd (upd (upd (upd H p1 (.lst (stp 0 (vb x)))) p2 (.lst (stp 1 (vb x)))) p3 (.lst (stp 2 (vb x)))) p4 (.lst (stp 3 (vb x))))) p2 _ upd_same
    have g3 := ((Same.new (o := .lst (stp 3 (vb x))) (Same.refl _) h4) : Same _ (upd (upd (upd (upd H p1 (.lst (stp 0 (vb x)))) p2 (.lst (stp 1 (vb x)))) p3 (.lst (stp 2 (vb x)))) p4 (.lst (stp 3 (vb x))))) p3 _ upd_same
    have g4 : (upd (upd (upd (upd H p1 (.lst (stp 0 (vb x)))) p2 (.lst (stp 1 (vb x)))) p3 (.lst (stp 2 (vb x)))) p4 (.lst (stp 3 (vb x)))) p4 = some (.lst (stp 3 (vb x))) := upd_same
    show ∃ a b c d w1 w2 w3 w4, _
    generalize upd (upd (upd (upd H p1 (.lst (stp 0 (vb x)))) p2 (.lst (stp 1 (vb x)))) p3 (.lst (stp 2 (vb x)))) p4 (.lst (stp 3 (vb x))) = G at s4 g1 g2 g3 g4 ⊢
    clear s1 s2 s3 h1 h2 h3 h4
    refine ⟨p1, p2, p3, p4, _, _, _, _, rfl, SqL.of g1, SqL.of g2, SqL.of g3, SqL.of g4, fun ln hD => ?_⟩
    refine lc_zip4 (K := K) (w1 := stp 0 (vb x)) (w2 := stp 1 (vb x)) (w3 := stp 2 (vb x)) (w4 := stp 3 (vb x)) (fun i H8 => Same G H8 ∧ H8 ln = some (.lst (vb ((wordsOf x).take i)))) ⟨Same.new (Same.refl _) hD, upd_same⟩ ?_ (fun i H8 ⟨s8, _⟩ => ⟨SqL.of (s8 _ _ g1), SqL.of (s8 _ _ g2), SqL.of (s8 _ _ g3), SqL.of (s8 _ _ g4)⟩) ?_ ?_
    · rw [stp_length, stp_length, stp_length, stp_length]
      omega
    · rintro i x1 x2 x3 x4 T H8 e1 e2 e3 e4 hT ⟨s8, h8⟩
      rw [stp_get] at e1 e2 e3 e4
      obtain ⟨m1, f1, rfl⟩ := vb_get e1
      obtain ⟨m2, f2, rfl⟩ := vb_get e2
      obtain ⟨m3, f3, rfl⟩ := vb_get e3
      obtain ⟨m4, f4, rfl⟩ := vb_get e4
      have b2 := hby _ (List.mem_of_getElem? f2)
      have b3 := hby _ (List.mem_of_getElem? f3)
      have b4 := hby _ (List.mem_of_getElem? f4)
      have hi : i < x.length / 4 := by
        have := (List.getElem?_eq_some_iff.mp f4).1
        omega
      have s9 : Same H8 (upd H8 T (.tup [V.int (m1 : Int), V.int (m2 : Int), V.int (m3 : Int), V.int (m4 : Int)])) := Same.new (Same.refl _) hT
      refine ⟨T, _, rfl, .inl (.inl upd_same), rfl, _, _, rfl, _, _, rfl, _, _, rfl, _, _, rfl, rfl, rfl, ?_⟩
      refine ⟨_, rfl, _, rfl, _, _, rfl, rfl, ⟨by decide, by decide, by rw [Int.natAbs_natCast]; omega⟩, _, _, rfl, rfl, _, rfl, _, _, rfl, rfl, ⟨by decide, by decide, by rw [Int.natAbs_natCast]; omega⟩, _, _, rfl, rfl, _, rfl, _, _, rfl, rfl, ⟨by decide, by decide, by rw [Int.natAbs_natCast]; omega⟩, _, _, rfl, rfl, ?_⟩
      refine ⟨_, s9 _ _ h8, lt_size ?_, Same.upd (s8.trans s9) hD, ?_⟩
      · rw [vb_length, List.length_take]
        omega
      · rw [upd_same, List.take_succ, wordsOf_get hi]
        refine vb_snoc _ ?_
        have e0 : 0 + 4 * i = 4 * i := by omega
        have e1 : 1 + 4 * i = 4 * i + 1 := by omega
        have e2 : 2 + 4 * i = 4 * i + 2 := by omega
        have e3 : 3 + 4 * i = 4 * i + 3 := by omega
        rw [e0] at f1
        rw [e1] at f2
        rw [e2] at f3
        rw [e3] at f4
        exact word_is hby f1 f2 f3 f4
    · rintro H8 ⟨s8, h8⟩
      have hl : (stp 3 (vb x)).length = (wordsOf x).length := by
        rw [stp_length, wordsOf_length, vb_length]
        omega
      rw [hl, List.take_length] at h8
      exact q ln H8 (s4.trans s8) (s4.free hD) h8
end
end KL
set_option Elab.async false
set_option linter.all false
set_option maxRecDepth 100000
namespace KL
open PySem PySem.W PyProof.Rows L2
section
variable {P : Program} {w : World} {K : Frag} {mg : Str → Option Value} {base : Heap}
theorem mul_and (h x : Nat) : Builtin.bitAnd ((((h : Nat) : Int) + ((x : Nat) : Int)) * 3332679571) 4294967295 = ((Sv13.word ((h + x) * 0xC6A4A793) : Nat) : Int) := by
  have e : (((h : Nat) : Int) + ((x : Nat) : Int)) * 3332679571 = (((h + x) * 3332679571 : Nat) : Int) := by
    rw [Int.natCast_mul, Int.natCast_add]
    rfl
  rw [e, and32]
  rfl
theorem xsh16 (y : Nat) : Builtin.bitXor ((y : Nat) : Int) (((y : Nat) : Int) / 2 ^ (16 : Int).toNat) = ((Nat.xor y (y / 2 ^ 16) : Nat) : Int) := by
  have e : ((y : Nat) : Int) / 2 ^ (16 : Int).toNat = ((y / 2 ^ 16 : Nat) : Int) := by
    show ((y : Nat) : Int) / 65536 = _
    omega
  rw [e, xor_nat]
  rfl
theorem xsh24 (y : Nat) : Builtin.bitXor ((y : Nat) : Int) (((y : Nat) : Int) / 2 ^ (24 : Int).toNat) = ((Nat.xor y (y / 2 ^ 24) : Nat) : Int) := by
  have e : ((y : Nat) : Int) / 2 ^ (24 : Int).toNat = ((y / 2 ^ 24 : Nat) : Int) := by
    show ((y : Nat) : Int) / 16777216 = _
    omega
  rw [e, xor_nat]
  rfl
def HF (x : List Nat) (h0 j h : Nat) : Prop := Sv13.hashFrom h0 x = Sv13.hashFrom h (x.drop (4 * j)) ∧ h < 2 ^ 32
theorem hf_step {x : List Nat} {h0 j h : Nat} (hb : isByte x) (hl : 4 * j + 4 ≤ x.length) (q : HF x h0 j h) : HF x h0 (j + 1) (Sv13.mixed h (Sv13.ofLittle (Sv13.slice x (4 * j) 4))) := by
  refine ⟨?_, My.mixed_lt _ _⟩
  rw [q.1, My.hash_step (fun y hy => hb y (List.mem_of_mem_drop hy)) (by rw [List.length_drop]; omega), List.drop_drop]
  rfl
theorem hf_end0 {x : List Nat} {h0 j h : Nat} (hl : x.length ≤ 4 * j) (q : HF x h0 j h) : Sv13.hashFrom h0 x = h := by
  rw [q.1, List.drop_eq_nil_of_le hl]
  rfl
theorem hf_end {x : List Nat} {h0 j h : Nat} (h1 : 4 * j < x.length) (h4 : x.length < 4 * j + 4) (q : HF x h0 j h) :
    Sv13.hashFrom h0 x = Nat.xor (Sv13.word ((h + Sv13.ofLittle (Sv13.slice x (4 * j) (x.length - 4 * j))) * 0xC6A4A793)) (Sv13.word ((h + Sv13.ofLittle (Sv13.slice x (4 * j) (x.length - 4 * j))) * 0xC6A4A793) / 2 ^ 24) := by
  have e : Sv13.slice x (4 * j) (x.length - 4 * j) = x.drop (4 * j) := by
    unfold Sv13.slice
    rw [List.take_of_length_le (by rw [List.length_drop]; omega)]
  rw [q.1, My.hash_over (by rw [List.length_drop]; omega) (by rw [List.length_drop]; omega), e]
def sp_mixed_on (K : Frag) : Sp := fun vs H Q _ => ∃ (h : Nat) (a : Addr) (x : List Nat), vs = [.int (h : Int), .ref a] ∧ SqL K H a (vb x) ∧ isByte x ∧ x.length ≤ 1000000 ∧ h < 2 ^ 32 ∧ ∀ H', Same H H' → Q (.int ((Sv13.hashFrom h x : Nat) : Int)) H'
theorem sc_mixed_on : FnScope ["mixed", "rest", "word", "over"] ["mixed", "rest"] (defScope s_mixed_on) := ⟨rfl, rfl, rfl, by decide +kernel, rfl, by decide +kernel, by decide +kernel⟩
theorem fx_mixed_on (D : DefAt K mg "mixed_on" s_mixed_on) (C : Consts K mg) (F_number_at : Fx P w K mg base "number_at" 1 ["data", "begin", "width"] (sp_number_at K)) (F_words_of : Fx P w K mg base "words_of" 1 ["data"] (sp_words_of K)) : Fx P w K mg base "mixed_on" 2 ["mixed", "rest"] (sp_mixed_on K) := by
  refine D.fx sc_mixed_on (fun _ _ _ _ _ _ us hl => by obtain ⟨_, _, rfl⟩ := ln2 hl; rfl) (fun vs H Q E h => ?_) (fun f cdv A outer s H vs Q E hr h => ?_)
  · obtain ⟨h, a, x, rfl, _⟩ := h
    rfl
  · obtain ⟨h, a, x, rfl, ha, hby, hxl, hh, q⟩ := h
    refine ⟨_, (pss_cons (ps_for PassesOwn.never rfl (pi_list (pe_fx F_words_of (hr.mono (by decide)) rfl (pa_cons (pv 1) pa_nil))) (pg_name (i := 2) sc_mixed_on.nd rfl (Or.inl rfl)) (pss_cons (ps_set (i := 0) sc_mixed_on.nd rfl (Or.inl rfl) (pe_op op_and (pe_op op_mul (pe_op op_add (pv 0) (pv 2)) (pe_gint rfl C.HASH_FACTOR)) (pe_gint rfl C.WORD)))
      (pss_one (ps_set (i := 0) sc_mixed_on.nd rfl (Or.inl rfl) (pe_op op_xor (pv 0) (pe_op op_shr (pv 0) pe_int))))))
      (pss_cons (ps_set (i := 3) sc_mixed_on.nd rfl (Or.inl rfl) (pe_op op_mod (pe_callB call_len_seq rfl C.nlen PySem.boot_len (pa_cons (pv 1) pa_nil)) pe_int))
      (pss_cons (ps_if (pt_cmpR op_gt (pv 3) pe_int (nomark _)) (pss_cons (ps_set (i := 0) sc_mixed_on.nd rfl (Or.inl rfl) (pe_op op_and (pe_op op_mul (pe_op op_add (pv 0) (pe_fx F_number_at (hr.mono (by decide)) rfl (pa_cons (pv 1) (pa_cons (pe_op op_sub (pe_callB call_len_seq rfl C.nlen PySem.boot_len (pa_cons (pv 1) pa_nil)) (pv 3)) (pa_cons (pv 3) pa_nil))))) (pe_gint rfl C.HASH_FACTOR)) (pe_gint rfl C.WORD)))
      (pss_one (ps_set (i := 0) sc_mixed_on.nd rfl (Or.inl rfl) (pe_op op_xor (pv 0) (pe_op op_shr (pv 0) pe_int))))) pss_nil)
      (pss_one (ps_ret (pv 0)))))), ?_⟩
    try dsimp only [cxOf]
    have hlen : (vb x).length = x.length := vb_length x
    refine ⟨_, rfl, a, x, rfl, ha, hby, hxl, fun l H1 s1 hl h1 => ?_⟩
    refine ⟨l, rfl, ⟨_, SqL.of h1⟩, for_list (K := K) (a := l) (xs := vb (wordsOf x)) (fun i σ H2 => Same H1 H2 ∧ ∃ (hh : Nat) (v : Option V), HF x h i hh ∧ σ = [some (.int (hh : Int)), some (.ref a), v, none])
      ⟨Same.refl _, h, none, ⟨rfl, hh⟩, rfl⟩ (fun i σ H2 _ p => SqL.of (p.1 _ _ h1)) ?_ ?_⟩
    · rintro i wv σ H2 hw ⟨s2, hv, v, hq, rfl⟩
      obtain ⟨m, hm, rfl⟩ := vb_get hw
      have hi : i < x.length / 4 := by
        have := (List.getElem?_eq_some_iff.mp hm).1
        rw [wordsOf_length] at this
        exact this
      rw [wordsOf_get hi] at hm
      cases hm
      refine ⟨_, rfl, _, rfl, _, _, rfl, rfl, _, _, rfl, rfl, .inr ⟨by decide, by decide⟩, _, _, rfl, rfl, ?_⟩
      refine ⟨_, rfl, _, rfl, _, _, rfl, rfl, (by show (0 : Int) ≤ 16; decide), _, _, rfl, rfl, ?_⟩
      refine ⟨s2, _, some (V.int ((Sv13.ofLittle (Sv13.slice x (4 * i) 4) : Nat) : Int)), hf_step hby (by omega) hq, ?_⟩
      show [some (V.int (Builtin.bitXor (Builtin.bitAnd ((((hv : Nat) : Int) + ((Sv13.ofLittle (Sv13.slice x (4 * i) 4) : Nat) : Int)) * 3332679571) 4294967295) ((Builtin.bitAnd ((((hv : Nat) : Int) + ((Sv13.ofLittle (Sv13.slice x (4 * i) 4) : Nat) : Int)) * 3332679571) 4294967295) / 2 ^ (16 : Int).toNat))), some (V.ref a), some (V.int ((Sv13.ofLittle (Sv13.slice x (4 * i) 4) : Nat) : Int)), none] = _
      rw [mul_and, xsh16]
      rfl
    · rintro σ H2 ⟨s2, hv, v, hq, rfl⟩
      have s12 := s1.trans s2
      have ha2 := s12.seq ha
      rw [vb_length, wordsOf_length] at hq
      have e1 : ((((vb x).length : Nat) : Int) % 4) = ((x.length % 4 : Nat) : Int) := by rw [hlen]; omega
      refine ⟨_, rfl, a, _, rfl, .inl ha2, _, _, rfl, rfl, (by show (0 : Int) < 4; decide), ?_⟩
      refine ⟨_, rfl, _, _, rfl, rfl, _, rfl, ?_⟩
      rw [e1]
      by_cases h0 : 0 < x.length % 4
      · have c : decide ((0 : Int) < ((x.length % 4 : Nat) : Int)) = true := decide_eq_true (by omega)
        rw [c]
        refine iteT ?_
        have e2 : (((vb x).length : Nat) : Int) - ((((vb x).length : Nat) : Int) % 4) = ((4 * (x.length / 4) : Nat) : Int) := by rw [hlen]; omega
        refine ⟨_, rfl, _, rfl, _, rfl, a, _, rfl, .inl ha2, _, rfl, _, _, rfl, rfl, _, rfl, a, x, 4 * (x.length / 4), x.length % 4, ?_, ha2, hby, by omega, by omega, _, _, rfl, rfl, _, _, rfl, rfl, .inr ⟨by decide, by decide⟩, _, _, rfl, rfl, ?_⟩
        · show [V.ref a, V.int ((((vb x).length : Nat) : Int) - ((((vb x).length : Nat) : Int) % 4)), V.int ((((vb x).length : Nat) : Int) % 4)] = _
          rw [e2, e1]
        refine ⟨_, rfl, _, rfl, _, _, rfl, rfl, (by show (0 : Int) ≤ 24; decide), _, _, rfl, rfl, _, rfl, ?_⟩
        have e5 : x.length - 4 * (x.length / 4) = x.length % 4 := by omega
        have e6 := hf_end (by omega) (by omega) hq
        rw [e5] at e6
        have q := q H2 s12
        show Q (V.int (Builtin.bitXor (Builtin.bitAnd ((((hv : Nat) : Int) + ((Sv13.ofLittle (Sv13.slice x (4 * (x.length / 4)) (x.length % 4)) : Nat) : Int)) * 3332679571) 4294967295) ((Builtin.bitAnd ((((hv : Nat) : Int) + ((Sv13.ofLittle (Sv13.slice x (4 * (x.length / 4)) (x.length % 4)) : Nat) : Int)) * 3332679571) 4294967295) / 2 ^ (24 : Int).toNat))) H2
        rw [mul_and, xsh24, ← e6]
        exact q
      · have c : decide ((0 : Int) < ((x.length % 4 : Nat) : Int)) = false := decide_eq_false (by omega)
        rw [c]
        refine iteF ?_
        refine ⟨_, rfl, ?_⟩
        have q := q H2 s12
        rw [hf_end0 (by omega) hq] at q
        exact q
def sp_key_hash (K : Frag) : Sp := fun vs H Q _ => ∃ (a : Addr) (x : List Nat), vs = [.ref a] ∧ SqL K H a (vb x) ∧ isByte x ∧ x.length ≤ 1000000 ∧ ∀ H', Same H H' → Q (.int ((Sv13.hash x : Nat) : Int)) H'
theorem sc_key_hash : FnScope ["key"] ["key"] (defScope s_key_hash) := ⟨rfl, rfl, rfl, by decide +kernel, rfl, by decide +kernel, by decide +kernel⟩
theorem fx_key_hash (D : DefAt K mg "key_hash" s_key_hash) (C : Consts K mg) (F_begun : Fx P w K mg base "begun" 1 ["length"] sp_begun) (F_mixed_on : Fx P w K mg base "mixed_on" 2 ["mixed", "rest"] (sp_mixed_on K)) : Fx P w K mg base "key_hash" 3 ["key"] (sp_key_hash K) := by
  refine D.fx sc_key_hash (fun _ _ _ _ _ _ us hl => by obtain ⟨_, rfl⟩ := ln1 hl; rfl) (fun vs H Q E h => ?_) (fun f cdv A outer s H vs Q E hr h => ?_)
  · obtain ⟨a, x, rfl, _⟩ := h
    rfl
  · obtain ⟨a, x, rfl, ha, hby, hxl, q⟩ := h
    refine ⟨_, (pss_one (ps_ret (pe_fx F_mixed_on (hr.mono (by decide)) rfl (pa_cons (pe_fx F_begun (hr.mono (by decide)) rfl (pa_cons (pe_callB call_len_seq rfl C.nlen PySem.boot_len (pa_cons (pv 0) pa_nil)) pa_nil)) (pa_cons (pv 0) pa_nil))))), ?_⟩
    try dsimp only [cxOf]
    have e : ((((vb x).length : Nat) : Int)) = ((x.length : Nat) : Int) := by rw [vb_length]
    refine ⟨_, rfl, a, _, rfl, .inl ha, x.length, ?_, hxl, _, rfl, _, a, x, rfl, ha, hby, hxl, My.xor_lt (by decide) (My.word_lt _), fun H' s' => q H' s'⟩
    show [V.int (((vb x).length : Nat) : Int)] = _
    rw [e]
def marksH (p n h : Nat) : List Nat := (List.range p).map fun j => My.markAt h j n
theorem marksH_succ (p n h : Nat) : marksH (p + 1) n h = marksH p n h ++ [My.markAt h p n] := by simp [marksH, List.range_succ]
theorem marksH_length (p n h : Nat) : (marksH p n h).length = p := by simp [marksH]
def sp_bit_places : Sp := fun vs H Q _ => ∃ (h p n : Nat), vs = [.int (h : Int), .int (p : Int), .int (n : Int)] ∧ h < 2 ^ 32 ∧ p ≤ 255 ∧ 0 < n ∧ newL (vb (marksH p n h)) H Q
theorem sc_bit_places : FnScope ["mixed", "probes", "total", "place", "step", "places", "probe"] ["mixed", "probes", "total"] (defScope s_bit_places) := ⟨rfl, rfl, rfl, by decide +kernel, rfl, by decide +kernel, by decide +kernel⟩
theorem fx_bit_places (D : DefAt K mg "bit_places" s_bit_places) (C : Consts K mg) : Fx P w K mg base "bit_places" 1 ["mixed", "probes", "total"] sp_bit_places := by
  refine D.fx sc_bit_places (fun _ _ _ _ _ _ us hl => by obtain ⟨_, _, _, rfl⟩ := ln3 hl; rfl) (fun vs H Q E h => ?_) (fun f cdv A outer s H vs Q E hr h => ?_)
  · obtain ⟨h, p, n, rfl, _⟩ := h
    rfl
  · obtain ⟨h, p, n, rfl, hlt, hp, hn, q⟩ := h
    refine ⟨_, (pss_cons (ps_set (i := 3) sc_bit_places.nd rfl (Or.inl rfl) (pv 0))
      (pss_cons (ps_set (i := 4) sc_bit_places.nd rfl (Or.inl rfl) (pe_op op_or (pe_op op_shr (pv 0) pe_int) (pe_op op_and (pe_op op_shl (pv 0) pe_int) (pe_gint rfl C.WORD))))
      (pss_cons (ps_set (i := 5) sc_bit_places.nd rfl (Or.inl rfl) (pe_lst pa_nil))
      (pss_cons (ps_for PassesOwn.never rfl (pi_range1 rfl C.nrange (pa_cons (pv 1) pa_nil)) (pg_name (i := 6) sc_bit_places.nd rfl (Or.inl rfl)) (pss_cons (ps_expr (pe_bm PySem.F.plainAttrs_list PySem.F.slot_list_append PySem.F.type_list_append mt_append (pv 5) (pa_cons (pe_op op_mod (pv 3) (pv 2)) pa_nil)))
      (pss_one (ps_set (i := 3) sc_bit_places.nd rfl (Or.inl rfl) (pe_op op_and (pe_op op_add (pv 3) (pv 4)) (pe_gint rfl C.WORD))))))
      (pss_one (ps_ret (pv 5))))))), ?_⟩
    try dsimp only [cxOf]
    refine ⟨_, rfl, ?_⟩
    refine ⟨_, rfl, _, _, rfl, rfl, (by show (0 : Int) ≤ 17; decide), _, rfl, _, _, rfl, rfl, ⟨by decide, by decide, by rw [Int.natAbs_natCast]; omega⟩, _, _, rfl, rfl, _, _, rfl, rfl, ?_⟩
    refine ⟨Nat.zero_le _, fun l hl => ?_⟩
    have es : Builtin.bitOr ((h : Int) / 2 ^ (17 : Int).toNat) (Builtin.bitAnd ((h : Int) * 2 ^ (15 : Int).toNat) 4294967295) = ((My.stride h : Nat) : Int) := by
      have e1 : (h : Int) / 2 ^ (17 : Int).toNat = ((h / 2 ^ 17 : Nat) : Int) := by
        show (h : Int) / 131072 = _
        omega
      have e2 : (h : Int) * 2 ^ (15 : Int).toNat = ((h * 2 ^ 15 : Nat) : Int) := by
        show (h : Int) * 32768 = _
        omega
      rw [e1, e2, and32, or_nat, My.stride_eq hlt]
    refine ⟨_, rfl, (p : Int), rfl, by omega, by omega, for_range (n := (p : Int).toNat) (fun i σ H2 => Same H H2 ∧ H2 l = some (.lst (vb (marksH i n h))) ∧ ∃ v, σ = [some (.int (h : Int)), some (.int (p : Int)), some (.int (n : Int)), some (.int ((Sv13.word (h + i * My.stride h) : Nat) : Int)), some (.int ((My.stride h : Nat) : Int)), some (.ref l), v])
      ⟨Same.new (Same.refl H) hl, ?_, none, ?_⟩ ?_ ?_⟩
    · rw [upd_same]
      rfl
    · have ew : Sv13.word (h + 0 * My.stride h) = h := by
        rw [Nat.zero_mul, Nat.add_zero]
        exact Nat.mod_eq_of_lt hlt
      rw [ew, ← es]
      rfl
    · rintro i σ H2 hi ⟨hs, h2, v, rfl⟩
      have hi : i < p := hi
      refine ⟨_, rfl, .inl ⟨rfl, _, SqL.of h2⟩, _, rfl, _, rfl, _, _, rfl, rfl, (by omega), l, _, _, rfl, rfl, h2, lt_size (by rw [vb_length, marksH_length]; omega), ?_⟩
      refine ⟨_, rfl, _, rfl, _, _, rfl, rfl, _, _, rfl, rfl, ?_⟩
      refine ⟨Same.upd hs hl, ?_, some (V.int (0 + (i : Int))), ?_⟩
      · rw [upd_same, marksH_succ]
        refine vb_snoc _ ?_
        show ((Sv13.word (h + i * My.stride h) : Nat) : Int) % (n : Int) = ((Sv13.word (h + i * My.stride h) % n : Nat) : Int)
        omega
      · have e : Builtin.bitAnd (((Sv13.word (h + i * My.stride h) : Nat) : Int) + ((My.stride h : Nat) : Int)) 4294967295 = ((Sv13.word (h + (i + 1) * My.stride h) : Nat) : Int) := by
          have e' : ((Sv13.word (h + i * My.stride h) : Nat) : Int) + ((My.stride h : Nat) : Int) = ((Sv13.word (h + i * My.stride h) + My.stride h : Nat) : Int) := by omega
          rw [e', and32, My.word_step]
        show [some (V.int (h : Int)), some (V.int (p : Int)), some (V.int (n : Int)), some (V.int (Builtin.bitAnd (((Sv13.word (h + i * My.stride h) : Nat) : Int) + ((My.stride h : Nat) : Int)) 4294967295)), some (V.int ((My.stride h : Nat) : Int)), some (V.ref l), some (V.int (0 + (i : Int)))] = _
        rw [e]
    · rintro σ H2 ⟨hs, h2, v, rfl⟩
      exact ⟨_, rfl, q l H2 hs hl h2⟩
end
end KL
set_option Elab.async false
set_option linter.all false
set_option maxRecDepth 100000
namespace KL
open PySem PySem.W PyProof.Rows L2
section
variable {P : Program} {w : World} {K : Frag} {mg : Str → Option Value} {base : Heap}
theorem cut_any {xs : List V} {i j : Nat} (hij : i ≤ j) : cutV xs (some (i : Int)) (some (j : Int)) = (xs.drop i).take (j - i) := by
  unfold cutV
  show (xs.drop (if (i : Int) < 0 then ((i : Int) + (xs.length : Int)).toNat else min (i : Int).toNat xs.length)).take ((if (j : Int) < 0 then ((j : Int) + (xs.length : Int)).toNat else min (j : Int).toNat xs.length) - (if (i : Int) < 0 then ((i : Int) + (xs.length : Int)).toNat else min (i : Int).toNat xs.length)) = _
  rw [if_neg (by omega), if_neg (by omega)]
  have e : (i : Int).toNat = i := Int.toNat_natCast i
  have e2 : (j : Int).toNat = j := Int.toNat_natCast j
  rw [e, e2]
  by_cases h : i ≤ xs.length
  · rw [Nat.min_eq_left h]
    by_cases h2 : j ≤ xs.length
    · rw [Nat.min_eq_left h2]
    · rw [Nat.min_eq_right (by omega), List.take_of_length_le (by rw [List.length_drop]; omega), List.take_of_length_le (by rw [List.length_drop]; omega)]
  · rw [Nat.min_eq_right (show xs.length ≤ i by omega), List.drop_eq_nil_of_le (Nat.le_refl _), List.drop_eq_nil_of_le (show xs.length ≤ i by omega), List.take_nil, List.take_nil]
theorem bit_is (x m : Nat) : Builtin.bitAnd ((x : Int) / 2 ^ ((m : Int) % 8).toNat) 1 = ((x / 2 ^ (m % 8) % 2 : Nat) : Int) := by
  have e1 : ((m : Int) % 8).toNat = m % 8 := by omega
  have e2 : (x : Int) / 2 ^ (m % 8) = ((x / 2 ^ (m % 8) : Nat) : Int) := by
    rw [Int.natCast_ediv, Int.natCast_pow]
    rfl
  rw [e1, e2]
  refine (and_nat (x / 2 ^ (m % 8)) 1).trans ?_
  rw [Nat.and_one_is_mod]
theorem bit_test (x m : Nat) : decide (V.int (Builtin.bitAnd ((x : Int) / 2 ^ ((m : Int) % 8).toNat) 1) = V.int 0) = !x.testBit (m % 8) := by
  rw [bit_is, Nat.testBit_eq_decide_div_mod_eq]
  have h : x / 2 ^ (m % 8) % 2 < 2 := Nat.mod_lt _ (by decide)
  generalize x / 2 ^ (m % 8) % 2 = b at h
  have h : b = 0 ∨ b = 1 := by omega
  rcases h with rfl | rfl <;> decide
def sp_piece_may (K : Frag) : Sp := fun vs H Q _ => ∃ (a k : Addr) (pc key : List Nat), vs = [.ref a, .ref k] ∧ SqL K H a (vb pc) ∧ SqL K H k (vb key) ∧ isByte pc ∧ isByte key ∧ pc.length ≤ 1000000 ∧ key.length ≤ 1000000 ∧ ∀ H', Same H H' → Q (.bl (Sv13.mayBe pc key)) H'
theorem sc_piece_may_have : FnScope ["piece", "key", "probes", "place"] ["piece", "key"] (defScope s_piece_may_have) := ⟨rfl, rfl, rfl, by decide +kernel, rfl, by decide +kernel, by decide +kernel⟩
theorem fx_piece_may_have (D : DefAt K mg "piece_may_have" s_piece_may_have) (C : Consts K mg) (F_key_hash : Fx P w K mg base "key_hash" 3 ["key"] (sp_key_hash K)) (F_bit_places : Fx P w K mg base "bit_places" 1 ["mixed", "probes", "total"] sp_bit_places) : Fx P w K mg base "piece_may_have" 4 ["piece", "key"] (sp_piece_may K) := by
  refine D.fx sc_piece_may_have (fun _ _ _ _ _ _ us hl => by obtain ⟨_, _, rfl⟩ := ln2 hl; rfl) (fun vs H Q E h => ?_) (fun f cdv A outer s H vs Q E hr h => ?_)
  · obtain ⟨a, k, pc, key, rfl, _⟩ := h
    rfl
  · obtain ⟨a, k, pc, key, rfl, ha, hk, hpb, hkb, hpl, hkl, q⟩ := h
    refine ⟨_, (pss_cons (ps_if (pt_cmpR op_lt (pe_callB call_len_seq rfl C.nlen PySem.boot_len (pa_cons (pv 0) pa_nil)) pe_int (nomark _)) (pss_one (ps_ret pe_bl)) pss_nil)
      (pss_cons (ps_set (i := 2) sc_piece_may_have.nd rfl (Or.inl rfl) (pe_ix ix_list (pv 0) (pe_un un_neg pe_int) (fun _ _ => rfl)))
      (pss_cons (ps_if (pt_cmpR op_gt (pv 2) (pe_gint rfl C.MOST_PROBES) (nomark _)) (pss_one (ps_ret pe_bl)) pss_nil)
      (pss_cons (ps_for PassesOwn.never rfl (pi_list (pe_fx F_bit_places (hr.mono (by decide)) rfl (pa_cons (pe_fx F_key_hash (hr.mono (by decide)) rfl (pa_cons (pv 1) pa_nil)) (pa_cons (pv 2) (pa_cons (pe_op op_mul pe_int (pe_op op_sub (pe_callB call_len_seq rfl C.nlen PySem.boot_len (pa_cons (pv 0) pa_nil)) pe_int)) pa_nil))))) (pg_name (i := 3) sc_piece_may_have.nd rfl (Or.inl rfl)) (pss_one (ps_if (pt_cmpR op_eq (pe_op op_and (pe_op op_shr (pe_ix ix_list (pv 0) (pe_op op_fdiv (pv 3) pe_int) (fun _ _ => rfl)) (pe_op op_mod (pv 3) pe_int)) pe_int) pe_int (nomark _)) (pss_one (ps_ret pe_bl)) pss_nil)))
      (pss_one (ps_ret pe_bl)))))), ?_⟩
    try dsimp only [cxOf]
    have hlen : (vb pc).length = pc.length := vb_length pc
    refine ⟨_, rfl, a, _, rfl, .inl ha, _, _, rfl, rfl, _, rfl, ?_⟩
    rw [hlen]
    unfold Sv13.mayBe at q
    by_cases h2 : pc.length < 2
    · rw [decide_eq_true (by omega)]
      rw [if_pos h2] at q
      exact iteT (q H (Same.refl H))
    · rw [decide_eq_false (by omega)]
      rw [if_neg h2] at q
      refine iteF ?_
      obtain ⟨x, hx⟩ : ∃ x, pc.getLast? = some x := ⟨_, List.getLast?_eq_some_getLast (by intro z; subst z; simp at h2)⟩
      have hxD : pc.getLastD 0 = x := by
        rw [List.getLastD_eq_getLast?, hx]
        rfl
      have hxb : x < 256 := hpb x (List.mem_of_getLast? hx)
      have hat : atI (vb pc) (-1) = some (V.int (x : Int)) := by
        refine KL.atI_last ?_
        unfold vb
        rw [List.getLast?_map, hx]
        rfl
      rw [hxD] at q
      dsimp only at q
      refine ⟨_, rfl, _, rfl, a, _, _, V.int (x : Int), rfl, rfl, ha, hat, ?_⟩
      refine ⟨_, rfl, _, _, rfl, rfl, _, rfl, ?_⟩
      by_cases h30 : 30 < x
      · rw [decide_eq_true (by omega)]
        rw [if_pos h30] at q
        exact iteT (q H (Same.refl H))
      · rw [decide_eq_false (by omega)]
        rw [if_neg h30] at q
        refine iteF ?_
        refine ⟨_, rfl, k, key, rfl, hk, hkb, hkl, fun H1 s1 => ?_⟩
        refine ⟨_, rfl, _, rfl, a, _, rfl, .inl (s1.seq ha), _, _, rfl, rfl, _, _, rfl, rfl, .inl ⟨by decide, by decide⟩, Sv13.hash key, x, 8 * (pc.length - 1), ?_, My.hash_lt hkb, by omega, by omega, fun l H2 s2 hl h2' => ?_⟩
        · show [V.int ((Sv13.hash key : Nat) : Int), V.int (x : Int), V.int ((8 : Int) * ((((vb pc).length : Nat) : Int) - 1))] = _
          rw [hlen, show (8 : Int) * (((pc.length : Nat) : Int) - 1) = ((8 * (pc.length - 1) : Nat) : Int) by omega]
        have hms : Sv13.marks x ((pc.length - 1) * 8) key = marksH x (8 * (pc.length - 1)) (Sv13.hash key) := by
          rw [Nat.mul_comm (pc.length - 1) 8]
          rfl
        have hml : ∀ m ∈ marksH x (8 * (pc.length - 1)) (Sv13.hash key), m < 8 * (pc.length - 1) := by
          rw [← hms, Nat.mul_comm (pc.length - 1) 8]
          exact My.marks_lt (by omega)
        rw [hms] at q
        generalize marksH x (8 * (pc.length - 1)) (Sv13.hash key) = ms at q h2' hml
        refine ⟨l, rfl, ⟨_, SqL.of h2'⟩, for_list (K := K) (a := l) (xs := vb ms) (fun i σ H3 => Same H2 H3 ∧ (∀ j m, j < i → ms[j]? = some m → (pc.getD (m / 8) 0).testBit (m % 8) = true) ∧ ∃ v, σ = [some (.ref a), some (.ref k), some (.int (x : Int)), v])
          ⟨Same.refl _, fun j m hj => absurd hj (Nat.not_lt_zero _), none, rfl⟩ (fun i σ H3 _ p => SqL.of (p.1 _ _ h2')) ?_ ?_⟩
        · rintro i mv σ H3 hmv ⟨s3, hall, v, rfl⟩
          obtain ⟨m, hm, rfl⟩ := vb_get hmv
          have hmlt := hml m (List.mem_of_getElem? hm)
          have hget : pc[m / 8]? = some pc[m / 8] := List.getElem?_eq_getElem (by omega)
          have hgd : pc.getD (m / 8) 0 = pc[m / 8] := by
            rw [List.getD_eq_getElem?_getD, hget]
            rfl
          refine ⟨_, rfl, _, rfl, _, _, rfl, rfl, ⟨by decide, by decide⟩, a, _, _, _, rfl, rfl, ((s1.trans s2).trans s3).seq ha, at_of (j := m / 8) (v := V.int ((pc[m / 8] : Nat) : Int)) ?_ ?_, _, rfl, _, _, rfl, rfl, (by show (0 : Int) < 8; decide), _, _, rfl, rfl, ?_, _, _, rfl, rfl, rfl, _, rfl, ?_⟩
          · omega
          · unfold vb
            rw [List.getElem?_map, hget]
            rfl
          · omega
          · rw [bit_test]
            cases hb : (pc[m / 8]).testBit (m % 8) with
            | true =>
              refine iteF ⟨s3, fun j m' hj hm' => ?_, _, rfl⟩
              by_cases hji : j < i
              · exact hall j m' hji hm'
              · have : j = i := by omega
                subst this
                rw [hm] at hm'
                cases hm'
                rw [hgd]
                exact hb
            | false =>
              have hall' : (ms.all fun m => (pc.getD (m / 8) 0).testBit (m % 8)) = false := by
                rw [List.all_eq_false]
                exact ⟨m, List.mem_of_getElem? hm, by rw [hgd, hb]; simp⟩
              rw [hall'] at q
              exact iteT (q H3 ((s1.trans s2).trans s3))
        · rintro σ H3 ⟨s3, hall, v, rfl⟩
          have hall' : (ms.all fun m => (pc.getD (m / 8) 0).testBit (m % 8)) = true := by
            rw [List.all_eq_true]
            intro m hm
            obtain ⟨j, hj, e⟩ := List.mem_iff_getElem.mp hm
            exact hall j m (by rw [vb_length]; exact hj) (by rw [List.getElem?_eq_getElem hj, e])
          rw [hall'] at q
          exact q H3 ((s1.trans s2).trans s3)
def mayIn (c : List Nat) (o : List Nat) (b : Nat) (key : List Nat) : Bool := if b / 2048 + 1 < o.length then Sv13.mayBe (Sv13.slice c (o.getD (b / 2048) 0) (o.getD (b / 2048 + 1) 0 - o.getD (b / 2048) 0)) key else true
theorem offs_rise {c o : List Nat} (h : Sv13.offsetsOf c = some o) {i x y : Nat} (hx : o[i]? = some x) (hy : o[i + 1]? = some y) : x ≤ y := by
  have hz : ((o.zip (o.drop 1)).all fun x => decide (x.1 ≤ x.2)) = true := by
    unfold Sv13.offsetsOf at h
    dsimp only at h
    split at h
    · cases h
    · split at h
      · rename_i hq
        cases h
        exact hq
      · cases h
  rw [List.all_eq_true] at hz
  have : (o.zip (o.drop 1))[i]? = some (x, y) := by
    rw [List.getElem?_zip_eq_some]
    exact ⟨hx, by rw [List.getElem?_drop, Nat.add_comm]; exact hy⟩
  have := hz _ (List.mem_of_getElem? this)
  exact of_decide_eq_true this
def sp_filter_may (K : Frag) (CN : Addr) : Sp := fun vs H Q _ => ∃ (a k : Addr) (b : Nat) (c o key : List Nat), vs = [.ref a, .int (b : Int), .ref k] ∧ SqL K H a (vb c) ∧ SqL K H k (vb key) ∧ isByte c ∧ isByte key ∧ c.length ≤ 100000 ∧ key.length ≤ 1000000 ∧ Sv13.offsetsOf c = some o ∧ ∀ H', Same H H' → Q (.bl (mayIn c o b key)) H'
theorem sc_filter_may_have : FnScope ["content", "begin", "key", "places", "stretch"] ["content", "begin", "key"] (defScope s_filter_may_have) := ⟨rfl, rfl, rfl, by decide +kernel, rfl, by decide +kernel, by decide +kernel⟩
theorem fx_filter_may_have {CN : Addr} (D : DefAt K mg "filter_may_have" s_filter_may_have) (C : Consts K mg) (F_places_of : Fxe P w K mg base "places_of" 2 ["content"] (sp_places_of K CN)) (F_piece_may_have : Fx P w K mg base "piece_may_have" 4 ["piece", "key"] (sp_piece_may K)) : Fxe P w K mg base "filter_may_have" 5 ["content", "begin", "key"] (sp_filter_may K CN) := by
  refine D.fxe sc_filter_may_have (fun _ _ _ _ _ _ us hl => by obtain ⟨_, _, _, rfl⟩ := ln3 hl; rfl) (fun vs H Q E h => ?_) (fun f cdv A outer s H vs Q E hr h => ?_)
  · obtain ⟨a, k, b, c, o, key, rfl, _⟩ := h
    rfl
  · obtain ⟨a, k, b, c, o, key, rfl, ha, hk, hcb, hkb, hcl, hkl, ho, q⟩ := h
    refine ⟨_, (pss_cons (ps_set (i := 3) sc_filter_may_have.nd rfl (Or.inl rfl) (pe_fxe F_places_of (hr.mono (by decide)) rfl passX (pa_cons (pv 0) pa_nil)))
      (pss_cons (ps_set (i := 4) sc_filter_may_have.nd rfl (Or.inl rfl) (pe_op op_fdiv (pv 1) (pe_gint rfl C.STRETCH)))
      (pss_cons (ps_if (pt_cmpR op_ge (pe_op op_add (pv 4) pe_int) (pe_callB call_len_seq rfl C.nlen PySem.boot_len (pa_cons (pv 3) pa_nil)) (nomark _)) (pss_one (ps_ret pe_bl)) pss_nil)
      (pss_one (ps_ret (pe_fx F_piece_may_have (hr.mono (by decide)) rfl (pa_cons (pe_slice sl_list (pv 0) (po_some (pe_ix ix_list (pv 3) (pv 4) (fun _ _ => rfl))) (po_some (pe_ix ix_list (pv 3) (pe_op op_add (pv 4) pe_int) (fun _ _ => rfl)))) (pa_cons (pv 2) pa_nil)))))))), ?_⟩
    try dsimp only [cxOf]
    refine ⟨_, rfl, a, c, rfl, ha, hcb, hcl, (fun hn => by rw [ho] at hn; cases hn), fun l hl l1 H1 s1 hl1 h1 => ?_⟩
    rw [ho] at hl
    cases hl
    have e1 : (b : Int) / 2048 = ((b / 2048 : Nat) : Int) := by omega
    refine ⟨_, rfl, _, _, rfl, rfl, ⟨by decide, by decide⟩, ?_⟩
    refine ⟨_, rfl, _, _, rfl, rfl, _, rfl, l1, _, rfl, .inl (SqL.of h1), _, _, rfl, rfl, _, rfl, ?_⟩
    rw [vb_length]
    unfold mayIn at q
    by_cases hge : b / 2048 + 1 < o.length
    · rw [decide_eq_false (by omega)]
      rw [if_pos hge] at q
      refine iteF ?_
      have g1 : o[b / 2048]? = some o[b / 2048] := List.getElem?_eq_getElem (by omega)
      have g2 : o[b / 2048 + 1]? = some o[b / 2048 + 1] := List.getElem?_eq_getElem hge
      have d1 : o.getD (b / 2048) 0 = o[b / 2048] := by rw [List.getD_eq_getElem?_getD, g1]; rfl
      have d2 : o.getD (b / 2048 + 1) 0 = o[b / 2048 + 1] := by rw [List.getD_eq_getElem?_getD, g2]; rfl
      have hri := offs_rise ho g1 g2
      rw [d1, d2] at q
      generalize o[b / 2048] = x at g1 hri q
      generalize o[b / 2048 + 1] = y at g2 hri q
      have v1 : (vb o)[b / 2048]? = some (V.int (x : Int)) := by unfold vb; rw [List.getElem?_map, g1]; rfl
      have v2 : (vb o)[b / 2048 + 1]? = some (V.int (y : Int)) := by unfold vb; rw [List.getElem?_map, g2]; rfl
      refine ⟨_, rfl, _, rfl, _, rfl, l1, _, _, V.int (x : Int), rfl, rfl, SqL.of h1, at_of (j := b / 2048) (by omega) v1, _, rfl, _, rfl, _, rfl, _, _, rfl, rfl, l1, _, _, V.int (y : Int), rfl, rfl, SqL.of h1, at_of (j := b / 2048 + 1) (by omega) v2, _, rfl, a, _, rfl, s1.seq ha, fun p hp => ?_⟩
      have s2 := Same.new (o := .lst (cutV (vb c) (some (x : Int)) (some (y : Int)))) s1 hp
      have hcut : cutV (vb c) (some (x : Int)) (some (y : Int)) = vb (Sv13.slice c x (y - x)) := by rw [cut_any hri, vb_slice]
      have hsl : (Sv13.slice c x (y - x)).length ≤ c.length := by
        unfold Sv13.slice
        rw [List.length_take, List.length_drop]
        omega
      refine ⟨_, rfl, p, k, Sv13.slice c x (y - x), key, rfl, SqL.of (by rw [upd_same, hcut]), s2.seq hk, fun z hz => hcb z (List.mem_of_mem_drop (List.mem_of_mem_take hz)), hkb, by omega, hkl, fun H' s' => q H' (s2.trans s')⟩
    · rw [decide_eq_true (by omega)]
      rw [if_neg hge] at q
      exact iteT (q H1 s1)
end
end KL
set_option Elab.async false
set_option linter.all false
set_option maxRecDepth 100000
namespace KL
open PySem PySem.W PyProof.Rows L2
section
variable {P : Program} {w : World} {K : Frag} {mg : Str → Option Value} {base : Heap}
theorem whole_none {t : List Nat} (h : My.wholeRun t = none) : Sv13.tableOf t = none := by
  rw [← My.table_run] at h
  cases q : Sv13.tableOf t with
  | none => rfl
  | some x => rw [q] at h; cases h
theorem whole_some {t : List Nat} {hs : List (List Nat × Sv13.Handle)} {fb : Option (List Nat)} {es : List Sv13.Entry} (h : My.wholeRun t = some (hs, fb, es)) : ∃ x, Sv13.tableOf t = some x ∧ x.blocks.map (fun b => (b.1, b.2.1)) = hs ∧ x.filter = fb ∧ x.entries = es := by
  rw [← My.table_run] at h
  cases q : Sv13.tableOf t with
  | none => rw [q] at h; cases h
  | some x =>
    rw [q] at h
    have h := Option.some.inj h
    injection h with h1 h2
    injection h2 with h2 h3
    exact ⟨x, rfl, h1, h2, h3⟩
end
end KL
set_option Elab.async false
set_option linter.all false
set_option maxRecDepth 100000
namespace KL
open PySem PySem.W PyProof.Rows L2
section
variable {P : Program} {w : World} {K : Frag} {mg : Str → Option Value} {base : Heap}
def sp_handle_for_n (H : Hp) (Q : VK) (hs : List (List Nat × Sv13.Handle)) (key : List Nat) : Prop := ∀ H', Same H H' → (hs.find? fun x => !Sv13.before x.1 key) = none → Q .non H'
def sp_handle_for_s (Ch : Addr) (H : Hp) (Q : VK) (hs : List (List Nat × Sv13.Handle)) (key : List Nat) : Prop := ∀ H' x q dh, Same H H' → (hs.find? fun x => !Sv13.before x.1 key) = some x → H' q = some (.ins Ch dh (fsH x.2)) → Q (.ref q) H'
def sp_handle_for (K : Frag) (Ct C Cs Ch : Addr) : Sp := fun vs H Q _ => ∃ (p k : Addr) (X : TX) (t ci key : List Nat) (hs : List (List Nat × Sv13.Handle)) (fb : Option (List Nat)) (bi b0 : My.BR) (j i : Nat) (bv : V) (es : List Sv13.Entry),
  vs = [.ref p, .ref k] ∧ TB K Ct C Cs Ch H p X t ci hs fb bi j i bv [] ∧ My.BR.new ci = some b0 ∧ b0.rest = some es ∧ (es.map fun e => e.1) = (hs.map fun e => e.1) ∧ SqL K H k (vb key) ∧ sp_handle_for_n H Q hs key ∧ sp_handle_for_s Ch H Q hs key
theorem sc_handle_for : FnScope ["table", "key", "reader", "handle"] ["table", "key"] (defScope s_handle_for) := ⟨rfl, rfl, rfl, by decide +kernel, rfl, by decide +kernel, by decide +kernel⟩
theorem fx_handle_for {Ct C Cs Ch CN : Addr} (D : DefAt K mg "handle_for" s_handle_for) (T : TableCls K Ct) (TR : BlockReaderCls K C) (M_BlockReader : Mkxe P w K mg base "BlockReader" C 3 ["self", "block"] (sp_BlockReader_init K C Cs CN)) (M_advance : Mtxe P w K mg base C "advance" 3 ["self"] (sp_adv K C Cs CN)) :
    Fxe P w K mg base "handle_for" 5 ["table", "key"] (sp_handle_for K Ct C Cs Ch) := by
  refine D.fxe sc_handle_for (fun _ _ _ _ _ _ us hl => by obtain ⟨_, _, rfl⟩ := ln2 hl; rfl) (fun vs H Q E h => ?_) (fun f cdv A outer s H vs Q E hr h => ?_)
  · obtain ⟨p, k, X, t, ci, key, hs, fb, bi, b0, j, i, bv, es, rfl, _⟩ := h
    rfl
  · obtain ⟨p, k, X, t, ci, key, hs, fb, bi, b0, j, i, bv, es, rfl, B, hnew, hes, hk, hkey, hnone, hsome⟩ := h
    refine ⟨_, (pss_cons (ps_set (i := 2) sc_handle_for.nd rfl (Or.inl rfl) (pe_mxe M_BlockReader (hr.mono (by decide)) rfl passX (pa_cons (pe_fld (pv 0) rfl) pa_nil)))
      (pss_cons (ps_for PassesOwn.leaving rfl (pi_list (pe_fld (pv 0) rfl)) (pg_name (i := 3) sc_handle_for.nd rfl (Or.inl rfl)) (pss_cons (ps_expr (pe_mte0 (pv 2) M_advance (hr.mono (by decide)) passX))
      (pss_one (ps_if (pt_cmpR (op_geL hr.units0) (pe_fld (pv 2) rfl) (pv 1) (nomark _)) (pss_one (ps_ret (pv 3))) pss_nil))))
      (pss_one (ps_ret pe_non)))), ?_⟩
    try dsimp only [cxOf]
    refine ⟨_, rfl, rfd B.ob T.cl T.nX fsT_index (fun pr dxr hpr hdx hne => ?_)⟩
    refine ⟨pr, dxr, X.lb, ci, rfl, upd_same, made_sq hpr hdx (SqL.of B.bo), B.ri.byt, B.ri.sz, (fun hn => by rw [hnew] at hn; cases hn), fun b hb F H1 hF R k1 hls hlk hlr hlv => ⟨rfl, ?_⟩⟩
    rw [hnew] at hb
    obtain rfl := Option.some.inj hb
    have s1 : Same H H1 := made_same hpr hdx k1
    have foot0 : ∀ x ∈ F.foot pr, H x = none := by
      intro x hx
      simp [RF.foot] at hx
      rcases hx with rfl | rfl | rfl
      · exact hpr
      · exact made_free hls
      · exact made_free hlk
    have hle := B.hp.1
    refine ⟨_, rfl, rfd (s1 _ _ B.ob) T.cl T.nH fsT_handles ⟨X.lh, rfl, ⟨_, SqL.of (s1 _ _ B.ho)⟩, for_list (K := K) (a := X.lh) (xs := X.ps.map V.ref) (fun i σ H2 => Same H H2 ∧ ∃ (lv : Addr) (b : My.BR) (es : List Sv13.Entry) (v : Option V), RAt K C Cs H2 pr { F with lv := lv } ci b ∧ b.rest = some es ∧ (es.map fun e => e.1) = ((hs.drop i).map fun e => e.1) ∧ (hs.find? fun x => !Sv13.before x.1 key) = ((hs.drop i).find? fun x => !Sv13.before x.1 key) ∧ σ = [some (.ref p), some (.ref k), some (.ref pr), v])
      ⟨s1, F.lv, b0, es, none, R, hes, hk, rfl, rfl⟩ (fun i σ H2 _ q => SqL.of (q.1 _ _ B.ho)) ?_ ?_⟩⟩
    · rintro i hv σ H2 hget ⟨s2, lv, b, es, v, R2, he, hk2, hf2, rfl⟩
      rw [List.getElem?_map] at hget
      obtain ⟨q, hq, rfl⟩ := Option.map_eq_some_iff.mp hget
      have hi : i < hs.length := by
        have := (List.getElem?_eq_some_iff.mp hq).1
        omega
      have hg : hs[i]? = some hs[i] := List.getElem?_eq_getElem hi
      generalize hs[i] = x at hg
      obtain ⟨dh, hqo⟩ := B.hp.2 i q x hq hg
      rw [drop_cons hg] at hk2 hf2
      cases es with
      | nil => cases hk2
      | cons e es =>
        have h1 : e.1 = x.1 := (List.cons.inj hk2).1
        have h2 : (es.map fun e => e.1) = (hs.drop (i + 1)).map fun e => e.1 := (List.cons.inj hk2).2
        refine ⟨_, rfl, rmt R2.ob fsR_advance ⟨pr, { F with lv := lv }, ci, b, rfl, R2, (fun hn => by rw [My.BR.rest_none hn] at he; cases he), (fun hn => by rw [My.BR.rest_end hn] at he; cases he), fun b1 hb1 lv1 H3 R3 k3 hlv3 => ?_⟩⟩
        rw [My.BR.rest_step R2.pl hb1] at he
        have hq1 : b1.rest = some es ∧ b1.key = x.1 := by
          cases hr : b1.rest with
          | none => rw [hr] at he; cases he
          | some l =>
            rw [hr] at he
            injection he with he
            injection he with e1 e2
            rw [← e1] at h1
            exact ⟨by rw [e2], h1⟩
        have s3 : Same H H3 := fun y o ho => k3 y o (s2 y o ho) (fun z => by rw [foot0 y z] at ho; cases ho)
        refine ⟨_, rfl, rfd R3.ob TR.cl TR.nK fsR_key ⟨_, rfl, rd_ge (SqL.of R3.ky) (s3.seq hkey) ⟨_, rfl, ?_⟩⟩⟩
        rw [hq1.2]
        rw [List.find?_cons] at hf2
        cases hbf : !Sv13.before x.1 key with
        | true =>
          rw [hbf] at hf2
          exact iteT ⟨_, rfl, hsome H3 x q dh s3 hf2 (s3 _ _ hqo)⟩
        | false =>
          rw [hbf] at hf2
          exact iteF ⟨s3, lv1, b1, es, _, R3, hq1.1, h2, hf2, rfl⟩
    · rintro σ H2 ⟨s2, lv, b, es, v, R2, he, hk2, hf2, rfl⟩
      rw [List.length_map, hle, List.drop_length] at hf2
      exact hnone H2 s2 hf2
end
end KL
set_option Elab.async false
set_option linter.all false
set_option maxRecDepth 100000
namespace KL
open PySem PySem.W PyProof.Rows L2
section
variable {P : Program} {w : World} {K : Frag} {mg : Str → Option Value} {base : Heap}
theorem run_offs {t : List Nat} {hs : List (List Nat × Sv13.Handle)} {c : List Nat} (h : My.runTable t = some (hs, some c)) : ∃ o, Sv13.offsetsOf c = some o := by
  unfold My.runTable at h
  split at h
  · cases h
  · obtain ⟨m, _, h⟩ := Option.bind_eq_some_iff.mp h
    obtain ⟨i, _, h⟩ := Option.bind_eq_some_iff.mp h
    obtain ⟨fb, hf, h⟩ := Option.bind_eq_some_iff.mp h
    obtain ⟨ix, _, h⟩ := Option.bind_eq_some_iff.mp h
    obtain ⟨hs', _, h⟩ := Option.map_eq_some_iff.mp h
    injection h with _ h
    subst h
    unfold My.runFilter at hf
    obtain ⟨l, _, hf⟩ := Option.bind_eq_some_iff.mp hf
    split at hf
    · cases hf
    · split at hf
      · cases hf
      · obtain ⟨h', _, hf⟩ := Option.bind_eq_some_iff.mp hf
        obtain ⟨c', _, hf⟩ := Option.bind_eq_some_iff.mp hf
        obtain ⟨o, ho, hf⟩ := Option.map_eq_some_iff.mp hf
        cases hf
        exact ⟨o, ho⟩
    · cases hf
def mayRun (hs : List (List Nat × Sv13.Handle)) (fb : Option (List Nat)) (key : List Nat) : Bool := match hs.find? fun x => !Sv13.before x.1 key with
  | none => false
  | some x => match fb with
    | none => true
    | some c => mayIn c ((Sv13.offsetsOf c).getD []) x.2.at_ key
def sp_may_have (K : Frag) (CN : Addr) : Sp := fun vs H Q E => ∃ (a k : Addr) (t key : List Nat), vs = [.ref a, .ref k] ∧ SqL K H a (vb t) ∧ SqL K H k (vb key) ∧ isByte t ∧ isByte key ∧ t.length ≤ 100000 ∧ key.length ≤ 1000000 ∧ (My.wholeRun t = none → Bad CN E) ∧ (∀ hs fb es, My.wholeRun t = some (hs, fb, es) → ∀ H' : Hp, Q (.bl (mayRun hs fb key)) H')
theorem sc_may_have : FnScope ["file", "key", "table", "handle"] ["file", "key"] (defScope s_may_have) := ⟨rfl, rfl, rfl, by decide +kernel, rfl, by decide +kernel, by decide +kernel⟩
theorem fx_may_have {Ct C Cs Ch CN : Addr} (D : DefAt K mg "may_have" s_may_have) (T : TableCls K Ct) (TH : HandleCls K Ch) (M_Table : Mkxe P w K mg base "Table" Ct 6 ["self", "file"] (sp_Table_init K Ct C Cs Ch CN)) (M_tadv : Mtxe P w K mg base Ct "advance" 6 ["self"] (sp_tadv K Ct C Cs Ch CN))
    (F_handle_for : Fxe P w K mg base "handle_for" 5 ["table", "key"] (sp_handle_for K Ct C Cs Ch)) (F_filter_may_have : Fxe P w K mg base "filter_may_have" 5 ["content", "begin", "key"] (sp_filter_may K CN)) :
    Fxe P w K mg base "may_have" 8 ["file", "key"] (sp_may_have K CN) := by
  refine D.fxe sc_may_have (fun _ _ _ _ _ _ us hl => by obtain ⟨_, _, rfl⟩ := ln2 hl; rfl) (fun vs H Q E h => ?_) (fun f cdv A outer s H vs Q E hr h => ?_)
  · obtain ⟨a, k, t, key, rfl, _⟩ := h
    rfl
  · obtain ⟨a, k, t, key, rfl, ha, hk, hby, hkb, hsz, hkl, hbad, hok⟩ := h
    refine ⟨_, (pss_cons (ps_set (i := 2) sc_may_have.nd rfl (Or.inl rfl) (pe_mxe M_Table (hr.mono (by decide)) rfl passX (pa_cons (pv 0) pa_nil)))
      (pss_cons (ps_while PassesOwn.leaving (pt_val (pe_mte0 (pv 2) M_tadv (hr.mono (by decide)) passX)) (pss_one ps_pass))
      (pss_cons (ps_set (i := 3) sc_may_have.nd rfl (Or.inl rfl) (pe_fxe F_handle_for (hr.mono (by decide)) rfl passX (pa_cons (pv 2) (pa_cons (pv 1) pa_nil))))
      (pss_cons (ps_if (pt_cmpR op_isN (pv 3) pe_non (nomark _)) (pss_one (ps_ret pe_bl)) pss_nil)
      (pss_one (ps_ret (pe_or (pe_cmpR op_isN (pe_fld (pv 2) rfl) pe_non (nomark _)) (pe_one (pe_fxe F_filter_may_have (hr.mono (by decide)) rfl passX (pa_cons (pe_fld (pv 2) rfl) (pa_cons (pe_fld (pv 3) rfl) (pa_cons (pv 1) pa_nil)))))))))))), ?_⟩
    try dsimp only [cxOf]
    unfold My.wholeRun at hbad hok
    refine ⟨_, rfl, fun p dx hp hdx hne => ?_⟩
    refine ⟨p, dx, a, t, rfl, upd_same, made_sq hp hdx ha, hby, hsz, fun hn => hbad (by rw [hn]; rfl), fun hs fb hT X ci bi H1 B hnew k1 hf => ⟨rfl, ?_⟩⟩
    rw [hT] at hbad hok
    simp only [Option.bind_some] at hbad hok
    have s1 : Same H H1 := made_same hp hdx k1
    have L := TL.start B s1 (fun x hx => by
      rcases List.mem_cons.mp hx with q | q
      · rw [q]; exact hp
      · exact made_free (hf x q))
    obtain ⟨es0, hes0, hk0⟩ := B.ix
    rw [List.drop_zero] at hk0
    refine ⟨fun m σ H2 => ∃ pre, TL K Ct C Cs Ch H H2 p t ci hs fb [] pre m ∧ σ = [some (.ref a), some (.ref k), some (.ref p), none], ⟨_, [], L, rfl⟩, ?_⟩
    rintro m σ H2 ⟨pre, L2, rfl⟩
    obtain ⟨X2, i2, bv2, ob2⟩ := L2.obj
    refine ⟨_, rfl, rmt ob2 fsT_advance ?_⟩
    unfold tNil
    dsimp only
    refine TL.adv L2 (fun hn => hbad (by rw [hn]; rfl)) (fun he X' bi' j' i' bv' H' B' s' _ => ⟨_, rfl, iteF ?_⟩) (fun m' X' bi' j' pb FB c b H' lt M L' _ => ⟨_, rfl, iteT ⟨_, fun σ' H' h => h, ?_⟩⟩) (fun x hx => nomatch hx)
    · have hok := hok hs fb pre (by rw [he]; rfl)
      unfold mayRun at hok
      refine ⟨_, rfl, _, rfl, p, k, X', t, ci, key, hs, fb, bi', bi, j', i', bv', es0, rfl, B', hnew, hes0, hk0, s'.seq hk, ?_, ?_⟩
      · intro H3 s3 hn
        rw [hn] at hok
        exact ⟨_, rfl, rfl, _, rfl, iteT (hok H3)⟩
      · intro H3 x q dh s3 hx hq
        rw [hx] at hok
        dsimp only at hok
        refine ⟨_, rfl, rfl, _, rfl, iteF ?_⟩
        have B3 := B'.same s3
        refine ⟨_, rfl, rfd B3.ob T.cl T.nB fsT_filter ⟨rfl, _, rfl, ?_⟩⟩
        rcases B3.fo with ⟨hv, hfb, _⟩ | ⟨l, c, hv, hfb, _, hl, hcb, hcz⟩
        · rw [hv]
          rw [hfb] at hok
          exact iteT (hok H3)
        · rw [hv]
          rw [hfb] at hok hT
          dsimp only at hok
          obtain ⟨o, ho⟩ := run_offs hT
          rw [ho] at hok
          refine iteF ⟨_, rfl, rfd B3.ob T.cl T.nB fsT_filter ⟨_, rfl, rfd hq TH.cl TH.nB fsH_begin ⟨_, rfl, l, k, x.2.at_, c, o, key, ?_, SqL.of hl, (s'.trans s3).seq hk, hcb, hkb, hcz, hkl, ho, fun H' s' => hok H'⟩⟩⟩
          rw [hv]
          rfl
    · exact ⟨m', lt, _, L'.sub (fun x hx => nomatch hx), rfl⟩
end
end KL
set_option Elab.async false
set_option linter.all false
set_option maxRecDepth 100000
namespace KL
open PySem PySem.W PyProof.Rows L2
section
variable {P : Program} {w : World} {K : Frag} {mg : Str → Option Value} {base : Heap}
def mayAns (t key : List Nat) : List Int := if Sv13.within (key.length : Int) 0 65535 = false then [-2] else match Sv13.tableOf t with
  | none => [-3]
  | some x => [if x.may key = true then 1 else 0]
theorem may_is {t : List Nat} {hs : List (List Nat × Sv13.Handle)} {fb : Option (List Nat)} {es : List Sv13.Entry} (h : My.wholeRun t = some (hs, fb, es)) (key : List Nat) : ∃ x, Sv13.tableOf t = some x ∧ x.may key = mayRun hs fb key := by
  obtain ⟨x, hx, rfl, rfl, _⟩ := whole_some h
  refine ⟨x, hx, ?_⟩
  unfold Sv13.Table.may mayRun
  rw [List.find?_map]
  generalize hq : x.blocks.find? (fun b => !Sv13.before b.1 key) = fq
  have hq2 : x.blocks.find? ((fun x : List Nat × Sv13.Handle => !Sv13.before x.1 key) ∘ fun b => (b.1, b.2.1)) = fq := hq
  rw [hq2]
  cases fq with
  | none => rfl
  | some b =>
    cases x.filter with
    | none => rfl
    | some c => rfl
def sp_may (K : Frag) : Sp := fun vs H Q _ => ∃ (a k : Addr) (t key : List Nat), vs = [.ref a, .ref k] ∧ SqL K H a (vb t) ∧ SqL K H k (vb key) ∧ isByte t ∧ isByte key ∧ t.length ≤ 100000 ∧ ∀ (la : Addr) (H' : Hp), H' la = some (.lst ((mayAns t key).map V.int)) → Q (.ref la) H'
theorem sc_may : FnScope ["table", "key"] ["table", "key"] (defScope s_may) := ⟨rfl, rfl, rfl, by decide +kernel, rfl, by decide +kernel, by decide +kernel⟩
set_option maxHeartbeats 1000000 in
theorem fx_may {CN : Addr} (D : DefAt K mg "may" s_may) (C : Consts K mg) (O : ExcAt K mg "NoTable" CN) (F_is_length : Fx P w K mg base "is_length" 2 ["number"] sp_is_length) (F_is_key_length : Fx P w K mg base "is_key_length" 2 ["number"] sp_is_key_length) (F_may_have : Fxe P w K mg base "may_have" 8 ["file", "key"] (sp_may_have K CN)) :
    Fxe P w K mg base "may" 9 ["table", "key"] (sp_may K) := by
  refine D.fxe sc_may (fun _ _ _ _ _ _ us hl => by obtain ⟨_, _, rfl⟩ := ln2 hl; rfl) (fun vs H Q E h => ?_) (fun f cdv A outer s H vs Q E hr h => ?_)
  · obtain ⟨a, k, t, key, rfl, _⟩ := h
    rfl
  · obtain ⟨a, k, t, key, rfl, ha, hk, hby, hkb, hlen, q⟩ := h
    refine ⟨_, (pss_cons (ps_if (pt_not (PW.pt (pw_and (pt_val (pe_fx F_is_length (hr.mono (by decide)) rfl (pa_cons (pe_callB call_len_seq rfl C.nlen PySem.boot_len (pa_cons (pv 0) pa_nil)) pa_nil))) (pw_and1 (pt_val (pe_fx F_is_key_length (hr.mono (by decide)) rfl (pa_cons (pe_callB call_len_seq rfl C.nlen PySem.boot_len (pa_cons (pv 1) pa_nil)) pa_nil))))))) (pss_one (ps_ret (pe_lst (pa_cons (pe_gint rfl C.OUT_OF_RANGE) pa_nil)))) pss_nil)
      (pss_one (ps_try (E := fun c _ _ => c = .ref CN ∧ Sv13.tableOf t = none) top_cx O rfl
        (fun pn xe hp => pss_one (ps_ret (pe_lst (pa_cons (pe_ifExp (pt_val (pe_fxe F_may_have (hr.mono (by decide)) rfl hp (pa_cons (pv 0) (pa_cons (pv 1) pa_nil)))) pe_int pe_int) pa_nil))))
        (fun A' => pss_one (ps_ret (pe_lst (pa_cons (pe_gint rfl C.NO_TABLE) pa_nil))))))), ?_⟩
    try dsimp only [cxOf]
    unfold mayAns at q
    refine ⟨_, rfl, a, _, rfl, .inl ha, _, rfl, _, rfl, ?_⟩
    have c1 : (decide ((0 : Int) ≤ (((vb t).length : Nat) : Int)) && decide ((((vb t).length : Nat) : Int) ≤ 16777216)) = true := by
      rw [vb_length, decide_eq_true (by omega), decide_eq_true (by omega)]
      rfl
    rw [c1]
    refine iteT ?_
    refine ⟨_, rfl, k, _, rfl, .inl hk, _, rfl, _, rfl, ?_⟩
    rw [vb_length]
    cases hp : (decide ((0 : Int) ≤ (key.length : Int)) && decide ((key.length : Int) ≤ 65535)) with
    | false =>
      have hp' : Sv13.within (key.length : Int) 0 65535 = false := hp
      refine iteT ⟨(by show 1 ≤ sizeLine; decide), fun la hla => ?_⟩
      rw [if_pos hp'] at q
      exact q la _ upd_same
    | true =>
      have hp' : Sv13.within (key.length : Int) 0 65535 = true := hp
      rw [if_neg (by rw [hp']; decide)] at q
      have hkl : key.length ≤ 1000000 := by
        rw [Bool.and_eq_true, decide_eq_true_iff, decide_eq_true_iff] at hp
        omega
      refine iteF ?_
      refine ⟨fun c d H' hc => ?_, ?_⟩
      · obtain ⟨rfl, hc⟩ := hc
        refine ⟨rfl, fun σ' => ⟨(by show 1 ≤ sizeLine; decide), fun la hla => ?_⟩⟩
        rw [hc] at q
        exact q la _ upd_same
      · refine ⟨_, rfl, _, rfl, a, k, t, key, rfl, ha, hk, hby, hkb, hlen, hkl, fun hn H' => ⟨rfl, whole_none hn⟩, fun hs fb es hw H' => ?_⟩
        obtain ⟨x, hx, hm⟩ := may_is hw key
        rw [hx] at q
        dsimp only at q
        rw [hm] at q
        refine ⟨_, rfl, ?_⟩
        cases hb : mayRun hs fb key with
        | true =>
          rw [hb] at q
          exact iteT ⟨(by show 1 ≤ sizeLine; decide), fun la hla => q la _ upd_same⟩
        | false =>
          rw [hb] at q
          exact iteF ⟨(by show 1 ≤ sizeLine; decide), fun la hla => q la _ upd_same⟩
end
end KL

set_option Elab.async false
set_option linter.all false
set_option maxRecDepth 100000
namespace KL
open PySem PySem.W PyProof.Rows L2
theorem may_ans {ns ks : List Int} (hl : ns.length ≤ 100000) : PySv13.may ns ks = mayAns (ns.map Int.toNat) (ks.map Int.toNat) := by
  have hw := within_len hl
  have hf : ∀ x : Sv13.Ans, Sv13.does (.may (ns.map Int.toNat) (ns.length : Int) (ks.map Int.toNat) (ks.length : Int)) = x → PySv13.may ns ks = x.v :: (Sv13Neutral.ints x.b ++ Sv13Neutral.ints x.next.toList) := by
    intro x hx
    rw [← hx]
    rfl
  have hlen : (ks.map Int.toNat).length = ks.length := List.length_map _
  unfold mayAns
  rw [hlen]
  have e : Sv13.does (.may (ns.map Int.toNat) (ns.length : Int) (ks.map Int.toNat) (ks.length : Int)) = if Sv13.within (ks.length : Int) 0 65535 = false then Sv13.ok (-2) else match Sv13.tableOf (ns.map Int.toNat) with
      | none => Sv13.ok (-3)
      | some x => Sv13.ok (if x.may (ks.map Int.toNat) = true then 1 else 0) := by
    show (if (Sv13.within (ns.length : Int) 0 Sv13.SIZE && Sv13.within (ks.length : Int) 0 65535) = false then Sv13.ok (-2) else _) = _
    rw [hw, Bool.true_and]
    rfl
  rw [hf _ e]
  by_cases hc : Sv13.within (ks.length : Int) 0 65535 = false
  · rw [if_pos hc, if_pos hc]
    rfl
  · rw [if_neg hc, if_neg hc]
    cases Sv13.tableOf (ns.map Int.toNat) with
    | none => rfl
    | some x => rfl
theorem args_ (args : List WData) (hpre : PySem.Challenge.rw_keylogs_s06_may.pre args = true) : ∃ (bs ks : List Nat), args = [Arg.nums (bs.map fun n : Nat => (n : Int)), Arg.nums (ks.map fun n : Nat => (n : Int))].map Arg.data ∧ bs.length ≤ 100000 ∧ ks.length ≤ 100000 ∧ isByte bs ∧ isByte ks ∧ PySem.Challenge.rw_keylogs_s06_may.post args (.list ((mayAns bs ks).map WData.int)) = true := by
  obtain ⟨⟨ns, ks, u⟩, e, _⟩ := os_pre_some hpre
  obtain ⟨d2, ds2, rfl, e3, e4⟩ := dec_cons e
  obtain ⟨d3, ds3, rfl, e5, e6⟩ := dec_cons e4
  obtain rfl := dec_nil e6
  obtain ⟨rfl, b3, b4⟩ := dec_list e3
  obtain ⟨rfl, b5, b6⟩ := dec_list e5
  obtain ⟨hn, hby⟩ := nats_back b4
  obtain ⟨hk, hbk⟩ := nats_back b6
  refine ⟨ns.map Int.toNat, ks.map Int.toNat, ?_, by rw [List.length_map]; exact b3, by rw [List.length_map]; exact Nat.le_trans b5 (by decide), hby, hbk, ?_⟩
  · rw [hn, hk]
    rfl
  · refine post_list e ?_
    show WData.list ((PySv13.may ns ks).map WData.int) = WData.list _
    rw [may_ans b3]
theorem all_ {P : Program} {w : World} {K : Frag} {h : Heap} {mg : Str → Option Value} (X : K.In h) (G : h.Ns mainGlobals mg)
    {f_fixed : Addr} {od_fixed an_fixed : Option Addr} {sl_fixed : Array (Option Value)} {oc_fixed kV_fixed dc_fixed pm_fixed cd_fixed ct_fixed : Value}
    {f_number_at : Addr} {od_number_at an_number_at : Option Addr} {sl_number_at : Array (Option Value)} {oc_number_at kV_number_at dc_number_at pm_number_at cd_number_at ct_number_at : Value}
    {f_varint : Addr} {od_varint an_varint : Option Addr} {sl_varint : Array (Option Value)} {oc_varint kV_varint dc_varint pm_varint cd_varint ct_varint : Value}
    {f_restarts_of : Addr} {od_restarts_of an_restarts_of : Option Addr} {sl_restarts_of : Array (Option Value)} {oc_restarts_of kV_restarts_of dc_restarts_of pm_restarts_of cd_restarts_of ct_restarts_of : Value}
    {f_begun : Addr} {od_begun an_begun : Option Addr} {sl_begun : Array (Option Value)} {oc_begun kV_begun dc_begun pm_begun cd_begun ct_begun : Value}
    {f_words_of : Addr} {od_words_of an_words_of : Option Addr} {sl_words_of : Array (Option Value)} {oc_words_of kV_words_of dc_words_of pm_words_of cd_words_of ct_words_of : Value}
    {f_mixed_on : Addr} {od_mixed_on an_mixed_on : Option Addr} {sl_mixed_on : Array (Option Value)} {oc_mixed_on kV_mixed_on dc_mixed_on pm_mixed_on cd_mixed_on ct_mixed_on : Value}
    {f_key_hash : Addr} {od_key_hash an_key_hash : Option Addr} {sl_key_hash : Array (Option Value)} {oc_key_hash kV_key_hash dc_key_hash pm_key_hash cd_key_hash ct_key_hash : Value}
    {f_bit_places : Addr} {od_bit_places an_bit_places : Option Addr} {sl_bit_places : Array (Option Value)} {oc_bit_places kV_bit_places dc_bit_places pm_bit_places cd_bit_places ct_bit_places : Value}
    {f_places_of : Addr} {od_places_of an_places_of : Option Addr} {sl_places_of : Array (Option Value)} {oc_places_of kV_places_of dc_places_of pm_places_of cd_places_of ct_places_of : Value}
    {f_piece_may_have : Addr} {od_piece_may_have an_piece_may_have : Option Addr} {sl_piece_may_have : Array (Option Value)} {oc_piece_may_have kV_piece_may_have dc_piece_may_have pm_piece_may_have cd_piece_may_have ct_piece_may_have : Value}
    {f_filter_may_have : Addr} {od_filter_may_have an_filter_may_have : Option Addr} {sl_filter_may_have : Array (Option Value)} {oc_filter_may_have kV_filter_may_have dc_filter_may_have pm_filter_may_have cd_filter_may_have ct_filter_may_have : Value}
    {f_sum_from : Addr} {od_sum_from an_sum_from : Option Addr} {sl_sum_from : Array (Option Value)} {oc_sum_from kV_sum_from dc_sum_from pm_sum_from cd_sum_from ct_sum_from : Value}
    {f_masked : Addr} {od_masked an_masked : Option Addr} {sl_masked : Array (Option Value)} {oc_masked kV_masked dc_masked pm_masked cd_masked ct_masked : Value}
    {f_taken_handle : Addr} {od_taken_handle an_taken_handle : Option Addr} {sl_taken_handle : Array (Option Value)} {oc_taken_handle kV_taken_handle dc_taken_handle pm_taken_handle cd_taken_handle ct_taken_handle : Value}
    {f_handle_of : Addr} {od_handle_of an_handle_of : Option Addr} {sl_handle_of : Array (Option Value)} {oc_handle_of kV_handle_of dc_handle_of pm_handle_of cd_handle_of ct_handle_of : Value}
    {f_seal_of : Addr} {od_seal_of an_seal_of : Option Addr} {sl_seal_of : Array (Option Value)} {oc_seal_of kV_seal_of dc_seal_of pm_seal_of cd_seal_of ct_seal_of : Value}
    {f_content_at : Addr} {od_content_at an_content_at : Option Addr} {sl_content_at : Array (Option Value)} {oc_content_at kV_content_at dc_content_at pm_content_at cd_content_at ct_content_at : Value}
    {f_filter_key : Addr} {od_filter_key an_filter_key : Option Addr} {sl_filter_key : Array (Option Value)} {oc_filter_key kV_filter_key dc_filter_key pm_filter_key cd_filter_key ct_filter_key : Value}
    {f_end_handles : Addr} {od_end_handles an_end_handles : Option Addr} {sl_end_handles : Array (Option Value)} {oc_end_handles kV_end_handles dc_end_handles pm_end_handles cd_end_handles ct_end_handles : Value}
    {f_filter_content : Addr} {od_filter_content an_filter_content : Option Addr} {sl_filter_content : Array (Option Value)} {oc_filter_content kV_filter_content dc_filter_content pm_filter_content cd_filter_content ct_filter_content : Value}
    {f_data_handles : Addr} {od_data_handles an_data_handles : Option Addr} {sl_data_handles : Array (Option Value)} {oc_data_handles kV_data_handles dc_data_handles pm_data_handles cd_data_handles ct_data_handles : Value}
    {f_handle_for : Addr} {od_handle_for an_handle_for : Option Addr} {sl_handle_for : Array (Option Value)} {oc_handle_for kV_handle_for dc_handle_for pm_handle_for cd_handle_for ct_handle_for : Value}
    {f_may_have : Addr} {od_may_have an_may_have : Option Addr} {sl_may_have : Array (Option Value)} {oc_may_have kV_may_have dc_may_have pm_may_have cd_may_have ct_may_have : Value}
    {f_within : Addr} {od_within an_within : Option Addr} {sl_within : Array (Option Value)} {oc_within kV_within dc_within pm_within cd_within ct_within : Value}
    {f_is_length : Addr} {od_is_length an_is_length : Option Addr} {sl_is_length : Array (Option Value)} {oc_is_length kV_is_length dc_is_length pm_is_length cd_is_length ct_is_length : Value}
    {f_is_key_length : Addr} {od_is_key_length an_is_key_length : Option Addr} {sl_is_key_length : Array (Option Value)} {oc_is_key_length kV_is_key_length dc_is_key_length pm_is_key_length cd_is_key_length ct_is_key_length : Value}
    {f_may : Addr} {od_may an_may : Option Addr} {sl_may : Array (Option Value)} {oc_may kV_may dc_may pm_may cd_may ct_may : Value}
    {C_Scanner : Addr}
    {f_Scanner_init : Addr} {od_Scanner_init an_Scanner_init : Option Addr} {sl_Scanner_init : Array (Option Value)} {oc_Scanner_init kV_Scanner_init dc_Scanner_init pm_Scanner_init cd_Scanner_init ct_Scanner_init : Value}
    {f_Scanner_at_end : Addr} {od_Scanner_at_end an_Scanner_at_end : Option Addr} {sl_Scanner_at_end : Array (Option Value)} {oc_Scanner_at_end kV_Scanner_at_end dc_Scanner_at_end pm_Scanner_at_end cd_Scanner_at_end ct_Scanner_at_end : Value}
    {f_Scanner_taken : Addr} {od_Scanner_taken an_Scanner_taken : Option Addr} {sl_Scanner_taken : Array (Option Value)} {oc_Scanner_taken kV_Scanner_taken dc_Scanner_taken pm_Scanner_taken cd_Scanner_taken ct_Scanner_taken : Value}
    {f_Scanner_taken_varint : Addr} {od_Scanner_taken_varint an_Scanner_taken_varint : Option Addr} {sl_Scanner_taken_varint : Array (Option Value)} {oc_Scanner_taken_varint kV_Scanner_taken_varint dc_Scanner_taken_varint pm_Scanner_taken_varint cd_Scanner_taken_varint ct_Scanner_taken_varint : Value}
    {C_BlockReader : Addr}
    {f_BlockReader_init : Addr} {od_BlockReader_init an_BlockReader_init : Option Addr} {sl_BlockReader_init : Array (Option Value)} {oc_BlockReader_init kV_BlockReader_init dc_BlockReader_init pm_BlockReader_init cd_BlockReader_init ct_BlockReader_init : Value}
    {f_BlockReader_advance : Addr} {od_BlockReader_advance an_BlockReader_advance : Option Addr} {sl_BlockReader_advance : Array (Option Value)} {oc_BlockReader_advance kV_BlockReader_advance dc_BlockReader_advance pm_BlockReader_advance cd_BlockReader_advance ct_BlockReader_advance : Value}
    {f_BlockReader_meet_restart : Addr} {od_BlockReader_meet_restart an_BlockReader_meet_restart : Option Addr} {sl_BlockReader_meet_restart : Array (Option Value)} {oc_BlockReader_meet_restart kV_BlockReader_meet_restart dc_BlockReader_meet_restart pm_BlockReader_meet_restart cd_BlockReader_meet_restart ct_BlockReader_meet_restart : Value}
    {f_BlockReader_change_key : Addr} {od_BlockReader_change_key an_BlockReader_change_key : Option Addr} {sl_BlockReader_change_key : Array (Option Value)} {oc_BlockReader_change_key kV_BlockReader_change_key dc_BlockReader_change_key pm_BlockReader_change_key cd_BlockReader_change_key ct_BlockReader_change_key : Value}
    {C_Handle : Addr}
    {f_Handle_init : Addr} {od_Handle_init an_Handle_init : Option Addr} {sl_Handle_init : Array (Option Value)} {oc_Handle_init kV_Handle_init dc_Handle_init pm_Handle_init cd_Handle_init ct_Handle_init : Value}
    {f_Handle_behind : Addr} {od_Handle_behind an_Handle_behind : Option Addr} {sl_Handle_behind : Array (Option Value)} {oc_Handle_behind kV_Handle_behind dc_Handle_behind pm_Handle_behind cd_Handle_behind ct_Handle_behind : Value}
    {f_Handle_packed : Addr} {od_Handle_packed an_Handle_packed : Option Addr} {sl_Handle_packed : Array (Option Value)} {oc_Handle_packed kV_Handle_packed dc_Handle_packed pm_Handle_packed cd_Handle_packed ct_Handle_packed : Value}
    {C_Table : Addr}
    {f_Table_init : Addr} {od_Table_init an_Table_init : Option Addr} {sl_Table_init : Array (Option Value)} {oc_Table_init kV_Table_init dc_Table_init pm_Table_init cd_Table_init ct_Table_init : Value}
    {f_Table_advance : Addr} {od_Table_advance an_Table_advance : Option Addr} {sl_Table_advance : Array (Option Value)} {oc_Table_advance kV_Table_advance dc_Table_advance pm_Table_advance cd_Table_advance ct_Table_advance : Value}
    {f_Table_begin_block : Addr} {od_Table_begin_block an_Table_begin_block : Option Addr} {sl_Table_begin_block : Array (Option Value)} {oc_Table_begin_block kV_Table_begin_block dc_Table_begin_block pm_Table_begin_block cd_Table_begin_block ct_Table_begin_block : Value}
    {f_Table_leave_block : Addr} {od_Table_leave_block an_Table_leave_block : Option Addr} {sl_Table_leave_block : Array (Option Value)} {oc_Table_leave_block kV_Table_leave_block dc_Table_leave_block pm_Table_leave_block cd_Table_leave_block ct_Table_leave_block : Value}
    {C_NoTable : Addr}
    {t_OUT_OF_RANGE : Tok}
    {t_NO_TABLE : Tok}
    {t_LONGEST_VARINT : Tok}
    {t_VARINT_LIMIT : Tok}
    {t_NUMBER_WIDTH : Tok}
    {t_WORD : Tok}
    {t_HASH_BEGIN : Tok}
    {t_HASH_FACTOR : Tok}
    {t_PLACE_WIDTH : Tok}
    {t_END_WIDTH_bloom : Tok}
    {t_MOST_PROBES : Tok}
    {t_STRETCH_BITS : Tok}
    {t_STRETCH : Tok}
    {t_ALL_ONES : Tok}
    {t_MASK_ADDEND : Tok}
    {rem : Addr} {od_rem : Option Addr} {n_rem : Nat} {sl_rem : Array (Option Value)} {arr : Array Value}
    {t_SEAL_WIDTH : Tok}
    {t_FILTER_NAME : Tok}
    {t_HANDLES_WIDTH : Tok}
    {t_MAGIC : Tok}
    {t_MAGIC_WIDTH : Tok}
    {t_END_WIDTH_layout : Tok}
    {t_LONGEST : Tok}
    {t_LONGEST_KEY : Tok}
    (a_fixed : nsIn K mainGlobals "fixed" = some (some (.ref f_fixed)))
    (l_fixed : K.lookup f_fixed = some ⟨oc_fixed, od_fixed, .func (fnOf "fixed" "fixed" (defArgs s_fixed) (defBody s_fixed) (defScope s_fixed) .none kV_fixed dc_fixed pm_fixed an_fixed cd_fixed ct_fixed), sl_fixed⟩)
    (c_fixed : codeIn K cd_fixed "fixed" = true)
    (k_fixed : keepIn K (.ref f_fixed) = true)
    (a_number_at : nsIn K mainGlobals "number_at" = some (some (.ref f_number_at)))
    (l_number_at : K.lookup f_number_at = some ⟨oc_number_at, od_number_at, .func (fnOf "number_at" "number_at" (defArgs s_number_at) (defBody s_number_at) (defScope s_number_at) .none kV_number_at dc_number_at pm_number_at an_number_at cd_number_at ct_number_at), sl_number_at⟩)
    (c_number_at : codeIn K cd_number_at "number_at" = true)
    (k_number_at : keepIn K (.ref f_number_at) = true)
    (a_varint : nsIn K mainGlobals "varint" = some (some (.ref f_varint)))
    (l_varint : K.lookup f_varint = some ⟨oc_varint, od_varint, .func (fnOf "varint" "varint" (defArgs s_varint) (defBody s_varint) (defScope s_varint) .none kV_varint dc_varint pm_varint an_varint cd_varint ct_varint), sl_varint⟩)
    (c_varint : codeIn K cd_varint "varint" = true)
    (k_varint : keepIn K (.ref f_varint) = true)
    (a_restarts_of : nsIn K mainGlobals "restarts_of" = some (some (.ref f_restarts_of)))
    (l_restarts_of : K.lookup f_restarts_of = some ⟨oc_restarts_of, od_restarts_of, .func (fnOf "restarts_of" "restarts_of" (defArgs s_restarts_of) (defBody s_restarts_of) (defScope s_restarts_of) .none kV_restarts_of dc_restarts_of pm_restarts_of an_restarts_of cd_restarts_of ct_restarts_of), sl_restarts_of⟩)
    (c_restarts_of : codeIn K cd_restarts_of "restarts_of" = true)
    (k_restarts_of : keepIn K (.ref f_restarts_of) = true)
    (a_begun : nsIn K mainGlobals "begun" = some (some (.ref f_begun)))
    (l_begun : K.lookup f_begun = some ⟨oc_begun, od_begun, .func (fnOf "begun" "begun" (defArgs s_begun) (defBody s_begun) (defScope s_begun) .none kV_begun dc_begun pm_begun an_begun cd_begun ct_begun), sl_begun⟩)
    (c_begun : codeIn K cd_begun "begun" = true)
    (k_begun : keepIn K (.ref f_begun) = true)
    (a_words_of : nsIn K mainGlobals "words_of" = some (some (.ref f_words_of)))
    (l_words_of : K.lookup f_words_of = some ⟨oc_words_of, od_words_of, .func (fnOf "words_of" "words_of" (defArgs s_words_of) (defBody s_words_of) (defScope s_words_of) .none kV_words_of dc_words_of pm_words_of an_words_of cd_words_of ct_words_of), sl_words_of⟩)
    (c_words_of : codeIn K cd_words_of "words_of" = true)
    (k_words_of : keepIn K (.ref f_words_of) = true)
    (a_mixed_on : nsIn K mainGlobals "mixed_on" = some (some (.ref f_mixed_on)))
    (l_mixed_on : K.lookup f_mixed_on = some ⟨oc_mixed_on, od_mixed_on, .func (fnOf "mixed_on" "mixed_on" (defArgs s_mixed_on) (defBody s_mixed_on) (defScope s_mixed_on) .none kV_mixed_on dc_mixed_on pm_mixed_on an_mixed_on cd_mixed_on ct_mixed_on), sl_mixed_on⟩)
    (c_mixed_on : codeIn K cd_mixed_on "mixed_on" = true)
    (k_mixed_on : keepIn K (.ref f_mixed_on) = true)
    (a_key_hash : nsIn K mainGlobals "key_hash" = some (some (.ref f_key_hash)))
    (l_key_hash : K.lookup f_key_hash = some ⟨oc_key_hash, od_key_hash, .func (fnOf "key_hash" "key_hash" (defArgs s_key_hash) (defBody s_key_hash) (defScope s_key_hash) .none kV_key_hash dc_key_hash pm_key_hash an_key_hash cd_key_hash ct_key_hash), sl_key_hash⟩)
    (c_key_hash : codeIn K cd_key_hash "key_hash" = true)
    (k_key_hash : keepIn K (.ref f_key_hash) = true)
    (a_bit_places : nsIn K mainGlobals "bit_places" = some (some (.ref f_bit_places)))
    (l_bit_places : K.lookup f_bit_places = some ⟨oc_bit_places, od_bit_places, .func (fnOf "bit_places" "bit_places" (defArgs s_bit_places) (defBody s_bit_places) (defScope s_bit_places) .none kV_bit_places dc_bit_places pm_bit_places an_bit_places cd_bit_places ct_bit_places), sl_bit_places⟩)
    (c_bit_places : codeIn K cd_bit_places "bit_places" = true)
    (k_bit_places : keepIn K (.ref f_bit_places) = true)
    (a_places_of : nsIn K mainGlobals "places_of" = some (some (.ref f_places_of)))
    (l_places_of : K.lookup f_places_of = some ⟨oc_places_of, od_places_of, .func (fnOf "places_of" "places_of" (defArgs s_places_of) (defBody s_places_of) (defScope s_places_of) .none kV_places_of dc_places_of pm_places_of an_places_of cd_places_of ct_places_of), sl_places_of⟩)
    (c_places_of : codeIn K cd_places_of "places_of" = true)
    (k_places_of : keepIn K (.ref f_places_of) = true)
    (a_piece_may_have : nsIn K mainGlobals "piece_may_have" = some (some (.ref f_piece_may_have)))
    (l_piece_may_have : K.lookup f_piece_may_have = some ⟨oc_piece_may_have, od_piece_may_have, .func (fnOf "piece_may_have" "piece_may_have" (defArgs s_piece_may_have) (defBody s_piece_may_have) (defScope s_piece_may_have) .none kV_piece_may_have dc_piece_may_have pm_piece_may_have an_piece_may_have cd_piece_may_have ct_piece_may_have), sl_piece_may_have⟩)
    (c_piece_may_have : codeIn K cd_piece_may_have "piece_may_have" = true)
    (k_piece_may_have : keepIn K (.ref f_piece_may_have) = true)
    (a_filter_may_have : nsIn K mainGlobals "filter_may_have" = some (some (.ref f_filter_may_have)))
    (l_filter_may_have : K.lookup f_filter_may_have = some ⟨oc_filter_may_have, od_filter_may_have, .func (fnOf "filter_may_have" "filter_may_have" (defArgs s_filter_may_have) (defBody s_filter_may_have) (defScope s_filter_may_have) .none kV_filter_may_have dc_filter_may_have pm_filter_may_have an_filter_may_have cd_filter_may_have ct_filter_may_have), sl_filter_may_have⟩)
    (c_filter_may_have : codeIn K cd_filter_may_have "filter_may_have" = true)
    (k_filter_may_have : keepIn K (.ref f_filter_may_have) = true)
    (a_sum_from : nsIn K mainGlobals "sum_from" = some (some (.ref f_sum_from)))
    (l_sum_from : K.lookup f_sum_from = some ⟨oc_sum_from, od_sum_from, .func (fnOf "sum_from" "sum_from" (defArgs s_sum_from) (defBody s_sum_from) (defScope s_sum_from) .none kV_sum_from dc_sum_from pm_sum_from an_sum_from cd_sum_from ct_sum_from), sl_sum_from⟩)
    (c_sum_from : codeIn K cd_sum_from "sum_from" = true)
    (k_sum_from : keepIn K (.ref f_sum_from) = true)
    (a_masked : nsIn K mainGlobals "masked" = some (some (.ref f_masked)))
    (l_masked : K.lookup f_masked = some ⟨oc_masked, od_masked, .func (fnOf "masked" "masked" (defArgs s_masked) (defBody s_masked) (defScope s_masked) .none kV_masked dc_masked pm_masked an_masked cd_masked ct_masked), sl_masked⟩)
    (c_masked : codeIn K cd_masked "masked" = true)
    (k_masked : keepIn K (.ref f_masked) = true)
    (a_taken_handle : nsIn K mainGlobals "taken_handle" = some (some (.ref f_taken_handle)))
    (l_taken_handle : K.lookup f_taken_handle = some ⟨oc_taken_handle, od_taken_handle, .func (fnOf "taken_handle" "taken_handle" (defArgs s_taken_handle) (defBody s_taken_handle) (defScope s_taken_handle) .none kV_taken_handle dc_taken_handle pm_taken_handle an_taken_handle cd_taken_handle ct_taken_handle), sl_taken_handle⟩)
    (c_taken_handle : codeIn K cd_taken_handle "taken_handle" = true)
    (k_taken_handle : keepIn K (.ref f_taken_handle) = true)
    (a_handle_of : nsIn K mainGlobals "handle_of" = some (some (.ref f_handle_of)))
    (l_handle_of : K.lookup f_handle_of = some ⟨oc_handle_of, od_handle_of, .func (fnOf "handle_of" "handle_of" (defArgs s_handle_of) (defBody s_handle_of) (defScope s_handle_of) .none kV_handle_of dc_handle_of pm_handle_of an_handle_of cd_handle_of ct_handle_of), sl_handle_of⟩)
    (c_handle_of : codeIn K cd_handle_of "handle_of" = true)
    (k_handle_of : keepIn K (.ref f_handle_of) = true)
    (a_seal_of : nsIn K mainGlobals "seal_of" = some (some (.ref f_seal_of)))
    (l_seal_of : K.lookup f_seal_of = some ⟨oc_seal_of, od_seal_of, .func (fnOf "seal_of" "seal_of" (defArgs s_seal_of) (defBody s_seal_of) (defScope s_seal_of) .none kV_seal_of dc_seal_of pm_seal_of an_seal_of cd_seal_of ct_seal_of), sl_seal_of⟩)
    (c_seal_of : codeIn K cd_seal_of "seal_of" = true)
    (k_seal_of : keepIn K (.ref f_seal_of) = true)
    (a_content_at : nsIn K mainGlobals "content_at" = some (some (.ref f_content_at)))
    (l_content_at : K.lookup f_content_at = some ⟨oc_content_at, od_content_at, .func (fnOf "content_at" "content_at" (defArgs s_content_at) (defBody s_content_at) (defScope s_content_at) .none kV_content_at dc_content_at pm_content_at an_content_at cd_content_at ct_content_at), sl_content_at⟩)
    (c_content_at : codeIn K cd_content_at "content_at" = true)
    (k_content_at : keepIn K (.ref f_content_at) = true)
    (a_filter_key : nsIn K mainGlobals "filter_key" = some (some (.ref f_filter_key)))
    (l_filter_key : K.lookup f_filter_key = some ⟨oc_filter_key, od_filter_key, .func (fnOf "filter_key" "filter_key" (defArgs s_filter_key) (defBody s_filter_key) (defScope s_filter_key) .none kV_filter_key dc_filter_key pm_filter_key an_filter_key cd_filter_key ct_filter_key), sl_filter_key⟩)
    (c_filter_key : codeIn K cd_filter_key "filter_key" = true)
    (k_filter_key : keepIn K (.ref f_filter_key) = true)
    (a_end_handles : nsIn K mainGlobals "end_handles" = some (some (.ref f_end_handles)))
    (l_end_handles : K.lookup f_end_handles = some ⟨oc_end_handles, od_end_handles, .func (fnOf "end_handles" "end_handles" (defArgs s_end_handles) (defBody s_end_handles) (defScope s_end_handles) .none kV_end_handles dc_end_handles pm_end_handles an_end_handles cd_end_handles ct_end_handles), sl_end_handles⟩)
    (c_end_handles : codeIn K cd_end_handles "end_handles" = true)
    (k_end_handles : keepIn K (.ref f_end_handles) = true)
    (a_filter_content : nsIn K mainGlobals "filter_content" = some (some (.ref f_filter_content)))
    (l_filter_content : K.lookup f_filter_content = some ⟨oc_filter_content, od_filter_content, .func (fnOf "filter_content" "filter_content" (defArgs s_filter_content) (defBody s_filter_content) (defScope s_filter_content) .none kV_filter_content dc_filter_content pm_filter_content an_filter_content cd_filter_content ct_filter_content), sl_filter_content⟩)
    (c_filter_content : codeIn K cd_filter_content "filter_content" = true)
    (k_filter_content : keepIn K (.ref f_filter_content) = true)
    (a_data_handles : nsIn K mainGlobals "data_handles" = some (some (.ref f_data_handles)))
    (l_data_handles : K.lookup f_data_handles = some ⟨oc_data_handles, od_data_handles, .func (fnOf "data_handles" "data_handles" (defArgs s_data_handles) (defBody s_data_handles) (defScope s_data_handles) .none kV_data_handles dc_data_handles pm_data_handles an_data_handles cd_data_handles ct_data_handles), sl_data_handles⟩)
    (c_data_handles : codeIn K cd_data_handles "data_handles" = true)
    (k_data_handles : keepIn K (.ref f_data_handles) = true)
    (a_handle_for : nsIn K mainGlobals "handle_for" = some (some (.ref f_handle_for)))
    (l_handle_for : K.lookup f_handle_for = some ⟨oc_handle_for, od_handle_for, .func (fnOf "handle_for" "handle_for" (defArgs s_handle_for) (defBody s_handle_for) (defScope s_handle_for) .none kV_handle_for dc_handle_for pm_handle_for an_handle_for cd_handle_for ct_handle_for), sl_handle_for⟩)
    (c_handle_for : codeIn K cd_handle_for "handle_for" = true)
    (k_handle_for : keepIn K (.ref f_handle_for) = true)
    (a_may_have : nsIn K mainGlobals "may_have" = some (some (.ref f_may_have)))
    (l_may_have : K.lookup f_may_have = some ⟨oc_may_have, od_may_have, .func (fnOf "may_have" "may_have" (defArgs s_may_have) (defBody s_may_have) (defScope s_may_have) .none kV_may_have dc_may_have pm_may_have an_may_have cd_may_have ct_may_have), sl_may_have⟩)
    (c_may_have : codeIn K cd_may_have "may_have" = true)
    (k_may_have : keepIn K (.ref f_may_have) = true)
    (a_within : nsIn K mainGlobals "within" = some (some (.ref f_within)))
    (l_within : K.lookup f_within = some ⟨oc_within, od_within, .func (fnOf "within" "within" (defArgs s_within) (defBody s_within) (defScope s_within) .none kV_within dc_within pm_within an_within cd_within ct_within), sl_within⟩)
    (c_within : codeIn K cd_within "within" = true)
    (k_within : keepIn K (.ref f_within) = true)
    (a_is_length : nsIn K mainGlobals "is_length" = some (some (.ref f_is_length)))
    (l_is_length : K.lookup f_is_length = some ⟨oc_is_length, od_is_length, .func (fnOf "is_length" "is_length" (defArgs s_is_length) (defBody s_is_length) (defScope s_is_length) .none kV_is_length dc_is_length pm_is_length an_is_length cd_is_length ct_is_length), sl_is_length⟩)
    (c_is_length : codeIn K cd_is_length "is_length" = true)
    (k_is_length : keepIn K (.ref f_is_length) = true)
    (a_is_key_length : nsIn K mainGlobals "is_key_length" = some (some (.ref f_is_key_length)))
    (l_is_key_length : K.lookup f_is_key_length = some ⟨oc_is_key_length, od_is_key_length, .func (fnOf "is_key_length" "is_key_length" (defArgs s_is_key_length) (defBody s_is_key_length) (defScope s_is_key_length) .none kV_is_key_length dc_is_key_length pm_is_key_length an_is_key_length cd_is_key_length ct_is_key_length), sl_is_key_length⟩)
    (c_is_key_length : codeIn K cd_is_key_length "is_key_length" = true)
    (k_is_key_length : keepIn K (.ref f_is_key_length) = true)
    (a_may : nsIn K mainGlobals "may" = some (some (.ref f_may)))
    (l_may : K.lookup f_may = some ⟨oc_may, od_may, .func (fnOf "may" "may" (defArgs s_may) (defBody s_may) (defScope s_may) .none kV_may dc_may pm_may an_may cd_may ct_may), sl_may⟩)
    (c_may : codeIn K cd_may "may" = true)
    (k_may : keepIn K (.ref f_may) = true)
    (aC_Scanner : nsIn K mainGlobals "Scanner" = some (some (.ref C_Scanner)))
    (a_Scanner_init : findIn K (.ref C_Scanner) "__init__" = some (some (.ref f_Scanner_init)))
    (i_Scanner_init : isFn K (.ref f_Scanner_init) = true)
    (l_Scanner_init : K.lookup f_Scanner_init = some ⟨oc_Scanner_init, od_Scanner_init, .func (fnOf "__init__" "Scanner.__init__" (defArgs s_Scanner_init) (defBody s_Scanner_init) (defScope s_Scanner_init) .none kV_Scanner_init dc_Scanner_init pm_Scanner_init an_Scanner_init cd_Scanner_init ct_Scanner_init), sl_Scanner_init⟩)
    (c_Scanner_init : codeIn K cd_Scanner_init "Scanner.__init__" = true)
    (k_Scanner_init : keepIn K (.ref f_Scanner_init) = true)
    (a_Scanner_at_end : findIn K (.ref C_Scanner) "at_end" = some (some (.ref f_Scanner_at_end)))
    (i_Scanner_at_end : isFn K (.ref f_Scanner_at_end) = true)
    (l_Scanner_at_end : K.lookup f_Scanner_at_end = some ⟨oc_Scanner_at_end, od_Scanner_at_end, .func (fnOf "at_end" "Scanner.at_end" (defArgs s_Scanner_at_end) (defBody s_Scanner_at_end) (defScope s_Scanner_at_end) .none kV_Scanner_at_end dc_Scanner_at_end pm_Scanner_at_end an_Scanner_at_end cd_Scanner_at_end ct_Scanner_at_end), sl_Scanner_at_end⟩)
    (c_Scanner_at_end : codeIn K cd_Scanner_at_end "Scanner.at_end" = true)
    (k_Scanner_at_end : keepIn K (.ref f_Scanner_at_end) = true)
    (a_Scanner_taken : findIn K (.ref C_Scanner) "taken" = some (some (.ref f_Scanner_taken)))
    (i_Scanner_taken : isFn K (.ref f_Scanner_taken) = true)
    (l_Scanner_taken : K.lookup f_Scanner_taken = some ⟨oc_Scanner_taken, od_Scanner_taken, .func (fnOf "taken" "Scanner.taken" (defArgs s_Scanner_taken) (defBody s_Scanner_taken) (defScope s_Scanner_taken) .none kV_Scanner_taken dc_Scanner_taken pm_Scanner_taken an_Scanner_taken cd_Scanner_taken ct_Scanner_taken), sl_Scanner_taken⟩)
    (c_Scanner_taken : codeIn K cd_Scanner_taken "Scanner.taken" = true)
    (k_Scanner_taken : keepIn K (.ref f_Scanner_taken) = true)
    (a_Scanner_taken_varint : findIn K (.ref C_Scanner) "taken_varint" = some (some (.ref f_Scanner_taken_varint)))
    (i_Scanner_taken_varint : isFn K (.ref f_Scanner_taken_varint) = true)
    (l_Scanner_taken_varint : K.lookup f_Scanner_taken_varint = some ⟨oc_Scanner_taken_varint, od_Scanner_taken_varint, .func (fnOf "taken_varint" "Scanner.taken_varint" (defArgs s_Scanner_taken_varint) (defBody s_Scanner_taken_varint) (defScope s_Scanner_taken_varint) .none kV_Scanner_taken_varint dc_Scanner_taken_varint pm_Scanner_taken_varint an_Scanner_taken_varint cd_Scanner_taken_varint ct_Scanner_taken_varint), sl_Scanner_taken_varint⟩)
    (c_Scanner_taken_varint : codeIn K cd_Scanner_taken_varint "Scanner.taken_varint" = true)
    (k_Scanner_taken_varint : keepIn K (.ref f_Scanner_taken_varint) = true)
    (pg_Scanner : plainGet K C_Scanner Str.empty = true)
    (hd_Scanner : hasDictIn K C_Scanner = true)
    (po_Scanner : plainOver K C_Scanner = true)
    (sa_Scanner : findIn K (.ref C_Scanner) "__setattr__" = some (some (.builtin "object.__setattr__")))
    (mk_Scanner : makesIn K C_Scanner = true)
    (kc_Scanner : keepIn K (.ref C_Scanner) = true)
    (n_Scanner_data : findIn K (.ref C_Scanner) "data" = some none)
    (n_Scanner_place : findIn K (.ref C_Scanner) "place" = some none)
    (n_Scanner_end : findIn K (.ref C_Scanner) "end" = some none)
    (aC_BlockReader : nsIn K mainGlobals "BlockReader" = some (some (.ref C_BlockReader)))
    (a_BlockReader_init : findIn K (.ref C_BlockReader) "__init__" = some (some (.ref f_BlockReader_init)))
    (i_BlockReader_init : isFn K (.ref f_BlockReader_init) = true)
    (l_BlockReader_init : K.lookup f_BlockReader_init = some ⟨oc_BlockReader_init, od_BlockReader_init, .func (fnOf "__init__" "BlockReader.__init__" (defArgs s_BlockReader_init) (defBody s_BlockReader_init) (defScope s_BlockReader_init) .none kV_BlockReader_init dc_BlockReader_init pm_BlockReader_init an_BlockReader_init cd_BlockReader_init ct_BlockReader_init), sl_BlockReader_init⟩)
    (c_BlockReader_init : codeIn K cd_BlockReader_init "BlockReader.__init__" = true)
    (k_BlockReader_init : keepIn K (.ref f_BlockReader_init) = true)
    (a_BlockReader_advance : findIn K (.ref C_BlockReader) "advance" = some (some (.ref f_BlockReader_advance)))
    (i_BlockReader_advance : isFn K (.ref f_BlockReader_advance) = true)
    (l_BlockReader_advance : K.lookup f_BlockReader_advance = some ⟨oc_BlockReader_advance, od_BlockReader_advance, .func (fnOf "advance" "BlockReader.advance" (defArgs s_BlockReader_advance) (defBody s_BlockReader_advance) (defScope s_BlockReader_advance) .none kV_BlockReader_advance dc_BlockReader_advance pm_BlockReader_advance an_BlockReader_advance cd_BlockReader_advance ct_BlockReader_advance), sl_BlockReader_advance⟩)
    (c_BlockReader_advance : codeIn K cd_BlockReader_advance "BlockReader.advance" = true)
    (k_BlockReader_advance : keepIn K (.ref f_BlockReader_advance) = true)
    (a_BlockReader_meet_restart : findIn K (.ref C_BlockReader) "meet_restart" = some (some (.ref f_BlockReader_meet_restart)))
    (i_BlockReader_meet_restart : isFn K (.ref f_BlockReader_meet_restart) = true)
    (l_BlockReader_meet_restart : K.lookup f_BlockReader_meet_restart = some ⟨oc_BlockReader_meet_restart, od_BlockReader_meet_restart, .func (fnOf "meet_restart" "BlockReader.meet_restart" (defArgs s_BlockReader_meet_restart) (defBody s_BlockReader_meet_restart) (defScope s_BlockReader_meet_restart) .none kV_BlockReader_meet_restart dc_BlockReader_meet_restart pm_BlockReader_meet_restart an_BlockReader_meet_restart cd_BlockReader_meet_restart ct_BlockReader_meet_restart), sl_BlockReader_meet_restart⟩)
    (c_BlockReader_meet_restart : codeIn K cd_BlockReader_meet_restart "BlockReader.meet_restart" = true)
    (k_BlockReader_meet_restart : keepIn K (.ref f_BlockReader_meet_restart) = true)
    (a_BlockReader_change_key : findIn K (.ref C_BlockReader) "change_key" = some (some (.ref f_BlockReader_change_key)))
    (i_BlockReader_change_key : isFn K (.ref f_BlockReader_change_key) = true)
    (l_BlockReader_change_key : K.lookup f_BlockReader_change_key = some ⟨oc_BlockReader_change_key, od_BlockReader_change_key, .func (fnOf "change_key" "BlockReader.change_key" (defArgs s_BlockReader_change_key) (defBody s_BlockReader_change_key) (defScope s_BlockReader_change_key) .none kV_BlockReader_change_key dc_BlockReader_change_key pm_BlockReader_change_key an_BlockReader_change_key cd_BlockReader_change_key ct_BlockReader_change_key), sl_BlockReader_change_key⟩)
    (c_BlockReader_change_key : codeIn K cd_BlockReader_change_key "BlockReader.change_key" = true)
    (k_BlockReader_change_key : keepIn K (.ref f_BlockReader_change_key) = true)
    (pg_BlockReader : plainGet K C_BlockReader Str.empty = true)
    (hd_BlockReader : hasDictIn K C_BlockReader = true)
    (po_BlockReader : plainOver K C_BlockReader = true)
    (sa_BlockReader : findIn K (.ref C_BlockReader) "__setattr__" = some (some (.builtin "object.__setattr__")))
    (mk_BlockReader : makesIn K C_BlockReader = true)
    (kc_BlockReader : keepIn K (.ref C_BlockReader) = true)
    (n_BlockReader_restarts : findIn K (.ref C_BlockReader) "restarts" = some none)
    (n_BlockReader_scanner : findIn K (.ref C_BlockReader) "scanner" = some none)
    (n_BlockReader_met : findIn K (.ref C_BlockReader) "met" = some none)
    (n_BlockReader_shared : findIn K (.ref C_BlockReader) "shared" = some none)
    (n_BlockReader_key : findIn K (.ref C_BlockReader) "key" = some none)
    (n_BlockReader_value : findIn K (.ref C_BlockReader) "value" = some none)
    (aC_Handle : nsIn K mainGlobals "Handle" = some (some (.ref C_Handle)))
    (a_Handle_init : findIn K (.ref C_Handle) "__init__" = some (some (.ref f_Handle_init)))
    (i_Handle_init : isFn K (.ref f_Handle_init) = true)
    (l_Handle_init : K.lookup f_Handle_init = some ⟨oc_Handle_init, od_Handle_init, .func (fnOf "__init__" "Handle.__init__" (defArgs s_Handle_init) (defBody s_Handle_init) (defScope s_Handle_init) .none kV_Handle_init dc_Handle_init pm_Handle_init an_Handle_init cd_Handle_init ct_Handle_init), sl_Handle_init⟩)
    (c_Handle_init : codeIn K cd_Handle_init "Handle.__init__" = true)
    (k_Handle_init : keepIn K (.ref f_Handle_init) = true)
    (a_Handle_behind : findIn K (.ref C_Handle) "behind" = some (some (.ref f_Handle_behind)))
    (i_Handle_behind : isFn K (.ref f_Handle_behind) = true)
    (l_Handle_behind : K.lookup f_Handle_behind = some ⟨oc_Handle_behind, od_Handle_behind, .func (fnOf "behind" "Handle.behind" (defArgs s_Handle_behind) (defBody s_Handle_behind) (defScope s_Handle_behind) .none kV_Handle_behind dc_Handle_behind pm_Handle_behind an_Handle_behind cd_Handle_behind ct_Handle_behind), sl_Handle_behind⟩)
    (c_Handle_behind : codeIn K cd_Handle_behind "Handle.behind" = true)
    (k_Handle_behind : keepIn K (.ref f_Handle_behind) = true)
    (a_Handle_packed : findIn K (.ref C_Handle) "packed" = some (some (.ref f_Handle_packed)))
    (i_Handle_packed : isFn K (.ref f_Handle_packed) = true)
    (l_Handle_packed : K.lookup f_Handle_packed = some ⟨oc_Handle_packed, od_Handle_packed, .func (fnOf "packed" "Handle.packed" (defArgs s_Handle_packed) (defBody s_Handle_packed) (defScope s_Handle_packed) .none kV_Handle_packed dc_Handle_packed pm_Handle_packed an_Handle_packed cd_Handle_packed ct_Handle_packed), sl_Handle_packed⟩)
    (c_Handle_packed : codeIn K cd_Handle_packed "Handle.packed" = true)
    (k_Handle_packed : keepIn K (.ref f_Handle_packed) = true)
    (pg_Handle : plainGet K C_Handle Str.empty = true)
    (hd_Handle : hasDictIn K C_Handle = true)
    (po_Handle : plainOver K C_Handle = true)
    (sa_Handle : findIn K (.ref C_Handle) "__setattr__" = some (some (.builtin "object.__setattr__")))
    (mk_Handle : makesIn K C_Handle = true)
    (kc_Handle : keepIn K (.ref C_Handle) = true)
    (n_Handle_begin : findIn K (.ref C_Handle) "begin" = some none)
    (n_Handle_length : findIn K (.ref C_Handle) "length" = some none)
    (aC_Table : nsIn K mainGlobals "Table" = some (some (.ref C_Table)))
    (a_Table_init : findIn K (.ref C_Table) "__init__" = some (some (.ref f_Table_init)))
    (i_Table_init : isFn K (.ref f_Table_init) = true)
    (l_Table_init : K.lookup f_Table_init = some ⟨oc_Table_init, od_Table_init, .func (fnOf "__init__" "Table.__init__" (defArgs s_Table_init) (defBody s_Table_init) (defScope s_Table_init) .none kV_Table_init dc_Table_init pm_Table_init an_Table_init cd_Table_init ct_Table_init), sl_Table_init⟩)
    (c_Table_init : codeIn K cd_Table_init "Table.__init__" = true)
    (k_Table_init : keepIn K (.ref f_Table_init) = true)
    (a_Table_advance : findIn K (.ref C_Table) "advance" = some (some (.ref f_Table_advance)))
    (i_Table_advance : isFn K (.ref f_Table_advance) = true)
    (l_Table_advance : K.lookup f_Table_advance = some ⟨oc_Table_advance, od_Table_advance, .func (fnOf "advance" "Table.advance" (defArgs s_Table_advance) (defBody s_Table_advance) (defScope s_Table_advance) .none kV_Table_advance dc_Table_advance pm_Table_advance an_Table_advance cd_Table_advance ct_Table_advance), sl_Table_advance⟩)
    (c_Table_advance : codeIn K cd_Table_advance "Table.advance" = true)
    (k_Table_advance : keepIn K (.ref f_Table_advance) = true)
    (a_Table_begin_block : findIn K (.ref C_Table) "begin_block" = some (some (.ref f_Table_begin_block)))
    (i_Table_begin_block : isFn K (.ref f_Table_begin_block) = true)
    (l_Table_begin_block : K.lookup f_Table_begin_block = some ⟨oc_Table_begin_block, od_Table_begin_block, .func (fnOf "begin_block" "Table.begin_block" (defArgs s_Table_begin_block) (defBody s_Table_begin_block) (defScope s_Table_begin_block) .none kV_Table_begin_block dc_Table_begin_block pm_Table_begin_block an_Table_begin_block cd_Table_begin_block ct_Table_begin_block), sl_Table_begin_block⟩)
    (c_Table_begin_block : codeIn K cd_Table_begin_block "Table.begin_block" = true)
    (k_Table_begin_block : keepIn K (.ref f_Table_begin_block) = true)
    (a_Table_leave_block : findIn K (.ref C_Table) "leave_block" = some (some (.ref f_Table_leave_block)))
    (i_Table_leave_block : isFn K (.ref f_Table_leave_block) = true)
    (l_Table_leave_block : K.lookup f_Table_leave_block = some ⟨oc_Table_leave_block, od_Table_leave_block, .func (fnOf "leave_block" "Table.leave_block" (defArgs s_Table_leave_block) (defBody s_Table_leave_block) (defScope s_Table_leave_block) .none kV_Table_leave_block dc_Table_leave_block pm_Table_leave_block an_Table_leave_block cd_Table_leave_block ct_Table_leave_block), sl_Table_leave_block⟩)
    (c_Table_leave_block : codeIn K cd_Table_leave_block "Table.leave_block" = true)
    (k_Table_leave_block : keepIn K (.ref f_Table_leave_block) = true)
    (pg_Table : plainGet K C_Table Str.empty = true)
    (hd_Table : hasDictIn K C_Table = true)
    (po_Table : plainOver K C_Table = true)
    (sa_Table : findIn K (.ref C_Table) "__setattr__" = some (some (.builtin "object.__setattr__")))
    (mk_Table : makesIn K C_Table = true)
    (kc_Table : keepIn K (.ref C_Table) = true)
    (n_Table_file : findIn K (.ref C_Table) "file" = some none)
    (n_Table_limit : findIn K (.ref C_Table) "limit" = some none)
    (n_Table_filter_bytes : findIn K (.ref C_Table) "filter_bytes" = some none)
    (n_Table_index_block : findIn K (.ref C_Table) "index_block" = some none)
    (n_Table_handles : findIn K (.ref C_Table) "handles" = some none)
    (n_Table_index_reader : findIn K (.ref C_Table) "index_reader" = some none)
    (n_Table_begun : findIn K (.ref C_Table) "begun" = some none)
    (n_Table_block : findIn K (.ref C_Table) "block" = some none)
    (aC_NoTable : nsIn K mainGlobals "NoTable" = some (some (.ref C_NoTable)))
    (xC_NoTable : excIn K C_NoTable [.type "Exception", .type "BaseException", .type "object"] "Exception.__new__" = true)
    (kc_NoTable : keepIn K (.ref C_NoTable) = true)
    (g_OUT_OF_RANGE : nsIn K mainGlobals "OUT_OF_RANGE" = some (some (.int (-2) t_OUT_OF_RANGE)))
    (g_NO_TABLE : nsIn K mainGlobals "NO_TABLE" = some (some (.int (-3) t_NO_TABLE)))
    (g_LONGEST_VARINT : nsIn K mainGlobals "LONGEST_VARINT" = some (some (.int 10 t_LONGEST_VARINT)))
    (g_VARINT_LIMIT : nsIn K mainGlobals "VARINT_LIMIT" = some (some (.int 9223372036854775808 t_VARINT_LIMIT)))
    (g_NUMBER_WIDTH : nsIn K mainGlobals "NUMBER_WIDTH" = some (some (.int 4 t_NUMBER_WIDTH)))
    (g_WORD : nsIn K mainGlobals "WORD" = some (some (.int 4294967295 t_WORD)))
    (g_HASH_BEGIN : nsIn K mainGlobals "HASH_BEGIN" = some (some (.int 3164544308 t_HASH_BEGIN)))
    (g_HASH_FACTOR : nsIn K mainGlobals "HASH_FACTOR" = some (some (.int 3332679571 t_HASH_FACTOR)))
    (g_PLACE_WIDTH : nsIn K mainGlobals "PLACE_WIDTH" = some (some (.int 4 t_PLACE_WIDTH)))
    (g_END_WIDTH_bloom : nsIn K mainGlobals "END_WIDTH_bloom" = some (some (.int 5 t_END_WIDTH_bloom)))
    (g_MOST_PROBES : nsIn K mainGlobals "MOST_PROBES" = some (some (.int 30 t_MOST_PROBES)))
    (g_STRETCH_BITS : nsIn K mainGlobals "STRETCH_BITS" = some (some (.int 11 t_STRETCH_BITS)))
    (g_STRETCH : nsIn K mainGlobals "STRETCH" = some (some (.int 2048 t_STRETCH)))
    (g_ALL_ONES : nsIn K mainGlobals "ALL_ONES" = some (some (.int 4294967295 t_ALL_ONES)))
    (g_MASK_ADDEND : nsIn K mainGlobals "MASK_ADDEND" = some (some (.int 2726488792 t_MASK_ADDEND)))
    (gr1 : nsIn K mainGlobals "REMAINDERS" = some (some (.ref rem)))
    (gr2 : K.lookup rem = some ⟨.type "tuple", od_rem, .seq arr n_rem, sl_rem⟩)
    (gr3 : chkT My.tab8 arr.toList = true)
    (g_SEAL_WIDTH : nsIn K mainGlobals "SEAL_WIDTH" = some (some (.int 5 t_SEAL_WIDTH)))
    (g_FILTER_NAME : nsIn K mainGlobals "FILTER_NAME" = some (some (.str "filter.leveldb.BuiltinBloomFilter2" t_FILTER_NAME)))
    (g_HANDLES_WIDTH : nsIn K mainGlobals "HANDLES_WIDTH" = some (some (.int 40 t_HANDLES_WIDTH)))
    (g_MAGIC : nsIn K mainGlobals "MAGIC" = some (some (.int 15800726617472432983 t_MAGIC)))
    (g_MAGIC_WIDTH : nsIn K mainGlobals "MAGIC_WIDTH" = some (some (.int 8 t_MAGIC_WIDTH)))
    (g_END_WIDTH_layout : nsIn K mainGlobals "END_WIDTH_layout" = some (some (.int 48 t_END_WIDTH_layout)))
    (g_LONGEST : nsIn K mainGlobals "LONGEST" = some (some (.int 16777216 t_LONGEST)))
    (g_LONGEST_KEY : nsIn K mainGlobals "LONGEST_KEY" = some (some (.int 65535 t_LONGEST_KEY)))
    (z_len : nsIn K mainGlobals "len" = some none)
    (z_range : nsIn K mainGlobals "range" = some none)
    (z_zip : nsIn K mainGlobals "zip" = some none)
    (z_enumerate : nsIn K mainGlobals "enumerate" = some none)
    (z_list : nsIn K mainGlobals "list" = some none)
    (z_min : nsIn K mainGlobals "min" = some none)
    (z_max : nsIn K mainGlobals "max" = some none)
    (z_ord : nsIn K mainGlobals "ord" = some none)
    (base : Heap) : Fxe P w K mg base "may" 9 ["table", "key"] (sp_may K) := by
  have C : Consts K mg := ⟨int_mk X G g_OUT_OF_RANGE, int_mk X G g_NO_TABLE, int_mk X G g_LONGEST_VARINT, int_mk X G g_VARINT_LIMIT, int_mk X G g_NUMBER_WIDTH, int_mk X G g_WORD, int_mk X G g_HASH_BEGIN, int_mk X G g_HASH_FACTOR, int_mk X G g_PLACE_WIDTH, int_mk X G g_END_WIDTH_bloom, int_mk X G g_MOST_PROBES, int_mk X G g_STRETCH_BITS, int_mk X G g_STRETCH, int_mk X G g_ALL_ONES, int_mk X G g_MASK_ADDEND, rem_mk X G gr1 gr2 gr3, int_mk X G g_SEAL_WIDTH, str_mk X G g_FILTER_NAME, int_mk X G g_HANDLES_WIDTH, int_mk X G g_MAGIC, int_mk X G g_MAGIC_WIDTH, int_mk X G g_END_WIDTH_layout, int_mk X G g_LONGEST, int_mk X G g_LONGEST_KEY, mg_none_of X G z_len, mg_none_of X G z_range, mg_none_of X G z_zip, mg_none_of X G z_enumerate, mg_none_of X G z_list, mg_none_of X G z_min, mg_none_of X G z_max, mg_none_of X G z_ord⟩
  have D_fixed := def_mk (st := s_fixed) X G a_fixed l_fixed c_fixed k_fixed
  have D_number_at := def_mk (st := s_number_at) X G a_number_at l_number_at c_number_at k_number_at
  have D_varint := def_mk (st := s_varint) X G a_varint l_varint c_varint k_varint
  have D_restarts_of := def_mk (st := s_restarts_of) X G a_restarts_of l_restarts_of c_restarts_of k_restarts_of
  have D_begun := def_mk (st := s_begun) X G a_begun l_begun c_begun k_begun
  have D_words_of := def_mk (st := s_words_of) X G a_words_of l_words_of c_words_of k_words_of
  have D_mixed_on := def_mk (st := s_mixed_on) X G a_mixed_on l_mixed_on c_mixed_on k_mixed_on
  have D_key_hash := def_mk (st := s_key_hash) X G a_key_hash l_key_hash c_key_hash k_key_hash
  have D_bit_places := def_mk (st := s_bit_places) X G a_bit_places l_bit_places c_bit_places k_bit_places
  have D_places_of := def_mk (st := s_places_of) X G a_places_of l_places_of c_places_of k_places_of
  have D_piece_may_have := def_mk (st := s_piece_may_have) X G a_piece_may_have l_piece_may_have c_piece_may_have k_piece_may_have
  have D_filter_may_have := def_mk (st := s_filter_may_have) X G a_filter_may_have l_filter_may_have c_filter_may_have k_filter_may_have
  have D_sum_from := def_mk (st := s_sum_from) X G a_sum_from l_sum_from c_sum_from k_sum_from
  have D_masked := def_mk (st := s_masked) X G a_masked l_masked c_masked k_masked
  have D_taken_handle := def_mk (st := s_taken_handle) X G a_taken_handle l_taken_handle c_taken_handle k_taken_handle
  have D_handle_of := def_mk (st := s_handle_of) X G a_handle_of l_handle_of c_handle_of k_handle_of
  have D_seal_of := def_mk (st := s_seal_of) X G a_seal_of l_seal_of c_seal_of k_seal_of
  have D_content_at := def_mk (st := s_content_at) X G a_content_at l_content_at c_content_at k_content_at
  have D_filter_key := def_mk (st := s_filter_key) X G a_filter_key l_filter_key c_filter_key k_filter_key
  have D_end_handles := def_mk (st := s_end_handles) X G a_end_handles l_end_handles c_end_handles k_end_handles
  have D_filter_content := def_mk (st := s_filter_content) X G a_filter_content l_filter_content c_filter_content k_filter_content
  have D_data_handles := def_mk (st := s_data_handles) X G a_data_handles l_data_handles c_data_handles k_data_handles
  have D_handle_for := def_mk (st := s_handle_for) X G a_handle_for l_handle_for c_handle_for k_handle_for
  have D_may_have := def_mk (st := s_may_have) X G a_may_have l_may_have c_may_have k_may_have
  have D_within := def_mk (st := s_within) X G a_within l_within c_within k_within
  have D_is_length := def_mk (st := s_is_length) X G a_is_length l_is_length c_is_length k_is_length
  have D_is_key_length := def_mk (st := s_is_key_length) X G a_is_key_length l_is_key_length c_is_key_length k_is_key_length
  have D_may := def_mk (st := s_may) X G a_may l_may c_may k_may
  have L_Scanner : Cls K C_Scanner := ⟨pg_Scanner, hd_Scanner, po_Scanner, sa_Scanner⟩
  have T_Scanner : ScannerCls K C_Scanner := ⟨L_Scanner, n_Scanner_data, n_Scanner_place, n_Scanner_end⟩
  have M_Scanner_init : MakeAt K mg "Scanner" C_Scanner "Scanner.__init__" s_Scanner_init := ⟨_, _, mg_of X G aC_Scanner, ⟨mk_Scanner, a_Scanner_init, i_Scanner_init, kc_Scanner⟩, fun_mk l_Scanner_init c_Scanner_init k_Scanner_init⟩
  have M_Scanner_at_end : MethAt K C_Scanner "at_end" "Scanner.at_end" s_Scanner_at_end := ⟨_, _, ⟨a_Scanner_at_end, i_Scanner_at_end, k_Scanner_at_end⟩, fun_mk l_Scanner_at_end c_Scanner_at_end k_Scanner_at_end⟩
  have M_Scanner_taken : MethAt K C_Scanner "taken" "Scanner.taken" s_Scanner_taken := ⟨_, _, ⟨a_Scanner_taken, i_Scanner_taken, k_Scanner_taken⟩, fun_mk l_Scanner_taken c_Scanner_taken k_Scanner_taken⟩
  have M_Scanner_taken_varint : MethAt K C_Scanner "taken_varint" "Scanner.taken_varint" s_Scanner_taken_varint := ⟨_, _, ⟨a_Scanner_taken_varint, i_Scanner_taken_varint, k_Scanner_taken_varint⟩, fun_mk l_Scanner_taken_varint c_Scanner_taken_varint k_Scanner_taken_varint⟩
  have L_BlockReader : Cls K C_BlockReader := ⟨pg_BlockReader, hd_BlockReader, po_BlockReader, sa_BlockReader⟩
  have T_BlockReader : BlockReaderCls K C_BlockReader := ⟨L_BlockReader, n_BlockReader_restarts, n_BlockReader_scanner, n_BlockReader_met, n_BlockReader_shared, n_BlockReader_key, n_BlockReader_value⟩
  have M_BlockReader_init : MakeAt K mg "BlockReader" C_BlockReader "BlockReader.__init__" s_BlockReader_init := ⟨_, _, mg_of X G aC_BlockReader, ⟨mk_BlockReader, a_BlockReader_init, i_BlockReader_init, kc_BlockReader⟩, fun_mk l_BlockReader_init c_BlockReader_init k_BlockReader_init⟩
  have M_BlockReader_advance : MethAt K C_BlockReader "advance" "BlockReader.advance" s_BlockReader_advance := ⟨_, _, ⟨a_BlockReader_advance, i_BlockReader_advance, k_BlockReader_advance⟩, fun_mk l_BlockReader_advance c_BlockReader_advance k_BlockReader_advance⟩
  have M_BlockReader_meet_restart : MethAt K C_BlockReader "meet_restart" "BlockReader.meet_restart" s_BlockReader_meet_restart := ⟨_, _, ⟨a_BlockReader_meet_restart, i_BlockReader_meet_restart, k_BlockReader_meet_restart⟩, fun_mk l_BlockReader_meet_restart c_BlockReader_meet_restart k_BlockReader_meet_restart⟩
  have M_BlockReader_change_key : MethAt K C_BlockReader "change_key" "BlockReader.change_key" s_BlockReader_change_key := ⟨_, _, ⟨a_BlockReader_change_key, i_BlockReader_change_key, k_BlockReader_change_key⟩, fun_mk l_BlockReader_change_key c_BlockReader_change_key k_BlockReader_change_key⟩
  have L_Handle : Cls K C_Handle := ⟨pg_Handle, hd_Handle, po_Handle, sa_Handle⟩
  have T_Handle : HandleCls K C_Handle := ⟨L_Handle, n_Handle_begin, n_Handle_length⟩
  have M_Handle_init : MakeAt K mg "Handle" C_Handle "Handle.__init__" s_Handle_init := ⟨_, _, mg_of X G aC_Handle, ⟨mk_Handle, a_Handle_init, i_Handle_init, kc_Handle⟩, fun_mk l_Handle_init c_Handle_init k_Handle_init⟩
  have M_Handle_behind : MethAt K C_Handle "behind" "Handle.behind" s_Handle_behind := ⟨_, _, ⟨a_Handle_behind, i_Handle_behind, k_Handle_behind⟩, fun_mk l_Handle_behind c_Handle_behind k_Handle_behind⟩
  have M_Handle_packed : MethAt K C_Handle "packed" "Handle.packed" s_Handle_packed := ⟨_, _, ⟨a_Handle_packed, i_Handle_packed, k_Handle_packed⟩, fun_mk l_Handle_packed c_Handle_packed k_Handle_packed⟩
  have L_Table : Cls K C_Table := ⟨pg_Table, hd_Table, po_Table, sa_Table⟩
  have T_Table : TableCls K C_Table := ⟨L_Table, n_Table_file, n_Table_limit, n_Table_filter_bytes, n_Table_index_block, n_Table_handles, n_Table_index_reader, n_Table_begun, n_Table_block⟩
  have M_Table_init : MakeAt K mg "Table" C_Table "Table.__init__" s_Table_init := ⟨_, _, mg_of X G aC_Table, ⟨mk_Table, a_Table_init, i_Table_init, kc_Table⟩, fun_mk l_Table_init c_Table_init k_Table_init⟩
  have M_Table_advance : MethAt K C_Table "advance" "Table.advance" s_Table_advance := ⟨_, _, ⟨a_Table_advance, i_Table_advance, k_Table_advance⟩, fun_mk l_Table_advance c_Table_advance k_Table_advance⟩
  have M_Table_begin_block : MethAt K C_Table "begin_block" "Table.begin_block" s_Table_begin_block := ⟨_, _, ⟨a_Table_begin_block, i_Table_begin_block, k_Table_begin_block⟩, fun_mk l_Table_begin_block c_Table_begin_block k_Table_begin_block⟩
  have M_Table_leave_block : MethAt K C_Table "leave_block" "Table.leave_block" s_Table_leave_block := ⟨_, _, ⟨a_Table_leave_block, i_Table_leave_block, k_Table_leave_block⟩, fun_mk l_Table_leave_block c_Table_leave_block k_Table_leave_block⟩
  have O_NoTable : ExcAt K mg "NoTable" C_NoTable := ⟨aC_NoTable, xC_NoTable, kc_NoTable, mg_of X G aC_NoTable⟩
  have F_within := fx_within (P := P) (w := w) (base := base) D_within
  have F_is_length := fx_is_length D_is_length C F_within
  have F_sum_from := fx_sum_from (P := P) (w := w) (base := base) D_sum_from C
  have F_masked := fx_masked (P := P) (w := w) (base := base) D_masked C
  have F_fixed := fx_fixed (P := P) (w := w) (base := base) D_fixed C
  have F_number_at := fx_number_at (P := P) (w := w) (base := base) D_number_at C
  have X_Scanner := mx_Scanner_init (P := P) (w := w) (base := base) M_Scanner_init T_Scanner
  have M_at_end := mx_at_end (P := P) (w := w) (mg := mg) (base := base) M_Scanner_at_end T_Scanner
  have M_taken := mx_taken (P := P) (w := w) (base := base) M_Scanner_taken T_Scanner O_NoTable
  have M_tv := mx_taken_varint M_Scanner_taken_varint T_Scanner C O_NoTable M_at_end
  have X_Handle := mx_Handle_init (P := P) (w := w) (base := base) M_Handle_init T_Handle
  have M_behind := mx_behind (P := P) (w := w) (base := base) M_Handle_behind T_Handle C
  have F_th := fx_taken_handle D_taken_handle M_tv X_Handle
  have F_ho := fx_handle_of D_handle_of C O_NoTable X_Scanner M_at_end F_th
  have F_seal := fx_seal_of D_seal_of C F_fixed F_masked F_sum_from
  have F_content := fx_content_at D_content_at C O_NoTable T_Handle M_behind F_seal
  have F_rest := fx_restarts_of D_restarts_of C O_NoTable F_number_at
  have X_BR := mx_BlockReader_init M_BlockReader_init T_BlockReader C F_rest X_Scanner
  have M_meet := mx_meet_restart (P := P) (w := w) (base := base) M_BlockReader_meet_restart T_BlockReader C O_NoTable
  have M_change := mx_change_key (P := P) (w := w) (base := base) M_BlockReader_change_key T_BlockReader C O_NoTable
  have M_adv := mx_advance M_BlockReader_advance T_BlockReader T_Scanner C O_NoTable M_at_end M_tv M_taken M_meet M_change
  have F_fkey := fx_filter_key (P := P) (w := w) (base := base) D_filter_key C
  have F_end := fx_end_handles D_end_handles C O_NoTable F_fixed X_Scanner F_th
  have F_places := fx_places_of D_places_of C O_NoTable F_number_at
  have F_fc := fx_filter_content D_filter_content C O_NoTable T_BlockReader F_content F_ho F_places F_fkey X_BR M_adv
  have F_dh := fx_data_handles D_data_handles C O_NoTable T_BlockReader T_Handle F_ho M_behind X_BR M_adv
  have M_leave := mx_leave (Ch := C_Handle) M_Table_leave_block T_Table T_BlockReader O_NoTable M_adv
  have M_begin := mx_begin M_Table_begin_block T_Table T_BlockReader O_NoTable F_content X_BR M_adv
  have M_tadv := mx_tadv M_Table_advance T_Table T_BlockReader C M_adv M_leave M_begin
  have X_Table := mx_Table_init M_Table_init T_Table C F_end F_fc F_content F_dh X_BR
  
  have F_key := fx_is_key_length D_is_key_length C F_within
  have F_begun := fx_begun (P := P) (w := w) (base := base) D_begun C
  have F_words := fx_words_of (P := P) (w := w) (base := base) D_words_of C
  have F_mixed_on := fx_mixed_on D_mixed_on C F_number_at F_words
  have F_kh := fx_key_hash D_key_hash C F_begun F_mixed_on
  have F_bp := fx_bit_places (P := P) (w := w) (base := base) D_bit_places C
  have F_pm := fx_piece_may_have D_piece_may_have C F_kh F_bp
  have F_fm := fx_filter_may_have D_filter_may_have C F_places F_pm
  have F_hf := fx_handle_for (Ch := C_Handle) D_handle_for T_Table T_BlockReader X_BR M_adv
  have F_mh := fx_may_have D_may_have T_Table T_Handle X_Table M_tadv F_hf F_fm
  exact fx_may D_may C O_NoTable F_is_length F_key F_mh
end KL
def PySem.W.Fast.tw423810838206466462 : Unit := ()
def PySem.W.Fast.tw14039109414666718676 : Unit := ()
def PySem.W.Fast.tw674843346534456895 : Unit := ()
def PySem.W.Fast.tw2674643286712404135 : Unit := ()
def PySem.W.Fast.tw12014035813802685709 : Unit := ()
def PySem.W.Fast.tw9916953693598785029 : Unit := ()
def PySem.W.Fast.tw8932201678762891224 : Unit := ()
def PySem.W.Fast.tw16564908375067224895 : Unit := ()
def PySem.W.Fast.tw14727332674775716670 : Unit := ()
def PySem.W.Fast.tw8828196619957625053 : Unit := ()
def PySem.W.Fast.tw7565762835270461582 : Unit := ()
def PySem.W.Fast.tw9557202892023268941 : Unit := ()
def PySem.W.Fast.tw14637686152259811765 : Unit := ()
open PySem PySem.W PyProof.Rows
set_option maxRecDepth 100000 in
set_option maxHeartbeats 0 in
theorem PySem.Challenge.cw_keylogs_s06_may_holds : PySem.Challenge.rw_keylogs_s06_may.Holds := by
  w_on; k_headS; (case hw => exact ⟨[.list [], .list []], by decide +kernel, by decide +kernel⟩)
  k_fillS
  refine KL.walk_ofE (r := PySem.Challenge.rw_keylogs_s06_may) (k := 9) (ps := ["table", "key"]) (sp := KL.sp_may) rfl ⟨rfl, by decide, by decide⟩ (fun w h Y => PySem.W.kIn_of Y) ?A ?F
  case A =>
    intro args hpre
    obtain ⟨bs, ks, h1, h2, h2', hby, hbk, h3⟩ := KL.args_ args hpre
    refine ⟨_, KL.mayAns bs ks, h1, ?_, rfl, h3, ?_⟩
    · intro g hg
      simp only [List.mem_cons, List.not_mem_nil, or_false] at hg
      rcases hg with rfl | rfl
      · show (bs.map fun n : Nat => (n : Int)).length ≤ PySem.sizeLine
        rw [List.length_map]
        exact KL.le_size (by omega)
      · show (ks.map fun n : Nat => (n : Int)).length ≤ PySem.sizeLine
        rw [List.length_map]
        exact KL.le_size (by omega)
    · intro w H vs hO hp
      cases hp with
      | cons p2 hp =>
        cases hp with
        | cons p3 hp =>
          cases hp
          obtain ⟨a, rfl, hS⟩ := p2
          obtain ⟨k, rfl, hS2⟩ := p3
          exact ⟨a, k, bs, ks, rfl, KL.seq_back hS, KL.seq_back hS2, hby, hbk, h2, fun l H' h => ⟨l, rfl, .inl (.inl h)⟩⟩
  case F =>
    intro w mg h KX G base _ _
    refine' KL.all_ KX G ?a_fixed ?l_fixed ?c_fixed ?k_fixed ?a_number_at ?l_number_at ?c_number_at ?k_number_at ?a_varint ?l_varint ?c_varint ?k_varint ?a_restarts_of ?l_restarts_of ?c_restarts_of ?k_restarts_of ?a_begun ?l_begun ?c_begun ?k_begun ?a_words_of ?l_words_of ?c_words_of ?k_words_of ?a_mixed_on ?l_mixed_on ?c_mixed_on ?k_mixed_on ?a_key_hash ?l_key_hash ?c_key_hash ?k_key_hash ?a_bit_places ?l_bit_places ?c_bit_places ?k_bit_places ?a_places_of ?l_places_of ?c_places_of ?k_places_of ?a_piece_may_have ?l_piece_may_have ?c_piece_may_have ?k_piece_may_have ?a_filter_may_have ?l_filter_may_have ?c_filter_may_have ?k_filter_may_have ?a_sum_from ?l_sum_from ?c_sum_from ?k_sum_from ?a_masked ?l_masked ?c_masked ?k_masked ?a_taken_handle ?l_taken_handle ?c_taken_handle ?k_taken_handle ?a_handle_of ?l_handle_of ?c_handle_of ?k_handle_of ?a_seal_of ?l_seal_of ?c_seal_of ?k_seal_of ?a_content_at ?l_content_at ?c_content_at ?k_content_at ?a_filter_key ?l_filter_key ?c_filter_key ?k_filter_key ?a_end_handles ?l_end_handles ?c_end_handles ?k_end_handles ?a_filter_content ?l_filter_content ?c_filter_content ?k_filter_content ?a_data_handles ?l_data_handles ?c_data_handles ?k_data_handles ?a_handle_for ?l_handle_for ?c_handle_for ?k_handle_for ?a_may_have ?l_may_have ?c_may_have ?k_may_have ?a_within ?l_within ?c_within ?k_within ?a_is_length ?l_is_length ?c_is_length ?k_is_length ?a_is_key_length ?l_is_key_length ?c_is_key_length ?k_is_key_length ?a_may ?l_may ?c_may ?k_may ?aC_Scanner ?a_Scanner_init ?i_Scanner_init ?l_Scanner_init ?c_Scanner_init ?k_Scanner_init ?a_Scanner_at_end ?i_Scanner_at_end ?l_Scanner_at_end ?c_Scanner_at_end ?k_Scanner_at_end ?a_Scanner_taken ?i_Scanner_taken ?l_Scanner_taken ?c_Scanner_taken ?k_Scanner_taken ?a_Scanner_taken_varint ?i_Scanner_taken_varint ?l_Scanner_taken_varint ?c_Scanner_taken_varint ?k_Scanner_taken_varint ?pg_Scanner ?hd_Scanner ?po_Scanner ?sa_Scanner ?mk_Scanner ?kc_Scanner ?n_Scanner_data ?n_Scanner_place ?n_Scanner_end ?aC_BlockReader ?a_BlockReader_init ?i_BlockReader_init ?l_BlockReader_init ?c_BlockReader_init ?k_BlockReader_init ?a_BlockReader_advance ?i_BlockReader_advance ?l_BlockReader_advance ?c_BlockReader_advance ?k_BlockReader_advance ?a_BlockReader_meet_restart ?i_BlockReader_meet_restart ?l_BlockReader_meet_restart ?c_BlockReader_meet_restart ?k_BlockReader_meet_restart ?a_BlockReader_change_key ?i_BlockReader_change_key ?l_BlockReader_change_key ?c_BlockReader_change_key ?k_BlockReader_change_key ?pg_BlockReader ?hd_BlockReader ?po_BlockReader ?sa_BlockReader ?mk_BlockReader ?kc_BlockReader ?n_BlockReader_restarts ?n_BlockReader_scanner ?n_BlockReader_met ?n_BlockReader_shared ?n_BlockReader_key ?n_BlockReader_value ?aC_Handle ?a_Handle_init ?i_Handle_init ?l_Handle_init ?c_Handle_init ?k_Handle_init ?a_Handle_behind ?i_Handle_behind ?l_Handle_behind ?c_Handle_behind ?k_Handle_behind ?a_Handle_packed ?i_Handle_packed ?l_Handle_packed ?c_Handle_packed ?k_Handle_packed ?pg_Handle ?hd_Handle ?po_Handle ?sa_Handle ?mk_Handle ?kc_Handle ?n_Handle_begin ?n_Handle_length ?aC_Table ?a_Table_init ?i_Table_init ?l_Table_init ?c_Table_init ?k_Table_init ?a_Table_advance ?i_Table_advance ?l_Table_advance ?c_Table_advance ?k_Table_advance ?a_Table_begin_block ?i_Table_begin_block ?l_Table_begin_block ?c_Table_begin_block ?k_Table_begin_block ?a_Table_leave_block ?i_Table_leave_block ?l_Table_leave_block ?c_Table_leave_block ?k_Table_leave_block ?pg_Table ?hd_Table ?po_Table ?sa_Table ?mk_Table ?kc_Table ?n_Table_file ?n_Table_limit ?n_Table_filter_bytes ?n_Table_index_block ?n_Table_handles ?n_Table_index_reader ?n_Table_begun ?n_Table_block ?aC_NoTable ?xC_NoTable ?kc_NoTable ?g_OUT_OF_RANGE ?g_NO_TABLE ?g_LONGEST_VARINT ?g_VARINT_LIMIT ?g_NUMBER_WIDTH ?g_WORD ?g_HASH_BEGIN ?g_HASH_FACTOR ?g_PLACE_WIDTH ?g_END_WIDTH_bloom ?g_MOST_PROBES ?g_STRETCH_BITS ?g_STRETCH ?g_ALL_ONES ?g_MASK_ADDEND ?gr1 ?gr2 ?gr3 ?g_SEAL_WIDTH ?g_FILTER_NAME ?g_HANDLES_WIDTH ?g_MAGIC ?g_MAGIC_WIDTH ?g_END_WIDTH_layout ?g_LONGEST ?g_LONGEST_KEY ?z_len ?z_range ?z_zip ?z_enumerate ?z_list ?z_min ?z_max ?z_ord base
    (case a_fixed => k_is)
    (case l_fixed => k_is)
    (case c_fixed => k_is)
    (case k_fixed => k_is)
    (case a_number_at => k_is)
    (case l_number_at => k_is)
    (case c_number_at => k_is)
    (case k_number_at => k_is)
    (case a_varint => k_is)
    (case l_varint => k_is)
    (case c_varint => k_is)
    (case k_varint => k_is)
    (case a_restarts_of => k_is)
    (case l_restarts_of => k_is)
    (case c_restarts_of => k_is)
    (case k_restarts_of => k_is)
    (case a_begun => k_is)
    (case l_begun => k_is)
    (case c_begun => k_is)
    (case k_begun => k_is)
    (case a_words_of => k_is)
    (case l_words_of => k_is)
    (case c_words_of => k_is)
    (case k_words_of => k_is)
    (case a_mixed_on => k_is)
    (case l_mixed_on => k_is)
    (case c_mixed_on => k_is)
    (case k_mixed_on => k_is)
    (case a_key_hash => k_is)
    (case l_key_hash => k_is)
    (case c_key_hash => k_is)
    (case k_key_hash => k_is)
    (case a_bit_places => k_is)
    (case l_bit_places => k_is)
    (case c_bit_places => k_is)
    (case k_bit_places => k_is)
    (case a_places_of => k_is)
    (case l_places_of => k_is)
    (case c_places_of => k_is)
    (case k_places_of => k_is)
    (case a_piece_may_have => k_is)
    (case l_piece_may_have => k_is)
    (case c_piece_may_have => k_is)
    (case k_piece_may_have => k_is)
    (case a_filter_may_have => k_is)
    (case l_filter_may_have => k_is)
    (case c_filter_may_have => k_is)
    (case k_filter_may_have => k_is)
    (case a_sum_from => k_is)
    (case l_sum_from => k_is)
    (case c_sum_from => k_is)
    (case k_sum_from => k_is)
    (case a_masked => k_is)
    (case l_masked => k_is)
    (case c_masked => k_is)
    (case k_masked => k_is)
    (case a_taken_handle => k_is)
    (case l_taken_handle => k_is)
    (case c_taken_handle => k_is)
    (case k_taken_handle => k_is)
    (case a_handle_of => k_is)
    (case l_handle_of => k_is)
    (case c_handle_of => k_is)
    (case k_handle_of => k_is)
    (case a_seal_of => k_is)
    (case l_seal_of => k_is)
    (case c_seal_of => k_is)
    (case k_seal_of => k_is)
    (case a_content_at => k_is)
    (case l_content_at => k_is)
    (case c_content_at => k_is)
    (case k_content_at => k_is)
    (case a_filter_key => k_is)
    (case l_filter_key => k_is)
    (case c_filter_key => k_is)
    (case k_filter_key => k_is)
    (case a_end_handles => k_is)
    (case l_end_handles => k_is)
    (case c_end_handles => k_is)
    (case k_end_handles => k_is)
    (case a_filter_content => k_is)
    (case l_filter_content => k_is)
    (case c_filter_content => k_is)
    (case k_filter_content => k_is)
    (case a_data_handles => k_is)
    (case l_data_handles => k_is)
    (case c_data_handles => k_is)
    (case k_data_handles => k_is)
    (case a_handle_for => k_is)
    (case l_handle_for => k_is)
    (case c_handle_for => k_is)
    (case k_handle_for => k_is)
    (case a_may_have => k_is)
    (case l_may_have => k_is)
    (case c_may_have => k_is)
    (case k_may_have => k_is)
    (case a_within => k_is)
    (case l_within => k_is)
    (case c_within => k_is)
    (case k_within => k_is)
    (case a_is_length => k_is)
    (case l_is_length => k_is)
    (case c_is_length => k_is)
    (case k_is_length => k_is)
    (case a_is_key_length => k_is)
    (case l_is_key_length => k_is)
    (case c_is_key_length => k_is)
    (case k_is_key_length => k_is)
    (case a_may => k_is)
    (case l_may => k_is)
    (case c_may => k_is)
    (case k_may => k_is)
    (case aC_Scanner => k_is)
    (case a_Scanner_init => k_is)
    (case i_Scanner_init => k_is)
    (case l_Scanner_init => k_is)
    (case c_Scanner_init => k_is)
    (case k_Scanner_init => k_is)
    (case a_Scanner_at_end => k_is)
    (case i_Scanner_at_end => k_is)
    (case l_Scanner_at_end => k_is)
    (case c_Scanner_at_end => k_is)
    (case k_Scanner_at_end => k_is)
    (case a_Scanner_taken => k_is)
    (case i_Scanner_taken => k_is)
    (case l_Scanner_taken => k_is)
    (case c_Scanner_taken => k_is)
    (case k_Scanner_taken => k_is)
    (case a_Scanner_taken_varint => k_is)
    (case i_Scanner_taken_varint => k_is)
    (case l_Scanner_taken_varint => k_is)
    (case c_Scanner_taken_varint => k_is)
    (case k_Scanner_taken_varint => k_is)
    (case pg_Scanner => k_is)
    (case hd_Scanner => k_is)
    (case po_Scanner => k_is)
    (case sa_Scanner => k_is)
    (case mk_Scanner => k_is)
    (case kc_Scanner => k_is)
    (case n_Scanner_data => k_is)
    (case n_Scanner_place => k_is)
    (case n_Scanner_end => k_is)
    (case aC_BlockReader => k_is)
    (case a_BlockReader_init => k_is)
    (case i_BlockReader_init => k_is)
    (case l_BlockReader_init => k_is)
    (case c_BlockReader_init => k_is)
    (case k_BlockReader_init => k_is)
    (case a_BlockReader_advance => k_is)
    (case i_BlockReader_advance => k_is)
    (case l_BlockReader_advance => k_is)
    (case c_BlockReader_advance => k_is)
    (case k_BlockReader_advance => k_is)
    (case a_BlockReader_meet_restart => k_is)
    (case i_BlockReader_meet_restart => k_is)
    (case l_BlockReader_meet_restart => k_is)
    (case c_BlockReader_meet_restart => k_is)
    (case k_BlockReader_meet_restart => k_is)
    (case a_BlockReader_change_key => k_is)
    (case i_BlockReader_change_key => k_is)
    (case l_BlockReader_change_key => k_is)
    (case c_BlockReader_change_key => k_is)
    (case k_BlockReader_change_key => k_is)
    (case pg_BlockReader => k_is)
    (case hd_BlockReader => k_is)
    (case po_BlockReader => k_is)
    (case sa_BlockReader => k_is)
    (case mk_BlockReader => k_is)
    (case kc_BlockReader => k_is)
    (case n_BlockReader_restarts => k_is)
    (case n_BlockReader_scanner => k_is)
    (case n_BlockReader_met => k_is)
    (case n_BlockReader_shared => k_is)
    (case n_BlockReader_key => k_is)
    (case n_BlockReader_value => k_is)
    (case aC_Handle => k_is)
    (case a_Handle_init => k_is)
    (case i_Handle_init => k_is)
    (case l_Handle_init => k_is)
    (case c_Handle_init => k_is)
    (case k_Handle_init => k_is)
    (case a_Handle_behind => k_is)
    (case i_Handle_behind => k_is)
    (case l_Handle_behind => k_is)
    (case c_Handle_behind => k_is)
    (case k_Handle_behind => k_is)
    (case a_Handle_packed => k_is)
    (case i_Handle_packed => k_is)
    (case l_Handle_packed => k_is)
    (case c_Handle_packed => k_is)
    (case k_Handle_packed => k_is)
    (case pg_Handle => k_is)
    (case hd_Handle => k_is)
    (case po_Handle => k_is)
    (case sa_Handle => k_is)
    (case mk_Handle => k_is)
    (case kc_Handle => k_is)
    (case n_Handle_begin => k_is)
    (case n_Handle_length => k_is)
    (case aC_Table => k_is)
    (case a_Table_init => k_is)
    (case i_Table_init => k_is)
    (case l_Table_init => k_is)
    (case c_Table_init => k_is)
    (case k_Table_init => k_is)
    (case a_Table_advance => k_is)
    (case i_Table_advance => k_is)
    (case l_Table_advance => k_is)
    (case c_Table_advance => k_is)
    (case k_Table_advance => k_is)
    (case a_Table_begin_block => k_is)
    (case i_Table_begin_block => k_is)
    (case l_Table_begin_block => k_is)
    (case c_Table_begin_block => k_is)
    (case k_Table_begin_block => k_is)
    (case a_Table_leave_block => k_is)
    (case i_Table_leave_block => k_is)
    (case l_Table_leave_block => k_is)
    (case c_Table_leave_block => k_is)
    (case k_Table_leave_block => k_is)
    (case pg_Table => k_is)
    (case hd_Table => k_is)
    (case po_Table => k_is)
    (case sa_Table => k_is)
    (case mk_Table => k_is)
    (case kc_Table => k_is)
    (case n_Table_file => k_is)
    (case n_Table_limit => k_is)
    (case n_Table_filter_bytes => k_is)
    (case n_Table_index_block => k_is)
    (case n_Table_handles => k_is)
    (case n_Table_index_reader => k_is)
    (case n_Table_begun => k_is)
    (case n_Table_block => k_is)
    (case aC_NoTable => k_is)
    (case xC_NoTable => k_exc)
    (case kc_NoTable => k_is)
    (case g_OUT_OF_RANGE => k_is)
    (case g_NO_TABLE => k_is)
    (case g_LONGEST_VARINT => k_is)
    (case g_VARINT_LIMIT => k_is)
    (case g_NUMBER_WIDTH => k_is)
    (case g_WORD => k_is)
    (case g_HASH_BEGIN => k_is)
    (case g_HASH_FACTOR => k_is)
    (case g_PLACE_WIDTH => k_is)
    (case g_END_WIDTH_bloom => k_is)
    (case g_MOST_PROBES => k_is)
    (case g_STRETCH_BITS => k_is)
    (case g_STRETCH => k_is)
    (case g_ALL_ONES => k_is)
    (case g_MASK_ADDEND => k_is)
    (case gr1 => k_is)
    (case gr2 => k_is)
    (case gr3 => decide +kernel)
    (case g_SEAL_WIDTH => k_is)
    (case g_FILTER_NAME => k_is)
    (case g_HANDLES_WIDTH => k_is)
    (case g_MAGIC => k_is)
    (case g_MAGIC_WIDTH => k_is)
    (case g_END_WIDTH_layout => k_is)
    (case g_LONGEST => k_is)
    (case g_LONGEST_KEY => k_is)
    (case z_len => k_is)
    (case z_range => k_is)
    (case z_zip => k_is)
    (case z_enumerate => k_is)
    (case z_list => k_is)
    (case z_min => k_is)
    (case z_max => k_is)
    (case z_ord => k_is)
#print axioms PySem.Challenge.cw_keylogs_s06_may_holds


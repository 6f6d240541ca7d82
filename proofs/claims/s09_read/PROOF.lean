import PyProof.Rows.All
import Wide.All
import OpenK.AllK
import Wide.FinOn
import PyProof.EqAt
import PyProof.EqKinds
import PyProof.NeKinds
import PyProof.TupleCall
import KE.BitLaws
import KE.OsGo
import PySem.Challenge.RW_keylogs_s09_read
set_option Elab.async false
set_option linter.all false
set_option maxRecDepth 100000
namespace L2
open PySem PySem.Spec PyProof.Rows
abbrev Key := Sum Int Str
def keyIs : Key → Value → Bool
  | .inl k, v => Value.isInt k v
  | .inr x, v => Value.isStrOf x v
def keyH (w : World) : Key → Int
  | .inl k => hashInt k
  | .inr x => hashStr w x
theorem keyIs_shape : ∀ {k : Key} {v : Value}, keyIs k v = true → (∃ i t, k = Sum.inl i ∧ v = Value.int i t) ∨ (∃ x t, k = Sum.inr x ∧ v = Value.str x t)
  | .inl i, v, h => by
    obtain ⟨t, e⟩ := Value.isInt_shape (k := i) (v := v) h
    exact .inl ⟨i, t, rfl, e⟩
  | .inr x, v, h => by
    obtain ⟨t, e⟩ := Value.isStrOf_shape (x := x) (v := v) h
    exact .inr ⟨x, t, rfl, e⟩
theorem key_ll (a b : Int) : decide ((Sum.inl a : Key) = Sum.inl b) = (a == b) := by
  by_cases e : a = b
  · subst e; simp
  · have h : ¬ (Sum.inl a : Key) = Sum.inl b := fun q => e (Sum.inl.inj q)
    rw [decide_eq_false h]
    exact (beq_eq_false_iff_ne.mpr e).symm
theorem key_rr (a b : Str) : decide ((Sum.inr a : Key) = Sum.inr b) = decide (a = b) := by
  by_cases e : a = b
  · subst e; simp
  · have h : ¬ (Sum.inr a : Key) = Sum.inr b := fun q => e (Sum.inr.inj q)
    rw [decide_eq_false h, decide_eq_false e]
theorem key_lr (a : Int) (b : Str) : decide ((Sum.inl a : Key) = Sum.inr b) = false := decide_eq_false (fun q => nomatch q)
theorem key_rl (a : Str) (b : Int) : decide ((Sum.inr a : Key) = Sum.inl b) = false := decide_eq_false (fun q => nomatch q)
def mixKind (prog : Program) (w : World) : PySem.KeyKind prog w Key where
  is := keyIs
  hash := keyH w
  inj := fun v a b ha hb => by
    rcases keyIs_shape ha with ⟨i, t, rfl, rfl⟩ | ⟨x, t, rfl, rfl⟩
    · rcases keyIs_shape hb with ⟨j, u, rfl, e⟩ | ⟨y, u, rfl, e⟩
      · injection e with e1 _; rw [e1]
      · exact nomatch e
    · rcases keyIs_shape hb with ⟨j, u, rfl, e⟩ | ⟨y, u, rfl, e⟩
      · exact nomatch e
      · injection e with e1 _; rw [e1]
  byValue := fun k v h => by
    rcases keyIs_shape h with ⟨i, t, rfl, rfl⟩ | ⟨x, t, rfl, rfl⟩ <;> rfl
  pyHash := fun hv h => by
    rcases keyIs_shape hv with ⟨i, t, rfl, rfl⟩ | ⟨x, t, rfl, rfl⟩
    · exact wpAny_pyHash_int h
    · exact wpAny_pyHash_str h
  eqBool := fun hu hv h => by
    rcases keyIs_shape hu with ⟨i, t, rfl, rfl⟩ | ⟨x, t, rfl, rfl⟩
    · rcases keyIs_shape hv with ⟨j, u, rfl, rfl⟩ | ⟨y, u, rfl, rfl⟩
      · rw [key_ll] at h; exact wpAny_eqBool_int h
      · rw [key_lr] at h; exact SeqAt.EqAt.int_str i t y u _ _ _ _ h
    · rcases keyIs_shape hv with ⟨j, u, rfl, rfl⟩ | ⟨y, u, rfl, rfl⟩
      · rw [key_rl] at h; exact SeqAt.EqAt.str_int x t j u _ _ _ _ h
      · rw [key_rr] at h; exact wpAny_eqBool_str h
  «strs» := fun k x t v h => by
    rcases keyIs_shape h with ⟨i, u, rfl, e⟩ | ⟨y, u, rfl, e⟩
    · exact nomatch e
    · injection e with e1 _
      subst e1
      cases v <;> rfl
end L2
namespace L2
open PySem PySem.Spec PyProof.Rows
inductive V where
  | non | bl (b : Bool) | int (i : Int) | str (x : Str) | byt (b : Array UInt8) | flt (b : UInt64) | ref (a : Addr) | ty (n : String)
  deriving DecidableEq
def RelV : V → Value → Prop
  | .non, u => u = Value.none
  | .bl b, u => u = Value.bool b
  | .int i, u => ∃ t, u = Value.int i t
  | .str x, u => ∃ t, u = Value.str x t
  | .byt b, u => ∃ t, u = Value.bytes b t
  | .flt b, u => ∃ t, u = Value.float b t
  | .ref a, u => u = Value.ref a
  | .ty n, u => u = Value.type n
abbrev Vals : List V → List Value → Prop := Paired RelV
theorem Vals.length {xs : List V} {us : List Value} (r : Vals xs us) : xs.length = us.length := Paired.length r
theorem Vals.get : ∀ {xs : List V} {us : List Value} {i : Nat} {x : V}, Vals xs us → xs[i]? = some x → ∃ u, us[i]? = some u ∧ RelV x u
  | _, _, _, _, .nil, e => by simp at e
  | _, _, 0, _, .cons r _, e => by simp at e; subst e; exact ⟨_, rfl, r⟩
  | _, _, i + 1, x, .cons _ t, e => by
    obtain ⟨u, h1, h2⟩ := Vals.get (i := i) (x := x) t (by simpa using e)
    exact ⟨u, by simpa using h1, h2⟩
theorem Vals.set {x : V} {u : Value} (r : RelV x u) : ∀ {xs : List V} {us : List Value} (i : Nat), Vals xs us → Vals (xs.set i x) (us.set i u)
  | _, _, _, .nil => .nil
  | _, _, 0, .cons _ t => .cons r t
  | _, _, i + 1, .cons q t => .cons q (Vals.set r i t)
theorem Vals.append : ∀ {xs ys : List V} {us ws : List Value}, Vals xs us → Vals ys ws → Vals (xs ++ ys) (us ++ ws)
  | _, _, _, _, .nil, s => s
  | _, _, _, _, .cons r t, s => .cons r (Vals.append t s)
theorem Vals.take : ∀ {xs : List V} {us : List Value} (n : Nat), Vals xs us → Vals (xs.take n) (us.take n)
  | _, _, 0, _ => .nil
  | _, _, _ + 1, .nil => .nil
  | _, _, n + 1, .cons r t => .cons r (Vals.take n t)
theorem Vals.drop : ∀ {xs : List V} {us : List Value} (n : Nat), Vals xs us → Vals (xs.drop n) (us.drop n)
  | _, _, 0, r => r
  | _, _, _ + 1, .nil => .nil
  | _, _, n + 1, .cons _ t => Vals.drop n t
theorem Vals.none_of : ∀ {xs : List V} {us : List Value} {i : Nat}, Vals xs us → xs[i]? = none → us[i]? = none := fun {xs us i} r e => by
  have h1 := r.length
  have h2 : xs.length ≤ i := List.getElem?_eq_none_iff.mp e
  exact List.getElem?_eq_none_iff.mpr (by omega)
def RelO : Option V → Option Value → Prop
  | some v, some u => RelV v u
  | none, none => True
  | _, _ => False
def KV {κ : Type} : List (κ × V) → List (κ × Value) → Prop := Paired fun (p : κ × V) (q : κ × Value) => p.1 = q.1 ∧ RelV p.2 q.2
def kV : Key → V
  | .inl i => .int i
  | .inr x => .str x
inductive HO where
  /-- a list -/
  | lst (xs : List V)
  /-- a tuple (never changes) -/
  | tup (xs : List V)
  /-- a dict whose keys are ints and texts; one whose keys are tuples of ints and texts (the empty one is both) -/
  | dK (kvs : List (Key × V)) | dT (kvs : List (List Key × V))
  /-- a set of ints: its members, its size -/
  | set (S : Int → Bool) (n : Nat)
  /-- an instance of the class at C, its dict at dx, its attributes -/
  | ins (C dx : Addr) (fs : List (Str × V))
  /-- the dict of the instance at x -/
  | own (x : Addr)
  /-- the dict of an exception -/
  | xd (fs : List (Str × V))
  /-- a bound method, f of x -/
  | met (f x : Addr)
  /-- a range object lo, lo + 1, .. below hi -/
  | rng (lo hi : Int)
  /-- a thing that is known to the object (the script; a dict while a loop walks it): read, never written while it is so -/
  | frz (o : Obj) (u : HO)
  /-- a code object's table -/
  | tbl (ps : Array Value)
  /-- any other thing, by what is true of its one object (a def of one's own: SetO a S n := HO.ext fun h => ..) -/
  | ext (φ : Heap → Prop)
abbrev Hp := Addr → Option HO
def upd (H : Hp) (a : Addr) (o : HO) : Hp := fun b => if b = a then some o else H b
theorem upd_same {H : Hp} {a : Addr} {o : HO} : upd H a o a = some o := by unfold upd; rw [if_pos rfl]
theorem upd_ne {H : Hp} {a b : Addr} {o : HO} (h : b ≠ a) : upd H a o b = H b := by unfold upd; rw [if_neg h]
theorem upd_upd {H : Hp} {a : Addr} {o u : HO} : upd (upd H a o) a u = upd H a u := by
  funext b; unfold upd; split <;> rfl
theorem ne_of {H : Hp} {a b : Addr} {o u : HO} (h : H a = some o) (h' : H b = some u) (d : o ≠ u) : a ≠ b := by
  intro e; subst e; rw [h] at h'; exact d (Option.some.inj h')
theorem ne_of_none {H : Hp} {a b : Addr} {o : HO} (h : H a = some o) (h' : H b = none) : a ≠ b := by
  intro e; subst e; rw [h] at h'; cases h'
section
variable (P : Program) (w : World)
def ObjOk (H : Hp) (h : Heap) (a : Addr) : HO → Prop
  | .lst xs => xs.length ≤ sizeLine ∧ ∃ (its : List Value) (n : Nat), Vals xs its ∧ h.get? a = some { cls := .type "list", data := .seq its.toArray n }
  | .tup xs => xs.length ≤ sizeLine ∧ ∃ its : List Value, Vals xs its ∧ IsTup h a its.toArray
  | .dK kvs => kvs.length ≤ sizeLine ∧ (a == sysModules) = false ∧ ∃ vs, KV kvs vs ∧ h.DictOf (mixKind P w) a vs
  | .dT kvs => kvs.length ≤ sizeLine ∧ (a == sysModules) = false ∧ ∃ xs : List (List Key × Addr × Value),
      Paired (fun (p : List Key × V) (q : List Key × Addr × Value) => p.1 = q.1 ∧ H q.2.1 = some (.tup (p.1.map kV)) ∧ RelV p.2 q.2.2) kvs xs ∧
      ∃ o es ep, h.get? a = some o ∧ o.ExactDict ∧ o.data = .dict es ep ∧ es.toList = xs.map (entryOfKey (tupleKind (mixKind P w))) ∧ (xs.map (·.1)).Nodup
  | .set S n => h.SetOf (intKind P w) a S n
  | .ins C dx fs => H dx = some (.own a) ∧ fs.length ≤ 1000 ∧ dx ≠ a ∧ h.get? a = some (PySem.W.instObj C dx) ∧
      ∃ mA, h.Ns1 dx mA ∧ (∀ f, RelO (fs.lookup f) (mA f)) ∧ PySem.Within mA (fs.map (·.1))
  | .own _ => ∃ o, h.get? a = some o
  | .xd fs => ∃ mA, h.Ns1 a mA ∧ ∀ f, RelO (fs.lookup f) (mA f)
  | .rng lo hi => ∃ t u v, h.get? a = some { cls := .type "range", data := .fields #[.int lo t, .int hi u, .int 1 v] }
  | .frz o u => h.get? a = some o ∧ ObjOk H h a u
  | .tbl ps => h.get? a = some { cls := .none, data := .fields ps }
  | .met f x => h.get? a = some (PySem.W.methodObj (.ref f) (.ref x))
  | .ext φ => φ h ∧ (∃ o, h.get? a = some o) ∧ ∀ h1 h2 : Heap, φ h1 → (∀ o, h1.get? a = some o → h2.get? a = some o) → φ h2
def HOk (H : Hp) (h : Heap) : Prop := ∀ a o, H a = some o → ObjOk P w H h a o
end
section
variable {P : Program} {w : World} {H H' : Hp} {h h' : Heap} {a : Addr} {o : HO}
theorem ObjOk.lt (x : ObjOk P w H h a o) : a < h.objs.size := by
  cases o with
  | lst xs => obtain ⟨_, _, _, _, e⟩ := x; exact Heap.lt_size e
  | tup xs => obtain ⟨_, _, _, p⟩ := x; exact p.lt
  | dK kvs => obtain ⟨_, _, _, _, o, _, _, e, _⟩ := x; exact Heap.lt_size e
  | dT kvs => obtain ⟨_, _, _, _, o, _, _, e, _⟩ := x; exact Heap.lt_size e
  | set S n => obtain ⟨o, _, _, _, e, _⟩ := x; exact Heap.lt_size e
  | ins C dx fs => obtain ⟨_, _, _, e, _⟩ := x; exact Heap.lt_size e
  | own y => obtain ⟨_, e⟩ := x; exact Heap.lt_size e
  | xd fs => obtain ⟨_, ⟨_, _, _, e, _⟩, _⟩ := x; exact Heap.lt_size e
  | rng lo hi => obtain ⟨_, _, _, e⟩ := x; exact Heap.lt_size e
  | frz ob u => obtain ⟨e, _⟩ := x; exact Heap.lt_size e
  | tbl ps => exact Heap.lt_size (show h.get? a = some _ from x)
  | met f y => exact Heap.lt_size (show h.get? a = some _ from x)
  | ext φ => obtain ⟨_, ⟨_, e⟩, _⟩ := x; exact Heap.lt_size e
theorem Paired.mapP {α β : Type} {F G : α → β → Prop} : ∀ {l₁ : List α} {l₂ : List β}, Paired F l₁ l₂ → (∀ a b, F a b → G a b) → Paired G l₁ l₂
  | _, _, .nil, _ => .nil
  | _, _, .cons r t, f => .cons (f _ _ r) (Paired.mapP t f)
theorem ObjOk.stay (x : ObjOk P w H h a o) (k : ∀ b u, (b = a ∨ H b = some (.own a)) → h.get? b = some u → h'.get? b = some u)
    (ho : ∀ b, H b = some (.own a) → H' b = some (.own a)) (ht : ∀ b xs, H b = some (.tup xs) → H' b = some (.tup xs)) : ObjOk P w H' h' a o := by
  induction o with
  | lst xs => obtain ⟨z, its, n, r, e⟩ := x; exact ⟨z, its, n, r, k _ _ (.inl rfl) e⟩
  | tup xs => obtain ⟨z, its, r, ob, e, c⟩ := x; exact ⟨z, its, r, ob, k _ _ (.inl rfl) e, c⟩
  | dK kvs => obtain ⟨z, y, vs, r, ob, es, ep, e, c⟩ := x; exact ⟨z, y, vs, r, ob, es, ep, k _ _ (.inl rfl) e, c⟩
  | dT kvs =>
    obtain ⟨z, y, xs, r, ob, es, ep, e, c⟩ := x
    exact ⟨z, y, xs, Paired.mapP r fun p q z => ⟨z.1, ht _ _ z.2.1, z.2.2⟩, ob, es, ep, k _ _ (.inl rfl) e, c⟩
  | set S n => obtain ⟨ob, es, ep, t, e, c⟩ := x; exact ⟨ob, es, ep, t, k _ _ (.inl rfl) e, c⟩
  | ins C dx fs =>
    obtain ⟨d, z, ne, e, mA, ⟨od, es, ep, e2, c⟩, r⟩ := x
    exact ⟨ho _ d, z, ne, k _ _ (.inl rfl) e, mA, ⟨od, es, ep, k _ _ (.inr d) e2, c⟩, r⟩
  | own y => obtain ⟨ob, e⟩ := x; exact ⟨ob, k _ _ (.inl rfl) e⟩
  | xd fs => obtain ⟨mA, ⟨od, es, ep, e, c⟩, r⟩ := x; exact ⟨mA, ⟨od, es, ep, k _ _ (.inl rfl) e, c⟩, r⟩
  | rng lo hi => obtain ⟨t, u, v, e⟩ := x; exact ⟨t, u, v, k _ _ (.inl rfl) e⟩
  | frz ob u ih => obtain ⟨e, q⟩ := x; exact ⟨k _ _ (.inl rfl) e, ih q⟩
  | tbl ps =>
    have e : h.get? a = some { cls := .none, data := .fields ps } := x
    show h'.get? a = some { cls := .none, data := .fields ps }
    exact k a _ (.inl rfl) e
  | met f y =>
    have e : h.get? a = some (PySem.W.methodObj (.ref f) (.ref y)) := x
    show h'.get? a = some (PySem.W.methodObj (.ref f) (.ref y))
    exact k a _ (.inl rfl) e
  | ext φ => obtain ⟨p, ⟨o, e⟩, st⟩ := x; exact ⟨st _ _ p fun o q => k _ _ (.inl rfl) q, ⟨o, k _ _ (.inl rfl) e⟩, st⟩
theorem HOk.lt (x : HOk P w H h) (e : H a = some o) : a < h.objs.size := (x a o e).lt
theorem HOk.fresh (x : HOk P w H h) (e : h.objs.size ≤ a) : H a = none := by
  cases q : H a with
  | none => rfl
  | some u => exact absurd (Nat.lt_of_lt_of_le (x.lt q) e) (Nat.lt_irrefl _)
theorem HOk.kept (x : HOk P w H h) (k : ∀ b u, h.get? b = some u → h'.get? b = some u) : HOk P w H h' := fun a o e =>
  (x a o e).stay (fun b u _ q => k b u q) (fun _ q => q) fun _ _ q => q
theorem HOk.laid (x : HOk P w H h) (k : ∀ b u, h.get? b = some u → h'.get? b = some u) (hp : h.objs.size ≤ a) (new : ObjOk P w (upd H a o) h' a o) : HOk P w (upd H a o) h' := fun b u e => by
  have hn := x.fresh hp
  by_cases hb : b = a
  · subst hb; rw [upd_same] at e; cases e; exact new
  · rw [upd_ne hb] at e
    exact (x b u e).stay (fun c v _ q => k c v q) (fun c q => by rw [upd_ne (ne_of_none q hn)]; exact q) fun c xs q => by rw [upd_ne (ne_of_none q hn)]; exact q
end
def Rd (H : Hp) (a : Addr) (u : HO) : Prop := H a = some u ∨ ∃ o, H a = some (.frz o u)
theorem Rd.of {H : Hp} {a : Addr} {u : HO} (h : H a = some u) : Rd H a u := .inl h
theorem Rd.ok {P : Program} {w : World} {H : Hp} {h : Heap} {a : Addr} {u : HO} (r : Rd H a u) (x : HOk P w H h) : ObjOk P w H h a u := by
  rcases r with r | ⟨o, r⟩
  · exact x a u r
  · obtain ⟨_, q⟩ := x a _ r
    exact q
def Mut : Option HO → Prop
  | some (.lst _) => True
  | some (.dK _) => True
  | some (.dT _) => True
  | some (.set _ _) => True
  | some (.ins _ _ _) => True
  | some (.ext _) => True
  | _ => False
section
variable {P : Program} {w : World} {H : Hp} {h h' : Heap} {x e : Addr} {o' : HO}
theorem HOk.write (ok : HOk P w H h) (mu : Mut (H x)) (he : e = x ∨ H e = some (.own x)) (k : ∀ b u, b ≠ e → h.get? b = some u → h'.get? b = some u) (heo : ∃ u, h'.get? e = some u)
    (new : ObjOk P w (upd H x o') h' x o') : HOk P w (upd H x o') h' := fun b u q => by
  have nown : ∀ c y, H c = some (.own y) → c ≠ x := fun c y r z => by subst z; rw [r] at mu; exact mu
  have ntup : ∀ c xs, H c = some (.tup xs) → c ≠ x := fun c xs r z => by subst z; rw [r] at mu; exact mu
  by_cases hb : b = x
  · subst hb; rw [upd_same] at q; cases q; exact new
  · rw [upd_ne hb] at q
    by_cases hbe : b = e
    · have q' : H b = some (.own x) := by
        rcases he with z | z
        · exact absurd (hbe.trans z) hb
        · rw [hbe]; exact z
      rw [q] at q'; cases q'
      obtain ⟨v, hv⟩ := heo
      exact ⟨v, by rw [hbe]; exact hv⟩
    · refine (ok b u q).stay (fun c v hc r => k c v ?_ r) (fun c r => by rw [upd_ne (nown c b r)]; exact r) fun c xs r => by rw [upd_ne (ntup c xs r)]; exact r
      rcases hc with rfl | hc
      · exact hbe
      · rintro rfl
        rcases he with z | z
        · exact nown c b hc z
        · rw [hc] at z; cases z; exact hb rfl
end
structure Un (fs ex : List Addr) (H H' : Hp) (h h' : Heap) : Prop where
  keep : ∀ b o, h.get? b = some o → H b = none → b ∉ fs → b ∉ ex → h'.get? b = some o
  slot : ∀ b o, h.get? b = some o → H b = none → b ∈ fs → b ∉ ex → ∃ sl, h'.get? b = some { o with slots := sl }
  free : ∀ b o, h.get? b = some o → H b = none → b ∉ ex → H' b = none
  there : ∀ b o, h.get? b = some o → b ∉ ex → ∃ o', h'.get? b = some o'
  tups : ∀ b xs, H b = some (.tup xs) → H' b = some (.tup xs)
  frzs : ∀ b o u, H b = some (.frz o u) → H' b = some (.frz o u)
  tbls : ∀ b ps, H b = some (.tbl ps) → ∃ more, H' b = some (.tbl (ps ++ more))
section
variable {fs fs' ex ex' : List Addr} {H H1 H2 : Hp} {h h1 h2 h' : Heap} {a x e : Addr} {o : HO}
theorem Un.any (u : Un fs ex H H1 h h1) {b : Addr} {ob : Obj} (q : h.get? b = some ob) (n : H b = none) (hx : b ∉ ex) : ∃ sl, h1.get? b = some { ob with slots := sl } := by
  by_cases hb : b ∈ fs
  · exact u.slot b ob q n hb hx
  · exact ⟨ob.slots, u.keep b ob q n hb hx⟩
theorem Un.trans (a : Un fs ex H H1 h h1) (b : Un fs ex H1 H2 h1 h2) : Un fs ex H H2 h h2 where
  keep := fun c ob q n hc hx => b.keep c ob (a.keep c ob q n hc hx) (a.free c ob q n hx) hc hx
  slot := fun c ob q n hc hx => by
    obtain ⟨sl, e1⟩ := a.slot c ob q n hc hx
    obtain ⟨sl', e2⟩ := b.slot c _ e1 (a.free c ob q n hx) hc hx
    exact ⟨sl', e2⟩
  free := fun c ob q n hx => by
    obtain ⟨o', e1⟩ := a.there c ob q hx
    exact b.free c o' e1 (a.free c ob q n hx) hx
  there := fun c ob q hx => by
    obtain ⟨o', e1⟩ := a.there c ob q hx
    exact b.there c o' e1 hx
  tups := fun c xs q => b.tups c xs (a.tups c xs q)
  frzs := fun c ob xs q => b.frzs c ob xs (a.frzs c ob xs q)
  tbls := fun c ps q => by
    obtain ⟨m1, e1⟩ := a.tbls c ps q
    obtain ⟨m2, e2⟩ := b.tbls c _ e1
    exact ⟨m1 ++ m2, by rw [e2, Array.append_assoc]⟩
theorem Un.kept (k : ∀ b u, h.get? b = some u → h'.get? b = some u) : Un fs ex H H h h' :=
  ⟨fun b ob q _ _ _ => k b ob q, fun b ob q _ _ _ => ⟨ob.slots, k b ob q⟩, fun _ _ _ n _ => n, fun b ob q _ => ⟨ob, k b ob q⟩, fun _ _ q => q, fun _ _ _ q => q, fun _ ps q => ⟨#[], by rw [q]; simp⟩⟩
theorem Un.refl : Un fs ex H H h h := Un.kept fun _ _ q => q
theorem Un.laid (k : ∀ b u, h.get? b = some u → h'.get? b = some u) (hp : h.objs.size ≤ a) (hn : H a = none) : Un fs ex H (upd H a o) h h' where
  keep := fun b u q _ _ _ => k b u q
  slot := fun b u q _ _ _ => ⟨u.slots, k b u q⟩
  free := fun b u q n _ => by rw [upd_ne (Nat.ne_of_lt (Nat.lt_of_lt_of_le (Heap.lt_size q) hp))]; exact n
  there := fun b u q _ => ⟨u, k b u q⟩
  tups := fun b xs q => by rw [upd_ne (ne_of_none q hn)]; exact q
  frzs := fun b u xs q => by rw [upd_ne (ne_of_none q hn)]; exact q
  tbls := fun b ps q => ⟨#[], by rw [upd_ne (ne_of_none q hn), q]; simp⟩
theorem Un.write (mu : Mut (H x)) (he : e = x ∨ H e = some (.own x)) (k : ∀ b u, b ≠ e → h.get? b = some u → h'.get? b = some u) (heo : ∃ u, h'.get? e = some u) : Un fs ex H (upd H x o) h h' := by
  have hx : ∀ b, H b = none → b ≠ x := fun b n z => by subst z; rw [n] at mu; exact mu
  have hb : ∀ b, H b = none → b ≠ e := fun b n z => by
    subst z
    rcases he with r | r
    · exact hx b n r
    · rw [n] at r; cases r
  have hm : ∀ b u, H b = some u → ¬ Mut (some u) → b ≠ x := fun b u q nm z => by subst z; rw [q] at mu; exact nm mu
  refine ⟨fun b u q n _ _ => k b u (hb b n) q, fun b u q n _ _ => ⟨u.slots, k b u (hb b n) q⟩, fun b u q n _ => by rw [upd_ne (hx b n)]; exact n, fun b u q _ => ?_,
    fun b xs q => by rw [upd_ne (hm b _ q fun z => z)]; exact q, fun b u xs q => by rw [upd_ne (hm b _ q fun z => z)]; exact q, fun b ps q => ⟨#[], by rw [upd_ne (hm b _ q fun z => z), q]; simp⟩⟩
  by_cases hbe : b = e
  · subst hbe; exact heo
  · exact ⟨u, k b u hbe q⟩
theorem Un.mono (u : Un fs ex H H1 h h1) (hs : ∀ b ∈ fs, b ∈ fs') (hx : ∀ b ∈ ex, b ∈ ex') : Un fs' ex' H H1 h h1 :=
  ⟨fun b ob q n hb he => u.keep b ob q n (fun z => hb (hs b z)) fun z => he (hx b z), fun _ _ q n _ he => u.any q n fun z => he (hx _ z), fun b ob q n he => u.free b ob q n fun z => he (hx b z), fun b ob q he => u.there b ob q fun z => he (hx b z), u.tups, u.frzs, u.tbls⟩
end
def trk (h : Heap) (H : Hp) : List Addr := (List.range h.objs.size).filter fun a => (H a).isSome
def hidT (h : Heap) (H : Hp) : Heap := PySem.W.hideAll h (trk h H)
theorem hidT_size (h : Heap) (H : Hp) : (hidT h H).objs.size = h.objs.size := PySem.W.hideAll_size _ _
theorem hidT_get {h : Heap} {H : Hp} {b : Addr} {o : Obj} (e : h.get? b = some o) (n : H b = none) : (hidT h H).get? b = some o :=
  PySem.W.hideAll_get _ e fun hm => by
    have q : (H b).isSome = true := (List.mem_filter.mp hm).2
    rw [n] at q; simp at q
theorem of_hidT {h : Heap} {H : Hp} {b : Addr} {o : Obj} (e : (hidT h H).get? b = some o) : h.get? b = some o ∧ H b = none := by
  have e' : h.get? b = some o := PySem.W.of_hideAll (trk h H) e
  refine ⟨e', ?_⟩
  cases q : H b with
  | none => rfl
  | some x =>
    have hm : b ∈ trk h H := List.mem_filter.mpr ⟨List.mem_range.mpr (Heap.lt_size e'), by simp [q]⟩
    have z : (hidT h H).get? b = none := PySem.W.hideAll_none (trk h H) hm
    rw [z] at e; cases e
def allNews (g h : Heap) (L : Addr) : List (Addr × Obj) := (List.range h.objs.size).filterMap fun a => if a = L ∨ (g.get? a).isSome = true then none else (h.get? a).map fun o => (a, o)
def rest (g h : Heap) (L d : Addr) : List (Addr × Obj) := (allNews g h L).filter fun p => decide (p.1 ≠ d)
end L2
namespace L2
open PySem PySem.Spec PyProof.Rows
structure Mod (K : PySem.W.Frag) (mg : Str → Option Value) (base : Heap) : Prop where
  kin : K.In base
  glob : base.Ns mainGlobals mg
  blt : ∃ mb, base.Ns builtinsNs mb ∧ ∀ x : Str, x ≠ "__name__" → mb x = bootBuiltins x
  nolimit : base.NoLimit
structure Cx where
  prog : Program
  w : World
  K : PySem.W.Frag
  mg : Str → Option Value
  base : Heap
  A : Around
  N : List Str
  s₀ : Shared
  H₀ : Hp
  env : Env
  outer : List Env
  stack : List Env
  ex : List Addr
  fn : Str → Bool
  calm : Bool
  pn : List (Addr × Obj)
  xe : Value → Shared → Prop
def frs (l : List Env) : List Addr := l.filterMap (·.frame)
abbrev Cx.fs (X : Cx) : List Addr := frs X.outer
def Vis (sc : Scope) (x : Str) : Prop := sc.names.lookup x = some .local ∨ sc.names.lookup x = some .cell ∨ sc.names.lookup x = some .free
def Loc (sc : Scope) (x : Str) : Prop := sc.names.lookup x = some .local ∨ sc.names.lookup x = some .cell
def Look (env : Env) (h : Heap) (m : Str → Option Value) (x : Str) (u : Value) : Prop :=
  (env.kindOf x = some .local ∧ m x = some u) ∨ ((env.kindOf x = some .cell ∨ env.kindOf x = some .free) ∧ ∃ c, env.cells.lookup x = some c ∧ h.IsCell c (some u))
structure Cx.Ok (X : Cx) : Prop where
  mod : Mod X.K X.mg X.base
  kind : X.env.scope.kind = .function
  glob : X.env.globals = mainGlobals
  blt : X.env.builtins = builtinsNs
  above : X.s₀.heap.objs.size ≤ X.env.locals
  inj : ∀ x y c, X.env.cells.lookup x = some c → X.env.cells.lookup y = some c → x = y
  has : ∀ x, (X.env.kindOf x = some .cell ∨ X.env.kindOf x = some .free) → ∃ c, X.env.cells.lookup x = some c
  cab : ∀ x c, X.fn x = true → X.env.cells.lookup x = some c → X.s₀.heap.objs.size ≤ c
  hd : X.calm = true → X.A.handled = none
  frames : X.A.frames = some X.stack
  stk : X.stack = X.outer ∨ (X.stack = X.env :: X.outer ∧ X.env.frame = some X.env.locals)
  exf : ∀ b ∈ X.ex, b ≠ X.env.locals ∧ ∀ x c, X.env.cells.lookup x = some c → c ≠ b
  bs : ∀ b o, X.base.get? b = some o → X.s₀.heap.get? b = some o ∧ X.H₀ b = none
  bsz : X.base.objs.size ≤ X.s₀.heap.objs.size
  noex : ∀ b o, X.base.get? b = some o → b ∉ X.ex
  exfs : ∀ b ∈ X.ex, b ∉ X.fs
  funs : X.s₀.heap.FunFrames X.base X.outer
  frf : ∀ b ∈ X.fs, X.H₀ b = none
structure Inv (X : Cx) (pins : List (Addr × Obj)) (σ : List (Option V)) (H : Hp) (s : Shared) : Prop where
  ok : X.Ok
  os : s.os = X.s₀.os
  bare : AllBare s.gens
  base : Un X.fs X.ex X.H₀ H X.s₀.heap s.heap
  loc : ∃ m, s.heap.Ns X.env.locals m ∧ ∀ (i : Nat) (x : Str) (v : V), X.N[i]? = some x → σ[i]? = some (some v) → Vis X.env.scope x → ∃ u, RelV v u ∧ Look X.env s.heap m x u
  cell : ∀ x c, X.env.cells.lookup x = some c → ∃ v, s.heap.IsCell c v
  free : H X.env.locals = none
  freeC : ∀ x c, X.env.cells.lookup x = some c → H c = none
  pin : ∀ p ∈ X.pn ++ pins, s.heap.get? p.1 = some p.2 ∧ H p.1 = none ∧ p.1 ≠ X.env.locals ∧ p.1 ∉ X.fs ∧ ∀ v, p.2.data ≠ .cell v
  hok : HOk X.prog X.w H s.heap
  len : σ.length = X.N.length
section
variable {X : Cx} {pins : List (Addr × Obj)} {σ : List (Option V)} {H H' : Hp} {s : Shared} {h' : Heap}
theorem Cx.Ok.nofr (ok : X.Ok) {b : Addr} {o : Obj} (e : X.base.get? b = some o) : b ∉ X.fs := fun hb => by
  have := (ok.funs.mem hb).1
  rw [e] at this; cases this
theorem Inv.bs (I : Inv X pins σ H s) : ∀ b o, X.base.get? b = some o → s.heap.get? b = some o ∧ H b = none := fun b o e =>
  ⟨I.base.keep b o (I.ok.bs b o e).1 (I.ok.bs b o e).2 (I.ok.nofr e) (I.ok.noex b o e), I.base.free b o (I.ok.bs b o e).1 (I.ok.bs b o e).2 (I.ok.noex b o e)⟩
theorem Inv.bk (I : Inv X pins σ H s) : ∀ b o, X.base.get? b = some o → s.heap.get? b = some o := fun b o e => (I.bs b o e).1
theorem Inv.mod (I : Inv X pins σ H s) : Mod X.K X.mg X.base := I.ok.mod
theorem Inv.kIn (I : Inv X pins σ H s) : X.K.In s.heap := I.ok.mod.kin.keeps I.bk
theorem Inv.nolimit (I : Inv X pins σ H s) : s.heap.NoLimit := I.ok.mod.nolimit.keeps I.bk
theorem Inv.fr (I : Inv X pins σ H s) : ∃ m, Fr X.base X.env.locals s.heap m :=
  let ⟨m, hn, _⟩ := I.loc
  ⟨m, hn, I.bk, Nat.le_trans I.ok.bsz I.ok.above⟩
theorem Inv.lt (I : Inv X pins σ H s) : X.env.locals < s.heap.objs.size := let ⟨_, hn, _⟩ := I.loc; hn.lt
theorem Inv.sz (I : Inv X pins σ H s) : X.s₀.heap.objs.size ≤ s.heap.objs.size := Nat.le_trans I.ok.above (Nat.le_of_lt I.lt)
theorem Inv.nofs (I : Inv X pins σ H s) {a : Addr} (h : s.heap.objs.size ≤ a) : a ∉ X.fs := fun hb => by
  obtain ⟨_, o, ho, _⟩ := I.ok.funs.mem hb
  exact absurd (Nat.lt_of_lt_of_le (Heap.lt_size ho) (Nat.le_trans I.sz h)) (Nat.lt_irrefl _)
theorem Inv.cne (I : Inv X pins σ H s) : ∀ x c, X.env.cells.lookup x = some c → c ≠ X.env.locals := fun x c e z => by
  obtain ⟨v, o, ho, hd⟩ := I.cell x c e
  obtain ⟨m, ⟨o', es, ep, ho', hd', _⟩, _⟩ := I.loc
  rw [z, ho'] at ho; cases ho; rw [hd'] at hd; cases hd
theorem Inv.funs (I : Inv X pins σ H s) : s.heap.FunFrames X.base X.outer := by
  have all : ∀ (l : List Env), (∀ b ∈ frs l, b ∈ X.fs) → X.s₀.heap.FunFrames X.base l → s.heap.FunFrames X.base l := by
    intro l
    induction l with
    | nil => intro _ _; trivial
    | cons env r ih =>
      intro hs hl
      obtain ⟨hk, ⟨L, o, hf, hn, ho, hd⟩, hr⟩ := hl
      have hL : L ∈ X.fs := hs L (by unfold frs; rw [List.filterMap_cons, hf]; exact List.mem_cons_self)
      obtain ⟨sl, e⟩ := I.base.slot L o ho (I.ok.frf L hL) hL fun z => I.ok.exfs L z hL
      exact ⟨hk, ⟨L, _, hf, hn, e, hd⟩, ih (fun b hb => hs b (by unfold frs; rw [List.filterMap_cons, hf]; exact List.mem_cons_of_mem _ hb)) hr⟩
  exact all X.outer (fun _ hb => hb) I.ok.funs
theorem Inv.stack (I : Inv X pins σ H s) : s.heap.FunFrames X.base X.stack := by
  rcases I.ok.stk with e | ⟨e, hf⟩
  · rw [e]; exact I.funs
  · rw [e]
    obtain ⟨m, hn, _⟩ := I.loc
    refine .cons (by rw [I.ok.kind]; decide) hf hn ?_ I.funs
    exact Heap.get?_none_of_le (Nat.le_trans I.ok.bsz I.ok.above)
theorem Inv.stkSub (I : Inv X pins σ H s) : ∀ b ∈ frs X.stack, b ∈ X.env.locals :: X.fs := fun b hb => by
  rcases I.ok.stk with e | ⟨e, hf⟩
  · rw [e] at hb; exact List.mem_cons_of_mem _ hb
  · rw [e] at hb
    unfold frs at hb
    rw [List.filterMap_cons, hf] at hb
    exact hb
theorem Inv.stkFree (I : Inv X pins σ H s) : ∀ b ∈ frs X.stack, H b = none := fun b hb => by
  rcases List.mem_cons.mp (I.stkSub b hb) with e | hb
  · rw [e]; exact I.free
  · obtain ⟨_, o, ho, _⟩ := I.ok.funs.mem hb
    exact I.base.free b o ho (I.ok.frf b hb) fun z => I.ok.exfs b z hb
theorem Inv.step {g' : Array GenState} {t' : Nat} {d' : Drawn} {ch : List Addr} (I : Inv X pins σ H s)
    (hch : ∀ b ∈ ch, (b ∈ X.ex ∨ X.s₀.heap.objs.size ≤ b) ∧ b ≠ X.env.locals ∧ (∀ x c, X.env.cells.lookup x = some c → c ≠ b) ∧ ∀ p ∈ X.pn ++ pins, p.1 ≠ b)
    (keep : ∀ b o, b ≠ X.env.locals → b ∉ X.fs → b ∉ ch → s.heap.get? b = some o → H b = none → h'.get? b = some o)
    (slot : ∀ b o, b ≠ X.env.locals → b ∈ X.fs → b ∉ ch → s.heap.get? b = some o → H b = none → ∃ sl, h'.get? b = some { o with slots := sl }) (free : ∀ b o, b ∉ ch → s.heap.get? b = some o → H b = none → H' b = none)
    (there : ∀ b o, b ∉ ch → s.heap.get? b = some o → ∃ o', h'.get? b = some o')
    (tups : ∀ b xs, H b = some (.tup xs) → H' b = some (.tup xs)) (frzs : ∀ b o u, H b = some (.frz o u) → H' b = some (.frz o u)) (tbls : ∀ b ps, H b = some (.tbl ps) → ∃ more, H' b = some (.tbl (ps ++ more)))
    (ns : ∀ m, s.heap.Ns X.env.locals m → h'.Ns X.env.locals m) (hok : HOk X.prog X.w H' h') (hg : AllBare g') :
    Inv X pins σ H' { s with heap := h', gens := g', drawn := d', toks := t' } := by
  have neL : ∀ b o, X.s₀.heap.get? b = some o → b ≠ X.env.locals := fun b o e => Nat.ne_of_lt (Nat.lt_of_lt_of_le (Heap.lt_size e) I.ok.above)
  have neC : ∀ b o, X.s₀.heap.get? b = some o → b ∉ X.ex → b ∉ ch := fun b o e hx hb => by
    rcases (hch b hb).1 with z | z
    · exact hx z
    · exact absurd (Nat.lt_of_lt_of_le (Heap.lt_size e) z) (Nat.lt_irrefl _)
  have cellK : ∀ x c, X.env.cells.lookup x = some c → ∀ v, s.heap.IsCell c v → h'.IsCell c v := fun x c e v ⟨o, ho, hd⟩ => by
    have nch : c ∉ ch := fun z => (hch c z).2.2.1 x c e rfl
    by_cases hc : c ∈ X.fs
    · obtain ⟨sl, q⟩ := slot c o (I.cne x c e) hc nch ho (I.freeC x c e)
      exact ⟨_, q, hd⟩
    · exact ⟨o, keep c o (I.cne x c e) hc nch ho (I.freeC x c e), hd⟩
  refine ⟨I.ok, I.os, hg, ⟨fun b o e n hb hx => ?_, fun b o e n hb hx => ?_, fun b o e n hx => ?_, fun b o e hx => ?_, fun b xs e => tups b xs (I.base.tups b xs e), fun b o xs e => frzs b o xs (I.base.frzs b o xs e), fun b ps e => ?_⟩, ?_, fun x c e => ?_, ?_, fun x c e => ?_, fun p hp => ?_, hok, I.len⟩
  · exact keep b o (neL b o e) hb (neC b o e hx) (I.base.keep b o e n hb hx) (I.base.free b o e n hx)
  · obtain ⟨sl, e1⟩ := I.base.slot b o e n hb hx
    obtain ⟨sl', e2⟩ := slot b _ (neL b o e) hb (neC b o e hx) e1 (I.base.free b o e n hx)
    exact ⟨sl', e2⟩
  · obtain ⟨o', e1⟩ := I.base.there b o e hx
    exact free b o' (neC b o e hx) e1 (I.base.free b o e n hx)
  · obtain ⟨o', e1⟩ := I.base.there b o e hx
    exact there b o' (neC b o e hx) e1
  · obtain ⟨m1, e1⟩ := I.base.tbls b ps e
    obtain ⟨m2, e2⟩ := tbls b _ e1
    exact ⟨m1 ++ m2, by rw [e2, Array.append_assoc]⟩
  · obtain ⟨m, hn, hl⟩ := I.loc
    refine ⟨m, ns m hn, fun i x v e1 e2 e3 => ?_⟩
    obtain ⟨u, r, l⟩ := hl i x v e1 e2 e3
    refine ⟨u, r, ?_⟩
    rcases l with l | ⟨k, c, e, z⟩
    · exact .inl l
    · exact .inr ⟨k, c, e, cellK x c e _ z⟩
  · obtain ⟨v, z⟩ := I.cell x c e
    exact ⟨v, cellK x c e v z⟩
  · obtain ⟨m, ⟨o, _, _, ho, _⟩, _⟩ := I.loc
    exact free _ o (fun z => (hch _ z).2.1 rfl) ho I.free
  · obtain ⟨v, o, ho, hd⟩ := I.cell x c e
    exact free c o (fun z => (hch c z).2.2.1 x c e rfl) ho (I.freeC x c e)
  · obtain ⟨e, n, ne, nf, d⟩ := I.pin p hp
    have nch : p.1 ∉ ch := fun z => (hch p.1 z).2.2.2 p hp rfl
    exact ⟨keep p.1 p.2 ne nf nch e n, free p.1 p.2 nch e n, ne, nf, d⟩
theorem Inv.un {t' : Nat} (I : Inv X pins σ H s) (u : Un X.fs [] H H' s.heap h') (hok : HOk X.prog X.w H' h') : Inv X pins σ H' { s with heap := h', toks := t' } := by
  obtain ⟨m, ⟨o, es, ep, ho, r⟩, _⟩ := id I.loc
  obtain ⟨sl, hL⟩ := u.any ho I.free (by simp)
  exact I.step (g' := s.gens) (d' := s.drawn) (ch := []) (fun _ z => nomatch z) (fun b o _ hb _ e n => u.keep b o e n hb (by simp)) (fun b o _ hb _ e n => u.slot b o e n hb (by simp)) (fun b o _ e n => u.free b o e n (by simp)) (fun b o _ e => u.there b o e (by simp)) u.tups u.frzs u.tbls (fun m' hm => by
    obtain ⟨o', es', ep', ho', r'⟩ := hm
    rw [ho] at ho'; cases ho'
    exact ⟨_, es', ep', hL, r'⟩) hok I.bare
theorem Inv.call {g' : Array GenState} {t' : Nat} {d' : Drawn} {ch : List Addr} (I : Inv X pins σ H s) (u : Un (frs X.stack) ch H H' s.heap h') (hok : HOk X.prog X.w H' h') (hg : AllBare g')
    (hch : ∀ b ∈ ch, (b ∈ X.ex ∨ X.s₀.heap.objs.size ≤ b) ∧ b ≠ X.env.locals ∧ (∀ x c, X.env.cells.lookup x = some c → c ≠ b) ∧ ∀ p ∈ X.pn ++ pins, p.1 ≠ b) :
    Inv X pins σ H' { s with heap := h', gens := g', drawn := d', toks := t' } := by
  obtain ⟨m, ⟨o, es, ep, ho, r⟩, _⟩ := id I.loc
  obtain ⟨sl, hL⟩ := u.any ho I.free fun z => (hch _ z).2.1 rfl
  exact I.step (ch := ch) hch (fun b o hL hb hc e n => u.keep b o e n (fun z => (List.mem_cons.mp (I.stkSub b z)).elim hL hb) hc) (fun b o _ _ hc e n => u.any e n hc) (fun b o hc e n => u.free b o e n hc) (fun b o hc e => u.there b o e hc) u.tups u.frzs u.tbls (fun m' hm => by
    obtain ⟨o', es', ep', ho', r'⟩ := hm
    rw [ho] at ho'; cases ho'
    exact ⟨_, es', ep', hL, r'⟩) hok hg
theorem Inv.turned {t' : Nat} {it : Addr} (I : Inv X pins σ H s) (k : ∀ b o, b ≠ it → s.heap.get? b = some o → h'.get? b = some o) (hn : H it = none) (hL : it ≠ X.env.locals)
    (h1 : it ∈ X.ex ∨ X.s₀.heap.objs.size ≤ it) (h2 : ∀ x c, X.env.cells.lookup x = some c → c ≠ it) (h3 : ∀ p ∈ X.pn ++ pins, p.1 ≠ it) : Inv X pins σ H { s with heap := h', toks := t' } := by
  have nit : ∀ b u, H b = some u → b ≠ it := fun b u e z => by rw [z, hn] at e; cases e
  refine I.step (g' := s.gens) (d' := s.drawn) (ch := [it]) (fun b hb => ?_) (fun b o _ _ hc e _ => k b o (fun z => hc (by simp [z])) e) (fun b o _ _ hc e _ => ⟨o.slots, k b o (fun z => hc (by simp [z])) e⟩) (fun _ _ _ _ n => n)
    (fun b o hc e => ⟨o, k b o (fun z => hc (by simp [z])) e⟩) (fun _ _ e => e) (fun _ _ _ e => e) (fun b ps e => ⟨#[], by rw [e]; simp⟩) (fun m hm => ?_) (fun b u e => ?_) I.bare
  · have e : b = it := by simpa using hb
    subst e
    exact ⟨h1, hL, h2, h3⟩
  · obtain ⟨o, es, ep, ho, r⟩ := hm
    exact ⟨o, es, ep, k _ o (Ne.symm hL) ho, r⟩
  · refine (I.hok b u e).stay (fun c v hc q => k c v ?_ q) (fun _ q => q) fun _ _ q => q
    rcases hc with z | z
    · rw [z]; exact nit b u e
    · exact nit c _ z
theorem Inv.tok (I : Inv X pins σ H s) (t : Nat) : Inv X pins σ H { s with toks := t } := I.un (h' := s.heap) (t' := t) Un.refl I.hok
theorem Inv.kept {t' : Nat} (I : Inv X pins σ H s) (k : ∀ b u, s.heap.get? b = some u → h'.get? b = some u) : Inv X pins σ H { s with heap := h', toks := t' } := I.un (Un.kept k) (I.hok.kept k)
theorem Inv.laid {a : Addr} {o : HO} {t' : Nat} (I : Inv X pins σ H s) (k : ∀ b u, s.heap.get? b = some u → h'.get? b = some u) (hp : s.heap.objs.size ≤ a) (new : ObjOk X.prog X.w (upd H a o) h' a o) :
    Inv X pins σ (upd H a o) { s with heap := h', toks := t' } := I.un (Un.laid k hp (I.hok.fresh hp)) (I.hok.laid k hp new)
theorem Inv.write {x e : Addr} {o : HO} {t' : Nat} (I : Inv X pins σ H s) (mu : Mut (H x)) (he : e = x ∨ H e = some (.own x)) (k : ∀ b u, b ≠ e → s.heap.get? b = some u → h'.get? b = some u) (heo : ∃ u, h'.get? e = some u)
    (new : ObjOk X.prog X.w (upd H x o) h' x o) : Inv X pins σ (upd H x o) { s with heap := h', toks := t' } := I.un (Un.write mu he k heo) (I.hok.write mu he k heo new)
theorem Inv.pins_of {pins' : List (Addr × Obj)} (I : Inv X pins σ H s) (h : ∀ p ∈ pins', s.heap.get? p.1 = some p.2 ∧ H p.1 = none ∧ p.1 ≠ X.env.locals ∧ p.1 ∉ X.fs ∧ ∀ v, p.2.data ≠ .cell v) : Inv X pins' σ H s :=
  ⟨I.ok, I.os, I.bare, I.base, I.loc, I.cell, I.free, I.freeC, fun p hp => (List.mem_append.mp hp).elim (fun z => I.pin p (List.mem_append_left _ z)) (h p), I.hok, I.len⟩
theorem nodup_ix {N : List Str} (hN : N.Nodup) {i j : Nat} {x : Str} (a : N[i]? = some x) (b : N[j]? = some x) : i = j := by
  obtain ⟨h1, e1⟩ := List.getElem?_eq_some_iff.mp a
  obtain ⟨h2, e2⟩ := List.getElem?_eq_some_iff.mp b
  exact (List.getElem_inj hN).mp (e1.trans e2.symm)
theorem store_ok2 {M : Model} {A : Around} {E : Value → Shared → Prop} {i : Nat} {x : Str} {v : V} {u : Value} {Q : Unit → Shared → Prop} (I : Inv X pins σ H s) (hN : X.N.Nodup) (hi : X.N[i]? = some x) (hx : Loc X.env.scope x) (r : RelV v u)
    (h : ∀ s', Inv X pins (σ.set i (some v)) H s' → (∃ a, Heap.SameBut a s.heap s'.heap ∧ (a = X.env.locals ∨ X.env.cells.lookup x = some a)) → Q () s') (hf : X.fn x = true ∨ X.env.scope.names.lookup x = some .local := by first | exact .inl rfl | exact .inr rfl | assumption) : wpAny M A (storeName X.env x u) Q E s := by
  obtain ⟨m, hn, hl⟩ := id I.loc
  have hcls : (X.env.scope.kind == .class || (X.env.scope.kind == .module && X.env.locals != X.env.globals)) = false := by rw [I.ok.kind]; rfl
  have hiσ : i < σ.length := by rw [I.len]; exact (List.getElem?_eq_some_iff.mp hi).1
  have cne := I.cne
  have tracked : ∀ {a : Addr} {h' : Heap}, (∃ o, s.heap.get? a = some o ∧ H a = none) → Heap.SameBut a s.heap h' → HOk X.prog X.w H h' := fun {a h'} ha hs b ob e => by
    obtain ⟨_, _, hfree⟩ := ha
    refine (I.hok b ob e).stay (fun c w' hc q => (hs.2 c ?_).trans q) (fun _ q => q) fun _ _ q => q
    rintro rfl
    rcases hc with rfl | hc
    · rw [hfree] at e; cases e
    · rw [hfree] at hc; cases hc
  rcases hx with hk | hk
  · refine wpAny_storeName_local hk hn (fun h' hn' hs => ?_) hcls
    obtain ⟨oL, _, _, hoL, _⟩ := id hn
    refine h _ ⟨I.ok, I.os, I.bare, ⟨fun b o e n hb hx => ?_, fun b o e n hb hx => ?_, I.base.free, fun b o e hx => ?_, I.base.tups, I.base.frzs, I.base.tbls⟩, ⟨_, hn', fun j y v' e1 e2 e3 => ?_⟩, fun y c e => ?_, I.free, I.freeC, fun p hp => ?_, tracked ⟨oL, hoL, I.free⟩ hs, by simpa using I.len⟩ ⟨_, hs, .inl rfl⟩
    · exact (hs.2 b (Nat.ne_of_lt (Nat.lt_of_lt_of_le (Heap.lt_size e) I.ok.above))).trans (I.base.keep b o e n hb hx)
    · obtain ⟨sl, e1⟩ := I.base.slot b o e n hb hx
      exact ⟨sl, (hs.2 b (Nat.ne_of_lt (Nat.lt_of_lt_of_le (Heap.lt_size e) I.ok.above))).trans e1⟩
    · obtain ⟨o', e1⟩ := I.base.there b o e hx
      exact ⟨o', (hs.2 b (Nat.ne_of_lt (Nat.lt_of_lt_of_le (Heap.lt_size e) I.ok.above))).trans e1⟩
    · by_cases hj : j = i
      · subst hj
        rw [hi] at e1; cases e1
        rw [List.getElem?_set_self hiσ] at e2
        cases e2
        exact ⟨u, r, .inl ⟨hk, by simp⟩⟩
      · rw [List.getElem?_set_ne (Ne.symm hj)] at e2
        obtain ⟨u', r', q⟩ := hl j y v' e1 e2 e3
        refine ⟨u', r', ?_⟩
        rcases q with ⟨k, e⟩ | ⟨k, c, e, z⟩
        · refine .inl ⟨k, ?_⟩
          have : y ≠ x := fun e => hj (nodup_ix hN e1 (e ▸ hi))
          simp [this, e]
        · exact .inr ⟨k, c, e, z.sameBut hs (cne y c e)⟩
    · obtain ⟨w', z⟩ := I.cell y c e
      exact ⟨w', z.sameBut hs (cne y c e)⟩
    · obtain ⟨e, n, ne, nf, d⟩ := I.pin p hp
      exact ⟨(hs.2 p.1 ne).trans e, n, ne, nf, d⟩
  · have hfn : X.fn x = true := by
      rcases hf with z | z
      · exact z
      · rw [z] at hk; cases hk
    obtain ⟨c, hc⟩ := I.ok.has x (.inl hk)
    obtain ⟨w', z⟩ := I.cell x c hc
    refine wpAny_storeName_cell I.ok.kind hk hc z (fun h' hc' hs => ?_)
    obtain ⟨oc, hoc, hocd⟩ := id z
    refine h { s with heap := h' } ⟨I.ok, I.os, I.bare, ⟨fun b o e n hb hx => ?_, fun b o e n hb hx => ?_, I.base.free, fun b o e hx => ?_, I.base.tups, I.base.frzs, I.base.tbls⟩, ⟨m, hn.sameBut hs (Ne.symm (cne x c hc)), fun j y v' e1 e2 e3 => ?_⟩, fun y c' e => ?_, I.free, I.freeC, fun p hp => ?_, tracked ⟨oc, hoc, I.freeC x c hc⟩ hs, by simpa using I.len⟩ ⟨c, hs, .inr hc⟩
    · exact (hs.2 b (Nat.ne_of_lt (Nat.lt_of_lt_of_le (Heap.lt_size e) (I.ok.cab x c hfn hc)))).trans (I.base.keep b o e n hb hx)
    · obtain ⟨sl, e1⟩ := I.base.slot b o e n hb hx
      exact ⟨sl, (hs.2 b (Nat.ne_of_lt (Nat.lt_of_lt_of_le (Heap.lt_size e) (I.ok.cab x c hfn hc)))).trans e1⟩
    · obtain ⟨o', e1⟩ := I.base.there b o e hx
      exact ⟨o', (hs.2 b (Nat.ne_of_lt (Nat.lt_of_lt_of_le (Heap.lt_size e) (I.ok.cab x c hfn hc)))).trans e1⟩
    · by_cases hj : j = i
      · subst hj
        rw [hi] at e1; cases e1
        rw [List.getElem?_set_self hiσ] at e2
        cases e2
        exact ⟨u, r, .inr ⟨.inl hk, c, hc, hc'⟩⟩
      · rw [List.getElem?_set_ne (Ne.symm hj)] at e2
        obtain ⟨u', r', q⟩ := hl j y v' e1 e2 e3
        refine ⟨u', r', ?_⟩
        rcases q with q | ⟨k, c', e, z'⟩
        · exact .inl q
        · refine .inr ⟨k, c', e, z'.sameBut hs ?_⟩
          rintro rfl
          exact hj (nodup_ix hN e1 (I.ok.inj _ _ _ e hc ▸ hi))
    · by_cases hcc : c' = c
      · subst hcc; exact ⟨_, hc'⟩
      · obtain ⟨w2, z2⟩ := I.cell y c' e
        exact ⟨w2, z2.sameBut hs hcc⟩
    · obtain ⟨e, n, ne, nf, d⟩ := I.pin p hp
      refine ⟨(hs.2 p.1 ?_).trans e, n, ne, nf, d⟩
      intro q
      rw [q, hoc] at e
      have q' : oc = p.2 := Option.some.inj e
      exact d w' (by rw [← q']; exact hocd)
theorem store_ok {M : Model} {A : Around} {E : Value → Shared → Prop} {i : Nat} {x : Str} {v : V} {u : Value} {Q : Unit → Shared → Prop} (I : Inv X pins σ H s) (hN : X.N.Nodup) (hi : X.N[i]? = some x) (hx : Loc X.env.scope x) (r : RelV v u)
    (h : ∀ s', Inv X pins (σ.set i (some v)) H s' → Q () s') (hf : X.fn x = true ∨ X.env.scope.names.lookup x = some .local := by first | exact .inl rfl | exact .inr rfl | assumption) : wpAny M A (storeName X.env x u) Q E s :=
  store_ok2 I hN hi hx r (fun s' I' _ => h s' I') hf
theorem Inv.call' {s' : Shared} {ch : List Addr} (I : Inv X pins σ H s) (ho : s'.os = s.os) (u : Un (frs X.stack) ch H H' s.heap s'.heap) (hok : HOk X.prog X.w H' s'.heap) (hg : AllBare s'.gens)
    (hch : ∀ b ∈ ch, (b ∈ X.ex ∨ X.s₀.heap.objs.size ≤ b) ∧ b ≠ X.env.locals ∧ (∀ x c, X.env.cells.lookup x = some c → c ≠ b) ∧ ∀ p ∈ X.pn ++ pins, p.1 ≠ b) : Inv X pins σ H' s' := by
  obtain ⟨h', g', d', t', o'⟩ := s'
  have e : o' = s.os := ho
  subst e
  exact I.call (g' := g') (t' := t') (d' := d') u hok hg hch
end
abbrev XK := Value → Option Addr → Hp → Prop
abbrev St := List (Option V)
abbrev VK := V → Hp → Prop
abbrev TE := St → Hp → VK → Prop
abbrev TT := St → Hp → (Bool → Hp → Prop) → Prop
abbrev TA := St → Hp → (List V → Hp → Prop) → Prop
structure Ends where
  nx : St → Hp → Prop
  rt : VK
  bk : St → Hp → Prop := fun _ _ => False
  ct : St → Hp → Prop := fun _ _ => False
abbrev TS := Ends → St → Hp → Prop
def EP (X : Cx) (pins : List (Addr × Obj)) (σ : St) (Q : VK) (u : Value) (s' : Shared) : Prop := ∃ v H', Inv X pins σ H' s' ∧ RelV v u ∧ Q v H'
def TP (X : Cx) (pins : List (Addr × Obj)) (σ : St) (Q : Bool → Hp → Prop) (b : Bool) (s' : Shared) : Prop := ∃ H', Inv X pins σ H' s' ∧ Q b H'
def AP (X : Cx) (pins : List (Addr × Obj)) (σ : St) (Q : List V → Hp → Prop) (us : List Value) (s' : Shared) : Prop := ∃ vs H', Inv X pins σ H' s' ∧ Vals vs us ∧ Q vs H'
def SP (X : Cx) (pins : List (Addr × Obj)) (D : Ends) (f : Flow) (s' : Shared) : Prop :=
  match f with
  | .next => ∃ σ' H', Inv X pins σ' H' s' ∧ D.nx σ' H'
  | .brk => ∃ σ' H', Inv X pins σ' H' s' ∧ D.bk σ' H'
  | .cont => ∃ σ' H', Inv X pins σ' H' s' ∧ D.ct σ' H'
  | .ret u => ∃ v σ' H', Inv X pins σ' H' s' ∧ RelV v u ∧ D.rt v H'
def PE (X : Cx) (e : Expr) (t : TE) : Prop :=
  ∀ (pins : List (Addr × Obj)) (s : Shared) (σ : St) (H : Hp) (Q : VK), Inv X pins σ H s → t σ H Q → wpAny (model X.prog X.w) X.A (eval e X.env) (EP X pins σ Q) X.xe s
def PT (X : Cx) (e : Expr) (t : TT) : Prop :=
  ∀ (pins : List (Addr × Obj)) (s : Shared) (σ : St) (H : Hp) (Q : Bool → Hp → Prop), Inv X pins σ H s → t σ H Q → wpAny (model X.prog X.w) X.A (isTrue e X.env (eval e X.env)) (TP X pins σ Q) X.xe s
def PW (X : Cx) (e : Expr) (t : TT) : Prop :=
  ∀ (whole : Sem Value) (pins : List (Addr × Obj)) (s : Shared) (σ : St) (H : Hp) (Q : Bool → Hp → Prop), Inv X pins σ H s → t σ H Q → wpAny (model X.prog X.w) X.A (isTrue e X.env whole) (TP X pins σ Q) X.xe s
theorem PW.pt {X : Cx} {e : Expr} {t : TT} (h : PW X e t) : PT X e t := h _
def PA (X : Cx) (es : List Expr) (t : TA) : Prop :=
  ∀ (pos : Pos) (pins : List (Addr × Obj)) (s : Shared) (σ : St) (H : Hp) (Q : List V → Hp → Prop), Inv X pins σ H s → t σ H Q → wpAny (model X.prog X.w) X.A (spliced (backTo pos (starEach es X.env))) (AP X pins σ Q) X.xe s
def PS (X : Cx) (st : Stmt) (t : TS) : Prop :=
  ∀ (pins : List (Addr × Obj)) (s : Shared) (σ : St) (H : Hp) (D : Ends), Inv X pins σ H s → t D σ H → wpAny (model X.prog X.w) X.A (exec st X.env) (SP X pins D) X.xe s
def PSs (X : Cx) (st : List Stmt) (t : TS) : Prop :=
  ∀ (pins : List (Addr × Obj)) (s : Shared) (σ : St) (H : Hp) (D : Ends), Inv X pins σ H s → t D σ H → wpAny (model X.prog X.w) X.A (execs st X.env) (SP X pins D) X.xe s
theorem thn {α : Type} {t : Sem α} {Q Q' : α → Shared → Prop} {M : Model} {A : Around} {E : Value → Shared → Prop} {s : Shared} (h : wpAny M A t Q E s) (hQ : ∀ a s, Q a s → Q' a s) : wpAny M A t Q' E s := wpAny_mono h hQ fun _ _ x => x
end L2
namespace L2
open PySem PySem.Spec PyProof.Rows
section
variable {X : Cx}
def tVar (i : Nat) : TE := fun σ H Q => ∃ v, σ[i]? = some (some v) ∧ Q v H
def tC (v : V) : TE := fun _ H Q => Q v H
theorem pe_var {i : Nat} {x : Str} {pos : Pos} (hN : X.N[i]? = some x) (hv : Vis X.env.scope x) (hd : (x == ("__debug__" : Str)) = false := by decide) (hcd : (x == ("__classdict__" : Str)) = false := by decide) : PE X (.Name x pos) (tVar i) := by
  intro pins s σ H Q I h
  obtain ⟨v, e, h⟩ := h
  obtain ⟨m, hn, hl⟩ := I.loc
  obtain ⟨u, r, l⟩ := hl i x v hN e hv
  have fin : EP X pins σ Q u s := ⟨v, H, I, r, h⟩
  rcases l with ⟨hk, hm⟩ | ⟨hk, c, hc, hcell⟩
  · exact wpAny_Name (wpAny_loadName_local I.ok.kind hk hn hm fin) hd
  · rcases hk with hk | hk
    · exact wpAny_Name (wpAny_loadName_cell I.ok.kind hk hc hcell fin) hd
    · exact wpAny_Name (wpAny_loadName_free I.ok.kind hk hc hcell fin hcd) hd
theorem pe_int {i j pos} : PE X (.Constant (.int i) j pos) (tC (.int i)) := fun _ _ _ H _ I h => wpAny_Constant_int ⟨.int i, H, I.tok _, ⟨_, rfl⟩, h⟩
def Gl (X : Cx) (x : Str) : Prop := X.env.kindOf x = some .globalImplicit
theorem ld_glob {E : Value → Shared → Prop} {pins : List (Addr × Obj)} {s : Shared} {σ : St} {H : Hp} {x : Str} {u : Value} {pos : Pos} {Q : Value → Shared → Prop} (I : Inv X pins σ H s) (hg : Gl X x) (hm : X.mg x = some u) (h : Q u s)
    (hd : (x == ("__debug__" : Str)) = false := by decide) : wpAny (model X.prog X.w) X.A (eval (.Name x pos) X.env) Q E s :=
  Calls.Name_function_global I.ok.kind hg (Calls.loadGlobal_global (by rw [I.ok.glob]; exact I.mod.glob.keeps I.bk) hm h) hd
theorem ld_blt {E : Value → Shared → Prop} {pins : List (Addr × Obj)} {s : Shared} {σ : St} {H : Hp} {x : Str} {u : Value} {pos : Pos} {Q : Value → Shared → Prop} (I : Inv X pins σ H s) (hg : Gl X x) (hm : X.mg x = none) (hv : bootBuiltins x = some u) (h : Q u s)
    (hn : x ≠ "__name__" := by decide) (hd : (x == ("__debug__" : Str)) = false := by decide) : wpAny (model X.prog X.w) X.A (eval (.Name x pos) X.env) Q E s := by
  obtain ⟨mb, h1, h2⟩ := I.mod.blt
  exact Calls.Name_function_global I.ok.kind hg (Calls.loadGlobal_builtin (by rw [I.ok.glob]; exact I.mod.glob.keeps I.bk) hm (by rw [I.ok.blt]; exact h1.keeps I.bk) ((h2 x hn).trans hv) h) hd
theorem pe_glob {x : Str} {v : V} {u : Value} {pos : Pos} (hg : Gl X x) (hm : X.mg x = some u) (r : RelV v u) (hd : (x == ("__debug__" : Str)) = false := by decide) : PE X (.Name x pos) (tC v) :=
  fun _ _ _ H _ I h => ld_glob I hg hm ⟨v, H, I, r, h⟩ hd
variable {a b : Expr} {ta tb : TE} {pos : Pos}
def tB (t : TE) : TT := fun σ H Q => t σ H fun x H1 => ∃ c, x = .bl c ∧ Q c H1
theorem pt_val {e : Expr} {t : TE} (h : PE X e t) (he : ∀ whole, isTrue e X.env whole = (do let v ← whole; standAt e.pos; holding [v] (truthy v)) := by intro _; rfl) : PT X e (tB t) := by
  intro pins s σ H Q I hw
  refine isTrue_plain (thn (h pins s σ H _ I hw) fun v s1 ⟨x, H1, I1, r1, q1⟩ => ?_) (he _)
  obtain ⟨d, rfl, q⟩ := q1
  cases r1
  exact wpAny_truthy_bool ⟨H1, I1, q⟩
variable {tA tB' : TT} {rest : List Expr}
def tAnd (t u : TT) : TT := fun σ H Q => t σ H fun c H1 => if c = true then u σ H1 Q else Q false H1
def tNot (t : TT) : TT := fun σ H Q => t σ H fun c H1 => Q (!c) H1
theorem pw_and1 (ha : PT X a tA) : PW X (.BoolOp .And [a] pos) tA := by
  intro wh pins s σ H Q I h
  refine isTrue_and (thn (ha pins s σ H Q I h) fun c s1 e => ?_)
  cases c with
  | true => exact isTrue_and_nil e
  | false => exact e
theorem pw_and (ha : PT X a tA) (hb : PW X (.BoolOp .And (b :: rest) pos) tB') : PW X (.BoolOp .And (a :: b :: rest) pos) (tAnd tA tB') := by
  intro wh pins s σ H Q I h
  refine isTrue_and (thn (ha pins s σ H _ I h) fun c s1 ⟨H1, I1, q1⟩ => ?_)
  cases c with
  | true => exact hb wh pins s1 σ H1 Q I1 q1
  | false => exact ⟨H1, I1, q1⟩
theorem pt_not (ha : PT X a tA) : PT X (.UnaryOp .Not a pos) (tNot tA) := by
  intro pins s σ H Q I h
  exact isTrue_not (ha pins s σ H (fun c H1 => Q (!c) H1) I h)
def tIf (t : TT) (ta tb : TE) : TE := fun σ H Q => t σ H fun c H1 => if c = true then ta σ H1 Q else tb σ H1 Q
theorem pe_ifExp {c : Expr} (hc : PT X c tA) (ha : PE X a ta) (hb : PE X b tb) : PE X (.IfExp c a b pos) (tIf tA ta tb) := by
  intro pins s σ H Q I h
  refine wpAny_IfExp (thn (hc pins s σ H _ I h) fun d s1 ⟨H1, I1, q1⟩ => ?_)
  cases d with
  | true => exact ha pins s1 σ H1 Q I1 q1
  | false => exact hb pins s1 σ H1 Q I1 q1
end
end L2
namespace L2
open PySem PySem.Spec PyProof.Rows
def SqL (K : PySem.W.Frag) (H : Hp) (a : Addr) (xs : List V) : Prop :=
  Rd H a (.lst xs) ∨
    ∃ (o : Obj) (its : Array Value) (n : Nat), K.lookup a = some o ∧ o.cls = .type "list" ∧ o.dict = none ∧ o.data = .seq its n ∧ its.size ≤ sizeLine ∧ Vals xs its.toList
def SqT (K : PySem.W.Frag) (H : Hp) (a : Addr) (xs : List V) : Prop :=
  Rd H a (.tup xs) ∨
    ∃ (o : Obj) (its : Array Value) (n : Nat), K.lookup a = some o ∧ o.cls = .type "tuple" ∧ o.data = .seq its n ∧ its.size ≤ sizeLine ∧ Vals xs its.toList
def absV : Value → Option V
  | .none => some .non
  | .bool b => some (.bl b)
  | .int i _ => some (.int i)
  | .str x _ => some (.str x)
  | .bytes b _ => some (.byt b)
  | .float b _ => some (.flt b)
  | .ref a => some (.ref a)
  | .type n => some (.ty n)
  | _ => none
theorem RelV.abs {x : V} {u : Value} (r : RelV x u) : absV u = some x := by
  cases x with
  | non => cases r; rfl
  | bl _ => cases r; rfl
  | int _ => obtain ⟨t, rfl⟩ := r; rfl
  | str _ => obtain ⟨t, rfl⟩ := r; rfl
  | byt _ => obtain ⟨t, rfl⟩ := r; rfl
  | flt _ => obtain ⟨t, rfl⟩ := r; rfl
  | ref _ => cases r; rfl
  | ty _ => cases r; rfl
theorem RelV.inj {x y : V} {u : Value} (r : RelV x u) (q : RelV y u) : x = y := Option.some.inj (r.abs.symm.trans q.abs)
theorem Vals.inj : ∀ {xs ys : List V} {us : List Value}, Vals xs us → Vals ys us → xs = ys
  | _, _, _, .nil, .nil => rfl
  | _, _, _, .cons r t, .cons r' t' => by rw [r.inj r', Vals.inj t t']
section
variable {X : Cx} {pins : List (Addr × Obj)} {σ : St} {H : Hp} {s : Shared} {a : Addr} {xs ys : List V}
theorem SqL.of {K : PySem.W.Frag} (h : H a = some (.lst xs)) : SqL K H a xs := .inl (.inl h)
theorem SqT.of {K : PySem.W.Frag} (h : H a = some (.tup xs)) : SqT K H a xs := .inl (.inl h)
theorem Inv.list (I : Inv X pins σ H s) (h : SqL X.K H a xs) : ∃ its : List Value, Vals xs its ∧ PlainL s.heap a its.toArray ∧ xs.length ≤ sizeLine := by
  rcases h with h | ⟨o, its, n, hk, hc, hd, hs, hz, r⟩
  · obtain ⟨z, its, n, r, e⟩ := h.ok I.hok
    exact ⟨its, r, ⟨_, n, e, rfl, rfl, rfl⟩, z⟩
  · refine ⟨its.toList, r, ⟨o, n, I.kIn a o hk, hc, hd, by simpa using hs⟩, ?_⟩
    have e := r.length
    simp only [Array.length_toList] at e
    omega
theorem Inv.tuple (I : Inv X pins σ H s) (h : SqT X.K H a xs) : ∃ its : List Value, Vals xs its ∧ IsTup s.heap a its.toArray ∧ xs.length ≤ sizeLine := by
  rcases h with h | ⟨o, its, n, hk, hc, hs, hz, r⟩
  · obtain ⟨z, its, r, p⟩ := h.ok I.hok
    exact ⟨its, r, p, z⟩
  · refine ⟨its.toList, r, ⟨o, I.kIn a o hk, hc, n, by simpa using hs⟩, ?_⟩
    have e := r.length
    simp only [Array.length_toList] at e
    omega
theorem Inv.list_inj (I : Inv X pins σ H s) (h : SqL X.K H a xs) (h' : SqL X.K H a ys) : xs = ys := by
  obtain ⟨its, r, ⟨o, n, e, _, _, d⟩, _⟩ := I.list h
  obtain ⟨its', r', ⟨o', n', e', _, _, d'⟩, _⟩ := I.list h'
  rw [e] at e'; cases e'
  rw [d] at d'
  injection d' with d1 _
  have : its = its' := by simpa using congrArg Array.toList d1
  subst this
  exact r.inj r'
end
abbrev Cx.wish (X : Cx) (E : Value → Shared → Prop) : Cx := { X with xe := E }
abbrev Cx.nox (X : Cx) : Cx := X.wish fun _ _ => False
theorem Cx.Ok.wish {X : Cx} (ok : X.Ok) (E : Value → Shared → Prop) : (X.wish E).Ok :=
  ⟨ok.mod, ok.kind, ok.glob, ok.blt, ok.above, ok.inj, ok.has, ok.cab, ok.hd, ok.frames, ok.stk, ok.exf, ok.bs, ok.bsz, ok.noex, ok.exfs, ok.funs, ok.frf⟩
theorem Cx.Ok.unwish {X : Cx} {E : Value → Shared → Prop} (ok : (X.wish E).Ok) : X.Ok :=
  ⟨ok.mod, ok.kind, ok.glob, ok.blt, ok.above, ok.inj, ok.has, ok.cab, ok.hd, ok.frames, ok.stk, ok.exf, ok.bs, ok.bsz, ok.noex, ok.exfs, ok.funs, ok.frf⟩
section
variable {X : Cx} {pins : List (Addr × Obj)} {σ : St} {H : Hp} {s : Shared} {E : Value → Shared → Prop}
theorem Inv.wish (I : Inv X pins σ H s) (E : Value → Shared → Prop) : Inv (X.wish E) pins σ H s := ⟨I.ok.wish E, I.os, I.bare, I.base, I.loc, I.cell, I.free, I.freeC, I.pin, I.hok, I.len⟩
theorem Inv.unwish (I : Inv (X.wish E) pins σ H s) : Inv X pins σ H s := ⟨I.ok.unwish, I.os, I.bare, I.base, I.loc, I.cell, I.free, I.freeC, I.pin, I.hok, I.len⟩
theorem SP.unwish {D : Ends} {f : Flow} {s' : Shared} (h : SP (X.wish E) pins D f s') : SP X pins D f s' := by
  cases f with
  | next => obtain ⟨σ', H', I, q⟩ := h; exact ⟨σ', H', I.unwish, q⟩
  | brk => obtain ⟨σ', H', I, q⟩ := h; exact ⟨σ', H', I.unwish, q⟩
  | cont => obtain ⟨σ', H', I, q⟩ := h; exact ⟨σ', H', I.unwish, q⟩
  | ret u => obtain ⟨v, σ', H', I, r, q⟩ := h; exact ⟨v, σ', H', I.unwish, r, q⟩
theorem PE.nox {e : Expr} {t : TE} (h : PE X.nox e t) : PE X e t := fun pins s σ H Q I hw =>
  wpAny_mono (h pins s σ H Q (I.wish _) hw) (fun _ _ ⟨v, H', I', r, q⟩ => ⟨v, H', I'.unwish, r, q⟩) fun _ _ z => False.elim z
theorem PT.nox {e : Expr} {t : TT} (h : PT X.nox e t) : PT X e t := fun pins s σ H Q I hw =>
  wpAny_mono (h pins s σ H Q (I.wish _) hw) (fun _ _ ⟨H', I', q⟩ => ⟨H', I'.unwish, q⟩) fun _ _ z => False.elim z
theorem PSs.nox {st : List Stmt} {t : TS} (h : PSs X.nox st t) : PSs X st t := fun pins s σ H D I hw =>
  wpAny_mono (h pins s σ H D (I.wish _) hw) (fun _ _ q => q.unwish) fun _ _ z => False.elim z
end
section
variable {X : Cx} {st : Stmt} {rest : List Stmt} {t u : TS} {e : Expr} {te : TE} {pos : Pos}
def tNext : TS := fun D σ H => D.nx σ H
def tSeq (t u : TS) : TS := fun D σ H => t { D with nx := u D } σ H
theorem pss_nil : PSs X [] tNext := fun _ _ σ H _ I h => wpAny_execs_nil ⟨σ, H, I, h⟩
theorem pss_cons (h1 : PS X st t) (h2 : PSs X rest u) : PSs X (st :: rest) (tSeq t u) := by
  intro pins s σ H D I h
  refine wpAny_execs_cons (thn (h1 pins s σ H { D with nx := u D } I h) fun f s1 q => ?_)
  cases f with
  | next =>
    obtain ⟨σ', H', I', q⟩ := q
    exact h2 pins s1 σ' H' D I' q
  | ret v => exact q
  | brk => exact q
  | cont => exact q
theorem pss_one (h1 : PS X st t) : PSs X [st] t := by
  intro pins s σ H D I h
  refine wpAny_execs_cons (thn (h1 pins s σ H D I h) fun f s1 q => ?_)
  cases f with
  | next => exact wpAny_execs_nil q
  | ret v => exact q
  | brk => exact q
  | cont => exact q
theorem Inv.quiet {pins : List (Addr × Obj)} {σ : St} {H : Hp} {s : Shared} (I : Inv X pins σ H s) : interactive X.env = false := by simp [interactive, I.ok.kind]
def tDrop (te : TE) : TS := fun D σ H => te σ H fun _ H1 => D.nx σ H1
theorem ps_expr (he : PE X e te) (hs : swapsWith e none pos.line X.env = pure false := by rfl) : PS X (.Expr e pos) (tDrop te) := by
  intro pins s σ H D I h
  exact wpAny_Expr_any (thn (he pins s σ H _ I h) fun v s1 ⟨x, H1, I1, r1, q1⟩ => ⟨σ, H1, I1, q1⟩) I.quiet hs
def tRet (te : TE) : TS := fun D σ H => te σ H D.rt
theorem ps_ret (he : PE X e te) : PS X (.Return (some e) pos) (tRet te) := by
  intro pins s σ H D I h
  exact wpAny_Return_some (thn (he pins s σ H _ I h) fun v s1 ⟨x, H1, I1, r1, q1⟩ => ⟨x, σ, H1, I1, r1, q1⟩)
def tIfS (c : TT) (t u : TS) : TS := fun D σ H => c σ H fun b H1 => if b = true then t D σ H1 else u D σ H1
theorem ps_if {c : Expr} {a b : List Stmt} {tc : TT} (hc : PT X c tc) (ha : PSs X a t) (hb : PSs X b u) : PS X (.If c a b pos) (tIfS tc t u) := by
  intro pins s σ H D I h
  refine wpAny_If (thn (hc pins s σ H _ I h) fun d s1 ⟨H1, I1, q1⟩ => ?_)
  cases d with
  | true => exact ha pins s1 σ H1 D I1 q1
  | false => exact hb pins s1 σ H1 D I1 q1
end
abbrev TG := V → St → Hp → (St → Hp → Prop) → Prop
def PG (X : Cx) (target : Expr) (t : TG) : Prop :=
  ∀ (pins : List (Addr × Obj)) (s : Shared) (σ : St) (H : Hp) (v : V) (u : Value) (Q : St → Hp → Prop), Inv X pins σ H s → RelV v u → t v σ H Q →
    wpAny (model X.prog X.w) X.A (assign target X.env u) (fun _ s' => ∃ σ' H', Inv X pins σ' H' s' ∧ Q σ' H') X.xe s
abbrev TIp := V → V → Hp → VK → Prop
def PIp (X : Cx) (op : Operator) (t : TIp) : Prop :=
  ∀ (pins : List (Addr × Obj)) (s : Shared) (σ : St) (H : Hp) (x y : V) (v u : Value) (Q : VK), Inv X pins σ H s → RelV x v → RelV y u → t x y H Q →
    wpAny (model X.prog X.w) X.A (inplaceOp op v u) (EP X pins σ Q) X.xe s
section
variable {X : Cx} {pos : Pos}
def gName (i : Nat) : TG := fun v σ H Q => Q (σ.set i (some v)) H
theorem pg_name {i : Nat} {x : Str} (hN : X.N.Nodup) (hi : X.N[i]? = some x) (hx : Loc X.env.scope x) (hf : X.fn x = true ∨ X.env.scope.names.lookup x = some .local := by first | exact .inl rfl | exact .inr rfl | assumption) : PG X (.Name x pos) (gName i) := by
  intro pins s σ H v u Q I r h
  exact wpAny_assign_Name (store_ok I hN hi hx r (fun s' I' => ⟨_, H, I', h⟩) hf)
def tAsg (te : TE) (g : TG) : TS := fun D σ H => te σ H fun x H1 => g x σ H1 D.nx
theorem ps_set {i : Nat} {x : Str} {e : Expr} {te : TE} {pos' : Pos} (hN : X.N.Nodup) (hi : X.N[i]? = some x) (hx : Loc X.env.scope x) (he : PE X e te) (hs : swapsWith e (some (.Name x pos')) pos.line X.env = pure false := by rfl) (hf : X.fn x = true ∨ X.env.scope.names.lookup x = some .local := by first | exact .inl rfl | exact .inr rfl | assumption) :
    PS X (.Assign [.Name x pos'] e pos) (tAsg te (gName i)) := by
  intro pins s σ H D I h
  refine wpAny_Assign_Name (thn (he pins s σ H _ I h) fun v s1 ⟨y, H1, I1, r1, q1⟩ => ?_) hs
  exact store_ok I1 hN hi hx r1 (fun s2 I2 => ⟨_, H1, I2, q1⟩) hf
def tAug (i : Nat) (te : TE) (ti : TIp) : TS := fun D σ H => ∃ x, σ[i]? = some (some x) ∧ te σ H fun y H1 => ti x y H1 fun z H2 => D.nx (σ.set i (some z)) H2
theorem ps_aug {i : Nat} {x : Str} {e : Expr} {te : TE} {op : Operator} {ti : TIp} {pos' : Pos} (hN : X.N.Nodup) (hi : X.N[i]? = some x) (hx : Loc X.env.scope x) (he : PE X e te) (ho : PIp X op ti) (hf : X.fn x = true ∨ X.env.scope.names.lookup x = some .local := by first | exact .inl rfl | exact .inr rfl | assumption) :
    PS X (.AugAssign (.Name x pos') op e pos) (tAug i te ti) := by
  intro pins s σ H D I h
  obtain ⟨v, e1, h⟩ := h
  obtain ⟨m, hn, hl⟩ := I.loc
  have vis : Vis X.env.scope x := by rcases hx with k | k; exact .inl k; exact .inr (.inl k)
  obtain ⟨u, r, l⟩ := hl i x v hi e1 vis
  refine wpAny_AugAssign_Name ?_
  have go : wpAny (model X.prog X.w) X.A (eval e X.env) (fun w s₂ => wpAny (model X.prog X.w) X.A (inplaceOp op u w) (fun r s₃ => wpAny (model X.prog X.w) X.A (storeName X.env x r) (fun _ => SP X pins D .next) X.xe s₃) X.xe s₂) X.xe s := by
    refine thn (he pins s σ H _ I h) fun w s1 ⟨y, H1, I1, r1, q1⟩ => ?_
    refine thn (ho pins s1 σ H1 v y u w _ I1 r r1 q1) fun z s2 ⟨zv, H2, I2, r2, q2⟩ => ?_
    exact store_ok I2 hN hi hx r2 (fun s3 I3 => ⟨_, H2, I3, q2⟩) hf
  rcases l with ⟨hk, hm⟩ | ⟨hk, c, hc, hcell⟩
  · exact wpAny_loadName_local I.ok.kind hk hn hm go
  · rcases hk with hk | hk
    · exact wpAny_loadName_cell I.ok.kind hk hc hcell go
    · rcases hx with k | k
      · have : X.env.scope.names.lookup x = some .free := hk
        rw [k] at this; cases this
      · have : X.env.scope.names.lookup x = some .free := hk
        rw [k] at this; cases this
def ipI (f : Int → Int → Int) : TIp := fun x y H Q => ∃ i j, x = .int i ∧ y = .int j ∧ Q (.int (f i j)) H
theorem ip_add : PIp X .Add (ipI fun i j => i + j) := by
  intro pins s σ H x y v u Q I r1 r2 h
  obtain ⟨i, j, e1, e2, q⟩ := h
  subst e1; subst e2
  obtain ⟨t, rfl⟩ := r1
  obtain ⟨t', rfl⟩ := r2
  exact iadd_int ⟨.int _, H, I.tok _, ⟨_, rfl⟩, q⟩
end
section
variable {X : Cx} {pos : Pos}
def tWhile (c : TT) (tb : TS) : TS := fun D σ H => ∃ W : Nat → St → Hp → Prop, (∃ m, W m σ H) ∧ ∀ m σ H, W m σ H →
  c σ H fun b H1 => if b = true then ∃ N : St → Hp → Prop, (∀ σ' H', N σ' H' → ∃ m', m' < m ∧ W m' σ' H') ∧ tb { D with nx := N, ct := N, bk := D.nx } σ H1 else D.nx σ H1
theorem ps_while {c : Expr} {body : List Stmt} {tc : TT} {tb : TS} (hp : PassesOwn (model X.prog X.w) X.A X.env X.xe) (hc : PT X c tc) (hb : PSs X body tb) : PS X (.While c body [] pos) (tWhile tc tb) := by
  intro pins s σ H D I h
  obtain ⟨W, ⟨m0, w0⟩, turn⟩ := h
  refine wpAny_While (codeAny_whileLoop (fun n s' => ∃ σ' H', Inv X pins σ' H' s' ∧ W n σ' H') ?_ m0 ⟨σ, H, I, w0⟩)
  rintro n s1 ⟨σ1, H1, I1, w1⟩
  refine wpAny_passesOwn hp (thn (hc pins s1 σ1 H1 _ I1 (turn n σ1 H1 w1)) fun b s2 ⟨H2, I2, q2⟩ => ?_)
  cases b with
  | true =>
    obtain ⟨N, hN, q2⟩ := q2
    rw [if_pos rfl]
    refine wpAny_passesOwn hp (thn (hb pins s2 σ1 H2 _ I2 q2) fun f s3 q3 => ?_)
    cases f with
    | next =>
      obtain ⟨σ3, H3, I3, n3⟩ := q3
      obtain ⟨m', hm, w3⟩ := hN σ3 H3 n3
      exact ⟨m', hm, σ3, H3, I3, w3⟩
    | cont =>
      obtain ⟨σ3, H3, I3, n3⟩ := q3
      obtain ⟨m', hm, w3⟩ := hN σ3 H3 n3
      exact ⟨m', hm, σ3, H3, I3, w3⟩
    | brk => exact q3
    | ret v => exact q3
  | false =>
    rw [if_neg Bool.false_ne_true]
    exact wpAny_execs_nil ⟨σ1, H2, I2, q2⟩
end
structure It where
  go : Nat → Hp → Prop
  yld : Nat → Hp → V → Hp → Prop
  stop : Nat → Hp → Prop
def FpOk (X : Cx) (pins : List (Addr × Obj)) (H : Hp) (b : Addr) : Prop :=
  H b = none ∧ b ≠ X.env.locals ∧ b ∉ X.fs ∧ (b ∈ X.ex ∨ X.s₀.heap.objs.size ≤ b) ∧ (∀ x c, X.env.cells.lookup x = some c → c ≠ b) ∧ ∀ p ∈ X.pn ++ pins, p.1 ≠ b
theorem Inv.fpOk {X : Cx} {pins : List (Addr × Obj)} {σ : St} {H H' : Hp} {s : Shared} {b : Addr} (I : Inv X pins σ H s) (hb : s.heap.objs.size ≤ b) (hn : H' b = none) : FpOk X pins H' b := by
  refine ⟨hn, Nat.ne_of_gt (Nat.lt_of_lt_of_le I.lt hb), I.nofs hb, .inr (Nat.le_trans I.sz hb), fun x c e z => ?_, fun p hp z => ?_⟩
  · obtain ⟨v, q⟩ := I.cell x c e
    exact absurd (Nat.lt_of_lt_of_le q.lt (by rw [z]; exact hb)) (Nat.lt_irrefl _)
  · exact absurd (Nat.lt_of_lt_of_le (Heap.lt_size (I.pin p hp).1) (by rw [z]; exact hb)) (Nat.lt_irrefl _)
structure Turn (P : Program) (w : World) (K : PySem.W.Frag) (tg : Expr) (J : It) (fp : List Addr) (it : Addr) (tn : Nat → Heap → Prop) : Prop where
  mem : it ∈ fp
  obj : ∀ i h, tn i h → ∀ b ∈ fp, ∃ o, h.get? b = some o ∧ ∀ v, o.data ≠ .cell v
  keep : ∀ i h h', tn i h → (∀ b ∈ fp, ∀ o, h.get? b = some o → h'.get? b = some o) → tn i h'
  item : ∀ (X : Cx), X.prog = P → X.w = w → X.K = K → X.calm = true → ∀ (i : Nat) (pins : List (Addr × Obj)) (s : Shared) (σ : St) (H : Hp) (E : Value → Shared → Prop), Inv X pins σ H s → (∀ b ∈ fp, FpOk X pins H b) → tn i s.heap → J.go i H →
    wpAny (model P w) X.A (pyNext (.ref it)) (fun r s1 => ∃ u, r = some u ∧
      wpAny (model P w) X.A (letOwnedTupleGo tg (.ref it) u) (fun _ s2 => ∃ x H', Inv X pins σ H' s2 ∧ RelV x u ∧ J.yld i H x H' ∧ tn (i + 1) s2.heap ∧ ∀ b ∈ fp, H' b = none) E s1) E s
  done : ∀ (X : Cx), X.prog = P → X.w = w → X.K = K → X.calm = true → ∀ (i : Nat) (pins : List (Addr × Obj)) (s : Shared) (σ : St) (H : Hp) (E : Value → Shared → Prop), Inv X pins σ H s → (∀ b ∈ fp, FpOk X pins H b) → tn i s.heap → J.stop i H →
    wpAny (model P w) X.A (pyNext (.ref it)) (fun r s1 => r = none ∧ Inv X pins σ H s1) E s
  self : ∀ (A : Around) (i : Nat) (s : Shared) (Q : Value → Shared → Prop) (E : Value → Shared → Prop), tn i s.heap → Q (.ref it) s → wpAny (model P w) A (pyIter (.ref it)) Q E s
abbrev TI := St → Hp → (It → Hp → Prop) → Prop
def PIE (X : Cx) (pins : List (Addr × Obj)) (σ : St) (tg : Expr) (R : It → Hp → Prop) (itv : Value) (s2 : Shared) : Prop :=
  ∃ (it : Addr) (fp : List Addr) (tn : Nat → Heap → Prop) (J : It) (H' : Hp), itv = .ref it ∧ Inv X pins σ H' s2 ∧ Turn X.prog X.w X.K tg J fp it tn ∧ tn 0 s2.heap ∧ (∀ b ∈ fp, FpOk X pins H' b) ∧ R J H'
def PI (X : Cx) (tg iter : Expr) (wi : TI) : Prop :=
  ∀ (pins : List (Addr × Obj)) (s : Shared) (σ : St) (H : Hp) (R : It → Hp → Prop), Inv X pins σ H s → wi σ H R →
    wpAny (model X.prog X.w) X.A (eval iter X.env) (fun v s1 => wpAny (model X.prog X.w) X.A (pyIter v) (PIE X pins σ tg R) X.xe s1) X.xe s
theorem go_of {M : Model} {A : Around} {E : Value → Shared → Prop} {s : Shared} {tg : Expr} {it : Addr} {u : Value} {o : Obj} {n : String} {vs : Array Value} {Q : Unit → Shared → Prop} (ho : s.heap.get? it = some o) (hc : o.cls = .type n) (hd : o.data = .fields vs)
    (hn : ["enumerate", "zip", "dict_itemiterator", "dict_reverseitemiterator", "odict_iterator", "itertools.zip_longest", "itertools.pairwise"].contains n = false) (hQ : Q () s) : wpAny M A (letOwnedTupleGo tg (.ref it) u) Q E s := by
  unfold letOwnedTupleGo
  cases tg <;> first
    | exact wpAny_pure hQ
    | (cases u <;> first
        | exact wpAny_pure hQ
        | (refine wpAny_bind (wpAny_load ho ?_)
           rw [hc, hd]
           show wpAny M A (if (["enumerate", "zip", "dict_itemiterator", "dict_reverseitemiterator", "odict_iterator", "itertools.zip_longest", "itertools.pairwise"].contains n && vs[0]? == some (rawInt _)) = true then _ else _) Q E s
           rw [if_neg (by intro h; rw [hn, Bool.false_and] at h; cases h)]
           exact wpAny_pure hQ))
def Itl (K : PySem.W.Frag) (a : Addr) : It :=
  ⟨fun i H => ∃ xs x, SqL K H a xs ∧ xs[i]? = some x, fun i H x H' => H' = H ∧ ∀ xs, SqL K H a xs → xs[i]? = some x, fun i H => ∃ xs, SqL K H a xs ∧ xs.length ≤ i⟩
def Itr (lo : Int) (n : Nat) : It := ⟨fun i _ => i < n, fun i H x H' => H' = H ∧ x = .int (lo + i), fun i _ => n ≤ i⟩
theorem turn_list {P : Program} {w : World} {K : PySem.W.Frag} {tg : Expr} (a it : Addr) : Turn P w K tg (Itl K a) [it] it (fun i h => h.IsListIter it a i) where
  mem := by simp
  obj := fun i h st b hb => by
    have e : b = it := by simpa using hb
    subst e
    obtain ⟨o, e, c, d⟩ := st
    exact ⟨o, e, fun v z => by rw [d] at z; cases z⟩
  keep := fun i h h' st k => st.at fun o e => k it (by simp) o e
  item := by
    intro X hP hw hK hc i pins s σ H E I hf st hg
    subst hP hw hK
    obtain ⟨xs, x, hq, hx⟩ := hg
    obtain ⟨its, rv, p, hz⟩ := I.list hq
    obtain ⟨u, hu, ru⟩ := rv.get hx
    obtain ⟨f0, f1, f2, f3, f4, f5⟩ := hf it (by simp)
    refine wpAny_pyNext_list_item st p.isList (x := u) (by simpa using hu) fun h' st' sb => ?_
    have I1 : Inv X pins σ H { s with heap := h' } := I.turned (t' := s.toks) (fun b o hb e => (sb.2 b hb).trans e) f0 f1 f3 f4 f5
    obtain ⟨o, e, c, d⟩ := id st'
    exact ⟨u, rfl, go_of (s := { s with heap := h' }) e c d (by decide) ⟨x, H, I1, ru, ⟨rfl, fun ys hy => by rw [I.list_inj hy hq]; exact hx⟩, st', fun b hb => (hf b hb).1⟩⟩
  done := by
    intro X hP hw hK hc i pins s σ H E I hf st hg
    subst hP hw hK
    obtain ⟨xs, hq, hx⟩ := hg
    obtain ⟨its, rv, p, hz⟩ := I.list hq
    obtain ⟨f0, f1, f2, f3, f4, f5⟩ := hf it (by simp)
    have hl := rv.length
    exact wpAny_pyNext_list_end (I.ok.hd hc) st p.isList (by simp; omega) fun h' eb => ⟨rfl, I.turned (t' := s.toks) (fun b o hb e => eb b o hb e) f0 f1 f3 f4 f5⟩
  self := fun _ _ _ _ _ st h => wpAny_pyIter_listiter st h
theorem turn_range {P : Program} {w : World} {K : PySem.W.Frag} {tg : Expr} (it : Addr) (lo : Int) (n : Nat) : Turn P w K tg (Itr lo n) [it] it (fun i h => IsRangeIter h it (lo + (i : Nat) * 1) ((n : Int) - (i : Nat)) 1) where
  mem := by simp
  obj := fun i h st b hb => by
    have e : b = it := by simpa using hb
    subst e
    exact ⟨_, st, fun v z => by
      have z' : Data.fields _ = Data.cell v := z
      cases z'⟩
  keep := fun i h h' st k => k it (by simp) _ st
  item := by
    intro X hP hw hK hc i pins s σ H E I hf st hg
    subst hP hw hK
    obtain ⟨f0, f1, f2, f3, f4, f5⟩ := hf it (by simp)
    have W := Walks.range (prog := X.prog) (w := X.w) (I.ok.hd hc) it lo 1 n
    refine W.item i s _ _ hg st fun v h' tk hv st' kk => ?_
    obtain ⟨t, rfl⟩ := hv
    have I1 : Inv X pins σ H { s with heap := h', toks := tk } := I.turned (fun b o hb e => kk b o (by simpa using hb) e) f0 f1 f3 f4 f5
    refine ⟨_, rfl, go_of (s := { s with heap := h', toks := tk }) (n := "range_iterator") st' rfl rfl (by decide) ⟨.int (lo + i), H, I1, ⟨t, ?_⟩, ⟨rfl, rfl⟩, st', fun b hb => (hf b hb).1⟩⟩
    rw [Int.mul_one]
  done := by
    intro X hP hw hK hc i pins s σ H E I hf st hg
    subst hP hw hK
    obtain ⟨f0, f1, f2, f3, f4, f5⟩ := hf it (by simp)
    exact wpAny_pyNext_range_end (I.ok.hd hc) st (by have : n ≤ i := hg; omega) fun h' eb => ⟨rfl, I.turned (t' := s.toks) (fun b o hb e => eb b o hb e) f0 f1 f3 f4 f5⟩
  self := fun _ _ _ _ _ st h => wpAny_pyIter_rangeiter st h
end L2
namespace L2
open PySem PySem.Spec PyProof.Rows
section
variable {X : Cx} {tg : Expr}
def iList (K : PySem.W.Frag) (tl : TE) : TI := fun σ H R => tl σ H fun x H1 => ∃ a, x = .ref a ∧ (∃ xs, SqL K H1 a xs) ∧ R (Itl K a) H1
theorem pi_list {l : Expr} {tl : TE} (hl : PE X l tl) : PI X tg l (iList X.K tl) := by
  intro pins s σ H R I h
  refine thn (hl pins s σ H _ I h) fun v s1 ⟨x, H1, I1, r1, q1⟩ => ?_
  obtain ⟨a, e, ⟨xs, hq⟩, q⟩ := q1
  subst e
  cases r1
  obtain ⟨its, rv, p, hz⟩ := I1.list hq
  refine wpAny_pyIter_list p.isList ?_
  refine ⟨s1.heap.objs.size, [s1.heap.objs.size], _, _, H1, rfl, I1.kept (t' := s1.toks) fun b o e => Heap.get?_push_of_some _ e, turn_list a _, ⟨_, Heap.get?_push_size _ rfl, rfl, rfl⟩, fun b hb => ?_, q⟩
  have e : b = s1.heap.objs.size := by simpa using hb
  subst e
  exact I1.fpOk (Nat.le_refl _) (I1.hok.fresh (Nat.le_refl _))
theorem range_it {pins : List (Addr × Obj)} {σ : St} {H : Hp} {s : Shared} {R : It → Hp → Prop} {E : Value → Shared → Prop} {lo hi : Int} {t u v : Tok} {tk : Nat} (I : Inv X pins σ H s) (h1 : -(2 ^ 62) ≤ lo) (h2 : lo < 2 ^ 62) (h3 : -(2 ^ 62) ≤ hi) (h4 : hi < 2 ^ 62)
    (q : R (Itr lo (hi - lo).toNat) H) : wpAny (model X.prog X.w) X.A (pyIter (.ref s.heap.objs.size)) (PIE X pins σ tg R) E { s with heap := s.heap.push { cls := .type "range", data := .fields #[.int lo t, .int hi u, .int 1 v] }, toks := tk } := by
  refine wpAny_pyIter_range (IsRange.new ..) (small_one h1 h2 h3 h4) ?_
  have I1 : Inv X pins σ H { s with heap := s.heap.push { cls := .type "range", data := .fields #[.int lo t, .int hi u, .int 1 v] }, toks := tk } := I.kept fun b o e => Heap.get?_push_of_some _ e
  refine ⟨(s.heap.push { cls := .type "range", data := .fields #[.int lo t, .int hi u, .int 1 v] }).objs.size, [(s.heap.push { cls := .type "range", data := .fields #[.int lo t, .int hi u, .int 1 v] }).objs.size], _, _, H, rfl,
    I1.kept (t' := tk) fun b o e => Heap.get?_push_of_some _ e, turn_range _ lo (hi - lo).toNat, ?_, fun b hb => ?_, q⟩
  · have e1 : lo + ((0 : Nat) : Int) * 1 = lo := by simp
    have e2 : (((hi - lo).toNat : Nat) : Int) - ((0 : Nat) : Int) = Builtin.Range.rangeSize lo hi 1 := by rw [rangeSize_one]; split <;> omega
    show IsRangeIter _ _ (lo + ((0 : Nat) : Int) * 1) ((((hi - lo).toNat : Nat) : Int) - ((0 : Nat) : Int)) 1
    rw [e1, e2]
    exact Heap.get?_push_size _ rfl
  · have e : b = (s.heap.push { cls := .type "range", data := .fields #[.int lo t, .int hi u, .int 1 v] }).objs.size := by simpa using hb
    subst e
    exact I1.fpOk (Nat.le_refl _) (I1.hok.fresh (Nat.le_refl _))
def iRng1 (ta : TA) : TI := fun σ H R => ta σ H fun vs H1 => ∃ j : Int, vs = [.int j] ∧ -(2 ^ 62) ≤ j ∧ j < 2 ^ 62 ∧ R (Itr 0 j.toNat) H1
theorem pi_range1 {a : Expr} {ta : TA} {p pos : Pos} (hg : Gl X "range") (hm : X.mg "range" = none) (ha : PA X [a] ta) (hs : starEach [a] X.env = [(false, eval a X.env)] := by rfl) : PI X tg (.Call (.Name "range" p) [a] [] pos) (iRng1 ta) := by
  intro pins s σ H R I h
  refine Call_ (ld_blt I hg hm boot_range (PyProof.Rows.callWith_type1 (thn (ha pos pins s σ H _ I h) fun us s1 ⟨vs, H1, I1, r1, q1⟩ => ?_) hs rfl))
  obtain ⟨j, e, q1, q2, q⟩ := q1
  subst e
  cases r1 with
  | cons r rr =>
    cases rr
    obtain ⟨t, rfl⟩ := r
    exact call_range_1 (range_it I1 (by omega) (by omega) q1 q2 (by simpa using q))
def tFor (wi : TI) (g : TG) (tb : TS) : TS := fun D σ H => wi σ H fun J H1 => ∃ W : Nat → Nat → St → Hp → Prop, (∃ m, W 0 m σ H1) ∧ ∀ i m σ H, W i m σ H →
  (J.stop i H ∧ D.nx σ H) ∨ (J.go i H ∧ ∃ N : St → Hp → Prop, (∀ σ' H', N σ' H' → ∃ m', m' < m ∧ W (i + 1) m' σ' H') ∧ ∀ x H', J.yld i H x H' → g x σ H' fun σ2 H2 => tb { D with nx := N, ct := N, bk := D.nx } σ2 H2)
def pinsAt (fp : List Addr) (h : Heap) : List (Addr × Obj) := fp.filterMap fun b => (h.get? b).map fun o => (b, o)
theorem mem_pinsAt {fp : List Addr} {h : Heap} {b : Addr} {o : Obj} (hb : b ∈ fp) (e : h.get? b = some o) : (b, o) ∈ pinsAt fp h := List.mem_filterMap.mpr ⟨b, hb, by rw [e]; rfl⟩
theorem of_pinsAt {fp : List Addr} {h : Heap} {p : Addr × Obj} (hp : p ∈ pinsAt fp h) : p.1 ∈ fp ∧ h.get? p.1 = some p.2 := by
  obtain ⟨b, hb, e⟩ := List.mem_filterMap.mp hp
  cases q : h.get? b with
  | none => rw [q] at e; cases e
  | some o =>
    rw [q] at e
    have e' : (b, o) = p := Option.some.inj e
    subst e'
    exact ⟨hb, q⟩
theorem Inv.pinned {pins : List (Addr × Obj)} {σ : St} {H : Hp} {s : Shared} {fp : List Addr} (I : Inv X pins σ H s) (hf : ∀ b ∈ fp, FpOk X pins H b) (ho : ∀ b ∈ fp, ∃ o, s.heap.get? b = some o ∧ ∀ v, o.data ≠ .cell v) : Inv X (pins ++ pinsAt fp s.heap) σ H s :=
  I.pins_of fun p hp => (List.mem_append.mp hp).elim (fun z => I.pin p (List.mem_append_right _ z)) fun z => by
    obtain ⟨hb, e⟩ := of_pinsAt z
    obtain ⟨f0, f1, f2, _⟩ := hf p.1 hb
    obtain ⟨o, e', d⟩ := ho p.1 hb
    rw [e] at e'; cases e'
    exact ⟨e, f0, f1, f2, d⟩
theorem Inv.unpinned {pins pl : List (Addr × Obj)} {σ : St} {H : Hp} {s : Shared} (I : Inv X (pins ++ pl) σ H s) : Inv X pins σ H s := I.pins_of fun p hp => I.pin p (List.mem_append_right _ (List.mem_append_left _ hp))
theorem ps_for {iter : Expr} {body : List Stmt} {wi : TI} {g : TG} {tb : TS} {pos : Pos} (hp : PassesOwn (model X.prog X.w) X.A X.env X.xe) (hc : X.calm = true) (hi : PI X tg iter wi) (hg : PG X tg g) (hb : PSs X body tb)
    (hs : ∀ x, foldedSetIterable iter X.env x = pure x := by intro _; rfl) : PS X (.For tg iter body [] pos) (tFor wi g tb) := by
  intro pins s σ H D I h
  refine wpAny_For (thn (hi pins s σ H _ I h) fun v s1 h1 => thn h1 fun itv s2 h2 => ?_) hs
  obtain ⟨it, fp, tn, J, H2, e, I2, T, st2, f2, W, ⟨m0, w0⟩, turn⟩ := h2
  subst e
  -- what stays true of the iterator's objects through the loop
  have stat : ∀ {H' : Hp}, (∀ b ∈ fp, H' b = none) → ∀ b ∈ fp, FpOk X pins H' b := fun hn b hb => ⟨hn b hb, (f2 b hb).2⟩
  refine codeAny_forLoop_any (fun n s' => ∃ i σ' H', Inv X pins σ' H' s' ∧ tn i s'.heap ∧ (∀ b ∈ fp, H' b = none) ∧ W i n σ' H') ?_ m0 ⟨0, σ, H2, I2, st2, fun b hb => (f2 b hb).1, w0⟩
  rintro n s3 ⟨i, σ3, H3, I3, st3, fr3, w3⟩
  rcases turn i n σ3 H3 w3 with ⟨stop, qn⟩ | ⟨go, N, hN, step⟩
  · refine wpAny_passesOwn hp (thn (T.done X rfl rfl rfl hc i pins s3 σ3 H3 X.xe I3 (stat fr3) st3 stop) fun r s4 ⟨hr, I4⟩ => ?_)
    subst hr
    exact wpAny_execs_nil ⟨σ3, H3, I4, qn⟩
  · refine wpAny_passesOwn hp (thn (T.item X rfl rfl rfl hc i pins s3 σ3 H3 X.xe I3 (stat fr3) st3 go) fun r s4 ⟨u, hr, h4⟩ => ?_)
    subst hr
    refine wpAny_passesOwn hp (thn h4 fun _ s5 ⟨x, H5, I5, r5, y5, st5, fr5⟩ => ?_)
    have I5' := I5.pinned (stat fr5) (T.obj _ _ st5)
    refine wpAny_passesOwn hp (thn (hg _ s5 σ3 H5 x u _ I5' r5 (step x H5 y5)) fun _ s6 ⟨σ6, H6, I6, q6⟩ => ?_)
    refine wpAny_passesOwn hp (thn (hb _ s6 σ6 H6 _ I6 q6) fun f s7 q7 => ?_)
    have again : ∀ {σ7 : St} {H7 : Hp}, Inv X (pins ++ pinsAt fp s5.heap) σ7 H7 s7 → N σ7 H7 → ∃ m, m < n ∧ ∃ i σ' H', Inv X pins σ' H' s7 ∧ tn i s7.heap ∧ (∀ b ∈ fp, H' b = none) ∧ W i m σ' H' := fun {σ7 H7} I7 n7 => by
      obtain ⟨m', hm, w7⟩ := hN σ7 H7 n7
      refine ⟨m', hm, i + 1, σ7, H7, I7.unpinned, T.keep _ _ _ st5 fun b hb o e => (I7.pin (b, o) (List.mem_append_right _ (List.mem_append_right _ (mem_pinsAt hb e)))).1, fun b hb => ?_, w7⟩
      obtain ⟨o, e, d⟩ := T.obj _ _ st5 b hb
      exact (I7.pin (b, o) (List.mem_append_right _ (List.mem_append_right _ (mem_pinsAt hb e)))).2.1
    cases f with
    | next => obtain ⟨σ7, H7, I7, n7⟩ := q7; exact again I7 n7
    | cont => obtain ⟨σ7, H7, I7, n7⟩ := q7; exact again I7 n7
    | brk => obtain ⟨σ7, H7, I7, q7⟩ := q7; exact ⟨σ7, H7, I7.unpinned, q7⟩
    | ret v => obtain ⟨x7, σ7, H7, I7, r7, q7⟩ := q7; exact ⟨x7, σ7, H7, I7.unpinned, r7, q7⟩
end
theorem for_list {K : PySem.W.Frag} {a : Addr} {xs : List V} {g : TG} {tb : TS} {D : Ends} {σ : St} {H : Hp} (Pv : Nat → St → Hp → Prop) (h0 : Pv 0 σ H) (hl : ∀ i σ H, i ≤ xs.length → Pv i σ H → SqL K H a xs)
    (hs : ∀ i x σ H, xs[i]? = some x → Pv i σ H → g x σ H fun σ2 H2 => tb { D with nx := Pv (i + 1), ct := Pv (i + 1), bk := D.nx } σ2 H2) (hd : ∀ σ H, Pv xs.length σ H → D.nx σ H) :
    ∃ W : Nat → Nat → St → Hp → Prop, (∃ m, W 0 m σ H) ∧ ∀ i m σ H, W i m σ H →
      ((Itl K a).stop i H ∧ D.nx σ H) ∨ ((Itl K a).go i H ∧ ∃ N : St → Hp → Prop, (∀ σ' H', N σ' H' → ∃ m', m' < m ∧ W (i + 1) m' σ' H') ∧ ∀ x H', (Itl K a).yld i H x H' → g x σ H' fun σ2 H2 => tb { D with nx := N, ct := N, bk := D.nx } σ2 H2) := by
  refine ⟨fun i m σ H => m = xs.length - i ∧ i ≤ xs.length ∧ Pv i σ H, ⟨xs.length, by simp, Nat.zero_le _, h0⟩, ?_⟩
  rintro i m σ H ⟨rfl, hi, p⟩
  have q := hl i σ H hi p
  by_cases hlt : i < xs.length
  · refine .inr ⟨⟨xs, xs[i], q, by simp [hlt]⟩, Pv (i + 1), fun σ' H' p' => ⟨xs.length - (i + 1), by omega, rfl, hlt, p'⟩, fun x H' y => ?_⟩
    obtain ⟨e, y⟩ := y
    subst e
    exact hs i x σ _ (y xs q) p
  · have e : i = xs.length := by omega
    subst e
    exact .inl ⟨⟨xs, q, Nat.le_refl _⟩, hd σ H p⟩
theorem for_range {lo : Int} {n : Nat} {g : TG} {tb : TS} {D : Ends} {σ : St} {H : Hp} (Pv : Nat → St → Hp → Prop) (h0 : Pv 0 σ H)
    (hs : ∀ i σ H, i < n → Pv i σ H → g (.int (lo + i)) σ H fun σ2 H2 => tb { D with nx := Pv (i + 1), ct := Pv (i + 1), bk := D.nx } σ2 H2) (hd : ∀ σ H, Pv n σ H → D.nx σ H) :
    ∃ W : Nat → Nat → St → Hp → Prop, (∃ m, W 0 m σ H) ∧ ∀ i m σ H, W i m σ H →
      ((Itr lo n).stop i H ∧ D.nx σ H) ∨ ((Itr lo n).go i H ∧ ∃ N : St → Hp → Prop, (∀ σ' H', N σ' H' → ∃ m', m' < m ∧ W (i + 1) m' σ' H') ∧ ∀ x H', (Itr lo n).yld i H x H' → g x σ H' fun σ2 H2 => tb { D with nx := N, ct := N, bk := D.nx } σ2 H2) := by
  refine ⟨fun i m σ H => m = n - i ∧ i ≤ n ∧ Pv i σ H, ⟨n, by simp, Nat.zero_le _, h0⟩, ?_⟩
  rintro i m σ H ⟨rfl, hi, p⟩
  by_cases hlt : i < n
  · refine .inr ⟨hlt, Pv (i + 1), fun σ' H' p' => ⟨n - (i + 1), by omega, rfl, hlt, p'⟩, fun x H' y => ?_⟩
    obtain ⟨e, y⟩ := y
    subst e y
    exact hs i σ _ hlt p
  · have e : i = n := by omega
    subst e
    exact .inl ⟨Nat.le_refl _, hd σ H p⟩
end L2
namespace L2
open PySem PySem.Spec PyProof.Rows
abbrev R2 := V → V → Hp → VK → Prop
def OpR (X : Cx) (f : Value → Value → Sem Value) (r : R2) : Prop :=
  ∀ (pins : List (Addr × Obj)) (s : Shared) (σ : St) (H : Hp) (x y : V) (v u : Value) (Q : VK), Inv X pins σ H s → RelV x v → RelV y u → r x y H Q →
    wpAny (model X.prog X.w) X.A (f v u) (EP X pins σ Q) X.xe s
def CallR (X : Cx) (f : Value) (r : List V → Hp → VK → Prop) : Prop :=
  ∀ (pins : List (Addr × Obj)) (s : Shared) (σ : St) (H : Hp) (xs : List V) (us : List Value) (Q : VK), Inv X pins σ H s → Vals xs us → r xs H Q →
    wpAny (model X.prog X.w) X.A (call f us) (EP X pins σ Q) X.xe s
def tOp (r : R2) (ta tb : TE) : TE := fun σ H Q => ta σ H fun x H1 => tb σ H1 fun y H2 => r x y H2 Q
def rI (C : Int → Int → Prop) (g : Int → Int → V) : R2 := fun x y H Q => ∃ i j, x = .int i ∧ y = .int j ∧ C i j ∧ Q (g i j) H
def rI0 (g : Int → Int → V) : R2 := fun x y H Q => ∃ i j, x = .int i ∧ y = .int j ∧ Q (g i j) H
section
variable {X : Cx} {a b c : Expr} {ta tb tc : TE} {pos : Pos}
theorem binT (ha : PE X a ta) (hb : PE X b tb) {pins : List (Addr × Obj)} {s : Shared} {σ : St} {H : Hp} {R : V → V → Hp → Prop} (I : Inv X pins σ H s)
    (h : ta σ H fun x H1 => tb σ H1 fun y H2 => R x y H2) {Q : Value → Shared → Prop} {f : Value → Value → Sem Value}
    (hf : ∀ v u s2 x y H2, Inv X pins σ H2 s2 → RelV x v → RelV y u → R x y H2 → wpAny (model X.prog X.w) X.A (f v u) Q X.xe s2) :
    wpAny (model X.prog X.w) X.A (eval a X.env) (fun v s₁ => wpAny (model X.prog X.w) X.A (eval b X.env) (fun u s₂ => wpAny (model X.prog X.w) X.A (f v u) Q X.xe s₂) X.xe s₁) X.xe s := by
  refine thn (ha pins s σ H _ I h) fun v s1 ⟨x, H1, I1, r1, q1⟩ => ?_
  refine thn (hb pins s1 σ H1 _ I1 q1) fun u s2 ⟨y, H2, I2, r2, q2⟩ => ?_
  exact hf v u s2 x y H2 I2 r1 r2 q2
theorem pe_op {op : Operator} {r : R2} (ho : OpR X (binaryOp op) r) (ha : PE X a ta) (hb : PE X b tb) : PE X (.BinOp a op b pos) (tOp r ta tb) := by
  intro pins s σ H Q I h
  exact wpAny_BinOp (binT ha hb I h fun v u s2 x y H2 I2 rx ry q => ho pins s2 σ H2 x y v u Q I2 rx ry q)
theorem opI {f : Value → Value → Sem Value} {C : Int → Int → Prop} {g : Int → Int → Int}
    (rule : ∀ (i j : Int) (t u : Tok) (s : Shared) (Q : Value → Shared → Prop) (E : Value → Shared → Prop), C i j → Q (.int (g i j) s.toks) { s with toks := s.toks + 1 } → wpAny (model X.prog X.w) X.A (f (.int i t) (.int j u)) Q E s) :
    OpR X f (rI C fun i j => .int (g i j)) := by
  intro pins s σ H x y v u Q I rx ry h
  obtain ⟨i, j, rfl, rfl, hc, q⟩ := h
  obtain ⟨t, rfl⟩ := rx
  obtain ⟨t', rfl⟩ := ry
  exact rule i j t t' s _ _ hc ⟨.int (g i j), H, I.tok _, ⟨_, rfl⟩, q⟩
theorem opI0 {f : Value → Value → Sem Value} {g : Int → Int → Int}
    (rule : ∀ (i j : Int) (t u : Tok) (s : Shared) (Q : Value → Shared → Prop) (E : Value → Shared → Prop), Q (.int (g i j) s.toks) { s with toks := s.toks + 1 } → wpAny (model X.prog X.w) X.A (f (.int i t) (.int j u)) Q E s) :
    OpR X f (rI0 fun i j => .int (g i j)) := by
  intro pins s σ H x y v u Q I rx ry h
  obtain ⟨i, j, rfl, rfl, q⟩ := h
  obtain ⟨t, rfl⟩ := rx
  obtain ⟨t', rfl⟩ := ry
  exact rule i j t t' s _ _ ⟨.int (g i j), H, I.tok _, ⟨_, rfl⟩, q⟩
theorem opB0 {f : Value → Value → Sem Value} {g : Int → Int → Bool}
    (rule : ∀ (i j : Int) (t u : Tok) (s : Shared) (Q : Value → Shared → Prop) (E : Value → Shared → Prop), Q (.bool (g i j)) s → wpAny (model X.prog X.w) X.A (f (.int i t) (.int j u)) Q E s) :
    OpR X f (rI0 fun i j => .bl (g i j)) := by
  intro pins s σ H x y v u Q I rx ry h
  obtain ⟨i, j, rfl, rfl, q⟩ := h
  obtain ⟨t, rfl⟩ := rx
  obtain ⟨t', rfl⟩ := ry
  exact rule i j t t' s _ _ ⟨.bl (g i j), H, I, rfl, q⟩
def CPow (i j : Int) : Prop := 0 ≤ j ∧ j ≤ 1000000 ∧ i.natAbs < 2 ^ 64
def CMul (i j : Int) : Prop := (-(2 ^ 64) < i ∧ i < 2 ^ 64) ∨ (-(2 ^ 64) < j ∧ j < 2 ^ 64)
theorem CMul.ok {i j : Int} (h : CMul i j) : IntMulOk i j := by
  rcases h with ⟨h1, h2⟩ | ⟨h1, h2⟩
  · exact .of_left (intBits_le_64 h1 h2)
  · exact .of_right (intBits_le_64 h1 h2)
theorem two_pow_nn (k : Nat) : (0 : Int) ≤ 2 ^ k := by
  rw [two_pow_cast]
  exact Int.natCast_nonneg _
theorem op_add : OpR X (binaryOp .Add) (rI0 fun i j => .int (i + j)) := opI0 fun _ _ _ _ _ _ _ q => add_int q
theorem op_sub : OpR X (binaryOp .Sub) (rI0 fun i j => .int (i - j)) := opI0 fun _ _ _ _ _ _ _ q => sub_int q
theorem op_mul : OpR X (binaryOp .Mult) (rI CMul fun i j => .int (i * j)) := opI fun _ _ _ _ _ _ _ hc q => mul_int q hc.ok
theorem op_mod : OpR X (binaryOp .Mod) (rI (fun _ j => 0 < j) fun i j => .int (i % j)) := opI fun i j _ _ _ _ _ hc q => by
  have h1 : (0 : Int) < j := hc
  exact mod_int' (by omega) (by rw [Int.fmod_eq_emod_of_nonneg i (by omega)]; exact q)
theorem op_shl : OpR X (binaryOp .LShift) (rI CPow fun i j => .int (i * 2 ^ j.toNat)) := opI fun _ _ _ _ _ _ _ hc q => lshift_int_small hc.1 hc.2.1 hc.2.2 q
theorem op_shr : OpR X (binaryOp .RShift) (rI (fun _ j => 0 ≤ j) fun i j => .int (i / 2 ^ j.toNat)) := opI fun i j _ _ _ _ _ hc q =>
  rshift_int hc (by rw [Int.fdiv_eq_ediv_of_nonneg i (two_pow_nn _)]; exact q)
theorem op_and : OpR X (binaryOp .BitAnd) (rI0 fun i j => .int (Builtin.bitAnd i j)) := opI0 fun _ _ _ _ _ _ _ q => and_int q
theorem op_or : OpR X (binaryOp .BitOr) (rI0 fun i j => .int (Builtin.bitOr i j)) := opI0 fun _ _ _ _ _ _ _ q => or_int q
theorem op_xor : OpR X (binaryOp .BitXor) (rI0 fun i j => .int (Builtin.bitXor i j)) := opI0 fun _ _ _ _ _ _ _ q => xor_int q
end
def scal : V → V → Bool
  | .non, .non => true | .non, .int _ => true | .int _, .non => true | .non, .bl _ => true | .bl _, .non => true | .non, .str _ => true | .str _, .non => true
  | .int _, .int _ => true | .bl _, .bl _ => true | .str _, .str _ => true | .byt _, .byt _ => true
  | .int _, .str _ => true | .str _, .int _ => true | .bl _, .str _ => true | .str _, .bl _ => true
  | _, _ => false
def rNe : R2 := fun x y H Q => scal x y = true ∧ Q (.bl (!decide (x = y))) H
theorem dec_int {i j : Int} : decide (V.int i = V.int j) = (i == j) := by
  rw [Bool.eq_iff_iff]
  simp
theorem dec_bl {i j : Bool} : decide (V.bl i = V.bl j) = (i == j) := by
  rw [Bool.eq_iff_iff]
  simp
theorem dec_str {i j : Str} : decide (V.str i = V.str j) = (i == j) := by
  rw [Bool.eq_iff_iff]
  simp
theorem dec_byt {i j : Array UInt8} : decide (V.byt i = V.byt j) = (i.toList == j.toList) := by
  rw [Bool.eq_iff_iff]
  cases i
  cases j
  simp
section
variable {X : Cx} {a b c : Expr} {ta tb tc : TE} {pos : Pos}
theorem fin_bl {pins : List (Addr × Obj)} {σ : St} {H : Hp} {s : Shared} {Q : VK} {k k' : Bool} (I : Inv X pins σ H s) (q : Q (.bl k) H) (e : k = k') : EP X pins σ Q (.bool k') s := by
  subst e
  exact ⟨.bl k, H, I, rfl, q⟩
theorem op_ne : OpR X (compareOp .NotEq) rNe := by
  intro pins s σ H x y v u Q I rx ry h
  obtain ⟨hs, q⟩ := h
  cases x with
  | non =>
    cases rx
    cases y with
    | non => cases ry; exact PySem.EqNone.ne_none_none (fin_bl I q (by simp))
    | bl j => cases ry; exact PySem.EqNone.ne_none_bool (fin_bl I q (by simp))
    | int j => obtain ⟨t', rfl⟩ := ry; exact PySem.EqNone.ne_none_int (fin_bl I q (by simp))
    | str j => obtain ⟨t', rfl⟩ := ry; exact PySem.EqNone.ne_none_str (fin_bl I q (by simp))
    | _ => exact absurd (show false = true from hs) Bool.false_ne_true
  | bl i =>
    cases rx
    cases y with
    | non => cases ry; exact PySem.EqNone.ne_bool_none (fin_bl I q (by simp))
    | bl j => cases ry; exact ne_bool (fin_bl I q (congrArg not dec_bl))
    | str j => obtain ⟨t', rfl⟩ := ry; exact PySem.EqMixed.ne_bool_str (fin_bl I q (by simp))
    | _ => exact absurd (show false = true from hs) Bool.false_ne_true
  | int i =>
    obtain ⟨t, rfl⟩ := rx
    cases y with
    | non => cases ry; exact PySem.EqNone.ne_int_none (fin_bl I q (by simp))
    | int j => obtain ⟨t', rfl⟩ := ry; exact ne_int (fin_bl I q (congrArg not dec_int))
    | str j => obtain ⟨t', rfl⟩ := ry; exact PySem.EqMixed.ne_int_str (fin_bl I q (by simp))
    | _ => exact absurd (show false = true from hs) Bool.false_ne_true
  | str i =>
    obtain ⟨t, rfl⟩ := rx
    cases y with
    | non => cases ry; exact PySem.EqNone.ne_str_none (fin_bl I q (by simp))
    | bl j => cases ry; exact PySem.EqMixed.ne_str_bool (fin_bl I q (by simp))
    | int j => obtain ⟨t', rfl⟩ := ry; exact PySem.EqMixed.ne_str_int (fin_bl I q (by simp))
    | str j => obtain ⟨t', rfl⟩ := ry; exact ne_str (fin_bl I q (congrArg not dec_str))
    | _ => exact absurd (show false = true from hs) Bool.false_ne_true
  | byt i =>
    obtain ⟨t, rfl⟩ := rx
    cases y with
    | byt j => obtain ⟨t', rfl⟩ := ry; exact PySem.W.ne_bytes (fin_bl I q (congrArg not dec_byt))
    | _ => exact absurd (show false = true from hs) Bool.false_ne_true
  | _ => cases y <;> exact absurd (show false = true from hs) Bool.false_ne_true
theorem op_lt : OpR X (compareOp .Lt) (rI0 fun i j => .bl (decide (i < j))) := opB0 fun _ _ _ _ _ _ _ q => lt_int q
theorem op_le : OpR X (compareOp .LtE) (rI0 fun i j => .bl (decide (i ≤ j))) := opB0 fun _ _ _ _ _ _ _ q => le_int q
theorem op_gt : OpR X (compareOp .Gt) (rI0 fun i j => .bl (decide (j < i))) := opB0 fun _ _ _ _ _ _ _ q => gt_int q
theorem OpR.or {f : Value → Value → Sem Value} {r r' : R2} (h : OpR X f r) (h' : OpR X f r') : OpR X f (fun x y H Q => r x y H Q ∨ r' x y H Q) := by
  intro pins s σ H x y v u Q I rx ry q
  rcases q with q | q
  · exact h pins s σ H x y v u Q I rx ry q
  · exact h' pins s σ H x y v u Q I rx ry q
theorem nomark (b : Expr) {op : CmpOp} (h : op ≠ .In := by decide) (h2 : op ≠ .NotIn := by decide) : behindInMarks op b = false := by
  have e1 : (op == CmpOp.In) = false := by cases op <;> first | rfl | exact absurd rfl h
  have e2 : (op == CmpOp.NotIn) = false := by cases op <;> first | rfl | exact absurd rfl h2
  cases b <;> simp [behindInMarks, e1, e2]
def tTest (t : TE) : TT := fun σ H Q => t σ H fun x H' => ∃ k, x = .bl k ∧ Q k H'
theorem pt_cmpR {op : CmpOp} {r : R2} (ho : OpR X (compareOp op) r) (ha : PE X a ta) (hb : PE X b tb) (hm : behindInMarks op b = false) : PT X (.Compare a [op] [b] pos) (tTest (tOp r ta tb)) := by
  intro pins s σ H Q I h
  refine wpAny_isTrue_Compare1 (thn (ha pins s σ H _ I h) fun v s1 ⟨x, H1, I1, r1, q1⟩ => thn (hb pins s1 σ H1 _ I1 q1) fun u s2 ⟨y, H2, I2, r2, q2⟩ =>
    thn (ho pins s2 σ H2 x y v u _ I2 r1 r2 q2) fun c s3 ⟨z, H3, I3, r3, k, e, q3⟩ => ?_) hm
  subst e
  cases r3
  exact wpAny_truthy_bool ⟨H3, I3, q3⟩
def tChain (r r' : R2) (ta tb tc : TE) : TE := fun σ H Q => ta σ H fun x H1 => tb σ H1 fun y H2 => r x y H2 fun z H3 => ∃ k, z = .bl k ∧
  (if k = true then tc σ H3 fun w' H4 => r' y w' H4 Q else Q (.bl false) H3)
theorem pe_chain {op op' : CmpOp} {r r' : R2} (ho : OpR X (compareOp op) r) (ho' : OpR X (compareOp op') r') (ha : PE X a ta) (hb : PE X b tb) (hc : PE X c tc)
    (hm : lastMarks [op, op'] [b, c] = false := by with_unfolding_all rfl) : PE X (.Compare a [op, op'] [b, c] pos) (tChain r r' ta tb tc) := by
  intro pins s σ H Q I h
  refine Compare_chain (thn (ha pins s σ H _ I h) fun v s1 ⟨x, H1, I1, r1, q1⟩ => chain_link (thn (hb pins s1 σ H1 _ I1 q1) fun u s2 ⟨y, H2, I2, r2, q2⟩ =>
    thn (ho pins s2 σ H2 x y v u _ I2 r1 r2 q2) fun d s3 ⟨z, H3, I3, r3, k, e, q3⟩ => ?_)) hm
  subst e
  cases r3
  refine wpAny_truthy_bool ?_
  cases k with
  | false => exact ite_ff ⟨.bl false, H3, I3, rfl, q3⟩
  | true => exact ite_tt (chain_last (thn (hc pins s3 σ H3 _ I3 q3) fun w' s4 ⟨z', H4, I4, r4, q4⟩ => ho' pins s4 σ H4 y z' u w' Q I4 r2 r4 q4))
theorem line63 : (sizeLine : Nat) < 2 ^ 63 := by rw [sizeLine_eq]; decide
theorem vals1 {x : V} {us : List Value} (r : Vals [x] us) : ∃ u, us = [u] ∧ RelV x u := by
  cases r with
  | cons r1 r2 => cases r2; exact ⟨_, rfl, r1⟩
end
end L2
namespace L2
open PySem PySem.Spec PyProof.Rows
structure ObjM (h : Heap) (x dx C : Addr) (mA : Str → Option Value) : Prop where
  obj : h.get? x = some (PySem.W.instObj C dx)
  ns : h.Ns1 dx mA
  ne : dx ≠ x
theorem lookIn_ns {h : Heap} {dx : Addr} {mA : Str → Option Value} (n : h.Ns1 dx mA) : ∃ od, h.get? dx = some od ∧ ∀ name, PySem.W.lookIn name od = some (mA name) := by
  obtain ⟨o, es, ep, ho, hd, hk, _, hm⟩ := n
  refine ⟨o, ho, fun name => ?_⟩
  have e := hm name
  unfold nsFind findBy at e
  rw [← Array.find?_toList] at e
  unfold PySem.W.lookIn
  rw [hd]
  dsimp only
  split
  · rename_i y q
    rw [q] at e
    exact congrArg some e
  · rename_i q
    rw [q] at e
    have a : es.toList.any (·.refKey) = false := by
      rw [List.any_eq_false]
      intro y hy
      obtain ⟨z, t, hkey⟩ := hk y (Array.mem_toList_iff.mp hy)
      simp [DictEntry.refKey, hkey]
    have a' : ¬ es.toList.any (·.refKey) = true := by rw [a]; exact Bool.false_ne_true
    rw [if_neg a']
    exact congrArg some e
theorem ObjM.look {h : Heap} {x dx C : Addr} {mA : Str → Option Value} (I : ObjM h x dx C mA) : ∃ od, PySem.W.InstAt h x (PySem.W.instObj C dx) C (some od) ∧ ∀ name, PySem.W.lookIn name od = some (mA name) :=
  let ⟨od, ho, hl⟩ := lookIn_ns I.ns
  ⟨od, ⟨I.obj, rfl, rfl, ho⟩, hl⟩
section
variable {prog : Program} {w : World} {A : Around} {E : Value → Shared → Prop} {s : Shared} {K : PySem.W.Frag} {x dx C f : Addr} {mA : Str → Option Value} {name : Str} {v : Value}
theorem get_map {expr : Bool} {Q : Value → Shared → Prop} (X : K.In s.heap) (I : ObjM s.heap x dx C mA) (hg : PySem.W.plainGet K C name = true) (hh : PySem.W.hasDictIn K C = true)
    (ha : PySem.W.findIn K (.ref C) name = some none) (hv : mA name = some v) (hv' : PySem.W.handedIn v = true) (h : Q v { s with toks := s.toks + 1 }) :
    wpAny (model prog w) A (getAttr (.ref x) name expr) Q E s := by
  obtain ⟨od, J, hl⟩ := I.look
  exact PySem.W.get_value X J (PySem.W.plainGet_of hg).1 (PySem.W.findObj_own hh ha rfl (by rw [hl, hv])) hv' h
theorem get_meth {pl : Sem Bool} {Q : Value × List Value → Shared → Prop} (X : K.In s.heap) (I : ObjM s.heap x dx C mA) (hg : PySem.W.plainGet K C name = true)
    (hf : PySem.W.findIn K (.ref C) name = some (some (.ref f))) (ht : PySem.W.isFn K (.ref f) = true) (hv : mA name = none) (h : Q (.ref f, [.ref x]) s) :
    wpAny (model prog w) A (getMethod (.ref x) name pl) Q E s := by
  obtain ⟨od, J, hl⟩ := I.look
  exact PySem.W.method_fn X J (PySem.W.plainGet_of hg).1 (PySem.W.plainGet_of hg).2 hf (beq_iff_eq.mp ht) (by show (PySem.W.lookIn name od).map (·.isSome) = some false; rw [hl, hv]; rfl) h
theorem set_map {ns : List Str} {Q : Unit → Shared → Prop} (X : K.In s.heap) (I : ObjM s.heap x dx C mA)
    (hs : PySem.W.findIn K (.ref C) "__setattr__" = some (some (.builtin "object.__setattr__"))) (hp : PySem.W.plainOver K C = true) (ht : PySem.W.takerIn K C name = some none) (hh : PySem.W.hasDictIn K C = true)
    (hw : PySem.Within mA ns) (hsz : ns.length ≤ sizeLine)
    (h : ∀ h', ObjM h' x dx C (fun y => if y = name then some v else mA y) → Heap.SameBut dx s.heap h' → Q () { s with heap := h', toks := s.toks + 2 }) :
    wpAny (model prog w) A (setAttr (.ref x) name v) Q E s := by
  obtain ⟨od, J, hl⟩ := I.look
  refine PySem.W.set_plain X J hs (PySem.W.osa_open (s := { s with toks := s.toks + 1 }) (r := none) X J hp ht fun b => ?_)
  obtain ⟨cd, hc, hd'⟩ := PySem.W.any_some hh
  have hx : s.heap.get? x = some ⟨.ref C, some dx, .plain, #[]⟩ := I.obj
  refine wpAny_bind (wpAny_pure (wpAny_bind (wpAny_bind (wpAny_loadPart hx (wpAny_bind (PySem.W.Looks.here (s := { s with toks := s.toks + 1 }) (PySem.W.looks_clsIn X hc) ?_))))))
  rw [hd']
  refine wpAny_pure (a := some dx) (wpAny_bind (wpAny_pure (wpAny_bind ?_)))
  refine wpAny_nsSet1 (s := { s with toks := s.toks + 1 }) I.ns fun h' hn2 hs2 => ?_
  obtain ⟨oD, esD, epD, hoD, hdD, hcD⟩ := hn2.count (PySem.Within.cons name v hw)
  refine wpAny_bind (wpAny_lookBehind hoD (by rw [hdD]; exact pastItsLine_dict (Nat.le_trans hcD (by rw [List.length_cons]; omega))) ?_)
  exact wpAny_pure (h _ ⟨(hs2.2 _ (Ne.symm I.ne)).trans I.obj, hn2, I.ne⟩ hs2)
theorem make_map {R : Result → Shared → Prop} {vs : List Value} {kw : List (Str × Value)} (X : K.In s.heap) (hm : PySem.W.makesIn K C = true)
    (hi : PySem.W.findIn K (.ref C) "__init__" = some (some (.ref f))) (hf : PySem.W.typeIn K (.ref f) = some (.type "function"))
    (h : codeAny (model prog w) (A.under (.builtin "type.__call__" ⟨.ref C :: vs, kw⟩)) (.call (.ref f) ⟨.ref (s.heap.objs.size + 1) :: vs, kw⟩) (PySem.W.InitBack (s.heap.objs.size + 1) R)
      { s with heap := (s.heap.push PySem.W.emptyDict).push (PySem.W.instObj C s.heap.objs.size) }) :
    codeAny (model prog w) A (.call (.ref C) ⟨vs, kw⟩) R s := by
  obtain ⟨hh, g, d, t, os⟩ := s
  exact PySem.W.make_core (PySem.W.makes_of X hm) (PySem.W.looks_findIn X hi) (fun self => PySem.W.bind_fn X self hf) (.inl rfl) h
end
def putF (f : Str) (v : V) : List (Str × V) → List (Str × V)
  | [] => [(f, v)]
  | (g, x) :: r => if g = f then (g, v) :: r else (g, x) :: putF f v r
theorem lookup_putF (f g : Str) (v : V) : ∀ fs : List (Str × V), (putF f v fs).lookup g = if g = f then some v else fs.lookup g
  | [] => by
    show List.lookup g [(f, v)] = _
    by_cases h : g = f
    · have hb : (g == f) = true := beq_iff_eq.mpr h
      simp only [List.lookup, hb, if_pos h]
    · have hb : (g == f) = false := beq_eq_false_iff_ne.mpr h
      simp only [List.lookup, hb, if_neg h]
  | (k, x) :: r => by
    have ih := lookup_putF f g v r
    rw [show putF f v ((k, x) :: r) = (if k = f then (k, v) :: r else (k, x) :: putF f v r) from rfl]
    by_cases hk : k = f
    · rw [if_pos hk]
      by_cases h : g = k
      · have hb : (g == k) = true := beq_iff_eq.mpr h
        simp only [List.lookup, hb, if_pos (h.trans hk)]
      · have hb : (g == k) = false := beq_eq_false_iff_ne.mpr h
        simp only [List.lookup, hb, if_neg (fun e : g = f => h (e.trans hk.symm))]
    · rw [if_neg hk]
      by_cases h : g = k
      · have hb : (g == k) = true := beq_iff_eq.mpr h
        simp only [List.lookup, hb, if_neg (fun e : g = f => hk (h.symm.trans e))]
      · have hb : (g == k) = false := beq_eq_false_iff_ne.mpr h
        simp only [List.lookup, hb]
        exact ih
theorem keys_putF (f : Str) (v : V) : ∀ fs : List (Str × V), f ∈ (putF f v fs).map (·.1) ∧ ∀ g, g ∈ fs.map (·.1) → g ∈ (putF f v fs).map (·.1)
  | [] => ⟨by simp [putF], fun g h => by simp at h⟩
  | (k, x) :: r => by
    obtain ⟨i1, i2⟩ := keys_putF f v r
    rw [show putF f v ((k, x) :: r) = (if k = f then (k, v) :: r else (k, x) :: putF f v r) from rfl]
    by_cases hk : k = f
    · rw [if_pos hk]
      subst hk
      exact ⟨by simp, fun g h => by simpa using h⟩
    · rw [if_neg hk]
      refine ⟨?_, fun g h => ?_⟩
      · rw [List.map_cons]
        exact List.mem_cons_of_mem _ i1
      · rw [List.map_cons] at h ⊢
        rcases List.mem_cons.mp h with e | e
        · exact List.mem_cons.mpr (.inl e)
        · exact List.mem_cons_of_mem _ (i2 g e)
theorem length_putF (f : Str) (v : V) : ∀ fs : List (Str × V), (putF f v fs).length ≤ fs.length + 1
  | [] => by simp [putF]
  | (k, x) :: r => by
    have ih := length_putF f v r
    rw [show putF f v ((k, x) :: r) = (if k = f then (k, v) :: r else (k, x) :: putF f v r) from rfl]
    by_cases hk : k = f
    · rw [if_pos hk, List.length_cons, List.length_cons]; omega
    · rw [if_neg hk, List.length_cons, List.length_cons]; omega
theorem RelO.some_of {v : V} {o : Option Value} (r : RelO (some v) o) : ∃ u, o = some u ∧ RelV v u := by
  cases o with
  | none => exact (show False from r).elim
  | some u => exact ⟨u, rfl, r⟩
theorem RelO.none_of {o : Option Value} (r : RelO none o) : o = none := by
  cases o with
  | none => rfl
  | some u => exact (show False from r).elim
theorem handed_of {v : V} {u : Value} (r : RelV v u) : PySem.W.handedIn u = true := by
  cases v with
  | non => cases (show u = Value.none from r); rfl
  | bl b => cases (show u = Value.bool b from r); rfl
  | int i => obtain ⟨t, e⟩ := (show ∃ t, u = Value.int i t from r); cases e; rfl
  | str x => obtain ⟨t, e⟩ := (show ∃ t, u = Value.str x t from r); cases e; rfl
  | byt b => obtain ⟨t, e⟩ := (show ∃ t, u = Value.bytes b t from r); cases e; rfl
  | flt b => obtain ⟨t, e⟩ := (show ∃ t, u = Value.float b t from r); cases e; rfl
  | ref a => cases (show u = Value.ref a from r); rfl
  | ty n => cases (show u = Value.type n from r); rfl
section
variable {P : Program} {w : World} {H H' : Hp} {h h' : Heap} {a C dx : Addr} {fs fs' : List (Str × V)}
theorem ins_get (hok : HOk P w H h) (e : H a = some (.ins C dx fs)) : ∃ mA, ObjM h a dx C mA ∧ (∀ f, RelO (fs.lookup f) (mA f)) ∧ PySem.Within mA (fs.map (·.1)) ∧ fs.length ≤ 1000 ∧ H dx = some (.own a) := by
  obtain ⟨d, z, ne, ob, mA, n, r, q⟩ := (show ObjOk P w H h a (.ins C dx fs) from hok a _ e)
  exact ⟨mA, ⟨ob, n, ne⟩, r, q, z, d⟩
end
structure Cls (K : PySem.W.Frag) (C : Addr) : Prop where
  pg : PySem.W.plainGet K C Str.empty = true
  hd : PySem.W.hasDictIn K C = true
  po : PySem.W.plainOver K C = true
  sa : PySem.W.findIn K (.ref C) "__setattr__" = some (some (.builtin "object.__setattr__"))
theorem Cls.get {K : PySem.W.Frag} {C : Addr} (c : Cls K C) (f : Str) : PySem.W.plainGet K C f = true := c.pg
def NoAttr (K : PySem.W.Frag) (C : Addr) (f : Str) : Prop := PySem.W.findIn K (.ref C) f = some none
theorem NoAttr.taker {K : PySem.W.Frag} {C : Addr} {f : Str} (n : NoAttr K C f) : PySem.W.takerIn K C f = some none := by
  unfold PySem.W.takerIn
  rw [show PySem.W.findIn K (.ref C) f = some none from n]
  rfl
structure Meth (K : PySem.W.Frag) (C : Addr) (m : Str) (f : Addr) : Prop where
  at_ : PySem.W.findIn K (.ref C) m = some (some (.ref f))
  fn : PySem.W.isFn K (.ref f) = true
  kp : PySem.W.keepIn K (.ref f) = true
section
variable {X : Cx} {pins : List (Addr × Obj)} {σ : St} {H : Hp} {s : Shared} {a C dx : Addr} {fs : List (Str × V)} {f : Str} {v : V} {A : Around} {E : Value → Shared → Prop}
theorem getattr_ok {b : Bool} {Q : Value → Shared → Prop} (I : Inv X pins σ H s) (e : H a = some (.ins C dx fs)) (c : Cls X.K C) (n : NoAttr X.K C f) (l : fs.lookup f = some v)
    (h : ∀ u s', Inv X pins σ H s' → RelV v u → Q u s') : wpAny (model X.prog X.w) A (getAttr (.ref a) f b) Q E s := by
  obtain ⟨mA, O, r, _, _, _⟩ := ins_get I.hok e
  obtain ⟨u, hu, ru⟩ := RelO.some_of (v := v) (o := mA f) (by rw [← l]; exact r f)
  exact get_map I.kIn O (c.get f) c.hd n hu (handed_of ru) (h u _ (I.tok _) ru)
theorem getmeth_ok {m : Str} {g : Addr} {pl : Sem Bool} {Q : Value × List Value → Shared → Prop} (I : Inv X pins σ H s) (e : H a = some (.ins C dx fs)) (c : Cls X.K C) (k : Meth X.K C m g) (l : fs.lookup m = none)
    (h : Q (.ref g, [.ref a]) s) : wpAny (model X.prog X.w) A (getMethod (.ref a) m pl) Q E s := by
  obtain ⟨mA, O, r, _, _, _⟩ := ins_get I.hok e
  have hn : mA m = none := RelO.none_of (by rw [← l]; exact r m)
  exact get_meth I.kIn O (c.get m) k.at_ k.fn hn h
theorem setattr_ok {y : V} {u : Value} {Q : Unit → Shared → Prop} (I : Inv X pins σ H s) (e : H a = some (.ins C dx fs)) (c : Cls X.K C) (n : NoAttr X.K C f) (hl : fs.length < 1000) (ry : RelV y u)
    (h : ∀ s', Inv X pins σ (upd H a (.ins C dx (putF f y fs))) s' → Q () s') : wpAny (model X.prog X.w) A (setAttr (.ref a) f u) Q E s := by
  obtain ⟨mA, O, r, wi, _, ho⟩ := ins_get I.hok e
  have hz : (fs.map (·.1)).length ≤ sizeLine := by rw [List.length_map, sizeLine_eq]; omega
  refine set_map I.kIn O c.sa c.po n.taker c.hd wi hz fun h' O' sb => h _ ?_
  have hd : ∃ o, h'.get? dx = some o := let ⟨o, _, _, e', _⟩ := O'.ns; ⟨o, e'⟩
  refine I.write (x := a) (e := dx) (by rw [e]; exact True.intro) (.inr ho) (fun b q hb z => (sb.2 b hb).trans z) hd ?_
  refine ⟨by rw [upd_ne O.ne]; exact ho, ?_, O.ne, O'.obj, _, O'.ns, fun g => ?_, fun g hg => ?_⟩
  · have := length_putF f y fs; omega
  · show RelO ((putF f y fs).lookup g) (if g = f then some u else mA g)
    rw [lookup_putF]
    by_cases q : g = f
    · rw [if_pos q, if_pos q]; exact ry
    · rw [if_neg q, if_neg q]; exact r g
  · by_cases q : g = f
    · rw [q]; exact (keys_putF f y fs).1
    · refine (keys_putF f y fs).2 g (wi g fun z => hg ?_)
      show (if g = f then some u else mA g) = none
      rw [if_neg q]; exact z
theorem Inv.made (I : Inv X pins σ H s) : Inv X pins σ (upd (upd H s.heap.objs.size (.own (s.heap.objs.size + 1))) (s.heap.objs.size + 1) (.ins C s.heap.objs.size []))
    { s with heap := (s.heap.push PySem.W.emptyDict).push (PySem.W.instObj C s.heap.objs.size) } := by
  have e1 : (s.heap.push PySem.W.emptyDict).get? s.heap.objs.size = some PySem.W.emptyDict := Heap.get?_push_size s.heap rfl
  have e2 : ((s.heap.push PySem.W.emptyDict).push (PySem.W.instObj C s.heap.objs.size)).get? (s.heap.objs.size + 1) = some (PySem.W.instObj C s.heap.objs.size) := by
    have := Heap.get?_push_size (s.heap.push PySem.W.emptyDict) (o := PySem.W.instObj C s.heap.objs.size) rfl
    rwa [Heap.size_push] at this
  have e3 : (s.heap.push PySem.W.emptyDict).Ns s.heap.objs.size (fun _ => none) := ⟨PySem.W.emptyDict, #[], _, e1, rfl, (fun e he => absurd he (by simp)), fun _ => rfl⟩
  have I1 := I.laid (a := s.heap.objs.size) (o := .own (s.heap.objs.size + 1)) (h' := s.heap.push PySem.W.emptyDict) (t' := s.toks) (fun b u q => Heap.get?_push_of_some _ q) (Nat.le_refl _) ⟨_, e1⟩
  refine I1.laid (a := s.heap.objs.size + 1) (o := .ins C s.heap.objs.size []) (t' := s.toks) (fun b u q => Heap.get?_push_of_some _ q) (Nat.le_of_eq (Heap.size_push _ _)) ?_
  have ne : s.heap.objs.size ≠ s.heap.objs.size + 1 := Nat.ne_of_lt (Nat.lt_succ_self _)
  refine ⟨by rw [upd_ne ne, upd_same], Nat.zero_le _, ne, e2, fun _ => none, (Heap.Ns1.of_empty e3).at fun o q => Heap.get?_push_of_some _ q, fun _ => True.intro, fun y hy => absurd rfl hy⟩
theorem attr_of {prog : Program} {w : World} {env : Env} {e : Expr} {f : Str} {pos : Pos} {s : Shared} {Q : Value → Shared → Prop} (hb : attributeBase e f env (eval e env) = eval e env)
    (h : wpAny (model prog w) A (eval e env) (fun o s₁ => wpAny (model prog w) A (getAttr o f true) Q E s₁) E s) : wpAny (model prog w) A (eval (.Attribute e f pos) env) Q E s :=
  Attribute_any_ h (by rw [arm_eval_Attribute, hb])
end
def tFld (K : PySem.W.Frag) (ta : TE) (f : Str) : TE := fun σ H Q => ta σ H fun x H1 => ∃ a C dx fs v, x = .ref a ∧ H1 a = some (.ins C dx fs) ∧ Cls K C ∧ NoAttr K C f ∧ fs.lookup f = some v ∧ Q v H1
def sFld (K : PySem.W.Frag) (ta tv : TE) (f : Str) : TS := fun D σ H => tv σ H fun y H1 => ta σ H1 fun x H2 => ∃ a C dx fs, x = .ref a ∧ H2 a = some (.ins C dx fs) ∧ Cls K C ∧ NoAttr K C f ∧ fs.length < 1000 ∧
  D.nx σ (upd H2 a (.ins C dx (putF f y fs)))
section
variable {X : Cx} {o e value : Expr} {f : Str} {pos pos' tpos : Pos} {ta tv : TE}
theorem pe_fld (he : PE X e ta) (hb : attributeBase e f X.env (eval e X.env) = eval e X.env) : PE X (.Attribute e f pos) (tFld X.K ta f) := by
  intro pins s σ H Q I h
  refine attr_of hb (thn (he pins s σ H _ I h) fun u s1 ⟨x, H1, I1, rx, a, C, dx, fs, v, ex, ea, c, n, l, q⟩ => ?_)
  subst ex
  obtain rfl : u = Value.ref a := rx
  exact getattr_ok I1 ea c n l fun u' s2 I2 ru => ⟨v, H1, I2, ru, q⟩
theorem ps_fld (ha : PE X o ta) (hv : PE X value tv) (hs : swapsWith value (some (.Attribute o f pos')) pos.line X.env = pure false) : PS X (.Assign [.Attribute o f pos'] value pos) (sFld X.K ta tv f) := by
  intro pins s σ H D I h
  refine plainObj_wpAny_Assign_Attribute (thn (hv pins s σ H _ I h) fun u s1 ⟨y, H1, I1, ry, q⟩ => thn (ha pins s1 σ H1 _ I1 q) fun ov s2 ⟨x, H2, I2, rx, a, C, dx, fs, ex, ea, c, n, l, q2⟩ => ?_) hs
  subst ex
  obtain rfl : ov = Value.ref a := rx
  exact setattr_ok I2 ea c n l ry fun s3 I3 => ⟨σ, _, I3, q2⟩
end
section
variable {X : Cx} {pins : List (Addr × Obj)} {σ : St} {H : Hp} {s : Shared} {A : Around} {E : Value → Shared → Prop} {Q : Value → Shared → Prop} {c : Value} {b : Bool}
end
end L2
namespace L2
open PySem PySem.Spec PyProof.Rows
structure Room (k : Nat) (A : Around) : Prop where
  hd : A.handled = none
  dp : A.depth + 3 * k + 5 < recursionLimit
  un : A.units + 16 * k + 200 < cLine
theorem Room.mono {j k : Nat} {A : Around} (r : Room k A) (h : j ≤ k) : Room j A := ⟨r.hd, by have := r.dp; omega, by have := r.un; omega⟩
theorem Room.deeper {k : Nat} {A : Around} (r : Room (k + 1) A) (env : Env) : Room k (A.deeper env) :=
  ⟨r.hd, by have := r.dp; show A.depth + 1 + 3 * k + 5 < _; omega, by have := r.un; show A.units + 3 + 16 * k + 200 < _; omega⟩
theorem make_depth {A : Around} {C : Addr} {us : List Value} {kw : List (Str × Value)} : (A.under (.builtin "type.__call__" ⟨.ref C :: us, kw⟩)).depth = A.depth + 1 := by
  first | rfl | simp [Around.under, Code.weight, Code.isCreation, Code.isGuard, Code.isCaller, Code.frames, Code.isFrame, guardIds]
theorem make_units {A : Around} {C : Addr} {us : List Value} {kw : List (Str × Value)} : (A.under (.builtin "type.__call__" ⟨.ref C :: us, kw⟩)).units = A.units + 1 := by
  first | rfl | simp [Around.under, Code.cUnits, Code.frames, Code.isFrame]
theorem Room.make {k : Nat} {A : Around} (r : Room (k + 1) A) (C : Addr) (us : List Value) (kw : List (Str × Value)) : Room k (A.under (.builtin "type.__call__" ⟨.ref C :: us, kw⟩)) :=
  ⟨r.hd, by have := r.dp; rw [make_depth]; omega, by have := r.un; rw [make_units]; omega⟩
theorem Room.depth {k : Nat} {A : Around} (r : Room k A) : A.depth < recursionLimit := by have := r.dp; omega
theorem Room.units {k : Nat} {A : Around} (r : Room k A) : A.units + 64 < cLine := by have := r.un; omega
def tNil : TA := fun _ H Q => Q [] H
def tCons (ta : TE) (tr : TA) : TA := fun σ H Q => ta σ H fun x H1 => tr σ H1 fun xs H2 => Q (x :: xs) H2
section
variable {X : Cx} {e : Expr} {es : List Expr} {te : TE} {t : TA} {pos : Pos}
theorem pa_nil : PA X [] tNil := fun _ _ _ _ H Q I h => Calls.spliced_nil ⟨[], H, I, .nil, h⟩
theorem pa_cons (ha : PE X e te) (hr : PA X es t) (hs : starEach (e :: es) X.env = (false, eval e X.env) :: starEach es X.env := by rfl) : PA X (e :: es) (tCons te t) := by
  intro pos pins s σ H Q I h
  rw [hs]
  show wpAny _ _ (spliced ((false, eval e X.env) :: backTo pos (starEach es X.env))) _ _ s
  refine Calls.spliced_cons (thn (ha pins s σ H _ I h) fun u s1 ⟨x, H1, I1, r1, q1⟩ => ?_)
  exact thn (hr pos pins s1 σ H1 _ I1 q1) fun us s2 ⟨xs, H2, I2, r2, q2⟩ => ⟨x :: xs, H2, I2, .cons r1 r2, q2⟩
def tTup (t : TA) : TE := fun σ H Q => t σ H fun xs H1 => xs.length ≤ sizeLine ∧ ∀ p, H1 p = none → Q (.ref p) (upd H1 p (.tup xs))
def tLst (t : TA) : TE := fun σ H Q => t σ H fun xs H1 => xs.length ≤ sizeLine ∧ ∀ p, H1 p = none → Q (.ref p) (upd H1 p (.lst xs))
theorem pe_tup {x1} (h : PA X es t) : PE X (.Tuple es x1 pos) (tTup t) := by
  intro pins s σ H Q I hq
  refine wpAny_Tuple_spliced (thn (h pos pins s σ H _ I hq) fun us s1 ⟨xs, H1, I1, r, z, q⟩ => ⟨by rw [← r.length]; exact z, ?_⟩)
  have hf : H1 s1.heap.objs.size = none := I1.hok.fresh (Nat.le_refl _)
  refine ⟨.ref s1.heap.objs.size, upd H1 s1.heap.objs.size (.tup xs), I1.laid (t' := s1.toks) (fun b u e => Heap.get?_push_of_some _ e) (Nat.le_refl _) ?_, rfl, q _ hf⟩
  exact ⟨z, us, r, ⟨_, Heap.get?_push_size _ rfl, rfl, _, rfl⟩⟩
theorem pe_lst (h : PA X es t) : PE X (.List es pos) (tLst t) := by
  intro pins s σ H Q I hq
  refine wpAny_List_spliced (thn (h pos pins s σ H _ I hq) fun us s1 ⟨xs, H1, I1, r, z, q⟩ => ⟨by rw [← r.length]; exact z, ?_⟩)
  have hf : H1 s1.heap.objs.size = none := I1.hok.fresh (Nat.le_refl _)
  refine ⟨.ref s1.heap.objs.size, upd H1 s1.heap.objs.size (.lst xs), I1.laid (t' := s1.toks) (fun b u e => Heap.get?_push_of_some _ e) (Nat.le_refl _) ?_, rfl, q _ hf⟩
  exact ⟨z, us, 0, r, Heap.get?_push_size _ rfl⟩
end
abbrev Sp := List V → Hp → VK → XK → Prop
abbrev CXT := List Env → Hp → Shared → XK → Value → Shared → Prop
structure Env0 (P : Program) (w : World) (K : PySem.W.Frag) (mg : Str → Option Value) (base : Heap) (A : Around) (outer : List Env) (s : Shared) (H : Hp) : Prop where
  frames : A.frames = some outer
  mod : Mod K mg base
  bs : ∀ b o, base.get? b = some o → s.heap.get? b = some o ∧ H b = none
  bsz : base.objs.size ≤ s.heap.objs.size
  funs : s.heap.FunFrames base outer
  frf : ∀ b ∈ frs outer, H b = none
  hok : HOk P w H s.heap
  bare : AllBare s.gens
def CE (outer : List Env) (P : Program) (w : World) (H : Hp) (s : Shared) (Q : VK) (u : Value) (s' : Shared) : Prop :=
  ∃ v H', s'.os = s.os ∧ AllBare s'.gens ∧ Un (frs outer) [] H H' s.heap s'.heap ∧ HOk P w H' s'.heap ∧ RelV v u ∧ Q v H'
def CR (CX : CXT) (outer : List Env) (P : Program) (w : World) (H : Hp) (s : Shared) (Q : VK) (E : XK) (r : Result) (s' : Shared) : Prop :=
  match r with
  | .ok (.ret u) => CE outer P w H s Q u s'
  | .ok _ => False
  | .error e => CX outer H s E e s'
structure FnOk (P : Program) (w : World) (K : PySem.W.Frag) (mg : Str → Option Value) (base : Heap) (CX : CXT) (k : Nat) (f : Addr) (fd : FuncData) (ps : List Str) (sp : Sp) : Prop where
  len : ∀ vs H Q E, sp vs H Q E → vs.length = ps.length
  run : ∀ (A : Around) (outer : List Env) (s : Shared) (H : Hp) (args : Args) (us : List Value) (vs : List V) (Q : VK) (E : XK), Room k A → Env0 P w K mg base A outer s H → BindsTo s fd args (ps.zip us) → Vals vs us → sp vs H Q E →
    codeAny (model P w) A (.call (.ref f) args) (CR CX outer P w H s Q E) s
theorem FnOk.mono {P : Program} {w : World} {K : PySem.W.Frag} {mg : Str → Option Value} {base : Heap} {CX : CXT} {j k : Nat} {f : Addr} {fd : FuncData} {ps : List Str} {sp : Sp} (F : FnOk P w K mg base CX j f fd ps sp) (h : j ≤ k) :
    FnOk P w K mg base CX k f fd ps sp := ⟨F.len, fun A outer s H args us vs Q E hr => F.run A outer s H args us vs Q E (hr.mono h)⟩
theorem FnOk.imp {P : Program} {w : World} {K : PySem.W.Frag} {mg : Str → Option Value} {base : Heap} {CX : CXT} {k : Nat} {f : Addr} {fd : FuncData} {ps : List Str} {sp sp' : Sp} (F : FnOk P w K mg base CX k f fd ps sp)
    (h : ∀ vs H Q E, sp' vs H Q E → sp vs H Q E) : FnOk P w K mg base CX k f fd ps sp' :=
  ⟨fun vs H Q E q => F.len vs H Q E (h _ _ _ _ q), fun A outer s H args us vs Q E hr he hb hv hs => F.run A outer s H args us vs Q E hr he hb hv (h _ _ _ _ hs)⟩
theorem Env0.make {P : Program} {w : World} {K : PySem.W.Frag} {mg : Str → Option Value} {base : Heap} {A : Around} {outer : List Env} {s : Shared} {H : Hp} (e : Env0 P w K mg base A outer s H) (C : Addr) (us : List Value) (kw : List (Str × Value)) :
    Env0 P w K mg base (A.under (.builtin "type.__call__" ⟨.ref C :: us, kw⟩)) outer s H := ⟨by first | exact e.frames | (simpa [Around.under, Code.envs, Code.isFrame, pushEnvs] using e.frames), e.mod, e.bs, e.bsz, e.funs, e.frf, e.hok, e.bare⟩
section
variable {X : Cx} {pins : List (Addr × Obj)} {σ : St} {H : Hp} {s s' : Shared}
theorem Inv.env0 (I : Inv X pins σ H s) : Env0 X.prog X.w X.K X.mg X.base X.A X.stack s H :=
  ⟨I.ok.frames, I.ok.mod, I.bs, Nat.le_trans I.ok.bsz I.sz, I.stack, I.stkFree, I.hok, I.bare⟩
theorem Inv.after {Q : VK} {u : Value} (I : Inv X pins σ H s) (h : CE X.stack X.prog X.w H s Q u s') : EP X pins σ Q u s' := by
  obtain ⟨v, H', os, bare, un, hok, r, q⟩ := h
  obtain ⟨hh, g, d, t, os'⟩ := s'
  obtain rfl : os' = s.os := os
  exact ⟨v, H', I.call (h' := hh) (g' := g) (d' := d) (t' := t) (ch := []) un hok bare (fun b z => absurd z (by simp)), r, q⟩
end
def tCall (sp : Sp) (dvs : List V) (E : XK) (t : TA) : TE := fun σ H Q => t σ H fun vs H1 => sp (vs ++ dvs) H1 Q E
def tMeth (C : Addr) (m : Str) (sp : Sp) (dvs : List V) (E : XK) (ta : TE) (t : TA) : TE := fun σ H Q => ta σ H fun x H1 => ∃ a dx fs, x = .ref a ∧ H1 a = some (.ins C dx fs) ∧ fs.lookup m = none ∧
  t σ H1 fun vs H2 => sp (x :: (vs ++ dvs)) H2 Q E
def tMake (C : Addr) (sp : Sp) (dvs : List V) (E : XK) (t : TA) : TE := fun σ H Q => t σ H fun vs H1 => ∀ x dx, H1 x = none → H1 dx = none → dx ≠ x →
  sp (.ref x :: (vs ++ dvs)) (upd (upd H1 dx (.own x)) x (.ins C dx [])) (fun v H2 => v = .non ∧ Q (.ref x) H2) E
def Binds (K : PySem.W.Frag) (fd : FuncData) (ps : List Str) (ds : List Value) : Prop :=
  ∀ (s : Shared) (us : List Value), K.In s.heap → (us ++ ds).length = ps.length → BindsTo s fd ⟨us, []⟩ (ps.zip (us ++ ds))
theorem Binds.all {K : PySem.W.Frag} {fd : FuncData} {ps : List Str} (h : ∀ us : List Value, us.length = ps.length → bindArgs fd ⟨us, []⟩ = pure (ps.zip us)) : Binds K fd ps [] := fun s us _ hl => by
  rw [List.append_nil] at hl ⊢
  exact .of_eq (h us hl)
def Passes (CX : CXT) (X : Cx) (E : XK) : Prop := ∀ (pins : List (Addr × Obj)) (σ : St) (H : Hp) (s : Shared) (e : Value) (s' : Shared), Inv X pins σ H s → CX X.stack H s E e s' → X.xe e s'
section
variable {X : Cx} {CX : CXT} {k : Nat} {f C : Addr} {fd : FuncData} {ps : List Str} {sp : Sp} {dvs : List V} {ds : List Value} {E : XK} {x m : Str} {p pos apos : Pos} {e o : Expr} {es : List Expr} {ta : TE} {t : TA}
theorem run_fn {pins : List (Addr × Obj)} {σ : St} {H : Hp} {s : Shared} {Q : VK} {us : List Value} {vs : List V} (F : FnOk X.prog X.w X.K X.mg X.base CX k f fd ps sp) (hr : Room k X.A) (hb : Binds X.K fd ps ds) (hd : Vals dvs ds) (hx : Passes CX X E)
    (I : Inv X pins σ H s) (r : Vals vs us) (h : sp (vs ++ dvs) H Q E) : wpAny (model X.prog X.w) X.A (call (.ref f) us) (EP X pins σ Q) X.xe s := by
  have r2 : Vals (vs ++ dvs) (us ++ ds) := r.append hd
  have hl : (us ++ ds).length = ps.length := by rw [← r2.length]; exact F.len _ _ _ _ h
  refine wpAny_call (codeAny_mono (F.run X.A X.stack s H ⟨us, []⟩ (us ++ ds) (vs ++ dvs) Q E hr I.env0 (hb s us I.kIn hl) r2 h) fun r s' hq => ?_)
  cases r with
  | error e => exact hx pins σ H s e s' I hq
  | ok fl =>
    cases fl with
    | ret u => exact I.after hq
    | next => exact False.elim hq
    | brk => exact False.elim hq
    | cont => exact False.elim hq
theorem pe_call (F : FnOk X.prog X.w X.K X.mg X.base CX k f fd ps sp) (hr : Room k X.A) (hg : Gl X x) (hm : X.mg x = some (.ref f)) (hk : PySem.W.keepIn X.K (.ref f) = true) (hb : Binds X.K fd ps ds) (hd : Vals dvs ds) (hx : Passes CX X E)
    (ha : PA X (e :: es) t) (hdb : (x == ("__debug__" : Str)) = false := by decide) (he : starEach (e :: es) X.env = (false, eval e X.env) :: starEach es X.env := by rfl) (hpl : (backTo pos (starEach es X.env)).any (·.1) = false := by rfl) :
    PE X (.Call (.Name x p) (e :: es) [] pos) (tCall sp dvs E t) := by
  intro pins s σ H Q I h
  refine wpAny_Call_Name_kw (ld_glob I hg hm ?_ hdb)
  refine PySem.W.callWith_K (h₀ := X.base) I.ok.mod.kin hk (thn (ha pos pins s σ H _ I h) fun us s1 ⟨vs, H1, I1, r, q⟩ => ⟨I1.kIn, ?_⟩) he hpl
  exact run_fn F hr hb hd hx I1 r q
theorem pe_meth {pl : Sem Bool} (he : PE X o ta) (c : Cls X.K C) (hm : Meth X.K C m f) (F : FnOk X.prog X.w X.K X.mg X.base CX k f fd ps sp) (hr : Room k X.A) (hb : Binds X.K fd ps ds) (hd : Vals dvs ds) (hx : Passes CX X E) (ha : PA X (e :: es) t)
    (hst : starEach (e :: es) X.env = (false, eval e X.env) :: starEach es X.env := by rfl) (hpl : (backTo pos (starEach es X.env)).any (·.1) = false := by rfl)
    (ht : eval (.Call (.Attribute o m apos) (e :: es) [] pos) X.env = (do
      let ov ← eval o X.env
      standAt apos.atName
      let (f, first) ← holding [ov] (getMethod ov m pl)
      callWith pos f first (backTo pos (starEach (e :: es) X.env)) (backToKw pos (keywordEach [] X.env))) := by rfl) :
    PE X (.Call (.Attribute o m apos) (e :: es) [] pos) (tMeth C m sp dvs E ta t) := by
  intro pins s σ H Q I h
  refine PySem.W.methodCall_KW (pl := pl) (thn (he pins s σ H _ I h) fun u s1 ⟨x, H1, I1, rx, a, dx, fs, ex, ea, l, q⟩ => ?_) ht
  subst ex
  obtain rfl : u = Value.ref a := rx
  refine getmeth_ok I1 ea c hm l ?_
  refine PySem.W.callWith_K (first := [.ref a]) (h₀ := X.base) I.ok.mod.kin hm.kp (thn (ha pos pins s1 σ H1 _ I1 q) fun us s2 ⟨vs, H2, I2, r, q2⟩ => ⟨I2.kIn, ?_⟩) hst hpl
  exact run_fn (us := .ref a :: us) (vs := .ref a :: vs) F hr hb hd hx I2 (.cons rfl r) q2
theorem pe_meth0 {pl : Sem Bool} (he : PE X o ta) (c : Cls X.K C) (hm : Meth X.K C m f) (F : FnOk X.prog X.w X.K X.mg X.base CX k f fd ps sp) (hr : Room k X.A) (hb : Binds X.K fd ps ds) (hd : Vals dvs ds) (hx : Passes CX X E)
    (ht : eval (.Call (.Attribute o m apos) [] [] pos) X.env = (do
      let ov ← eval o X.env
      standAt apos.atName
      let (f, first) ← holding [ov] (getMethod ov m pl)
      callWith pos f first (backTo pos (starEach [] X.env)) (backToKw pos (keywordEach [] X.env))) := by rfl) :
    PE X (.Call (.Attribute o m apos) [] [] pos) (tMeth C m sp dvs E ta tNil) := by
  intro pins s σ H Q I h
  refine PySem.W.methodCall_KW (pl := pl) (thn (he pins s σ H _ I h) fun u s1 ⟨x, H1, I1, rx, a, dx, fs, ex, ea, l, q⟩ => ?_) ht
  subst ex
  obtain rfl : u = Value.ref a := rx
  refine getmeth_ok I1 ea c hm l ?_
  exact PySem.W.callWith_K0 (first := [.ref a]) I1.kIn hm.kp (run_fn (us := [.ref a]) (vs := [.ref a]) F hr hb hd hx I1 (.cons rfl .nil) q)
structure Mk (K : PySem.W.Frag) (C f : Addr) : Prop where
  makes : PySem.W.makesIn K C = true
  init : PySem.W.findIn K (.ref C) "__init__" = some (some (.ref f))
  fn : PySem.W.isFn K (.ref f) = true
  kp : PySem.W.keepIn K (.ref C) = true
theorem run_make {pins : List (Addr × Obj)} {σ : St} {H : Hp} {s : Shared} {Q : VK} {us : List Value} {vs : List V} (M : Mk X.K C f) (F : FnOk X.prog X.w X.K X.mg X.base CX k f fd ps sp) (hr : Room (k + 1) X.A) (hb : Binds X.K fd ps ds) (hd : Vals dvs ds)
    (hx : Passes CX X E) (I : Inv X pins σ H s) (r : Vals vs us)
    (h : ∀ x dx, H x = none → H dx = none → dx ≠ x → sp (.ref x :: (vs ++ dvs)) (upd (upd H dx (.own x)) x (.ins C dx [])) (fun v H2 => v = .non ∧ Q (.ref x) H2) E) :
    wpAny (model X.prog X.w) X.A (call (.ref C) us) (EP X pins σ Q) X.xe s := by
  have hq := h (s.heap.objs.size + 1) s.heap.objs.size (I.hok.fresh (Nat.le_succ _)) (I.hok.fresh (Nat.le_refl _)) (Nat.ne_of_lt (Nat.lt_succ_self _))
  have I2 := Inv.made (C := C) I
  have r2 : Vals (V.ref (s.heap.objs.size + 1) :: (vs ++ dvs)) (Value.ref (s.heap.objs.size + 1) :: (us ++ ds)) := .cons rfl (r.append hd)
  have hl : (Value.ref (s.heap.objs.size + 1) :: us ++ ds).length = ps.length := by
    have e := r2.length
    rw [F.len _ _ _ _ hq] at e
    exact e.symm
  refine wpAny_call (make_map (f := f) I.kIn M.makes M.init (beq_iff_eq.mp M.fn) (codeAny_mono (F.run _ X.stack _ _ ⟨Value.ref (s.heap.objs.size + 1) :: us, []⟩ (Value.ref (s.heap.objs.size + 1) :: (us ++ ds)) _ _ E (hr.make C us [])
    (I2.env0.make C us []) (hb _ (Value.ref (s.heap.objs.size + 1) :: us) I2.kIn hl) r2 hq) fun r s' hq' => ?_))
  cases r with
  | error e => exact hx pins σ _ _ e s' I2 hq'
  | ok fl =>
    cases fl with
    | ret u =>
      obtain ⟨v, H', I3, rv, ev, q3⟩ := I2.after hq'
      subst ev
      exact ⟨rv, ⟨V.ref (s.heap.objs.size + 1), H', I3, rfl, q3⟩⟩
    | next => exact False.elim hq'
    | brk => exact False.elim hq'
    | cont => exact False.elim hq'
theorem pe_make (M : Mk X.K C f) (F : FnOk X.prog X.w X.K X.mg X.base CX k f fd ps sp) (hr : Room (k + 1) X.A) (hg : Gl X x) (hm : X.mg x = some (.ref C)) (hb : Binds X.K fd ps ds) (hd : Vals dvs ds) (hx : Passes CX X E)
    (ha : PA X (e :: es) t) (hdb : (x == ("__debug__" : Str)) = false := by decide) (he : starEach (e :: es) X.env = (false, eval e X.env) :: starEach es X.env := by rfl) (hpl : (backTo pos (starEach es X.env)).any (·.1) = false := by rfl) :
    PE X (.Call (.Name x p) (e :: es) [] pos) (tMake C sp dvs E t) := by
  intro pins s σ H Q I h
  refine wpAny_Call_Name_kw (ld_glob I hg hm ?_ hdb)
  refine PySem.W.callWith_K (h₀ := X.base) I.ok.mod.kin M.kp (thn (ha pos pins s σ H _ I h) fun us s1 ⟨vs, H1, I1, r, q⟩ => ⟨I1.kIn, ?_⟩) he hpl
  exact run_make M F hr hb hd hx I1 r q
theorem pe_make0 (M : Mk X.K C f) (F : FnOk X.prog X.w X.K X.mg X.base CX k f fd ps sp) (hr : Room (k + 1) X.A) (hg : Gl X x) (hm : X.mg x = some (.ref C)) (hb : Binds X.K fd ps ds) (hd : Vals dvs ds) (hx : Passes CX X E)
    (hdb : (x == ("__debug__" : Str)) = false := by decide) : PE X (.Call (.Name x p) [] [] pos) (tMake C sp dvs E tNil) := by
  intro pins s σ H Q I h
  refine wpAny_Call_Name_kw (ld_glob I hg hm ?_ hdb)
  exact PySem.W.callWith_K0 I.kIn M.kp (run_make (us := []) M F hr hb hd hx I .nil h)
end
section
variable {X : Cx} {CX : CXT} {k : Nat} {f C : Addr} {fd : FuncData} {ps ks : List Str} {sp : Sp} {E : XK} {x m : Str} {p pos apos kpos : Pos} {e o : Expr} {es : List Expr} {kws : List Keyword} {te ta : TE} {t tk : TA} {nm : Option Str}
variable {g : List Value → List Value → List Value} {gV : List V → List V → List V}
end
structure FnScope (N P : List Str) (sc : Scope) : Prop where
  kind : sc.kind = .function
  co : sc.isCoroutine = false
  gen : sc.isGenerator = false
  nd : N.Nodup
  pre : N.take P.length = P
  par : ∀ x ∈ P, sc.names.lookup x = some .local ∨ sc.names.lookup x = some .cell
  nofree : ∀ y ∈ sc.names, y.2 ≠ .free
theorem bindL_out {kindOf : Str → Option NameKind} {x : Str} : ∀ {binds : List (Str × Value)} {m : Str → Option Value}, (∀ v, (x, v) ∉ binds) → bindL kindOf binds m x = m x
  | [], _, _ => rfl
  | (n, v) :: r, m, h => by
    unfold bindL
    rw [bindL_out fun w hw => h w (List.mem_cons_of_mem _ hw)]
    split
    · have : x ≠ n := by rintro rfl; exact h v List.mem_cons_self
      simp [this]
    · rfl
theorem bindC_out {kindOf : Str → Option NameKind} {x : Str} : ∀ {binds : List (Str × Value)} {m : Str → Option Value}, (∀ v, (x, v) ∉ binds) → bindC kindOf binds m x = m x
  | [], _, _ => rfl
  | (n, v) :: r, m, h => by
    unfold bindC
    rw [bindC_out fun w hw => h w (List.mem_cons_of_mem _ hw)]
    split
    · rfl
    · have : x ≠ n := by rintro rfl; exact h v List.mem_cons_self
      simp [this]
theorem bindL_get {kindOf : Str → Option NameKind} {x : Str} {v : Value} : ∀ {P : List Str} {vs : List Value} {i : Nat} {m : Str → Option Value}, P.Nodup → P[i]? = some x → vs[i]? = some v → kindOf x = some .local →
    bindL kindOf (P.zip vs) m x = some v
  | [], _, _, _, _, h, _, _ => by simp at h
  | _ :: _, [], _, _, _, _, h, _ => by simp at h
  | p :: P, w :: vs, 0, m, nd, h1, h2, hk => by
    simp at h1 h2; subst h1; subst h2
    show bindL kindOf ((p, w) :: P.zip vs) m p = _
    unfold bindL
    rw [bindL_out fun v hv => (List.nodup_cons.mp nd).1 (List.of_mem_zip hv).1, if_pos hk]
    simp
  | p :: P, w :: vs, i + 1, m, nd, h1, h2, hk => by
    show bindL kindOf ((p, w) :: P.zip vs) m x = _
    unfold bindL
    exact bindL_get (i := i) (List.nodup_cons.mp nd).2 (by simpa using h1) (by simpa using h2) hk
theorem bindC_get {kindOf : Str → Option NameKind} {x : Str} {v : Value} : ∀ {P : List Str} {vs : List Value} {i : Nat} {m : Str → Option Value}, P.Nodup → P[i]? = some x → vs[i]? = some v → kindOf x ≠ some .local →
    bindC kindOf (P.zip vs) m x = some v
  | [], _, _, _, _, h, _, _ => by simp at h
  | _ :: _, [], _, _, _, _, h, _ => by simp at h
  | p :: P, w :: vs, 0, m, nd, h1, h2, hk => by
    simp at h1 h2; subst h1; subst h2
    show bindC kindOf ((p, w) :: P.zip vs) m p = _
    unfold bindC
    rw [bindC_out fun v hv => (List.nodup_cons.mp nd).1 (List.of_mem_zip hv).1, if_neg hk]
    simp
  | p :: P, w :: vs, i + 1, m, nd, h1, h2, hk => by
    show bindC kindOf ((p, w) :: P.zip vs) m x = _
    unfold bindC
    exact bindC_get (i := i) (List.nodup_cons.mp nd).2 (by simpa using h1) (by simpa using h2) hk
def start (N : List Str) (vs : List V) : St := vs.map some ++ List.replicate (N.length - vs.length) none
def cxOf (CX : CXT) (P : Program) (w : World) (K : PySem.W.Frag) (mg : Str → Option Value) (base : Heap) (N : List Str) (qual : Str) (scope : Scope) (f : Addr) (cd : Value) (A : Around) (outer : List Env) (s : Shared) (H : Hp) (E : XK) : Cx where
  prog := P
  w := w
  K := K
  mg := mg
  base := base
  A := A.deeper (envOfC qual scope s.heap.objs.size f cd)
  N := N
  s₀ := s
  H₀ := H
  env := envOfC qual scope s.heap.objs.size f cd
  outer := outer
  stack := envOfC qual scope s.heap.objs.size f cd :: outer
  ex := []
  calm := true
  fn := fun _ => true
  pn := []
  xe := fun e s' => wpAny (model P w) (A.deeper (envOfC qual scope s.heap.objs.size f cd)) (leaving (envOfC qual scope s.heap.objs.size f cd) e) (fun _ s'' => CX outer H s E e s'') (fun e' s'' => CX outer H s E e' s'') s'
theorem cell_has {sc : Scope} {n : Nat} {x : Str} (h : sc.names.lookup x = some .cell) : ∃ c, (cellsFrom n sc.names []).lookup x = some c := by
  have q := PySem.W.cellsFrom_some sc.names n [] (.inl h)
  exact Option.isSome_iff_exists.mp q
theorem inv_start {CX : CXT} {P : Program} {w : World} {K : PySem.W.Frag} {mg : Str → Option Value} {base : Heap} {N ps : List Str} {qual : Str} {scope : Scope} {f : Addr} {cd : Value} {A : Around} {outer : List Env} {s s1 : Shared} {H : Hp} {E : XK} {us : List Value} {vs : List V}
    (S : FnScope N ps scope) (hd : A.handled = none) (e0 : Env0 P w K mg base A outer s H) (hl : vs.length = ps.length) (r : Vals vs us)
    (x : InCallC s s.heap.objs.size (bindL (envOfC qual scope s.heap.objs.size f cd).kindOf (ps.zip us) fun _ => none) (cellsFrom (s.heap.objs.size + 1) scope.names []) (bindC (envOfC qual scope s.heap.objs.size f cd).kindOf (ps.zip us) fun _ => none) s1) :
    Inv (cxOf CX P w K mg base N qual scope f cd A outer s H E) [] (start N vs) H s1 := by
  have hpl : ps.length ≤ N.length := by have := congrArg List.length S.pre; rw [List.length_take] at this; omega
  obtain ⟨h1, tk, rfl, hk⟩ := x.done
  have noA : ∀ b : Addr, b ∉ (cxOf CX P w K mg base N qual scope f cd A outer s H E).ex := fun b z => absurd (show b ∈ ([] : List Addr) from z) (by simp)
  refine ⟨⟨e0.mod, S.kind, rfl, rfl, Nat.le_refl _, fun y z c h1 h2 => ?_, fun y hy => ?_, fun y c _ h => ?_, fun _ => hd, Around.frames_deeper e0.frames, .inr ⟨rfl, rfl⟩, fun b z => absurd z (noA b), e0.bs, e0.bsz, fun b _ _ => noA b, fun b z => absurd z (noA b), e0.funs, e0.frf⟩,
    rfl, e0.bare, Un.kept hk, ⟨_, x.toInCall.ns, fun i y v h1 h2 h3 => ?_⟩, fun y c h => ⟨_, x.cell y c h⟩, e0.hok.fresh (Nat.le_refl _), fun y c h => ?_, fun p hp => absurd (show p ∈ ([] : List (Addr × Obj)) from hp) (by simp), e0.hok.kept hk, ?_⟩
  · exact name_of_addr x.apart (PySem.mem_of_lookup h1) (PySem.mem_of_lookup h2)
  · have hy : scope.names.lookup y = some .cell ∨ scope.names.lookup y = some .free := hy
    rcases hy with hy | hy
    · exact cell_has hy
    · exact absurd rfl (S.nofree _ (PySem.mem_of_lookup hy))
  · exact Nat.le_of_lt (x.above y c (PySem.mem_of_lookup h))
  · have hi : i < vs.length := by
      unfold start at h2
      by_cases hi : i < vs.length
      · exact hi
      · rw [List.getElem?_append_right (by simpa using hi)] at h2
        rw [List.getElem?_replicate] at h2
        split at h2 <;> cases h2
    have ha : vs[i]? = some v := by
      unfold start at h2
      rw [List.getElem?_append_left (by simpa using hi), List.getElem?_map] at h2
      cases e : vs[i]? with
      | none => rw [e] at h2; cases h2
      | some a => rw [e] at h2; cases h2; rfl
    obtain ⟨u, hu, rv⟩ := r.get ha
    have hp : ps[i]? = some y := by
      rw [← S.pre, List.getElem?_take_of_lt (by omega)]; exact h1
    have ndP : ps.Nodup := by rw [← S.pre]; exact S.nd.sublist (List.take_sublist _ _)
    refine ⟨u, rv, ?_⟩
    rcases S.par y (List.mem_of_getElem? hp) with k | k
    · exact .inl ⟨k, bindL_get ndP hp hu k⟩
    · obtain ⟨c, e⟩ := cell_has (n := s.heap.objs.size + 1) k
      refine .inr ⟨.inl k, c, e, ?_⟩
      have q := x.cell y c e
      rw [bindC_get ndP hp hu (by show scope.names.lookup y ≠ _; rw [k]; decide)] at q
      exact q
  · exact e0.hok.fresh (Nat.le_of_lt (x.above y c (PySem.mem_of_lookup h)))
  · unfold start
    show _ = N.length
    rw [List.length_append, List.length_map, List.length_replicate]
    omega
theorem fn_of {CX : CXT} {P : Program} {w : World} {K : PySem.W.Frag} {mg : Str → Option Value} {base : Heap} {k : Nat} {f : Addr} {name qual : Str} {params : Arguments} {body : List Stmt} {scope : Scope} {dV kV doc pm cdv ct oc : Value} {an od : Option Addr}
    {osl : Array (Option Value)} {N ps : List Str} {sp : Sp} (lk : K.lookup f = some ⟨oc, od, .func (PySem.W.fnOf name qual params body scope dV kV doc pm an cdv ct), osl⟩) (hcd : PySem.W.codeIn K cdv qual = true) (S : FnScope N ps scope)
    (len : ∀ vs H Q E, sp vs H Q E → vs.length = ps.length)
    (hbody : ∀ (A : Around) (outer : List Env) (s : Shared) (H : Hp) (vs : List V) (Q : VK) (E : XK), Room k (A.deeper (envOfC qual scope s.heap.objs.size f cdv)) → sp vs H Q E →
      ∃ t, PSs (cxOf CX P w K mg base N qual scope f cdv A outer s H E) body t ∧ t { nx := fun _ H' => Q .non H', rt := Q } (start N vs) H) :
    FnOk P w K mg base CX (k + 1) f (PySem.W.fnOf name qual params body scope dV kV doc pm an cdv ct) ps sp := by
  refine ⟨len, fun A outer s H args us vs Q E hr e0 hb r hsp => ?_⟩
  have hl := len _ _ _ _ hsp
  have KX : K.In s.heap := e0.mod.kin.keeps fun b o e => (e0.bs b o e).1
  have lim : s.heap.NoLimit := e0.mod.nolimit.keeps fun b o e => (e0.bs b o e).1
  have hkind : ∀ y ∈ ps.zip us, scope.names.lookup y.1 = some .local ∨ (scope.names.lookup y.1 = some .cell ∧ ((cellsFrom (s.heap.objs.size + 1) scope.names []).lookup y.1).isSome = true) := fun ⟨n, v⟩ hy => by
    rcases S.par n (List.of_mem_zip hy).1 with q | q
    · exact .inl q
    · exact .inr ⟨q, PySem.W.cellsFrom_some _ _ _ (.inl q)⟩
  refine codeAny_call_function hr.depth (KX _ _ lk) rfl S.co S.gen rfl (PySem.W.codeRec_of KX hcd) (hb _ _ _ _ ?_)
  refine wpAny_newFunctionEnv_cells S.kind hkind fun env he s1 x => ?_
  subst he
  refine ⟨lim.keeps x.toInCall.keep, codeAny_func ?_⟩
  obtain ⟨t, ht, hq⟩ := hbody A outer s H vs Q E (hr.deeper _) hsp
  have I : Inv (cxOf CX P w K mg base N qual scope f cdv A outer s H E) [] (start N vs) H s1 := inv_start S hr.hd e0 hl r x
  refine wpAny_mono (ht [] s1 (start N vs) H _ I hq) (fun fl s' hs => ?_) fun e s' hs => hs
  have fin : ∀ {σ' : St} {H' : Hp} {v : V} {u : Value}, Inv (cxOf CX P w K mg base N qual scope f cdv A outer s H E) [] σ' H' s' → RelV v u → Q v H' → CE outer P w H s Q u s' :=
    fun {σ' H' v u} J rv q => ⟨v, H', J.os, J.bare, J.base, J.hok, rv, q⟩
  cases fl with
  | ret u =>
    obtain ⟨v, σ', H', J, rv, q⟩ := hs
    exact fin J rv q
  | next =>
    obtain ⟨σ', H', J, q⟩ := hs
    exact fin (v := V.non) (u := Value.none) J rfl q
  | brk =>
    obtain ⟨_, _, _, q⟩ := hs
    exact False.elim q
  | cont =>
    obtain ⟨_, _, _, q⟩ := hs
    exact False.elim q
end L2
namespace L2
open PySem PySem.Spec PyProof.Rows
section
variable {X : Cx} {x : Str} {p pos : Pos} {e : Expr} {es : List Expr} {t : TA} {id T : String} {r : List V → Hp → VK → Prop}
def tCB (r : List V → Hp → VK → Prop) (t : TA) : TE := fun σ H Q => t σ H fun vs H1 => r vs H1 Q
theorem pe_callB (hc : CallR X (.builtin id) r) (hg : Gl X x) (hm : X.mg x = none) (hv : bootBuiltins x = some (.builtin id)) (ha : PA X (e :: es) t) (hn : x ≠ "__name__" := by decide) (hdb : (x == ("__debug__" : Str)) = false := by decide)
    (he : starEach (e :: es) X.env = (false, eval e X.env) :: starEach es X.env := by rfl) (hpl : (backTo pos (starEach es X.env)).any (·.1) = false := by rfl) : PE X (.Call (.Name x p) (e :: es) [] pos) (tCB r t) := by
  intro pins s σ H Q I h
  refine wpAny_Call_Name_kw (ld_blt I hg hm hv ?_ hn hdb)
  exact PyProof.Rows.callWith_builtin1 (thn (ha pos pins s σ H _ I h) fun us s1 ⟨vs, H1, I1, r1, q1⟩ => hc pins s1 σ H1 vs us Q I1 r1 q1) he hpl
end
end L2
namespace HT
open PySem PyProof.Rows
section
open PySem.SeqAt
open PySem.AutoSeq1 (wpAny_loadPart')
open PySem.MeetsSeq PySem.MeetsSeq2 PySem.MeetsSeq3
end
section
variable {prog : Program} {w : World} {A : Around} {E : Value → Shared → Prop} {s : Shared}
def sIx (n d : Nat) : Option Int → Nat
  | none => d
  | some v => if v < 0 then (v + (n : Int)).toNat else min v.toNat n
end
end HT
namespace L2
open PySem PySem.Spec PyProof.Rows
abbrev TO := St → Hp → (Option Int → Hp → Prop) → Prop
def PO (X : Cx) (e : Option Expr) (t : TO) : Prop :=
  ∀ (pins : List (Addr × Obj)) (s : Shared) (σ : St) (H : Hp) (Q : Option Int → Hp → Prop), Inv X pins σ H s → t σ H Q →
    wpAny (model X.prog X.w) X.A (evalPart e X.env) (fun u s' => ∃ o H', Inv X pins σ H' s' ∧ IsPart u o ∧ Q o H') X.xe s
def tPart (t : TE) : TO := fun σ H Q => t σ H fun x H1 => ∃ i, x = .int i ∧ Q (some i) H1
theorem intsAre_of {ns : List Int} : ∀ {us : List Value}, Vals (ns.map V.int) us → IntsAre us ns := by
  induction ns with
  | nil => intro us r; rw [List.map_nil] at r; cases r; exact .nil
  | cons n ns ih =>
    intro us r
    rw [List.map_cons] at r
    cases r with
    | cons r1 r2 =>
      obtain ⟨t, e⟩ := r1
      subst e
      exact .cons n t (ih r2)
section
variable {X : Cx} {e : Expr} {te : TE} {lo hi : Option Expr} {tl th : TO} {pos p2 : Pos}
theorem po_some (h : PE X e te) : PO X (some e) (tPart te) := by
  intro pins s σ H Q I hw
  rw [evalPart_some]
  refine thn (h pins s σ H _ I hw) fun u s1 ⟨x, H1, I1, r1, q1⟩ => ?_
  obtain ⟨i, rfl, q⟩ := q1
  obtain ⟨t, rfl⟩ := r1
  exact ⟨some i, H1, I1, .int i t, q⟩
def SlR (X : Cx) (r : V → Option Int → Option Int → Hp → VK → Prop) : Prop :=
  ∀ (pins : List (Addr × Obj)) (s : Shared) (σ : St) (H : Hp) (x : V) (v vl vu : Value) (lo hi : Option Int) (sl : Addr) (Q : VK), Inv X pins σ H s → RelV x v → s.heap.IsSliceOf sl vl vu .none → IsPart vl lo → IsPart vu hi → r x lo hi H Q →
    ∃ T id, typeLookup (.type T) "__getitem__" = pure (some (.builtin id)) ∧ s.TypeIs v T ∧ wpAny (model X.prog X.w) X.A (getItem v (.ref sl)) (EP X pins σ Q) X.xe s
theorem SlR.or {r r' : V → Option Int → Option Int → Hp → VK → Prop} (h : SlR X r) (h' : SlR X r') : SlR X (fun x lo hi H Q => r x lo hi H Q ∨ r' x lo hi H Q) := by
  intro pins s σ H x v vl vu lo hi sl Q I rx hs pl pu q
  rcases q with q | q
  · exact h pins s σ H x v vl vu lo hi sl Q I rx hs pl pu q
  · exact h' pins s σ H x v vl vu lo hi sl Q I rx hs pl pu q
def tSl (r : V → Option Int → Option Int → Hp → VK → Prop) (te : TE) (tl th : TO) : TE := fun σ H Q => te σ H fun x H1 => tl σ H1 fun l H2 => th σ H2 fun u H3 => r x l u H3 Q
theorem pe_slice {r : V → Option Int → Option Int → Hp → VK → Prop} (hr : SlR X r) (he : PE X e te) (hl : PO X lo tl) (hu : PO X hi th) : PE X (.Subscript e (.Slice lo hi none p2) pos) (tSl r te tl th) := by
  intro pins s σ H Q I h
  refine Subscript_ (thn (he pins s σ H _ I h) fun v s1 ⟨x, H1, I1, r1, q1⟩ => ?_)
  refine wpAny_Slice (thn (hl pins s1 σ H1 _ I1 q1) fun vl s2 ⟨l, H2, I2, pl, q2⟩ => thn (hu pins s2 σ H2 _ I2 q2) fun vu s3 ⟨u, H3, I3, pu, q3⟩ => ?_)
  rw [evalPart_none]
  refine wpAny_pure ?_
  have I4 : Inv X pins σ H3 { s3 with heap := s3.heap.push { cls := .type "slice", data := .fields #[vl, vu, .none] } } := I3.kept (t' := s3.toks) fun b ob q => Heap.get?_push_of_some _ q
  obtain ⟨T, id, hT, ht, hg⟩ := hr pins { s3 with heap := s3.heap.push { cls := .type "slice", data := .fields #[vl, vu, .none] } } σ H3 x v vl vu l u s3.heap.objs.size Q I4 r1 (Heap.IsSliceOf.new ..) pl pu q3
  show wpAny (model X.prog X.w) X.A (subscriptTail e (.Slice lo hi none p2) v (.ref s3.heap.objs.size)) (EP X pins σ Q) X.xe { s3 with heap := s3.heap.push { cls := .type "slice", data := .fields #[vl, vu, .none] } }
  exact tail_any (ops := [.ref s3.heap.objs.size, v]) ht hT hg (by with_unfolding_all rfl)
def cutV (xs : List V) (lo hi : Option Int) : List V := (xs.drop (HT.sIx xs.length 0 lo)).take (HT.sIx xs.length xs.length hi - HT.sIx xs.length 0 lo)
theorem cutV_length (xs : List V) (lo hi : Option Int) : (cutV xs lo hi).length ≤ xs.length := by
  unfold cutV
  rw [List.length_take, List.length_drop]
  omega
end
end L2
namespace L2
open PySem PySem.Spec PyProof.Rows
def ixN (n : Nat) (i : Int) : Option Nat := if 0 ≤ i then (if i < n then some i.toNat else none) else if -(n : Int) ≤ i then some (i + n).toNat else none
def atI {α : Type} (xs : List α) (i : Int) : Option α := (ixN xs.length i).bind fun j => xs[j]?
theorem ixN_seq {n : Nat} {i : Int} {j : Nat} (h : ixN n i = some j) : seqIndex? i n = some j ∧ j < n ∧ -(n : Int) ≤ i ∧ i < n := by
  unfold ixN at h
  by_cases h0 : 0 ≤ i
  · rw [if_pos h0] at h
    by_cases h1 : i < n
    · rw [if_pos h1] at h
      have e : i.toNat = j := Option.some.inj h
      exact ⟨by rw [seqIndex_of h0 h1, e], by omega, by omega, h1⟩
    · rw [if_neg h1] at h; cases h
  · rw [if_neg h0] at h
    by_cases h1 : -(n : Int) ≤ i
    · rw [if_pos h1] at h
      have e : (i + n).toNat = j := Option.some.inj h
      exact ⟨by rw [seqIndex_neg (by omega) h1, e], by omega, h1, by omega⟩
    · rw [if_neg h1] at h; cases h
theorem atI_get {α : Type} {xs : List α} {i : Int} {v : α} (h : atI xs i = some v) : ∃ j, seqIndex? i xs.length = some j ∧ xs[j]? = some v ∧ j < xs.length ∧ -(xs.length : Int) ≤ i ∧ i < xs.length := by
  unfold atI at h
  cases e : ixN xs.length i with
  | none => rw [e] at h; cases h
  | some j =>
    rw [e] at h
    obtain ⟨h1, h2, h3, h4⟩ := ixN_seq e
    exact ⟨j, h1, h, h2, h3, h4⟩
theorem atI_nat {α : Type} {xs : List α} {j : Nat} {v : α} (h : xs[j]? = some v) : atI xs (j : Int) = some v := by
  have hj : j < xs.length := (List.getElem?_eq_some_iff.mp h).1
  have e : ixN xs.length (j : Int) = some j := by
    unfold ixN
    rw [if_pos (by omega), if_pos (by omega)]; simp
  unfold atI; rw [e]; exact h
theorem atI_last {α : Type} (xs : List α) (v : α) : atI (xs ++ [v]) (-1) = some v := by
  have hl : (xs ++ [v]).length = xs.length + 1 := by simp
  have e : ixN (xs ++ [v]).length (-1) = some xs.length := by
    unfold ixN
    rw [hl, if_neg (by decide), if_pos (by omega)]
    congr 1
    omega
  unfold atI
  rw [e]
  show (xs ++ [v])[xs.length]? = some v
  simp
def PlainIx (b : Expr) : Prop := ∀ o i, subscripted b false o i = operate [o, i] (getItem o i)
def IxR (X : Cx) (r : R2) : Prop :=
  ∀ (value slice : Expr) (pins : List (Addr × Obj)) (s : Shared) (σ : St) (H : Hp) (x y : V) (v u : Value) (Q : VK), Inv X pins σ H s → RelV x v → RelV y u → r x y H Q →
    subscripted slice false v u = operate [v, u] (getItem v u) → wpAny (model X.prog X.w) X.A (subscriptTail value slice v u) (EP X pins σ Q) X.xe s
def MtR (X : Cx) (id : String) (r : V → List V → Hp → VK → Prop) : Prop :=
  ∀ (pins : List (Addr × Obj)) (s : Shared) (σ : St) (H : Hp) (x : V) (xs : List V) (v : Value) (us : List Value) (Q : VK), Inv X pins σ H s → RelV x v → Vals xs us → r x xs H Q →
    wpAny (model X.prog X.w) X.A (call (.builtin id) (v :: us)) (EP X pins σ Q) X.xe s
section
variable {X : Cx} {a b : Expr} {ta tb : TE} {pos : Pos}
theorem IxR.or {r r' : R2} (h : IxR X r) (h' : IxR X r') : IxR X (fun x y H Q => r x y H Q ∨ r' x y H Q) := by
  intro value slice pins s σ H x y v u Q I rx ry q hs
  rcases q with q | q
  · exact h value slice pins s σ H x y v u Q I rx ry q hs
  · exact h' value slice pins s σ H x y v u Q I rx ry q hs
theorem MtR.or {id : String} {r r' : V → List V → Hp → VK → Prop} (h : MtR X id r) (h' : MtR X id r') : MtR X id (fun x xs H Q => r x xs H Q ∨ r' x xs H Q) := by
  intro pins s σ H x xs v us Q I rx rs q
  rcases q with q | q
  · exact h pins s σ H x xs v us Q I rx rs q
  · exact h' pins s σ H x xs v us Q I rx rs q
theorem pe_ix {r : R2} (hr : IxR X r) (ha : PE X a ta) (hb : PE X b tb) (hs : PlainIx b) : PE X (.Subscript a b pos) (tOp r ta tb) := by
  intro pins s σ H Q I h
  exact Subscript_ (binT ha hb I h fun v u s2 x y H2 I2 rx ry q => hr a b pins s2 σ H2 x y v u Q I2 rx ry q (hs _ _))
def rIxL (K : PySem.W.Frag) : R2 := fun x y H Q => ∃ p xs i v, x = .ref p ∧ y = .int i ∧ SqL K H p xs ∧ atI xs i = some v ∧ Q v H
def rIxT (K : PySem.W.Frag) : R2 := fun x y H Q => ∃ p xs i v, x = .ref p ∧ y = .int i ∧ SqT K H p xs ∧ atI xs i = some v ∧ Q v H
theorem ix_list : IxR X (rIxL X.K) := by
  intro value slice pins s σ H x y v u Q I rx ry h hs
  obtain ⟨p, xs, i, z, rfl, rfl, hq, he, q⟩ := h
  cases rx
  obtain ⟨t, rfl⟩ := ry
  obtain ⟨its, r, pl, hz⟩ := I.list hq
  obtain ⟨j, h1, h2, h3, h4, h5⟩ := atI_get he
  obtain ⟨w, ew, rw'⟩ := r.get h2
  have hl := r.length
  have hn := line63
  have fin : EP X pins σ Q w s := ⟨z, H, I, rw', q⟩
  by_cases h0 : 0 ≤ i
  · have hj : i.toNat = j := by
      rw [seqIndex_of h0 h5] at h1
      exact Option.some.inj h1
    exact item_listR pl.isList h0 (by omega) (by rw [hj]; simpa using ew) fin hs
  · have hj : (i + (its.toArray.size : Int)).toNat = j := by
      rw [seqIndex_neg (by omega) h4] at h1
      rw [List.size_toArray, ← hl]
      exact Option.some.inj h1
    exact subscriptTail_builtinR (x := w) pl.isList.typeIs slot_list_getitem.lookup
      (wpAny_getItem_list_neg (Q := fun r s' => r = w ∧ EP X pins σ Q r s') pl.isList (by omega) (by rw [List.size_toArray] <;> omega) (by omega) (by rw [hj]; simpa using ew) ⟨rfl, fin⟩) hs
theorem ix_tup : IxR X (rIxT X.K) := by
  intro value slice pins s σ H x y v u Q I rx ry h hs
  obtain ⟨p, xs, i, z, rfl, rfl, hq, he, q⟩ := h
  cases rx
  obtain ⟨t, rfl⟩ := ry
  obtain ⟨its, r, pl, hz⟩ := I.tuple hq
  obtain ⟨j, h1, h2, h3, h4, h5⟩ := atI_get he
  obtain ⟨w, ew, rw'⟩ := r.get h2
  have hl := r.length
  have hn := line63
  have fin : EP X pins σ Q w s := ⟨z, H, I, rw', q⟩
  exact subscriptTail_builtinR (x := w) pl.typeIs slot_tuple_getitem.lookup
    (getItem_tuple (j := j) (Q := fun r s' => r = w ∧ EP X pins σ Q r s') pl (by omega) (by omega) (by rw [List.size_toArray, ← hl]; exact h1) (by simpa using ew) ⟨rfl, fin⟩) hs
theorem Inv.lst {pins : List (Addr × Obj)} {σ : St} {H : Hp} {s : Shared} {p : Addr} {xs : List V} (I : Inv X pins σ H s) (h : H p = some (.lst xs)) :
    ∃ (its : List Value) (n : Nat), Vals xs its ∧ s.heap.get? p = some { cls := .type "list", data := .seq its.toArray n } ∧ xs.length ≤ sizeLine := by
  obtain ⟨z, its, n, r, e⟩ := I.hok p _ h
  exact ⟨its, n, r, e, z⟩
theorem slice_bounds (lo hi : Option Int) (n : Nat) : (sliceBounds lo hi none n).1 = ((HT.sIx n 0 lo : Nat) : Int) ∧ (sliceBounds lo hi none n).2.1 = ((HT.sIx n n hi : Nat) : Int) ∧ (sliceBounds lo hi none n).2.2 = 1 := by
  refine ⟨?_, ?_, rfl⟩
  · cases lo with
    | none => simp [sliceBounds, HT.sIx]
    | some i =>
      simp only [sliceBounds, HT.sIx, Option.getD_none, show (1 : Int) > 0 by decide, if_true]
      by_cases h : i < 0
      · simp only [h, if_true] <;> omega
      · simp only [h, if_false] <;> omega
  · cases hi with
    | none => simp [sliceBounds, HT.sIx]
    | some i =>
      simp only [sliceBounds, HT.sIx, Option.getD_none, show (1 : Int) > 0 by decide, if_true]
      by_cases h : i < 0
      · simp only [h, if_true] <;> omega
      · simp only [h, if_false] <;> omega
theorem slicePick_cut (its : List Value) (lo hi : Option Int) : slicePick its.toArray lo hi none = ((its.drop (HT.sIx its.length 0 lo)).take (HT.sIx its.length its.length hi - HT.sIx its.length 0 lo)).toArray := by
  obtain ⟨h1, h2, h3⟩ := slice_bounds lo hi its.toArray.size
  unfold slicePick
  rw [h1, h2, h3]
  simp only [sliceRange_one, pick_run, List.size_toArray] <;> rfl
def rSlL (K : PySem.W.Frag) : V → Option Int → Option Int → Hp → VK → Prop := fun x lo hi H Q => ∃ a xs, x = .ref a ∧ SqL K H a xs ∧ ∀ p, H p = none → Q (.ref p) (upd H p (.lst (cutV xs lo hi)))
theorem sl_list : SlR X (rSlL X.K) := by
  intro pins s σ H x v vl vu lo hi sl Q I rx hs pl pu h
  obtain ⟨a, xs, rfl, hx, q⟩ := h
  cases rx
  obtain ⟨its, r, ht, hz⟩ := I.list hx
  have hlen := r.length
  refine ⟨"list", _, slot_list_getitem.lookup, ht.isList.typeIs, ?_⟩
  refine wpAny_getItem_list_slice ht.isList hs pl pu .none (by simp) ?_ (by rw [List.size_toArray] <;> omega)
  rw [slicePick_cut, ← hlen]
  refine ⟨.ref s.heap.objs.size, _, I.laid (t' := s.toks) (o := .lst (cutV xs lo hi)) (fun b ob q => Heap.get?_push_of_some _ q) (Nat.le_refl _) ?_, rfl, q _ (I.hok.fresh (Nat.le_refl _))⟩
  exact ⟨Nat.le_trans (cutV_length xs lo hi) hz, _, 0, (r.drop (HT.sIx xs.length 0 lo)).take (HT.sIx xs.length xs.length hi - HT.sIx xs.length 0 lo), Heap.get?_push_size _ rfl⟩
def flatV : V → Bool
  | .non => true
  | .bl _ => true
  | .int _ => true
  | .str _ => true
  | _ => false
def eqV : V → V → Bool
  | .non, .non => true
  | .bl a, .bl b => a == b
  | .bl a, .int b => (if a then 1 else 0) == b
  | .int a, .bl b => a == (if b then 1 else 0)
  | .int a, .int b => a == b
  | .str a, .str b => a == b
  | _, _ => false
theorem eqAt_V {A : Around} {s : Shared} {y x : V} {u v : Value} (ry : RelV y u) (rx : RelV x v) (fy : flatV y = true) (fx : flatV x = true) : SeqAt.EqAt A s u v (eqV y x) := by
  cases y with
  | non =>
    cases ry
    cases x with
    | non => cases rx; exact SeqAt.EqAt.same _
    | bl b => cases rx; exact SeqAt.EqAt.none_bool b
    | int b => obtain ⟨t, rfl⟩ := rx; exact SeqAt.EqAt.none_int b t
    | str b => obtain ⟨t, rfl⟩ := rx; exact SeqAt.EqAt.none_str b t
    | _ => exact absurd (show false = true from fx) Bool.false_ne_true
  | bl a =>
    cases ry
    cases x with
    | non => cases rx; exact SeqAt.EqAt.bool_none a
    | bl b => cases rx; exact SeqAt.EqAt.bool_bool a b
    | int b => obtain ⟨t, rfl⟩ := rx; exact SeqAt.EqAt.bool_int a b t
    | str b => obtain ⟨t, rfl⟩ := rx; exact SeqAt.EqAt.bool_str a b t
    | _ => exact absurd (show false = true from fx) Bool.false_ne_true
  | int a =>
    obtain ⟨t', rfl⟩ := ry
    cases x with
    | non => cases rx; exact SeqAt.EqAt.int_none a t'
    | bl b => cases rx; exact SeqAt.EqAt.int_bool a t' b
    | int b => obtain ⟨t, rfl⟩ := rx; exact SeqAt.EqAt.int_int a t' b t
    | str b => obtain ⟨t, rfl⟩ := rx; exact SeqAt.EqAt.int_str a t' b t
    | _ => exact absurd (show false = true from fx) Bool.false_ne_true
  | str a =>
    obtain ⟨t', rfl⟩ := ry
    cases x with
    | non => cases rx; exact SeqAt.EqAt.str_none a t'
    | bl b => cases rx; exact SeqAt.EqAt.str_bool a t' b
    | int b => obtain ⟨t, rfl⟩ := rx; exact SeqAt.EqAt.str_int a t' b t
    | str b => obtain ⟨t, rfl⟩ := rx; exact SeqAt.EqAt.str_str a t' b t
    | _ => exact absurd (show false = true from fx) Bool.false_ne_true
  | _ => exact absurd (show false = true from fy) Bool.false_ne_true
def eqU (x : V) (u : Value) : Bool := match u with
  | .none => eqV .non x
  | .bool b => eqV (.bl b) x
  | .int i _ => eqV (.int i) x
  | .str z _ => eqV (.str z) x
  | _ => false
theorem eqU_of {x y : V} {u : Value} (r : RelV y u) (f : flatV y = true) : eqU x u = eqV y x := by
  cases y with
  | non => cases r; rfl
  | bl b => cases r; rfl
  | int i => obtain ⟨t, rfl⟩ := r; rfl
  | str z => obtain ⟨t, rfl⟩ := r; rfl
  | _ => exact absurd (show false = true from f) Bool.false_ne_true
theorem any_eqU {x : V} : ∀ {xs : List V} {us : List Value}, Vals xs us → xs.all flatV = true → us.any (eqU x) = xs.any fun y => eqV y x
  | _, _, .nil, _ => rfl
  | y :: xs, u :: us, .cons r t, f => by
    rw [List.all_cons, Bool.and_eq_true] at f
    rw [List.any_cons, List.any_cons, eqU_of r f.1, any_eqU t f.2]
theorem mem_eqAt {A : Around} {s : Shared} {x : V} {v : Value} (rx : RelV x v) (fx : flatV x = true) : ∀ {xs : List V} {us : List Value}, Vals xs us → xs.all flatV = true → ∀ u ∈ us, SeqAt.EqAt A s u v (eqU x u)
  | _, _, .nil, _ => fun u hu => by cases hu
  | y :: xs, u :: us, .cons r t, f => fun u' hu => by
    rw [List.all_cons, Bool.and_eq_true] at f
    rcases List.mem_cons.mp hu with rfl | hu
    · rw [eqU_of r f.1]; exact eqAt_V r rx f.1 fx
    · exact mem_eqAt rx fx t f.2 u' hu
def inV (x : V) (xs : List V) : Bool := xs.any fun y => eqV y x
def rIn (K : PySem.W.Frag) (neg : Bool) : R2 := fun x y H Q => ∃ p xs, y = .ref p ∧ (SqL K H p xs ∨ SqT K H p xs) ∧ flatV x = true ∧ xs.all flatV = true ∧ Q (.bl (if neg then !inV x xs else inV x xs)) H
theorem op_in_seq : OpR X (compareOp .In) (rIn X.K false) := by
  intro pins s σ H x y v u Q I rx ry h
  obtain ⟨p, xs, rfl, hq, fx, fs, q⟩ := h
  cases ry
  rcases hq with hq | hq
  · obtain ⟨its, r, pl, hz⟩ := I.list hq
    refine SeqAt.in_listAt (eqU x) pl.isList (fun w hw => mem_eqAt rx fx r fs w (by simpa using hw)) ⟨.bl _, H, I, rfl, ?_⟩
    rw [show its.toArray.any (eqU x) = its.any (eqU x) by simp, any_eqU r fs]
    exact q
  · obtain ⟨its, r, pl, hz⟩ := I.tuple hq
    refine SeqAt.in_tupleAt (eqU x) pl (fun w hw => mem_eqAt rx fx r fs w (by simpa using hw)) ⟨.bl _, H, I, rfl, ?_⟩
    rw [show its.toArray.any (eqU x) = its.any (eqU x) by simp, any_eqU r fs]
    exact q
theorem op_notIn_seq : OpR X (compareOp .NotIn) (rIn X.K true) := by
  intro pins s σ H x y v u Q I rx ry h
  obtain ⟨p, xs, rfl, hq, fx, fs, q⟩ := h
  cases ry
  rcases hq with hq | hq
  · obtain ⟨its, r, pl, hz⟩ := I.list hq
    refine SeqAt.notIn_listAt (eqU x) pl.isList (fun w hw => mem_eqAt rx fx r fs w (by simpa using hw)) ⟨.bl _, H, I, rfl, ?_⟩
    rw [show its.toArray.any (eqU x) = its.any (eqU x) by simp, any_eqU r fs]
    exact q
  · obtain ⟨its, r, pl, hz⟩ := I.tuple hq
    refine SeqAt.notIn_tupleAt (eqU x) pl (fun w hw => mem_eqAt rx fx r fs w (by simpa using hw)) ⟨.bl _, H, I, rfl, ?_⟩
    rw [show its.toArray.any (eqU x) = its.any (eqU x) by simp, any_eqU r fs]
    exact q
theorem call_len_seq : CallR X (.builtin "len") (fun xs H Q => ∃ p ys, xs = [.ref p] ∧ (SqL X.K H p ys ∨ SqT X.K H p ys) ∧ Q (.int ys.length) H) := by
  intro pins s σ H xs us Q I r h
  obtain ⟨p, ys, rfl, hq, q⟩ := h
  obtain ⟨u, rfl, rx⟩ := vals1 r
  cases rx
  have hn := line63
  rcases hq with hq | hq
  · obtain ⟨its, r', pl, hz⟩ := I.list hq
    have hlen := r'.length
    exact Calls.call_len_list pl.isList (by simp only [List.size_toArray] <;> omega) ⟨.int ys.length, H, I.tok _, ⟨s.toks + 1, by rw [List.size_toArray, hlen]⟩, q⟩
  · obtain ⟨its, r', pl, hz⟩ := I.tuple hq
    have hlen := r'.length
    exact len_tuple pl (by simp only [List.size_toArray] <;> omega) ⟨.int ys.length, H, I.tok _, ⟨s.toks + 1, by rw [List.size_toArray, hlen]⟩, q⟩
theorem CallR.or {f : Value} {r r' : List V → Hp → VK → Prop} (h : CallR X f r) (h' : CallR X f r') : CallR X f (fun xs H Q => r xs H Q ∨ r' xs H Q) := by
  intro pins s σ H xs us Q I rs q
  rcases q with q | q
  · exact h pins s σ H xs us Q I rs q
  · exact h' pins s σ H xs us Q I rs q
def tyV (K : PySem.W.Frag) (T : String) (x : V) (H : Hp) : Prop := match x with
  | .str _ => T = "str"
  | .int _ => T = "int"
  | .ref p => (T = "list" ∧ ∃ xs, SqL K H p xs) ∨ (T = "tuple" ∧ ∃ o, K.lookup p = some o ∧ o.cls = .type "tuple" ∧ o.dict = none) ∨
      (T = "dict" ∧ ((∃ kvs, H p = some (.dK kvs)) ∨ ∃ kvs, H p = some (.dT kvs))) ∨ (T = "set" ∧ ∃ S n, H p = some (.set S n))
  | _ => False
theorem tyV_is {pins : List (Addr × Obj)} {σ : St} {H : Hp} {s : Shared} {T : String} {x : V} {v : Value} (I : Inv X pins σ H s) (r : RelV x v) (ty : tyV X.K T x H) :
    s.TypeIs v T ∧ ∀ a, v = .ref a → ∃ ob, s.heap.get? a = some ob ∧ ob.dict = none := by
  cases x with
  | str z =>
    obtain ⟨t, rfl⟩ := r
    cases (show T = "str" from ty)
    exact ⟨typeIs_str s z t, fun _ e => nomatch e⟩
  | int i =>
    obtain ⟨t, rfl⟩ := r
    cases (show T = "int" from ty)
    exact ⟨typeIs_int s i t, fun _ e => nomatch e⟩
  | ref p =>
    cases r
    rcases ty with ⟨rfl, xs, hq⟩ | ⟨rfl, o, hk, hc, hd⟩ | ⟨rfl, hk⟩ | ⟨rfl, S, n, hk⟩
    · obtain ⟨its, _, pl, _⟩ := I.list hq
      refine ⟨pl.isList.typeIs, fun a e => ?_⟩
      cases e
      obtain ⟨o, n, e, c, hd, _⟩ := pl
      exact ⟨o, e, hd⟩
    · refine ⟨⟨o, I.kIn p o hk, hc⟩, fun a e => ?_⟩
      cases e
      exact ⟨o, I.kIn _ o hk, hd⟩
    · have z : ∃ o, s.heap.get? p = some o ∧ o.ExactDict := by
        rcases hk with ⟨kvs, hk⟩ | ⟨kvs, hk⟩
        · obtain ⟨_, _, _, _, o, _, _, e, ex, _⟩ := I.hok p _ hk
          exact ⟨o, e, ex⟩
        · obtain ⟨_, _, _, _, o, _, _, e, ex, _⟩ := I.hok p _ hk
          exact ⟨o, e, ex⟩
      obtain ⟨o, e, ex⟩ := z
      refine ⟨⟨o, e, ex.1⟩, fun a e2 => ?_⟩
      cases e2
      exact ⟨o, e, ex.2.1⟩
    · obtain ⟨o, _, _, _, e, ex, _⟩ := I.hok p _ hk
      refine ⟨⟨o, e, ex.1⟩, fun a e2 => ?_⟩
      cases e2
      exact ⟨o, e, ex.2.1⟩
  | _ => exact False.elim ty
def tBM (K : PySem.W.Frag) (T : String) (r : V → List V → Hp → VK → Prop) (to : TE) (t : TA) : TE := fun σ H Q => to σ H fun x H1 => tyV K T x H1 ∧ t σ H1 fun xs H2 => r x xs H2 Q
variable {o e : Expr} {es : List Expr} {to : TE} {t : TA} {name : Str} {apos cpos : Pos} {T id : String} {r : V → List V → Hp → VK → Prop}
theorem pe_bm (pa : PlainAttrs T) (slot : Slot T name id) (hty : typeOf (.builtin id) = pure (.type "method_descriptor")) (hm : MtR X id r) (ho : PE X o to) (ha : PA X (e :: es) t)
    (hbase : attributeBase o name X.env (eval o X.env) = eval o X.env := by rfl)
    (hfew : ((backTo cpos (starEach (e :: es) X.env)).all (fun x => !x.1) && (backToKw cpos (keywordEach [] X.env)).all (fun x => x.1.isSome)
      && decide ((e :: es).length + ([] : List Keyword).length + (if ([] : List Keyword).isEmpty then 0 else 1) < 30)) = true := by rfl)
    (hline : (apos.endLine == cpos.line) = true := by rfl) (hs : starEach (e :: es) X.env = (false, eval e X.env) :: starEach es X.env := by rfl) (hplain : (backTo cpos (starEach es X.env)).any (·.1) = false := by rfl) :
    PE X (.Call (.Attribute o name apos) (e :: es) [] cpos) (tBM X.K T r to t) := by
  intro pins s σ H Q I h
  refine wpAny_Call_method_late hbase hfew hline rfl (thn (ho pins s σ H _ I h) fun v s1 ⟨x, H1, I1, r1, ty, q1⟩ => ?_)
  obtain ⟨h1, h2⟩ := tyV_is I1 r1 ty
  refine ⟨T, id, pa, slot, hty, h1, h2, ?_⟩
  have hA := ha cpos pins s1 σ H1 _ I1 q1
  rw [hs] at hA ⊢
  refine Calls.callWith_builtin (by show (false || (backTo cpos (starEach es X.env)).any (·.1)) = false; rw [hplain] <;> rfl) (Calls.evalArgs_plain ?_)
  exact thn hA fun us s2 ⟨vs, H2, I2, r2, q2⟩ => hm pins s2 σ H2 x vs v us Q I2 r1 r2 q2
end
end L2
namespace L2
open PySem PySem.Spec PyProof.Rows
def MtM (X : Cx) (id : String) (r : V → List V → Hp → VK → Prop) : Prop :=
  ∀ (pins : List (Addr × Obj)) (s : Shared) (σ : St) (H : Hp) (x : V) (xs : List V) (v : Value) (us : List Value) (Q : VK), Inv X pins σ H s → RelV x v → Vals xs us → r x xs H Q →
    wpAny (model X.prog X.w) X.A (call (.builtin id) (v :: us)) (EP X pins σ Q) X.xe s
theorem Vals.one : ∀ {x : V} {us : List Value}, Vals [x] us → ∃ u, us = [u] ∧ RelV x u
  | _, _, .cons r .nil => ⟨_, rfl, r⟩
theorem Vals.two : ∀ {x y : V} {us : List Value}, Vals [x, y] us → ∃ u v, us = [u, v] ∧ RelV x u ∧ RelV y v
  | _, _, _, .cons r (.cons q .nil) => ⟨_, _, rfl, r, q⟩
theorem Vals.zero : ∀ {us : List Value}, Vals [] us → us = []
  | _, .nil => rfl
theorem Vals.dropLast {xs : List V} {us : List Value} (h : Vals xs us) : Vals xs.dropLast us.dropLast := by
  induction h with
  | nil => exact .nil
  | cons r t ih =>
    cases t with
    | nil => exact .nil
    | cons q t' => exact .cons r ih
section
variable {X : Cx} {pins : List (Addr × Obj)} {σ : St} {H : Hp} {s : Shared} {l b : Addr} {xs ys zs : List V}
theorem Inv.lset {its its' : List Value} {n : Nat} {f : Array Value → Array Value} {t' : Nat} (I : Inv X pins σ H s) (hH : H l = some (.lst xs))
    (e : s.heap.get? l = some { cls := .type "list", data := .seq its.toArray n }) (hf : f its.toArray = its'.toArray) (hv : Vals ys its') (hz : ys.length ≤ sizeLine) :
    Inv X pins σ (upd H l (.lst ys)) { s with heap := s.heap.update l (Obj.mapSeq f), toks := t' } := by
  have q := PySem.IsL.update e f
  rw [hf] at q
  refine I.write (x := l) (e := l) (by rw [hH]; exact trivial) (.inl rfl) (fun b' u hb hu => (Heap.get?_update_other s.heap (Obj.mapSeq f) (Ne.symm hb)).trans hu) ⟨_, q⟩ ?_
  exact ⟨hz, its', _, hv, q⟩
theorem Inv.lnew {its : List Value} {t' : Nat} (I : Inv X pins σ H s) (hv : Vals ys its) (hz : ys.length ≤ sizeLine) :
    Inv X pins σ (upd H s.heap.objs.size (.lst ys)) { s with heap := s.heap.push { cls := .type "list", data := .seq its.toArray }, toks := t' } :=
  I.laid (fun _ _ q => Heap.get?_push_of_some _ q) (Nat.le_refl _) ⟨hz, its, 0, hv, Heap.get?_push_size _ rfl⟩
theorem Inv.fresh (I : Inv X pins σ H s) : H s.heap.objs.size = none := I.hok.fresh (Nat.le_refl _)
theorem Inv.lstM (I : Inv X pins σ H s) (hH : H l = some (.lst xs)) : xs.length ≤ sizeLine ∧ ∃ (its : List Value) (n : Nat), Vals xs its ∧ xs.length = its.length ∧ s.heap.get? l = some { cls := .type "list", data := .seq its.toArray n } := by
  obtain ⟨z, its, n, r, e⟩ := I.hok l _ hH
  exact ⟨z, its, n, r, r.length, e⟩
theorem notLongL {n : Nat} (h : n ≤ sizeLine) : Builtin.List.listTooLong n = false := by
  unfold Builtin.List.listTooLong
  exact decide_eq_false (by omega)
end
section
variable {X : Cx}
def rExtend : V → List V → Hp → VK → Prop := fun x vs H Q => ∃ l b xs zs, x = .ref l ∧ vs = [.ref b] ∧ H l = some (.lst xs) ∧ H b = some (.lst zs) ∧ xs.length + zs.length ≤ sizeLine ∧ Q .non (upd H l (.lst (xs ++ zs)))
theorem mt_extend : MtM X "list.extend" rExtend := by
  intro pins s σ H x vs v us Q I rx rv h
  obtain ⟨l, b, xs, zs, rfl, rfl, hH, hB, hz, q⟩ := h
  cases rx
  obtain ⟨u, rfl, ru⟩ := rv.one
  cases ru
  obtain ⟨z, its, n, r, hl, e⟩ := I.lstM hH
  obtain ⟨z2, its2, n2, r2, hl2, e2⟩ := I.lstM hB
  have hsz : its.toArray.size + its2.toArray.size ≤ sizeLine := by rw [List.size_toArray, List.size_toArray]; omega
  have hlong : ¬ (!its.toArray.isEmpty && Builtin.List.listTooLong (its.toArray.size + its2.toArray.size)) = true := by
    rw [notLongL hsz, Bool.and_false]
    exact Bool.false_ne_true
  refine call_meets F.slot_list_extend ⟨_, e, rfl⟩ F.entry_list_extend (F.args_list_extend_2 _ _)
    (AutoSeq1.list_extend_list_list_0 l its.toArray n b its2.toArray n2 hlong (by rw [List.size_toArray]; omega) (by omega)) ⟨e, e2, ?_⟩
  refine ⟨.non, _, I.lset (its' := its ++ its2) hH e (by simp) (r.append r2) ?_, rfl, q⟩
  rw [List.length_append]
  omega
def rCat : R2 := fun x y H Q => ∃ l b xs zs, x = .ref l ∧ y = .ref b ∧ H l = some (.lst xs) ∧ H b = some (.lst zs) ∧ xs.length + zs.length ≤ sizeLine ∧ ∀ p, H p = none → Q (.ref p) (upd H p (.lst (xs ++ zs)))
theorem op_cat : OpR X (binaryOp .Add) rCat := by
  intro pins s σ H x y v u Q I rx ry h
  obtain ⟨l, b, xs, zs, rfl, rfl, hH, hB, hz, q⟩ := h
  cases rx
  cases ry
  obtain ⟨z, its, n, r, hl, e⟩ := I.lstM hH
  obtain ⟨z2, its2, n2, r2, hl2, e2⟩ := I.lstM hB
  refine PySem.P.add_list e e2 ?_ (by rw [List.size_toArray, List.size_toArray]; omega)
  have ea : its.toArray ++ its2.toArray = (its ++ its2).toArray := by simp
  rw [ea]
  exact ⟨.ref _, _, I.lnew (t' := s.toks) (r.append r2) (by rw [List.length_append]; omega), rfl, q _ I.fresh⟩
end
section
variable {prog : Program} {w : World} {A : Around} {E : Value → Shared → Prop} {s : Shared}
end
section
variable {X : Cx}
end
end L2
namespace L2
open PySem PySem.Spec PyProof.Rows
theorem Vals.ints : ∀ {ns : List Int} {us : List Value}, Vals (ns.map V.int) us → IntsAre us ns
  | [], us, h => by
    rw [List.map_nil] at h
    cases h
    exact IntsAre.nil
  | n :: ns, us, h => by
    rw [List.map_cons] at h
    cases h with
    | cons r t =>
      obtain ⟨k, rfl⟩ := r
      exact IntsAre.cons n k (Vals.ints t)
theorem Vals.strs : ∀ {xs : List Str} {us : List Value}, Vals (xs.map V.str) us → StrsAre us xs
  | [], us, h => by
    rw [List.map_nil] at h
    cases h
    exact StrsAre.nil
  | x :: xs, us, h => by
    rw [List.map_cons] at h
    cases h with
    | cons r t =>
      obtain ⟨k, rfl⟩ := r
      exact StrsAre.cons x k (Vals.strs t)
section
variable {prog : Program} {w : World} {A : Around} {E : Value → Shared → Prop} {s : Shared} {l : Addr} {its : List Value} {ns : List Int} {Q : Value → Shared → Prop}
end
section
variable {X : Cx}
end
section
variable {X : Cx}
end
section
variable {X : Cx}
end
section
variable {X : Cx}
end
mutual
inductive Dp (K : PySem.W.Frag) (H : Hp) : V → PyData → Prop
  | non : Dp K H .non .none
  | bl (b : Bool) : Dp K H (.bl b) (.bool b)
  | int (i : Int) : Dp K H (.int i) (.int i)
  | str (x : Str) : Dp K H (.str x) (.str x)
  | lst {a : Addr} {xs : List V} {ds : List PyData} : SqL K H a xs → DpAll K H xs ds → Dp K H (.ref a) (.list ds)
  | tup {a : Addr} {xs : List V} {ds : List PyData} : SqT K H a xs → DpAll K H xs ds → Dp K H (.ref a) (.tuple ds)
inductive DpAll (K : PySem.W.Frag) (H : Hp) : List V → List PyData → Prop
  | nil : DpAll K H [] []
  | cons {v : V} {vs : List V} {d : PyData} {ds : List PyData} : Dp K H v d → DpAll K H vs ds → DpAll K H (v :: vs) (d :: ds)
end
section
variable {X : Cx} {pins : List (Addr × Obj)} {σ : St} {H : Hp} {s : Shared}
mutual
theorem Dp.reads (I : Inv X pins σ H s) : ∀ (d : PyData) (v : V) (u : Value), Dp X.K H v d → RelV v u → ∃ as, Reads s.heap u d as
  | .none, _, _, h, r => by
    cases h
    cases r
    exact ⟨_, Reads.none⟩
  | .bool b, _, _, h, r => by
    cases h
    cases r
    exact ⟨_, Reads.bool b⟩
  | .int i, _, _, h, r => by
    cases h
    obtain ⟨t, rfl⟩ := r
    exact ⟨_, Reads.int i t⟩
  | .str x, _, _, h, r => by
    cases h
    obtain ⟨t, rfl⟩ := r
    exact ⟨_, Reads.str x t⟩
  | .list ds, _, _, h, r => by
    cases h with
    | lst hs ha =>
      cases r
      obtain ⟨its, rv, ⟨o, n, ho, hc, _, hd⟩, _⟩ := I.list hs
      obtain ⟨as, hr⟩ := Dp.readsAll I ds _ its ha rv
      exact ⟨_, Reads.list ho hc hd hr⟩
  | .tuple ds, _, _, h, r => by
    cases h with
    | tup hs ha =>
      cases r
      obtain ⟨its, rv, ⟨o, ho, hc, n, hd⟩, _⟩ := I.tuple hs
      obtain ⟨as, hr⟩ := Dp.readsAll I ds _ its ha rv
      exact ⟨_, Reads.tuple ho hc hd hr⟩
  | .dict _, _, _, h, _ => by cases h
theorem Dp.readsAll (I : Inv X pins σ H s) : ∀ (ds : List PyData) (vs : List V) (us : List Value), DpAll X.K H vs ds → Vals vs us → ∃ as, ReadsAll s.heap us ds as
  | [], _, _, h, r => by
    cases h
    cases r
    exact ⟨_, ReadsAll.nil⟩
  | d :: ds, _, _, h, r => by
    cases h with
    | cons h1 h2 =>
      cases r with
      | cons r1 r2 =>
        obtain ⟨as, q1⟩ := Dp.reads I d _ _ h1 r1
        obtain ⟨bs, q2⟩ := Dp.readsAll I ds _ _ h2 r2
        exact ⟨_, ReadsAll.cons q1 q2⟩
end
end
section
variable {X : Cx}
def rNeD (K : PySem.W.Frag) : R2 := fun x y H Q => ∃ d e, Dp K H x d ∧ Dp K H y e ∧ SeqAt.shaped d = true ∧ SeqAt.shaped e = true ∧ Q (.bl (!PyData.eqv d e)) H
theorem op_neD (hu : X.A.units + 64 < cLine) : OpR X (compareOp .NotEq) (rNeD X.K) := by
  intro pins s σ H x y v u Q I rx ry h
  obtain ⟨d, e, hd, he, sd, se, q⟩ := h
  obtain ⟨as, r1⟩ := Dp.reads I d x v hd rx
  obtain ⟨bs, r2⟩ := Dp.reads I e y u he ry
  exact SeqAt.compareNe_shaped r1 r2 sd se hu ⟨.bl _, H, I, rfl, q⟩
end
end L2
namespace L2
open PySem PySem.Spec PyProof.Rows
section
variable {X : Cx} {pins : List (Addr × Obj)} {σ : St} {H : Hp} {s : Shared}
end
section
variable {X : Cx}
end
end L2
namespace L2
open PySem PySem.Spec PyProof.Rows
section
variable {prog : Program} {w : World} {A : Around} {R : Result → Shared → Prop} {s : Shared} {elt t0 i0 t1 i1 : Expr} {ifs0 ifs1 : List Expr} {scope : Scope} {pos : Pos} {it acc : Value} {env : Env}
end
section
variable {X : Cx}
end
end L2
namespace L2
open PySem PySem.Spec PyProof.Rows
section
variable {κ : Type} [DecidableEq κ]
def valV (kvs : List (κ × V)) (k : κ) : Option V := (kvs.find? fun kv => decide (kv.1 = k)).map (·.2)
def putK (kvs : List (κ × V)) (k : κ) (v : V) : List (κ × V) :=
  if (kvs.any fun kv => decide (kv.1 = k)) = true then kvs.map (fun kv => if kv.1 = k then (kv.1, v) else kv) else kvs ++ [(k, v)]
def dropK (kvs : List (κ × V)) (k : κ) : List (κ × V) := kvs.filter fun kv => decide (kv.1 ≠ k)
theorem valV_pos {p : κ × V} {r : List (κ × V)} {k : κ} (e : p.1 = k) : valV (p :: r) k = some p.2 := by simp [valV, List.find?_cons, e]
theorem valV_neg {p : κ × V} {r : List (κ × V)} {k : κ} (e : ¬ p.1 = k) : valV (p :: r) k = valV r k := by simp [valV, List.find?_cons, e]
theorem valV_any (k : κ) : ∀ kvs : List (κ × V), (kvs.any fun kv => decide (kv.1 = k)) = (valV kvs k).isSome
  | [] => rfl
  | p :: r => by
    rw [List.any_cons]
    by_cases e : p.1 = k
    · simp only [valV_pos e, decide_eq_true e, Bool.true_or, Option.isSome_some]
    · rw [valV_neg e, decide_eq_false e, Bool.false_or]; exact valV_any k r
theorem RelO.isSome_eq {o : Option V} {u : Option Value} (r : RelO o u) : o.isSome = u.isSome := by
  cases o with
  | none => cases u with
    | none => rfl
    | some _ => exact (show False from r).elim
  | some _ => cases u with
    | none => exact (show False from r).elim
    | some _ => rfl
theorem RelO.getD {o : Option V} {u : Option Value} {d : V} {d' : Value} (r : RelO o u) (rd : RelV d d') : RelV (o.getD d) (u.getD d') := by
  cases o with
  | none => cases u with
    | none => exact rd
    | some _ => exact (show False from r).elim
  | some _ => cases u with
    | none => exact (show False from r).elim
    | some _ => exact r
theorem KV.val {kvs : List (κ × V)} {vs : List (κ × Value)} (r : KV kvs vs) (k : κ) : RelO (valV kvs k) (valueAt vs k) := by
  unfold KV at r
  induction r with
  | nil => exact True.intro
  | @cons p q ps qs h t ih =>
    obtain ⟨h1, h2⟩ := h
    by_cases e : p.1 = k
    · have e' : q.1 = k := h1.symm.trans e
      have b : valueAt (q :: qs) k = some q.2 := by simp [valueAt, List.find?_cons, e']
      rw [valV_pos e, b]; exact h2
    · have e' : ¬ q.1 = k := fun z => e (h1.trans z)
      have b : valueAt (q :: qs) k = valueAt qs k := by simp [valueAt, List.find?_cons, e']
      rw [valV_neg e, b]; exact ih
theorem KV.any {kvs : List (κ × V)} {vs : List (κ × Value)} (r : KV kvs vs) (k : κ) : (kvs.any fun kv => decide (kv.1 = k)) = vs.any fun kv => decide (kv.1 = k) := by
  unfold KV at r
  induction r with
  | nil => rfl
  | cons h t ih => rw [List.any_cons, List.any_cons, ih, h.1]
theorem KV.repl {kvs : List (κ × V)} {vs : List (κ × Value)} (r : KV kvs vs) (k : κ) {y : V} {u : Value} (ry : RelV y u) :
    KV (kvs.map fun kv => if kv.1 = k then (kv.1, y) else kv) (vs.map fun kv => if kv.1 = k then (kv.1, u) else kv) := by
  unfold KV at r ⊢
  induction r with
  | nil => exact .nil
  | @cons p q ps qs h t ih =>
    rw [List.map_cons, List.map_cons]
    refine .cons ?_ ih
    obtain ⟨h1, h2⟩ := h
    by_cases e : p.1 = k
    · rw [if_pos e, if_pos (h1.symm.trans e)]; exact ⟨h1, ry⟩
    · rw [if_neg e, if_neg (fun z => e (h1.trans z))]; exact ⟨h1, h2⟩
theorem KV.put {kvs : List (κ × V)} {vs : List (κ × Value)} (r : KV kvs vs) (k : κ) {y : V} {u : Value} (ry : RelV y u) : KV (putK kvs k y) (stored vs k u) := by
  unfold putK stored
  rw [r.any k]
  by_cases e : (vs.any fun kv => decide (kv.1 = k)) = true
  · rw [if_pos e, if_pos e]; exact r.repl k ry
  · rw [if_neg e, if_neg e]; exact Paired.snoc r ⟨rfl, ry⟩
theorem KV.drop {kvs : List (κ × V)} {vs : List (κ × Value)} (r : KV kvs vs) (k : κ) : KV (dropK kvs k) (without vs k) := by
  unfold KV at r ⊢
  unfold dropK without
  induction r with
  | nil => exact .nil
  | @cons p q ps qs h t ih =>
    obtain ⟨h1, h2⟩ := h
    rw [List.filter_cons, List.filter_cons]
    by_cases e : p.1 = k
    · have a : ¬ decide (p.1 ≠ k) = true := by simp [e]
      have b : ¬ decide (q.1 ≠ k) = true := by simp [h1.symm.trans e]
      rw [if_neg a, if_neg b]; exact ih
    · have e' : ¬ q.1 = k := fun z => e (h1.trans z)
      have a : decide (p.1 ≠ k) = true := by simp [e]
      have b : decide (q.1 ≠ k) = true := by simp [e']
      rw [if_pos a, if_pos b]; exact .cons ⟨h1, h2⟩ ih
theorem KV.keys {kvs : List (κ × V)} {vs : List (κ × Value)} (r : KV kvs vs) : kvs.map (·.1) = vs.map (·.1) := by
  unfold KV at r
  induction r with
  | nil => rfl
  | cons h t ih => rw [List.map_cons, List.map_cons, ih, h.1]
theorem KV.length {kvs : List (κ × V)} {vs : List (κ × Value)} (r : KV kvs vs) : kvs.length = vs.length := Paired.length r
end
abbrev KT (H : Hp) : List (List Key × V) → List (List Key × Addr × Value) → Prop := Paired fun p q => p.1 = q.1 ∧ H q.2.1 = some (.tup (p.1.map kV)) ∧ RelV p.2 q.2.2
theorem KT.val {H : Hp} {kvs : List (List Key × V)} {xs : List (List Key × Addr × Value)} (r : KT H kvs xs) (k : List Key) : RelO (valV kvs k) ((atKey xs k).map (·.2)) := by
  induction r with
  | nil => exact True.intro
  | @cons p q ps qs h t ih =>
    obtain ⟨h1, _, h2⟩ := h
    by_cases e : p.1 = k
    · have e' : q.1 = k := h1.symm.trans e
      have b : atKey (q :: qs) k = some q.2 := by simp [atKey, List.find?_cons, e']
      rw [valV_pos e, b]; exact h2
    · have e' : ¬ q.1 = k := fun z => e (h1.trans z)
      have b : atKey (q :: qs) k = atKey qs k := by simp [atKey, List.find?_cons, e']
      rw [valV_neg e, b]; exact ih
theorem KT.repl {H : Hp} {kvs : List (List Key × V)} {xs : List (List Key × Addr × Value)} (r : KT H kvs xs) (k : List Key) {y : V} {u : Value} (ry : RelV y u) :
    KT H (kvs.map fun kv => if kv.1 = k then (kv.1, y) else kv) (xs.map (putAt k u)) := by
  induction r with
  | nil => exact .nil
  | @cons p q ps qs h t ih =>
    rw [List.map_cons, List.map_cons]
    refine .cons ?_ ih
    obtain ⟨h1, h2, h3⟩ := h
    unfold putAt
    by_cases e : p.1 = k
    · rw [if_pos e, if_pos (h1.symm.trans e)]; exact ⟨h1, h2, ry⟩
    · rw [if_neg e, if_neg (fun z => e (h1.trans z))]; exact ⟨h1, h2, h3⟩
theorem KT.put {H : Hp} {kvs : List (List Key × V)} {xs : List (List Key × Addr × Value)} (r : KT H kvs xs) (k : List Key) {b : Addr} {y : V} {u : Value} (hb : H b = some (.tup (k.map kV))) (ry : RelV y u) :
    KT H (putK kvs k y) (storedH xs k b u) := by
  have e : (kvs.any fun kv => decide (kv.1 = k)) = (atKey xs k).isSome := by
    rw [valV_any, (r.val k).isSome_eq, Option.isSome_map]
  unfold putK storedH
  rw [e]
  by_cases q : (atKey xs k).isSome = true
  · rw [if_pos q, if_pos q]; exact r.repl k ry
  · rw [if_neg q, if_neg q]; exact Paired.snoc r ⟨rfl, hb, ry⟩
theorem KT.keeps {H H' : Hp} {kvs : List (List Key × V)} {xs : List (List Key × Addr × Value)} (r : KT H kvs xs) (ht : ∀ b ys, H b = some (.tup ys) → H' b = some (.tup ys)) : KT H' kvs xs :=
  Paired.mapP r fun _ _ z => ⟨z.1, ht _ _ z.2.1, z.2.2⟩
section
variable {P : Program} {w : World} {H : Hp} {h : Heap} {a : Addr}
end
def DGet (H : Hp) (a : Addr) (y : V) (r : Option V) : Prop :=
  (∃ kvs k, Rd H a (.dK kvs) ∧ y = kV k ∧ r = valV kvs k) ∨ ∃ kvs k b, Rd H a (.dT kvs) ∧ y = .ref b ∧ H b = some (.tup (k.map kV)) ∧ r = valV kvs k
def DPut (H : Hp) (a : Addr) (y v : V) (H' : Hp) : Prop :=
  (∃ kvs k, H a = some (.dK kvs) ∧ y = kV k ∧ kvs.length < sizeLine ∧ H' = upd H a (.dK (putK kvs k v))) ∨
  ∃ kvs k b, H a = some (.dT kvs) ∧ y = .ref b ∧ H b = some (.tup (k.map kV)) ∧ kvs.length < sizeLine ∧ H' = upd H a (.dT (putK kvs k v))
theorem DGet.k {H : Hp} {a : Addr} {kvs : List (Key × V)} {k : Key} (e : H a = some (.dK kvs)) : DGet H a (kV k) (valV kvs k) := .inl ⟨kvs, k, .inl e, rfl, rfl⟩
theorem DGet.t {H : Hp} {a b : Addr} {kvs : List (List Key × V)} {k : List Key} (e : H a = some (.dT kvs)) (eb : H b = some (.tup (k.map kV))) : DGet H a (.ref b) (valV kvs k) := .inr ⟨kvs, k, b, .inl e, rfl, eb, rfl⟩
theorem DPut.k {H : Hp} {a : Addr} {kvs : List (Key × V)} {k : Key} {v : V} (e : H a = some (.dK kvs)) (hl : kvs.length < sizeLine) : DPut H a (kV k) v (upd H a (.dK (putK kvs k v))) := .inl ⟨kvs, k, e, rfl, hl, rfl⟩
theorem DPut.t {H : Hp} {a b : Addr} {kvs : List (List Key × V)} {k : List Key} {v : V} (e : H a = some (.dT kvs)) (eb : H b = some (.tup (k.map kV))) (hl : kvs.length < sizeLine) :
    DPut H a (.ref b) v (upd H a (.dT (putK kvs k v))) := .inr ⟨kvs, k, b, e, rfl, eb, hl, rfl⟩
section
variable {X : Cx} {pins : List (Addr × Obj)} {σ : St} {H : Hp} {s : Shared} {a : Addr} {y v : V} {u r : Value} {o : Option V} {A : Around} {E : Value → Shared → Prop}
end
section
variable {X : Cx} {pins : List (Addr × Obj)} {σ : St} {H : Hp} {s : Shared} {a : Addr} {kvs : List (Key × V)} {k : Key} {u : Value} {A : Around} {E : Value → Shared → Prop}
end
section
variable {X : Cx} {o i e value : Expr} {pos pos' tpos : Pos} {td ty tv : TE}
end
section
variable {X : Cx} {pos : Pos}
end
section
variable {X : Cx} {pins : List (Addr × Obj)} {σ : St} {H : Hp} {s : Shared} {a : Addr} {y d : V} {u r : Value} {o : Option V} {A : Around} {E : Value → Shared → Prop}
end
section
variable {X : Cx} {o e f : Expr} {apos cpos : Pos} {td ty tx : TE}
end
section
variable {X : Cx} {pins : List (Addr × Obj)} {σ : St} {H : Hp} {s : Shared} {a : Addr} {kvs : List (Key × V)} {A : Around} {E : Value → Shared → Prop}
end
section
variable {X : Cx} {pins : List (Addr × Obj)} {σ : St} {H : Hp} {s : Shared} {a : Addr} {y : V} {u : Value} {A : Around} {E : Value → Shared → Prop}
end
end L2
namespace L2
open PySem PySem.Spec PyProof.Rows
section
variable {prog : Program} {w : World} {A : Around} {E : Value → Shared → Prop}
end
section
variable {X : Cx}
end
end L2
namespace L2
open PySem PySem.Spec PyProof.Rows
section
variable {X : Cx} {pins : List (Addr × Obj)} {σ : St} {H : Hp} {s : Shared} {h' : Heap}
end
section
variable {X : Cx}
end
def RgC (i j c : Int) (n : Nat) : Prop := c ≠ 0 ∧ c.natAbs < 1073741824 ∧ Builtin.Range.small i j c = true ∧ Builtin.Range.rangeSize i j c = n
theorem RgC.neg {i j : Int} (ha : -(2 ^ 62) ≤ i) (ha' : i < 2 ^ 62) (hb : -(2 ^ 62) ≤ j) (hb' : j < 2 ^ 62) : RgC i j (-1) (i - j).toNat :=
  ⟨by decide, by decide, PySem.W.small_down ha ha' hb hb', PySem.W.rangeSize_downNat i j⟩
section
variable {X : Cx} {tg : Expr}
end
section
variable {X : Cx} {tg : Expr}
end
section
variable {prog : Program} {w : World} {A : Around} {E : Value → Shared → Prop} {s : Shared}
end
section
variable {X : Cx} {pins : List (Addr × Obj)} {σ : St} {H : Hp} {s : Shared} {d : Addr} {o : Obj}
end
section
variable {P : Program} {w : World} {K : PySem.W.Frag} {tg : Expr} {d : Addr} {o : Obj} {es : Array DictEntry} {ep : Nat}
end
section
variable {X : Cx} {tg e : Expr} {td : TE} {apos cpos : Pos}
end
def Ite (K : PySem.W.Frag) (a : Addr) : It :=
  ⟨fun i H => ∃ (xs : List V) (x : V), SqL K H a xs ∧ xs[i]? = some x, fun i H v H' => ∃ T x, v = .ref T ∧ H T = none ∧ H' = upd H T (.tup [.int (i : Nat), x]) ∧ ∀ xs, SqL K H a xs → xs[i]? = some x, fun i H => ∃ xs : List V, SqL K H a xs ∧ xs.length ≤ i⟩
def Itz (K : PySem.W.Frag) (a b : Addr) : It :=
  ⟨fun i H => ∃ (xs ys : List V) (x y : V), SqL K H a xs ∧ SqL K H b ys ∧ xs[i]? = some x ∧ ys[i]? = some y,
    fun i H v H' => ∃ T x y, v = .ref T ∧ H T = none ∧ H' = upd H T (.tup [x, y]) ∧ (∀ xs, SqL K H a xs → xs[i]? = some x) ∧ ∀ ys, SqL K H b ys → ys[i]? = some y,
    fun i H => ∃ xs ys : List V, SqL K H a xs ∧ SqL K H b ys ∧ (xs.length ≤ i ∨ ys.length ≤ i)⟩
end L2
section 
namespace Bits
open PySem PyProof.Rows
end Bits
end 
section 
namespace TL
open PySem PySem.Builtin PySem.Builtin.Str PySem.StrLaws
abbrev tl (x : Str) : List Nat := x.cps.toList
def pre (S l : List Nat) : Bool := l.take S.length == S
def par (S : List Nat) : List Nat → List Nat → Option (List Nat × List Nat)
  | _, [] => none
  | acc, c :: r => if pre S (c :: r) = true then some (acc, (c :: r).drop S.length) else par S (acc ++ [c]) r
end TL
end 
namespace L2
open PySem PySem.Spec PyProof.Rows
section
variable {X : Cx} {pins : List (Addr × Obj)} {σ : St} {H : Hp} {s : Shared} {Q : VK}
end
section
variable {X : Cx}
end
section
variable {X : Cx} {o e : Expr} {to te : TE}
end
end L2
namespace L2
open PySem PySem.Spec PyProof.Rows
section
variable {X : Cx}
end
theorem IsPart.raw {v : Value} {o : Option Int} (p : IsPart v o) : ∃ l : Option (Int × Tok), v = partValue l ∧ l.map (·.1) = o := by
  cases p with
  | none => exact ⟨none, rfl, rfl⟩
  | int i t => exact ⟨some (i, t), rfl, rfl⟩
end L2
namespace Att
open PySem PySem.W PySem.Calls PyProof.Rows
theorem ints_of_wellAll {P : Params} {h : Heap} : ∀ (ns : List Int) (vs : List Value), WellAll P h vs (ns.map WData.int) → IntsAre vs ns := by
  intro ns
  induction ns with
  | nil =>
    intro vs w
    rw [List.map_nil] at w
    cases w
    exact .nil
  | cons n ns ih =>
    intro vs w
    rw [List.map_cons] at w
    cases w with
    | cons a b =>
      cases a
      exact .cons _ _ (ih _ b)
section
variable {prog : Program} {w : World} {A : Around} {E : Value → Shared → Prop} {s : Shared} {K : Frag}
end
end Att
namespace L2
open PySem PySem.Spec PyProof.Rows
theorem vals_ints : ∀ {vs : List Value} {ns : List Int}, IntsAre vs ns → Vals (ns.map V.int) vs
  | _, _, .nil => .nil
  | _, _, .cons n t h => .cons ⟨t, rfl⟩ (vals_ints h)
end L2
namespace L2
open PySem PySem.Spec PyProof.Rows
end L2
namespace L2
open PySem PySem.Spec PyProof.Rows
def inClass (s : Stmt) (j : Nat) : Stmt := match s with
  | .ClassDef _ _ _ body _ _ _ _ _ _ _ => body.getD j (.Pass ⟨0, 0, 0, 0⟩)
  | _ => .Pass ⟨0, 0, 0, 0⟩
def defArgs (s : Stmt) : Arguments := match s with
  | .FunctionDef _ a _ _ _ _ _ _ _ _ => a
  | _ => { posonlyargs := [], args := [], vararg := none, kwonlyargs := [], kw_defaults := [], kwarg := none, defaults := [] }
def defBody (s : Stmt) : List Stmt := match s with
  | .FunctionDef _ _ b _ _ _ _ _ _ _ => b
  | _ => []
def defScope (s : Stmt) : Scope := match s with
  | .FunctionDef _ _ _ _ _ _ sc _ _ _ => sc
  | _ => { kind := .function, names := [], isGenerator := false, isCoroutine := false }
abbrev CX0 : CXT := fun _ _ _ _ _ _ => False
abbrev E0 : XK := fun _ _ _ => False
theorem pass0 {X : Cx} : Passes CX0 X E0 := fun _ _ _ _ _ _ _ h => h.elim
structure Fun (K : PySem.W.Frag) (x qual : Str) (st : Stmt) (f : Addr) (fd : FuncData) : Prop where
  ex : ∃ (oc : Value) (od : Option Addr) (kV doc pm : Value) (an : Option Addr) (cdv ct : Value) (osl : Array (Option Value)),
    fd = PySem.W.fnOf x qual (defArgs st) (defBody st) (defScope st) .none kV doc pm an cdv ct ∧ K.lookup f = some ⟨oc, od, .func fd, osl⟩ ∧ PySem.W.codeIn K cdv qual = true
  kp : PySem.W.keepIn K (.ref f) = true
section
variable {P : Program} {w : World} {K : PySem.W.Frag} {mg : Str → Option Value} {base : Heap}
theorem Fun.ok {x qual : Str} {st : Stmt} {f : Addr} {fd : FuncData} {N ps : List Str} {k : Nat} {sp : Sp} (F : Fun K x qual st f fd) (S : FnScope N ps (defScope st)) (len : ∀ vs H Q E, sp vs H Q E → vs.length = ps.length)
    (hbody : ∀ (cdv : Value) (A : Around) (outer : List Env) (s : Shared) (H : Hp) (vs : List V) (Q : VK) (E : XK), Room k (A.deeper (envOfC qual (defScope st) s.heap.objs.size f cdv)) → sp vs H Q E →
      ∃ t, PSs (cxOf CX0 P w K mg base N qual (defScope st) f cdv A outer s H E).nox (defBody st) t ∧ t { nx := fun _ H' => Q .non H', rt := Q } (start N vs) H) : FnOk P w K mg base CX0 (k + 1) f fd ps sp := by
  obtain ⟨oc, od, kV, doc, pm, an, cdv, ct, osl, rfl, lk, hcd⟩ := F.ex
  refine fn_of lk hcd S len fun A outer s H vs Q E hr hsp => ?_
  obtain ⟨t, h, q⟩ := hbody cdv A outer s H vs Q E hr hsp
  exact ⟨t, h.nox, q⟩
theorem Fun.binds {x qual : Str} {st : Stmt} {f : Addr} {fd : FuncData} {ps : List Str} (F : Fun K x qual st f fd)
    (h : ∀ (kV doc pm : Value) (an : Option Addr) (cdv ct : Value) (us : List Value), us.length = ps.length → bindArgs (PySem.W.fnOf x qual (defArgs st) (defBody st) (defScope st) .none kV doc pm an cdv ct) ⟨us, []⟩ = pure (ps.zip us)) : Binds K fd ps [] := by
  obtain ⟨oc, od, kV, doc, pm, an, cdv, ct, osl, rfl, lk, hcd⟩ := F.ex
  exact .all (h kV doc pm an cdv ct)
theorem fun_mk {x qual : Str} {st : Stmt} {f : Addr} {oc : Value} {od an : Option Addr} {osl : Array (Option Value)} {kV doc pm cdv ct : Value} (l : K.lookup f = some ⟨oc, od, .func (PySem.W.fnOf x qual (defArgs st) (defBody st) (defScope st) .none kV doc pm an cdv ct), osl⟩)
    (c : PySem.W.codeIn K cdv qual = true) (k : PySem.W.keepIn K (.ref f) = true) : Fun K x qual st f (PySem.W.fnOf x qual (defArgs st) (defBody st) (defScope st) .none kV doc pm an cdv ct) := ⟨⟨oc, od, kV, doc, pm, an, cdv, ct, osl, rfl, l, c⟩, k⟩
end
section
variable {X : Cx}
theorem pv (i : Nat) {x : Str} {pos : Pos} (hN : X.N[i]? = some x := by rfl) (hv : Vis X.env.scope x := by first | exact Or.inl rfl | exact Or.inr (Or.inl rfl) | exact Or.inr (Or.inr rfl)) (hd : (x == ("__debug__" : Str)) = false := by decide)
    (hcd : (x == ("__classdict__" : Str)) = false := by decide) : PE X (.Name x pos) (tVar i) := pe_var hN hv hd hcd
end
theorem iteF {A B : Prop} (h : B) : if false = true then A else B := by
  rw [if_neg Bool.false_ne_true]
  exact h
theorem iteT {A B : Prop} (h : A) : if true = true then A else B := by
  rw [if_pos rfl]
  exact h
def Same (H H' : Hp) : Prop := ∀ b o, H b = some o → H' b = some o
theorem Same.refl (H : Hp) : Same H H := fun _ _ h => h
theorem Same.trans {H H1 H2 : Hp} (a : Same H H1) (b : Same H1 H2) : Same H H2 := fun c o h => b c o (a c o h)
theorem Same.free {H H' : Hp} (e : Same H H') {l : Addr} (h : H' l = Option.none) : H l = Option.none := by
  cases q : H l with
  | none => rfl
  | some o =>
    rw [e l o q] at h
    cases h
theorem Same.seq {K : PySem.W.Frag} {H H' : Hp} {a : Addr} {xs : List V} (e : Same H H') (h : SqL K H a xs) : SqL K H' a xs := by
  rcases h with (h | ⟨o, h⟩) | h
  · exact .inl (.inl (e _ _ h))
  · exact .inl (.inr ⟨o, e _ _ h⟩)
  · exact .inr h
section
variable {κ : Type} [DecidableEq κ]
end
theorem at_of {xs : List V} {z : Int} {j : Nat} {v : V} (e : z = (j : Int)) (h : xs[j]? = some v) : atI xs z = some v := by
  rw [e]
  exact atI_nat h
theorem Same.made {H H1 : Hp} {x dx C : Addr} (nx : H x = Option.none) (nd : H dx = Option.none) (k : ∀ b o, (upd (upd H dx (.own x)) x (.ins C dx [])) b = some o → b ≠ x → H1 b = some o) : Same H H1 := fun b o e =>
  k b o (by rw [upd_ne (ne_of_none e nx), upd_ne (ne_of_none e nd)]; exact e) (ne_of_none e nx)
end L2

namespace My
theorem xor_half (a b : Nat) : (a ^^^ b) / 2 = (a / 2) ^^^ (b / 2) := Nat.xor_div_two_pow (n := 1)
theorem and_half (a b : Nat) : (a &&& b) / 2 = (a / 2) &&& (b / 2) := Nat.and_div_two_pow (n := 1)
theorem xor_low (a b : Nat) : (a ^^^ b) % 2 = (a % 2) ^^^ (b % 2) := Nat.xor_mod_two_pow (n := 1)
theorem and_low (a b : Nat) : (a &&& b) % 2 = (a % 2) &&& (b % 2) := Nat.and_mod_two_pow (n := 1)
theorem or_half (a b : Nat) : (a ||| b) / 2 = (a / 2) ||| (b / 2) := Nat.or_div_two_pow (n := 1)
theorem or_low (a b : Nat) : (a ||| b) % 2 = (a % 2) ||| (b % 2) := Nat.or_mod_two_pow (n := 1)
theorem xor_and : ∀ (a b : Nat), a + b = (a ^^^ b) + 2 * (a &&& b) := by
  intro a
  induction a using Nat.strongRecOn with
  | _ a ih =>
    intro b
    by_cases h0 : a = 0
    · subst h0; simp
    · have h := ih (a / 2) (by omega) (b / 2)
      rw [← xor_half, ← and_half] at h
      have l1 := xor_low a b
      have l2 := and_low a b
      rcases Nat.mod_two_eq_zero_or_one a with ha | ha <;> rcases Nat.mod_two_eq_zero_or_one b with hb | hb <;> rw [ha, hb] at l1 l2 <;> simp only [Nat.reduceXor, Nat.reduceAnd, Nat.reduceOr, Nat.xor_self, Nat.and_self, Nat.or_self, Nat.xor_zero, Nat.zero_xor, Nat.and_zero, Nat.zero_and, Nat.or_zero, Nat.zero_or] at l1 l2 <;> omega
theorem or_and : ∀ (a b : Nat), a + b = (a ||| b) + (a &&& b) := by
  intro a
  induction a using Nat.strongRecOn with
  | _ a ih =>
    intro b
    by_cases h0 : a = 0
    · subst h0; simp
    · have h := ih (a / 2) (by omega) (b / 2)
      rw [← or_half, ← and_half] at h
      have l1 := or_low a b
      have l2 := and_low a b
      rcases Nat.mod_two_eq_zero_or_one a with ha | ha <;> rcases Nat.mod_two_eq_zero_or_one b with hb | hb <;> rw [ha, hb] at l1 l2 <;> simp only [Nat.reduceXor, Nat.reduceAnd, Nat.reduceOr, Nat.xor_self, Nat.and_self, Nat.or_self, Nat.xor_zero, Nat.zero_xor, Nat.and_zero, Nat.zero_and, Nat.or_zero, Nat.zero_or] at l1 l2 <;> omega
end My

namespace My
def P : Nat := 0x82F63B78
def stp (c : Nat) : Nat := if c % 2 = 1 then Nat.xor (c / 2) 0x82F63B78 else c / 2
def sel (c : Nat) : Nat := if c % 2 = 1 then 0x82F63B78 else 0
theorem stp_eq (c : Nat) : stp c = (c / 2) ^^^ sel c := by
  unfold stp sel
  split
  · rfl
  · simp
theorem sel_xor (a b : Nat) : sel (a ^^^ b) = sel a ^^^ sel b := by
  have h : (a ^^^ b) % 2 = (a % 2) ^^^ (b % 2) := Nat.xor_mod_two_pow (n := 1)
  unfold sel
  rw [h]
  rcases Nat.mod_two_eq_zero_or_one a with ha | ha <;> rcases Nat.mod_two_eq_zero_or_one b with hb | hb <;> rw [ha, hb] <;> decide
theorem stp_xor (a b : Nat) : stp (a ^^^ b) = stp a ^^^ stp b := by
  rw [stp_eq, stp_eq, stp_eq, sel_xor]
  have h : (a ^^^ b) / 2 = (a / 2) ^^^ (b / 2) := Nat.xor_div_two_pow (n := 1)
  rw [h]
  rw [Nat.xor_assoc, Nat.xor_assoc]
  congr 1
  rw [← Nat.xor_assoc, ← Nat.xor_assoc, Nat.xor_comm (sel a)]
theorem stp_even (q : Nat) : stp (2 * q) = q := by
  unfold stp
  rw [if_neg (by omega)]
  omega
def stp4 (c : Nat) : Nat := stp (stp (stp (stp c)))
theorem stp4_xor (a b : Nat) : stp4 (a ^^^ b) = stp4 a ^^^ stp4 b := by
  unfold stp4
  rw [stp_xor, stp_xor, stp_xor, stp_xor]
theorem stp4_16 (q : Nat) : stp4 (16 * q) = q := by
  unfold stp4
  have h : 16 * q = 2 * (2 * (2 * (2 * q))) := by omega
  rw [h, stp_even, stp_even, stp_even, stp_even]
theorem split16 (x : Nat) : x = (16 * (x / 16)) ^^^ (x % 16) := by
  have h := Nat.two_pow_add_eq_or_of_lt (i := 4) (b := x % 16) (by omega) (x / 16)
  apply Nat.eq_of_testBit_eq
  intro i
  have e : x = 2 ^ 4 * (x / 16) + x % 16 := by omega
  rw [Nat.testBit_xor]
  conv => lhs; rw [e, h, Nat.testBit_or]
  show ((16 * (x / 16)).testBit i || (x % 16).testBit i) = _
  have : (16 * (x / 16)).testBit i = (decide (4 ≤ i) && (x / 16).testBit (i - 4)) := by
    rw [show 16 * (x / 16) = 2 ^ 4 * (x / 16) from rfl, Nat.testBit_two_pow_mul]
  rw [this]
  by_cases hi : 4 ≤ i
  · have : (x % 16).testBit i = false := Nat.testBit_lt_two_pow (Nat.lt_of_lt_of_le (show x % 16 < 2 ^ 4 by omega) (Nat.pow_le_pow_right (by decide) hi))
    simp [this]
  · simp [hi]
def tab : List Nat := [0, 274646895, 549293790, 820201905, 1098587580, 1361435347, 1640403810, 1905808397, 2197175160, 2460548119, 2722870694, 2987750089, 3280807620, 3553878443, 3811616794, 4084100981]
theorem tab_ok : ∀ r, r < 16 → stp4 r = tab.getD r 0 := by decide
theorem stp4_tab (x : Nat) : stp4 x = (x / 16) ^^^ tab.getD (x % 16) 0 := by
  conv => lhs; rw [split16 x]
  rw [stp4_xor, stp4_16, tab_ok _ (Nat.mod_lt _ (by decide))]
/-- the program's turn over naturals -/
def nib (x : Nat) : Nat := (x / 16) ^^^ tab.getD (x % 16) 0
def turn (c b : Nat) : Nat := nib (nib (c ^^^ b))
theorem turn_crc (c b : Nat) : turn c b = Sv13.crcByte c b := by
  unfold turn nib
  rw [← stp4_tab, ← stp4_tab]
  rfl
def tab8 : List Nat := [0, 4067132163, 3778769143, 324072436, 3348797215, 904991772, 648144872, 3570033899, 2329499855, 2024987596, 1809983544, 2575936315, 1296289744, 3207089363, 2893594407, 1578318884, 274646895, 3795141740, 4049975192, 51262619, 3619967088, 632279923, 922689671, 3298075524, 2592579488, 1760304291, 2075979607, 2312596564, 1562183871, 2943781820, 3156637768, 1313733451, 549293790, 3537243613, 3246849577, 871202090, 3878099393, 357341890, 102525238, 4101499445, 2858735121, 1477399826, 1264559846, 3107202533, 1845379342, 2677391885, 2361733625, 2125378298, 820201905, 3263744690, 3520608582, 598981189, 4151959214, 85089709, 373468761, 3827903834, 3124367742, 1213305469, 1526817161, 2842354314, 2107672161, 2412447074, 2627466902, 1861252501, 1098587580, 3004210879, 2688576843, 1378610760, 2262928035, 1955203488, 1742404180, 2511436119, 3416409459, 969524848, 714683780, 3639785095, 205050476, 4266873199, 3976438427, 526918040, 1361435347, 2739821008, 2954799652, 1114974503, 2529119692, 1691668175, 2005155131, 2247081528, 3690758684, 697762079, 986182379, 3366744552, 476452099, 3993867776, 4250756596, 255256311, 1640403810, 2477592673, 2164122517, 1922457750, 2791048317, 1412925310, 1197962378, 3037525897, 3944729517, 427051182, 170179418, 4165941337, 746937522, 3740196785, 3451792453, 1070968646, 1905808397, 2213795598, 2426610938, 1657317369, 3053634322, 1147748369, 1463399397, 2773627110, 4215344322, 153784257, 444234805, 3893493558, 1021025245, 3467647198, 3722505002, 797665321, 2197175160, 1889384571, 1674398607, 2443626636, 1164749927, 3070701412, 2757221520, 1446797203, 137323447, 4198817972, 3910406976, 461344835, 3484808360, 1037989803, 781091935, 3705997148, 2460548119, 1623424788, 1939049696, 2180517859, 1429367560, 2807687179, 3020495871, 1180866812, 410100952, 3927582683, 4182430767, 186734380, 3756733383, 763408580, 1053836080, 3434856499, 2722870694, 1344288421, 1131464017, 2971354706, 1708204729, 2545590714, 2229949006, 1988219213, 680717673, 3673779818, 3383336350, 1002577565, 4010310262, 493091189, 238226049, 4233660802, 2987750089, 1082061258, 1395524158, 2705686845, 1972364758, 2279892693, 2494862625, 1725896226, 952904198, 3399985413, 3656866545, 731699698, 4283874585, 222117402, 510512622, 3959836397, 3280807620, 837199303, 582374963, 3504198960, 68661723, 4135334616, 3844915500, 390545967, 1230274059, 3141532936, 2825850620, 1510247935, 2395924756, 2091215383, 1878366691, 2644384480, 3553878443, 565732008, 854102364, 3229815391, 340358836, 3861050807, 4117890627, 119113024, 1493875044, 2875275879, 3090270611, 1247431312, 2660249211, 1828433272, 2141937292, 2378227087, 3811616794, 291187481, 34330861, 4032846830, 615137029, 3603020806, 3314634738, 939183345, 1776939221, 2609017814, 2295496738, 2058945313, 2926798794, 1545135305, 1330124605, 3173225534, 4084100981, 17165430, 307568514, 3762199681, 888469610, 3332340585, 3587147933, 665062302, 2042050490, 2346497209, 2559330125, 1793573966, 3190661285, 1279665062, 1595330642, 2910671697]
def stp8 (c : Nat) : Nat := stp4 (stp4 c)
theorem stp8_xor (a b : Nat) : stp8 (a ^^^ b) = stp8 a ^^^ stp8 b := by
  unfold stp8
  rw [stp4_xor, stp4_xor]
theorem stp8_256 (q : Nat) : stp8 (256 * q) = q := by
  unfold stp8
  have h : 256 * q = 16 * (16 * q) := by omega
  rw [h, stp4_16, stp4_16]
theorem split256 (x : Nat) : x = (256 * (x / 256)) ^^^ (x % 256) := by
  have h := Nat.two_pow_add_eq_or_of_lt (i := 8) (b := x % 256) (by omega) (x / 256)
  apply Nat.eq_of_testBit_eq
  intro i
  have e : x = 2 ^ 8 * (x / 256) + x % 256 := by omega
  rw [Nat.testBit_xor]
  conv => lhs; rw [e, h, Nat.testBit_or]
  show ((256 * (x / 256)).testBit i || (x % 256).testBit i) = _
  have : (256 * (x / 256)).testBit i = (decide (8 ≤ i) && (x / 256).testBit (i - 8)) := by
    rw [show 256 * (x / 256) = 2 ^ 8 * (x / 256) from rfl, Nat.testBit_two_pow_mul]
  rw [this]
  by_cases hi : 8 ≤ i
  · have : (x % 256).testBit i = false := Nat.testBit_lt_two_pow (Nat.lt_of_lt_of_le (show x % 256 < 2 ^ 8 by omega) (Nat.pow_le_pow_right (by decide) hi))
    simp [this]
  · simp [hi]
theorem tab8_ok : ∀ r, r < 256 → stp8 r = tab8.getD r 0 := by decide +kernel
theorem tab8_length : tab8.length = 256 := by decide +kernel
/-- the program's turn over naturals -/
theorem turn8 {c b : Nat} (hb : b < 256) : Sv13.crcByte c b = (c / 256) ^^^ tab8.getD ((c ^^^ b) % 256) 0 := by
  have e : Sv13.crcByte c b = stp8 (c ^^^ b) := rfl
  rw [e]
  conv => lhs; rw [split256 (c ^^^ b)]
  rw [stp8_xor, stp8_256, tab8_ok _ (Nat.mod_lt _ (by decide))]
  congr 1
  have h : (c ^^^ b) / 256 = (c / 256) ^^^ (b / 256) := Nat.xor_div_two_pow (n := 8)
  rw [h, Nat.div_eq_of_lt hb, Nat.xor_zero]
theorem crcByte_lt {c b : Nat} (hc : c < 2 ^ 32) (hb : b < 256) : Sv13.crcByte c b < 2 ^ 32 := by
  rw [turn8 hb]
  refine Nat.xor_lt_two_pow (n := 32) (by omega) ?_
  have h : ∀ r, r < 256 → tab8.getD r 0 < 2 ^ 32 := by decide +kernel
  exact h _ (Nat.mod_lt _ (by decide))
theorem crc_lt {l : List Nat} {st : Nat} (hs : st < 2 ^ 32) (hl : ∀ x ∈ l, x < 256) : Sv13.crc l st < 2 ^ 32 := by
  have h : ∀ (l : List Nat) (c : Nat), c < 2 ^ 32 → (∀ x ∈ l, x < 256) → l.foldl Sv13.crcByte c < 2 ^ 32 := by
    intro l
    induction l with
    | nil => intro c hc _; exact hc
    | cons x r ih =>
      intro c hc hx
      exact ih _ (crcByte_lt hc (hx x List.mem_cons_self)) fun y hy => hx y (List.mem_cons_of_mem _ hy)
  unfold Sv13.crc
  exact Nat.xor_lt_two_pow (n := 32) (h l _ (Nat.xor_lt_two_pow (n := 32) hs (by decide)) hl) (by decide)
/-- gone on with -/
theorem crc_on (a b : List Nat) (st : Nat) : Sv13.crc (a ++ b) st = Sv13.crc b (Sv13.crc a st) := by
  unfold Sv13.crc
  rw [List.foldl_append]
  congr 2
  have : ∀ x y : Nat, Nat.xor (Nat.xor x y) y = x := fun x y => by
    show (x ^^^ y) ^^^ y = x
    rw [Nat.xor_assoc, Nat.xor_self, Nat.xor_zero]
  rw [this]
end My

set_option linter.all false
namespace My
open Sv13
/-! ### a block writer, as the program has it -/
structure BW where
  body : Bytes
  rs : List Nat
  n : Nat
  last : Bytes
def BW.new : BW := ⟨[], [0], 0, []⟩
def BW.sh (iv : Nat) (b : BW) (k : Bytes) : Nat := if b.n % iv ≠ 0 then common b.last k else 0
def BW.put (iv : Nat) (b : BW) (k v : Bytes) : BW :=
  ⟨b.body ++ varint (b.sh iv k) ++ varint (k.length - b.sh iv k) ++ varint v.length ++ k.drop (b.sh iv k) ++ v,
   if b.n % iv ≠ 0 then b.rs else if 0 < b.n then b.rs ++ [b.body.length] else b.rs, b.n + 1, k⟩
def BW.size (b : BW) : Nat := b.body.length + 4 * b.rs.length + 4
def BW.content (b : BW) : Bytes := b.body ++ b.rs.flatMap (little 4) ++ little 4 b.rs.length
def BW.bld (iv : Nat) (b : BW) : Building := ⟨b.body, b.rs, if b.n = 0 then 0 else (b.n - 1) % iv + 1, b.last⟩
theorem step_mod {n iv : Nat} (hi : 0 < iv) (hn : 0 < n) : n % iv = if (n - 1) % iv + 1 < iv then (n - 1) % iv + 1 else 0 := by
  have h1 := Nat.div_add_mod (n - 1) iv
  have h2 := Nat.mod_lt (n - 1) hi
  generalize (n - 1) % iv = r at *
  have e : n = (r + 1) + iv * ((n - 1) / iv) := by omega
  split
  · rename_i h
    rw [e, Nat.add_mul_mod_self_left, Nat.mod_eq_of_lt h]
  · rename_i h
    have : r + 1 = iv := by omega
    rw [e, Nat.add_mul_mod_self_left, this, Nat.mod_self]
theorem bld_put {iv : Nat} {b : BW} (hi : 0 < iv) (h0 : b.n = 0 → b.last = []) (k v : Bytes) : (b.put iv k v).bld iv = (b.bld iv).add iv k v := by
  by_cases hn : b.n = 0
  · have e1 : b.sh iv k = 0 := by simp [BW.sh, hn]
    have e2 : common b.last k = 0 := by rw [h0 hn]; rfl
    simp only [BW.put, BW.bld, Building.add, e1, hn]
    simp [hi, e2]
  · have hp : 0 < b.n := by omega
    have hm := step_mod hi hp
    simp only [BW.put, BW.bld, Building.add, BW.sh, if_neg hn]
    by_cases hg : (b.n - 1) % iv + 1 < iv
    · rw [if_pos hg] at hm
      simp [hm, hg]
    · rw [if_neg hg] at hm
      simp [hm, hg, hp]
theorem bld_new (iv : Nat) : BW.new.bld iv = {} := rfl
theorem bld_size (iv : Nat) (b : BW) : (b.bld iv).size = b.size := rfl
theorem bld_whole (iv : Nat) (b : BW) : (b.bld iv).whole = b.content := rfl
def BW.ok (b : BW) : Prop := b.n = 0 → b.last = []
theorem BW.ok_new : BW.new.ok := fun _ => rfl
theorem BW.ok_put (iv : Nat) (b : BW) (k v : Bytes) : (b.put iv k v).ok := fun h => absurd h (Nat.succ_ne_zero _)
theorem sevens_pos (f n : Nat) : 0 < (sevens (f + 1) n).length := by
  unfold sevens
  split <;> simp
theorem varint_pos (n : Nat) : 0 < (varint n).length := sevens_pos 9 n
theorem put_body_ne (iv : Nat) (b : BW) (k v : Bytes) : (b.put iv k v).body ≠ [] := by
  intro h
  have h2 := congrArg List.length h
  simp only [BW.put, List.length_append, List.length_nil] at h2
  have := varint_pos v.length
  omega
/-! ### data blocks -/
abbrev Blk := List Bytes × Bytes
structure DB where
  blocks : List Blk
  w : BW
  keys : List Bytes
def DB.new : DB := ⟨[], BW.new, []⟩
def DB.step (iv size : Nat) (s : DB) (e : Entry) : DB :=
  if size ≤ (s.w.put iv e.1 e.2).size then ⟨s.blocks ++ [(s.keys ++ [e.1], (s.w.put iv e.1 e.2).content)], BW.new, []⟩ else ⟨s.blocks, s.w.put iv e.1 e.2, s.keys ++ [e.1]⟩
def DB.fin (s : DB) : List Blk := if s.keys = [] then s.blocks else s.blocks ++ [(s.keys, s.w.content)]
def dataBlocks (iv size : Nat) (l : List Entry) : List Blk := (l.foldl (DB.step iv size) DB.new).fin
def outOf (bs : List Blk) : Bytes := bs.flatMap fun b => raw b.2
theorem outOf_snoc (bs : List Blk) (b : Blk) : outOf (bs ++ [b]) = outOf bs ++ raw b.2 := by simp [outOf]
theorem raw_length (c : Bytes) : (raw c).length = c.length + 5 := by simp [raw, little]
def lastOf (b : Blk) : Bytes := b.1.getLastD []
def firstOf (b : Blk) : Bytes := b.1.headD []
/-- the index's pairs, the key behind the last block's being next -/
def pairs (p : Nat) : List Blk → Bytes → List (Bytes × Bytes)
  | [], _ => []
  | [b], next => [(between (lastOf b) next, (Handle.mk p b.2.length).bytes)]
  | b :: c :: r, next => (between (lastOf b) (firstOf c), (Handle.mk p b.2.length).bytes) :: pairs (p + b.2.length + 5) (c :: r) next
theorem pairs_snoc : ∀ (bs : List Blk) (p : Nat) (b : Blk) (next : Bytes),
    pairs p (bs ++ [b]) next = pairs p bs (firstOf b) ++ [(between (lastOf b) next, (Handle.mk (p + (outOf bs).length) b.2.length).bytes)]
  | [], p, b, next => by simp [pairs, outOf]
  | [a], p, b, next => by simp [pairs, outOf, raw_length, Nat.add_assoc]
  | a :: c :: r, p, b, next => by
    have ih := pairs_snoc (c :: r) (p + a.2.length + 5) b next
    show (between (lastOf a) (firstOf c), (Handle.mk p a.2.length).bytes) :: pairs (p + a.2.length + 5) ((c :: r) ++ [b]) next = _
    rw [ih]
    have e : (outOf (a :: c :: r)).length = a.2.length + 5 + (outOf (c :: r)).length := by
      show (raw a.2 ++ outOf (c :: r)).length = _
      rw [List.length_append, raw_length]
    rw [e]
    simp only [pairs, List.cons_append, Nat.add_assoc]
def addAll (ps : List (Bytes × Bytes)) : Building := ps.foldl (fun ix p => ix.add 1 p.1 p.2) {}
theorem addAll_snoc (ps : List (Bytes × Bytes)) (p : Bytes × Bytes) : addAll (ps ++ [p]) = (addAll ps).add 1 p.1 p.2 := by simp [addAll]
/-! ### the filter -/
/-- the data blocks by where they begin -/
def begun (p : Nat) : List Blk → List (Nat × List Bytes)
  | [] => []
  | b :: r => (p, b.1) :: begun (p + b.2.length + 5) r
theorem begun_snoc : ∀ (bs : List Blk) (p : Nat) (b : Blk), begun p (bs ++ [b]) = begun p bs ++ [(p + (outOf bs).length, b.1)]
  | [], p, b => by simp [begun, outOf]
  | a :: r, p, b => by
    show (p, a.1) :: begun (p + a.2.length + 5) (r ++ [b]) = (p, a.1) :: begun (p + a.2.length + 5) r ++ _
    rw [begun_snoc r]
    have e : (outOf (a :: r)).length = a.2.length + 5 + (outOf r).length := by
      show (raw a.2 ++ outOf r).length = _
      rw [List.length_append, raw_length]
    rw [e, List.cons_append, Nat.add_assoc, Nat.add_assoc, Nat.add_assoc]
theorem begun_lt : ∀ (bs : List Blk) (p : Nat), ∀ x ∈ begun p bs, x.1 < p + (outOf bs).length
  | [], p, x, h => by simp [begun] at h
  | a :: r, p, x, h => by
    have e : (outOf (a :: r)).length = a.2.length + 5 + (outOf r).length := by
      show (raw a.2 ++ outOf r).length = _
      rw [List.length_append, raw_length]
    rcases List.mem_cons.mp (show x ∈ (p, a.1) :: begun (p + a.2.length + 5) r from h) with rfl | h
    · rw [e]; show p < _; omega
    · have := begun_lt r _ x h
      rw [e]; omega
def pieceKeys (bk : List (Nat × List Bytes)) (i : Nat) : List Bytes := bk.flatMap fun x => if x.1 / 2048 = i then x.2 else []
def pc (bits : Nat) (ks : List Bytes) : Bytes := if ks = [] then [] else filter bits ks
def res (bits : Nat) (bk : List (Nat × List Bytes)) (n : Nat) : Bytes := (List.range n).flatMap fun i => pc bits (pieceKeys bk i)
def offs (bits : Nat) (bk : List (Nat × List Bytes)) (n : Nat) : List Nat := (List.range n).map fun i => (res bits bk i).length
theorem res_succ (bits : Nat) (bk : List (Nat × List Bytes)) (n : Nat) : res bits bk (n + 1) = res bits bk n ++ pc bits (pieceKeys bk n) := by
  simp [res, List.range_succ]
theorem offs_succ (bits : Nat) (bk : List (Nat × List Bytes)) (n : Nat) : offs bits bk (n + 1) = offs bits bk n ++ [(res bits bk n).length] := by
  simp [offs, List.range_succ]
theorem pieceKeys_snoc (bk : List (Nat × List Bytes)) (p : Nat) (ks : List Bytes) (i : Nat) : pieceKeys (bk ++ [(p, ks)]) i = pieceKeys bk i ++ if p / 2048 = i then ks else [] := by
  simp [pieceKeys]
theorem pieceKeys_none {bk : List (Nat × List Bytes)} {i : Nat} (h : ∀ x ∈ bk, x.1 / 2048 ≠ i) : pieceKeys bk i = [] := by
  unfold pieceKeys
  rw [List.flatMap_eq_nil_iff]
  intro x hx
  rw [if_neg (h x hx)]
theorem res_snoc {bits : Nat} {bk : List (Nat × List Bytes)} {p : Nat} {ks : List Bytes} (n : Nat) (h : n ≤ p / 2048) : res bits (bk ++ [(p, ks)]) n = res bits bk n := by
  generalize hq : p / 2048 = q at h
  induction n with
  | zero => simp only [res, List.range_zero, List.flatMap_nil]
  | succ n ih =>
    have hne : ¬ p / 2048 = n := by omega
    rw [res_succ, res_succ, ih (by omega), pieceKeys_snoc, if_neg hne, List.append_nil]
theorem offs_snoc {bits : Nat} {bk : List (Nat × List Bytes)} {p : Nat} {ks : List Bytes} (n : Nat) (h : n ≤ p / 2048) : offs bits (bk ++ [(p, ks)]) n = offs bits bk n := by
  generalize hq : p / 2048 = q at h
  induction n with
  | zero => simp only [offs, List.range_zero, List.map_nil]
  | succ n ih => rw [offs_succ, offs_succ, ih (by omega), res_snoc n (by omega)]
def filtAt (bits : Nat) (bk : List (Nat × List Bytes)) (n : Nat) : Filters := ⟨res bits bk n, offs bits bk n, pieceKeys bk n⟩
theorem close_filtAt {bits : Nat} {bk : List (Nat × List Bytes)} {n : Nat} (h : ∀ x ∈ bk, x.1 / 2048 ≤ n) : (filtAt bits bk n).close bits = filtAt bits bk (n + 1) := by
  unfold filtAt Filters.close
  rw [res_succ, offs_succ, pieceKeys_none (i := n + 1) fun x hx => by have := h x hx; omega]
  simp only [pc]
  split <;> simp
theorem offs_length (bits : Nat) (bk : List (Nat × List Bytes)) (n : Nat) : (offs bits bk n).length = n := by simp [offs]
theorem closes_filtAt {bits : Nat} {bk : List (Nat × List Bytes)} {n : Nat} (h : ∀ x ∈ bk, x.1 / 2048 ≤ n) : ∀ k : Nat, (List.range k).foldl (fun f _ => f.close bits) (filtAt bits bk n) = filtAt bits bk (n + k)
  | 0 => rfl
  | k + 1 => by
    rw [List.range_succ, List.foldl_append, closes_filtAt h k]
    show (filtAt bits bk (n + k)).close bits = _
    rw [close_filtAt fun x hx => Nat.le_trans (h x hx) (Nat.le_add_right _ _)]
    rfl
theorem upTo_filtAt {bits : Nat} {bk : List (Nat × List Bytes)} {n m : Nat} (h : ∀ x ∈ bk, x.1 / 2048 ≤ n) (hm : n ≤ m / 2048) : (filtAt bits bk n).upTo bits m = filtAt bits bk (m / 2048) := by
  unfold Filters.upTo
  have e : (filtAt bits bk n).offsets.length = n := offs_length bits bk n
  rw [e, closes_filtAt h]
  congr 1
  omega
/-! ### the table -/
structure Opt where
  iv : Nat
  size : Nat
  bits : Nat
/-- what the specification's maker has, by the program's blocks -/
structure Rel (o : Options) (s : DB) (t : Making) : Prop where
  out : t.out = outOf s.blocks
  data : t.data = s.w.bld o.interval
  wok : s.w.ok
  emp : s.keys = [] → s.w = BW.new
  ful : s.keys ≠ [] → s.w.body ≠ []
  last : s.keys ≠ [] → t.last = s.keys.getLastD []
  open_ : s.keys ≠ [] → t.pending = none ∧ t.index = addAll (pairs 0 s.blocks (s.keys.headD []))
  shut : s.keys = [] → ∀ bs b, s.blocks = bs ++ [b] → t.pending = some ⟨(outOf bs).length, b.2.length⟩ ∧ t.index = addAll (pairs 0 bs (firstOf b)) ∧ t.last = lastOf b
  none_ : s.keys = [] → s.blocks = [] → t.pending = none ∧ t.index = {}
  filt : o.bits ≠ 0 → t.filters = ⟨res o.bits (begun 0 s.blocks) (t.out.length / 2048), offs o.bits (begun 0 s.blocks) (t.out.length / 2048), pieceKeys (begun 0 s.blocks) (t.out.length / 2048) ++ s.keys⟩
theorem rel_new (o : Options) : Rel o DB.new {} where
  out := rfl
  data := rfl
  wok := BW.ok_new
  emp := fun _ => rfl
  ful := fun h => absurd rfl h
  last := fun h => absurd rfl h
  open_ := fun h => absurd rfl h
  shut := fun _ bs b h => by simp [DB.new] at h
  none_ := fun _ _ => ⟨rfl, rfl⟩
  filt := fun _ => rfl
end My

set_option linter.all false
namespace My
open Sv13
/-- the spec's state ahead of its flush -/
def Making.add1 (o : Options) (t : Making) (e : Entry) : Making :=
  { t.indexed (between t.last e.1) with data := (t.indexed (between t.last e.1)).data.add o.interval e.1 e.2, last := e.1, filters := { (t.indexed (between t.last e.1)).filters with keys := if o.bits = 0 then [] else (t.indexed (between t.last e.1)).filters.keys ++ [e.1] } }
theorem add_eq (o : Options) (t : Making) (e : Entry) : Making.add o t e = if o.block ≤ (Making.add1 o t e).data.size then (Making.add1 o t e).flush o else Making.add1 o t e := rfl
theorem snoc_cases {α : Type} (l : List α) : l = [] ∨ ∃ r x, l = r ++ [x] := by
  rcases List.eq_nil_or_concat l with h | ⟨r, x, h⟩
  · exact .inl h
  · exact .inr ⟨r, x, by simpa using h⟩
theorem headD_snoc {α : Type} {l : List α} {x d : α} (h : l ≠ []) : (l ++ [x]).headD d = l.headD d := by
  cases l with
  | nil => exact absurd rfl h
  | cons a r => rfl
theorem indexed_fields (t : Making) (k : Bytes) : (t.indexed k).out = t.out ∧ (t.indexed k).data = t.data ∧ (t.indexed k).filters = t.filters ∧ (t.indexed k).last = t.last ∧ (t.indexed k).pending = none := by
  unfold Making.indexed
  cases h : t.pending with
  | none => simp [h]
  | some x => simp
/-- the state with an entry put in, whether or not it is full -/
def DB.open (iv : Nat) (s : DB) (e : Entry) : DB := ⟨s.blocks, s.w.put iv e.1 e.2, s.keys ++ [e.1]⟩
theorem rel_open {o : Options} {s : DB} {t : Making} (hi : 0 < o.interval) (r : Rel o s t) (e : Entry) : Rel o (s.open o.interval e) (Making.add1 o t e) := by
  obtain ⟨i1, i2, i3, i4, i5⟩ := indexed_fields t (between t.last e.1)
  have hne : s.keys ++ [e.1] ≠ [] := by simp
  refine ⟨?_, ?_, BW.ok_put _ _ _ _, fun h => absurd h hne, fun _ => put_body_ne _ _ _ _, fun _ => ?_, fun _ => ⟨i5, ?_⟩, fun h => absurd h hne, fun h => absurd h hne, fun hb => ?_⟩
  · show (t.indexed _).out = _
    rw [i1, r.out]; rfl
  · show (t.indexed _).data.add o.interval e.1 e.2 = _
    rw [i2, r.data, ← bld_put hi r.wok]; rfl
  · show e.1 = (s.keys ++ [e.1]).getLastD []
    simp
  · show (t.indexed (between t.last e.1)).index = addAll (pairs 0 s.blocks ((s.keys ++ [e.1]).headD []))
    by_cases hk : s.keys = []
    · rw [hk]
      show _ = addAll (pairs 0 s.blocks e.1)
      rcases snoc_cases s.blocks with hb | ⟨bs, b, hb⟩
      · obtain ⟨p1, p2⟩ := r.none_ hk hb
        unfold Making.indexed
        rw [p1, hb]
        simp only [p2, pairs]
        rfl
      · obtain ⟨p1, p2, p3⟩ := r.shut hk bs b hb
        unfold Making.indexed
        rw [p1, hb, pairs_snoc, addAll_snoc]
        simp only [p2, p3, Nat.zero_add]
    · obtain ⟨p1, p2⟩ := r.open_ hk
      unfold Making.indexed
      rw [p1, headD_snoc hk]
      exact p2
  · have hf := r.filt hb
    show ({ (t.indexed (between t.last e.1)).filters with keys := if o.bits = 0 then [] else (t.indexed (between t.last e.1)).filters.keys ++ [e.1] } : Filters) = _
    rw [i3, if_neg hb, hf]
    show _ = (⟨res o.bits (begun 0 s.blocks) ((t.indexed (between t.last e.1)).out.length / 2048), offs o.bits (begun 0 s.blocks) ((t.indexed (between t.last e.1)).out.length / 2048), pieceKeys (begun 0 s.blocks) ((t.indexed (between t.last e.1)).out.length / 2048) ++ (s.keys ++ [e.1])⟩ : Filters)
    rw [i1]
    simp only [List.append_assoc]
def DB.shut (s : DB) : DB := ⟨s.blocks ++ [(s.keys, s.w.content)], BW.new, []⟩
theorem rel_flush {o : Options} {s : DB} {t : Making} (r : Rel o s t) (hk : s.keys ≠ []) : Rel o s.shut (t.flush o) := by
  have hb : t.data.buf ≠ [] := by rw [r.data]; exact r.ful hk
  have hfl : t.flush o = { t with out := (put t.out t.data.whole).1, pending := some (put t.out t.data.whole).2, data := {}, filters := t.filters.upTo o.bits (put t.out t.data.whole).1.length } := by
    unfold Making.flush
    rw [if_neg hb]
  have hw : t.data.whole = s.w.content := by rw [r.data]; rfl
  have ho : (put t.out t.data.whole).1 = outOf (s.blocks ++ [(s.keys, s.w.content)]) := by
    rw [outOf_snoc, hw, r.out]; rfl
  rw [hfl]
  refine ⟨ho, rfl, BW.ok_new, fun _ => rfl, fun h => absurd rfl h, fun h => absurd rfl h, fun h => absurd rfl h, fun _ bs b hbs => ?_, fun _ h => ?_, fun hbits => ?_⟩
  · have hbs : s.blocks ++ [(s.keys, s.w.content)] = bs ++ [b] := hbs
    obtain ⟨e1, e2⟩ := List.append_inj' hbs rfl
    have e2 : (s.keys, s.w.content) = b := by simpa using e2
    subst e2
    subst e1
    obtain ⟨p1, p2⟩ := r.open_ hk
    refine ⟨?_, p2, r.last hk⟩
    show some (Handle.mk t.out.length t.data.whole.length) = _
    rw [hw, r.out]
  · have h : s.blocks ++ [(s.keys, s.w.content)] = [] := h
    simp at h
  · have hf := r.filt hbits
    show t.filters.upTo o.bits (put t.out t.data.whole).1.length = (⟨res o.bits (begun 0 (s.blocks ++ [(s.keys, s.w.content)])) ((put t.out t.data.whole).1.length / 2048), offs o.bits (begun 0 (s.blocks ++ [(s.keys, s.w.content)])) ((put t.out t.data.whole).1.length / 2048), pieceKeys (begun 0 (s.blocks ++ [(s.keys, s.w.content)])) ((put t.out t.data.whole).1.length / 2048) ++ []⟩ : Filters)
    rw [List.append_nil]
    have hb2 : begun 0 (s.blocks ++ [(s.keys, s.w.content)]) = begun 0 s.blocks ++ [(t.out.length, s.keys)] := by
      rw [begun_snoc, r.out, Nat.zero_add]
    have hlt := begun_lt s.blocks 0
    rw [Nat.zero_add, ← r.out] at hlt
    have hf2 : t.filters = filtAt o.bits (begun 0 (s.blocks ++ [(s.keys, s.w.content)])) (t.out.length / 2048) := by
      rw [hf, hb2]
      unfold filtAt
      rw [res_snoc _ (Nat.le_refl _), offs_snoc _ (Nat.le_refl _), pieceKeys_snoc, if_pos rfl]
    have hlen : t.out.length ≤ (put t.out t.data.whole).1.length := by
      show _ ≤ (t.out ++ raw t.data.whole).length
      rw [List.length_append]; omega
    rw [hf2, upTo_filtAt (fun x hx => ?_) (Nat.div_le_div_right hlen)]
    · rfl
    · rw [hb2] at hx
      rcases List.mem_append.mp hx with hx | hx
      · exact Nat.div_le_div_right (Nat.le_of_lt (hlt x hx))
      · have : x = (t.out.length, s.keys) := by simpa using hx
        rw [this]
        exact Nat.le_refl _
theorem rel_step {o : Options} {s : DB} {t : Making} (hi : 0 < o.interval) (r : Rel o s t) (e : Entry) : Rel o (s.step o.interval o.block e) (Making.add o t e) := by
  have h1 := rel_open hi r e
  rw [add_eq]
  have hs : (Making.add1 o t e).data.size = (s.w.put o.interval e.1 e.2).size := by rw [h1.data]; rfl
  unfold DB.step
  rw [hs]
  by_cases hc : o.block ≤ (s.w.put o.interval e.1 e.2).size
  · rw [if_pos hc, if_pos hc]
    exact rel_flush h1 (by show s.keys ++ [e.1] ≠ []; simp)
  · rw [if_neg hc, if_neg hc]
    exact h1
theorem rel_all {o : Options} (hi : 0 < o.interval) : ∀ (l : List Entry) (s : DB) (t : Making), Rel o s t → Rel o (l.foldl (DB.step o.interval o.block) s) (l.foldl (Making.add o) t)
  | [], s, t, r => r
  | e :: l, s, t, r => rel_all hi l _ _ (rel_step hi r e)
/-! ### the table as the program makes it -/
def piecesN (bs : List Blk) : Nat := (outOf bs).length / 2048 + if (begun 0 bs).any (fun x => x.1 / 2048 == (outOf bs).length / 2048) then 1 else 0
def filterOf (bits : Nat) (bk : List (Nat × List Bytes)) (n : Nat) : Bytes := res bits bk n ++ (offs bits bk n ++ [(res bits bk n).length]).flatMap (little 4) ++ [11]
def idxPairs (bs : List Blk) : List (Bytes × Bytes) := match bs.getLast? with
  | some b => pairs 0 bs.dropLast (firstOf b) ++ [(behind (lastOf b), (Handle.mk (outOf bs.dropLast).length b.2.length).bytes)]
  | none => []
def idxContent (ps : List (Bytes × Bytes)) : Bytes := (ps.foldl (fun w p => w.put 1 p.1 p.2) BW.new).content
def metaContent (iv : Nat) : Option Handle → Bytes
  | some h => (BW.new.put iv NAME h.bytes).content
  | none => BW.new.content
def tableM (iv size bits : Nat) (l : List Entry) : Bytes :=
  let bs := dataBlocks iv size l
  let f := if bits = 0 then (outOf bs, none) else let x := put (outOf bs) (filterOf bits (begun 0 bs) (piecesN bs)); (x.1, some x.2)
  let m := put f.1 (metaContent iv f.2)
  let x := put m.1 (idxContent (idxPairs bs))
  x.1 ++ footer m.2 x.2
theorem addAll_bw : ∀ (ps : List (Bytes × Bytes)) (w : BW), w.ok → (ps.foldl (fun w p => w.put 1 p.1 p.2) w).bld 1 = ps.foldl (fun ix p => ix.add 1 p.1 p.2) (w.bld 1)
  | [], w, _ => rfl
  | p :: r, w, h => by
    rw [List.foldl_cons, List.foldl_cons, addAll_bw r _ (BW.ok_put _ _ _ _), bld_put (by decide) h]
theorem idx_whole (ps : List (Bytes × Bytes)) : (addAll ps).whole = idxContent ps := by
  unfold addAll idxContent
  rw [← bld_whole 1, addAll_bw ps BW.new BW.ok_new]
  rfl
theorem meta_none (iv : Nat) : ({} : Building).whole = metaContent iv none := rfl
theorem meta_some {iv : Nat} (hi : 0 < iv) (h : Handle) : (({} : Building).add iv NAME h.bytes).whole = metaContent iv (some h) := by
  show (({} : Building).add iv NAME h.bytes).whole = (BW.new.put iv NAME h.bytes).content
  rw [← bld_whole iv, bld_put hi BW.ok_new]
  rfl
/-- the maker behind its last flush, by the blocks -/
theorem rel_fin {o : Options} {s : DB} {t : Making} (r : Rel o s t) : ∃ s' : DB, s'.blocks = s.fin ∧ s'.keys = [] ∧ Rel o s' (t.flush o) := by
  by_cases hk : s.keys = []
  · refine ⟨s, by simp [DB.fin, hk], hk, ?_⟩
    have hb : t.data.buf = [] := by rw [r.data, r.emp hk]; rfl
    unfold Making.flush
    rw [if_pos hb]
    exact r
  · exact ⟨s.shut, by simp [DB.fin, hk, DB.shut], rfl, rel_flush r hk⟩
theorem blk_keys_step {iv size : Nat} {s : DB} {e : Entry} (h : ∀ b ∈ s.blocks, b.1 ≠ []) : ∀ b ∈ (s.step iv size e).blocks, b.1 ≠ [] := by
  unfold DB.step
  intro b hb
  split at hb
  · rcases List.mem_append.mp hb with hb | hb
    · exact h b hb
    · have : b = (s.keys ++ [e.1], (s.w.put iv e.1 e.2).content) := by simpa using hb
      rw [this]
      simp
  · exact h b hb
theorem blk_keys : ∀ {iv size : Nat} (l : List Entry) (s : DB), (∀ b ∈ s.blocks, b.1 ≠ []) → ∀ b ∈ (l.foldl (DB.step iv size) s).blocks, b.1 ≠ []
  | _, _, [], s, h => h
  | _, _, e :: l, s, h => blk_keys l _ (blk_keys_step h)
theorem fin_keys {s : DB} (h : ∀ b ∈ s.blocks, b.1 ≠ []) : ∀ b ∈ s.fin, b.1 ≠ [] := by
  unfold DB.fin
  intro b hb
  split at hb
  · exact h b hb
  · rename_i hk
    rcases List.mem_append.mp hb with hb | hb
    · exact h b hb
    · have : b = (s.keys, s.w.content) := by simpa using hb
      rw [this]
      exact hk
theorem begun_mem : ∀ (bs : List Blk) (p : Nat) (x : Nat × List Bytes), x ∈ begun p bs → ∃ b ∈ bs, b.1 = x.2
  | [], p, x, h => by simp [begun] at h
  | a :: r, p, x, h => by
    rcases List.mem_cons.mp (show x ∈ (p, a.1) :: begun (p + a.2.length + 5) r from h) with rfl | h
    · exact ⟨a, List.mem_cons_self, rfl⟩
    · obtain ⟨b, hb, e⟩ := begun_mem r _ x h
      exact ⟨b, List.mem_cons_of_mem _ hb, e⟩
theorem whole_filterOf {bits : Nat} {bs : List Blk} (hk : ∀ b ∈ bs, b.1 ≠ []) : Filters.whole (filtAt bits (begun 0 bs) ((outOf bs).length / 2048)) bits = filterOf bits (begun 0 bs) (piecesN bs) := by
  generalize hn : (outOf bs).length / 2048 = n
  have hle : ∀ x ∈ begun 0 bs, x.1 / 2048 ≤ n := fun x hx => by
    have := begun_lt bs 0 x hx
    rw [← hn]
    exact Nat.div_le_div_right (by omega)
  have hfin : ∀ m, (filtAt bits (begun 0 bs) m).result ++ (filtAt bits (begun 0 bs) m).offsets.flatMap (little 4) ++ little 4 (filtAt bits (begun 0 bs) m).result.length ++ [11] = filterOf bits (begun 0 bs) m := fun m => by
    show res bits (begun 0 bs) m ++ (offs bits (begun 0 bs) m).flatMap (little 4) ++ little 4 (res bits (begun 0 bs) m).length ++ [11] = res bits (begun 0 bs) m ++ (offs bits (begun 0 bs) m ++ [(res bits (begun 0 bs) m).length]).flatMap (little 4) ++ [11]
    rw [List.flatMap_append]
    simp only [List.flatMap_cons, List.flatMap_nil, List.append_nil, List.append_assoc]
  have hany : (pieceKeys (begun 0 bs) n = []) ↔ (begun 0 bs).any (fun x => x.1 / 2048 == n) = false := by
    rw [List.any_eq_false]
    unfold pieceKeys
    rw [List.flatMap_eq_nil_iff]
    constructor
    · intro h x hx he
      have h1 := h x hx
      have he : x.1 / 2048 = n := by simpa using he
      rw [if_pos he] at h1
      obtain ⟨b, hb, e⟩ := begun_mem bs 0 x hx
      exact hk b hb (e.trans h1)
    · intro h x hx
      have h1 := h x hx
      rw [if_neg (by simpa using h1)]
  unfold Filters.whole piecesN
  rw [hn]
  by_cases he : pieceKeys (begun 0 bs) n = []
  · rw [hany.mp he]
    show (if (filtAt bits (begun 0 bs) n).keys = [] then (filtAt bits (begun 0 bs) n) else (filtAt bits (begun 0 bs) n).close bits).result ++ (if (filtAt bits (begun 0 bs) n).keys = [] then (filtAt bits (begun 0 bs) n) else (filtAt bits (begun 0 bs) n).close bits).offsets.flatMap (little 4) ++ little 4 (if (filtAt bits (begun 0 bs) n).keys = [] then (filtAt bits (begun 0 bs) n) else (filtAt bits (begun 0 bs) n).close bits).result.length ++ [11] = _
    have he' : (filtAt bits (begun 0 bs) n).keys = [] := he
    rw [if_pos he', hfin]
    simp
  · have hany' : (begun 0 bs).any (fun x => x.1 / 2048 == n) = true := by
      cases q : (begun 0 bs).any (fun x => x.1 / 2048 == n) with
      | true => rfl
      | false => exact absurd (hany.mpr q) he
    rw [hany']
    show (if (filtAt bits (begun 0 bs) n).keys = [] then (filtAt bits (begun 0 bs) n) else (filtAt bits (begun 0 bs) n).close bits).result ++ (if (filtAt bits (begun 0 bs) n).keys = [] then (filtAt bits (begun 0 bs) n) else (filtAt bits (begun 0 bs) n).close bits).offsets.flatMap (little 4) ++ little 4 (if (filtAt bits (begun 0 bs) n).keys = [] then (filtAt bits (begun 0 bs) n) else (filtAt bits (begun 0 bs) n).close bits).result.length ++ [11] = _
    have he' : ¬ (filtAt bits (begun 0 bs) n).keys = [] := he
    rw [if_neg he', close_filtAt hle, hfin]
    simp
theorem make_eq {o : Options} (hi : 0 < o.interval) (l : List Entry) : Sv13.make o l = tableM o.interval o.block o.bits l := by
  obtain ⟨s', hb, hk, r⟩ := rel_fin (rel_all hi l DB.new {} (rel_new o))
  have hks : ∀ b ∈ s'.blocks, b.1 ≠ [] := by
    rw [hb]
    exact fin_keys (blk_keys l DB.new fun b h => by simp [DB.new] at h)
  have hbl : s'.blocks = dataBlocks o.interval o.block l := hb
  have hidx : ((((l.foldl (Making.add o) {}).flush o).indexed (behind ((l.foldl (Making.add o) {}).flush o).last)).index).whole = idxContent (idxPairs s'.blocks) := by
    generalize (l.foldl (Making.add o) {}).flush o = t at r
    rcases snoc_cases s'.blocks with h0 | ⟨bs, b, h0⟩
    · obtain ⟨p1, p2⟩ := r.none_ hk h0
      unfold Making.indexed
      rw [p1, h0]
      simp only [p2]
      rfl
    · obtain ⟨p1, p2, p3⟩ := r.shut hk bs b h0
      unfold Making.indexed
      rw [p1, h0]
      simp only [p2, p3]
      have e : idxPairs (bs ++ [b]) = pairs 0 bs (firstOf b) ++ [(behind (lastOf b), (Handle.mk (outOf bs).length b.2.length).bytes)] := by
        simp [idxPairs]
      rw [e, ← idx_whole, addAll_snoc]
  have hout := r.out
  have hflt : o.bits ≠ 0 → ((l.foldl (Making.add o) {}).flush o).filters.whole o.bits = filterOf o.bits (begun 0 s'.blocks) (piecesN s'.blocks) := fun hz => by
    rw [← whole_filterOf hks, r.filt hz, hk, List.append_nil, hout]
    rfl
  unfold Sv13.make tableM
  rw [← hbl]
  simp only [hidx, hout]
  by_cases hz : o.bits = 0
  · simp only [if_pos hz, meta_none o.interval]
  · simp only [if_neg hz, hflt hz, meta_some hi]
end My

set_option linter.all false
namespace My
open Sv13
/-! ### numbers in bytes -/
theorem little_succ (k n : Nat) : little (k + 1) n = little k n ++ [n / 256 ^ k % 256] := by
  simp [little, List.range_succ]
theorem little_zero (n : Nat) : little 0 n = [] := rfl
theorem little_length (k n : Nat) : (little k n).length = k := by simp [little]
theorem little_byte {k n : Nat} : ∀ x ∈ little k n, x < 256 := by
  intro x h
  simp only [little, List.mem_map] at h
  obtain ⟨i, _, rfl⟩ := h
  exact Nat.mod_lt _ (by decide)
theorem div_pow_succ (n k : Nat) : n / 256 ^ (k + 1) = n / 256 ^ k / 256 := by
  rw [Nat.pow_succ, Nat.div_div_eq_div_mul]
/-- what a varint's loop has: the bytes so far, the rest -/
def Sev (n : Nat) (done : Bytes) (rest : Nat) : Prop := ∃ f, sevens 10 n = done ++ sevens (f + 1) rest ∧ rest < 128 ^ (f + 1)
theorem sev_start {n : Nat} (h : n < 128 ^ 10) : Sev n [] n := ⟨9, rfl, h⟩
theorem sev_step {n : Nat} {done : Bytes} {rest : Nat} (h : Sev n done rest) (hr : 127 < rest) : Sev n (done ++ [128 + rest % 128]) (rest / 128) := by
  obtain ⟨f, e, hl⟩ := h
  cases f with
  | zero => simp at hl; omega
  | succ f =>
    refine ⟨f, ?_, ?_⟩
    · rw [e]
      have : sevens (f + 1 + 1) rest = (rest % 128 + 128) :: sevens (f + 1) (rest / 128) := by
        conv => lhs; unfold sevens
        rw [if_neg (by omega)]
      rw [this, Nat.add_comm (rest % 128)]
      simp
    · rw [Nat.pow_succ] at hl
      exact Nat.div_lt_of_lt_mul (by rw [Nat.mul_comm]; exact hl)
theorem sev_end {n : Nat} {done : Bytes} {rest : Nat} (h : Sev n done rest) (hr : rest ≤ 127) : varint n = done ++ [rest] := by
  obtain ⟨f, e, hl⟩ := h
  unfold varint
  rw [e]
  have : sevens (f + 1) rest = [rest] := by
    unfold sevens
    rw [if_pos (by omega)]
  rw [this]
theorem sevens_length : ∀ (f n : Nat), (sevens f n).length ≤ f
  | 0, n => by simp [sevens]
  | f + 1, n => by
    unfold sevens
    split
    · simp
    · simp only [List.length_cons]
      have := sevens_length f (n / 128)
      omega
theorem varint_length (n : Nat) : (varint n).length ≤ 10 := sevens_length 10 n
theorem sevens_byte : ∀ (f n : Nat), ∀ x ∈ sevens f n, x < 256
  | 0, n, x, h => by simp [sevens] at h
  | f + 1, n, x, h => by
    unfold sevens at h
    split at h
    · have : x = n := by simpa using h
      omega
    · rcases List.mem_cons.mp h with h | h
      · omega
      · exact sevens_byte f _ x h
theorem varint_byte (n : Nat) : ∀ x ∈ varint n, x < 256 := sevens_byte 10 n
/-- a number of bytes, place by place -/
theorem ofLittle_append (a b : Bytes) : ofLittle (a ++ b) = ofLittle a + 256 ^ a.length * ofLittle b := by
  induction a with
  | nil => simp [ofLittle]
  | cons x r ih =>
    have e : ofLittle (x :: r ++ b) = x % 256 + 256 * ofLittle (r ++ b) := rfl
    have e2 : ofLittle (x :: r) = x % 256 + 256 * ofLittle r := rfl
    rw [e, ih, e2, List.length_cons, Nat.pow_succ]
    generalize ofLittle r = p
    generalize ofLittle b = q
    generalize 256 ^ r.length = z
    rw [Nat.mul_add, Nat.mul_comm z 256, Nat.mul_assoc]
    omega
theorem ofLittle_one {x : Nat} (h : x < 256) : ofLittle [x] = x := by
  show x % 256 + 256 * 0 = x
  omega
theorem slice_succ {b : Bytes} {i n x : Nat} (h : b[i + n]? = some x) : slice b i (n + 1) = slice b i n ++ [x] := by
  unfold slice
  rw [List.take_succ, List.getElem?_drop, h]
  rfl
theorem slice_length {b : Bytes} {i n : Nat} (h : i + n ≤ b.length) : (slice b i n).length = n := by
  unfold slice
  rw [List.length_take, List.length_drop]
  omega
theorem ofLittle_slice {b : Bytes} {i n x : Nat} (h : b[i + n]? = some x) (hx : x < 256) : ofLittle (slice b i (n + 1)) = ofLittle (slice b i n) + x * 256 ^ n := by
  have hl : i + n < b.length := (List.getElem?_eq_some_iff.mp h).1
  rw [slice_succ h, ofLittle_append, ofLittle_one hx, slice_length (by omega), Nat.mul_comm]
theorem ofLittle_lt : ∀ (b : Bytes), ofLittle b < 256 ^ b.length
  | [] => by simp [ofLittle]
  | x :: r => by
    have e2 : ofLittle (x :: r) = x % 256 + 256 * ofLittle r := rfl
    have := ofLittle_lt r
    rw [e2, List.length_cons, Nat.pow_succ]
    have := Nat.mod_lt x (show 0 < 256 by decide)
    omega
theorem ofLittle4 {a b c d : Nat} (ha : a < 256) (hb : b < 256) (hc : c < 256) (hd : d < 256) : ofLittle [a, b, c, d] = a + 2 ^ 8 * b + 2 ^ 16 * c + 2 ^ 24 * d := by
  show a % 256 + 256 * (b % 256 + 256 * (c % 256 + 256 * (d % 256 + 256 * 0))) = _
  omega
/-! ### bits of words -/
theorem or_split {a b k : Nat} (ha : a < 2 ^ k) : a ||| (b * 2 ^ k) = a + b * 2 ^ k := by
  have h := Nat.two_pow_add_eq_or_of_lt ha b
  rw [Nat.or_comm, Nat.mul_comm b, ← h, Nat.add_comm]
theorem turn_or {c k : Nat} {m : Nat} (hc : c < 2 ^ 32) (hk : k ≤ 32) (e : m = 2 ^ (32 - k)) : (c / 2 ^ k) ||| (c * m % 2 ^ 32) = c / 2 ^ k + c * m % 2 ^ 32 := by
  subst e
  have h32 : 2 ^ 32 = 2 ^ (32 - k) * 2 ^ k := by rw [← Nat.pow_add]; congr 1; omega
  have e1 : c * 2 ^ (32 - k) % 2 ^ 32 = (c % 2 ^ k) * 2 ^ (32 - k) := by
    rw [h32, Nat.mul_comm (2 ^ (32 - k)) (2 ^ k), Nat.mul_mod_mul_right]
  rw [e1]
  refine or_split ?_
  rw [Nat.div_lt_iff_lt_mul (Nat.two_pow_pos k), ← h32]
  exact hc
/-! ### the hash -/
theorem word_lt (n : Nat) : word n < 2 ^ 32 := Nat.mod_lt _ (by decide)
theorem xor_lt {a b : Nat} (ha : a < 2 ^ 32) (hb : b < 2 ^ 32) : Nat.xor a b < 2 ^ 32 := Nat.xor_lt_two_pow ha hb
theorem mixed_lt (h w : Nat) : mixed h w < 2 ^ 32 := xor_lt (word_lt _) (Nat.lt_of_le_of_lt (Nat.div_le_self _ _) (word_lt _))
theorem hash_step {h : Nat} {k : Bytes} (hb : ∀ x ∈ k, x < 256) (hl : 4 ≤ k.length) : hashFrom h k = hashFrom (mixed h (ofLittle (k.take 4))) (k.drop 4) := by
  match k, hl with
  | a :: b :: c :: d :: r, _ =>
    have ha := hb a (by simp)
    have hb' := hb b (by simp)
    have hc := hb c (by simp)
    have hd := hb d (by simp)
    show hashFrom (mixed h (a + 2 ^ 8 * b + 2 ^ 16 * c + 2 ^ 24 * d)) r = hashFrom (mixed h (ofLittle [a, b, c, d])) r
    rw [ofLittle4 ha hb' hc hd]
theorem hash_over {h : Nat} {k : Bytes} (h0 : 0 < k.length) (h4 : k.length < 4) : hashFrom h k = Nat.xor (word ((h + ofLittle k) * 0xC6A4A793)) (word ((h + ofLittle k) * 0xC6A4A793) / 2 ^ 24) := by
  match k, h0, h4 with
  | [a], _, _ => rfl
  | [a, b], _, _ => rfl
  | [a, b, c], _, _ => rfl
/-- the loop by fours: what's left to do -/
def HashAt (k : Bytes) (j h : Nat) : Prop := Sv13.hash k = hashFrom h (k.drop (4 * j)) ∧ h < 2 ^ 32
theorem hashAt_start (k : Bytes) : HashAt k 0 (Nat.xor 0xBC9F1D34 (word (k.length * 0xC6A4A793))) := ⟨rfl, xor_lt (by decide) (word_lt _)⟩
theorem hashAt_step {k : Bytes} {j h : Nat} (hb : ∀ x ∈ k, x < 256) (hl : 4 * j + 4 ≤ k.length) (q : HashAt k j h) : HashAt k (j + 1) (mixed h (ofLittle (slice k (4 * j) 4))) := by
  refine ⟨?_, mixed_lt _ _⟩
  rw [q.1, hash_step (fun x hx => hb x (List.mem_of_mem_drop hx)) (by rw [List.length_drop]; omega), List.drop_drop]
  rfl
theorem hashAt_end0 {k : Bytes} {j h : Nat} (hl : k.length ≤ 4 * j) (q : HashAt k j h) : Sv13.hash k = h := by
  rw [q.1, List.drop_eq_nil_of_le hl]
  rfl
theorem hashAt_end {k : Bytes} {j h : Nat} (h0 : 4 * j < k.length) (h4 : k.length < 4 * j + 4) (q : HashAt k j h) :
    Sv13.hash k = Nat.xor (word ((h + ofLittle (slice k (4 * j) (k.length - 4 * j))) * 0xC6A4A793)) (word ((h + ofLittle (slice k (4 * j) (k.length - 4 * j))) * 0xC6A4A793) / 2 ^ 24) := by
  have e : slice k (4 * j) (k.length - 4 * j) = k.drop (4 * j) := by
    unfold slice
    rw [List.take_of_length_le (by rw [List.length_drop]; omega)]
  rw [q.1, hash_over (by rw [List.length_drop]; omega) (by rw [List.length_drop]; omega), e]
theorem hash_lt {k : Bytes} (hb : ∀ x ∈ k, x < 256) : Sv13.hash k < 2 ^ 32 := by
  have go : ∀ n j h, k.length - 4 * j ≤ n → HashAt k j h → Sv13.hash k < 2 ^ 32 := by
    intro n
    induction n with
    | zero => intro j h hl q; rw [hashAt_end0 (by omega) q]; exact q.2
    | succ n ih =>
      intro j h hl q
      by_cases h4 : 4 * j + 4 ≤ k.length
      · exact ih (j + 1) _ (by omega) (hashAt_step hb h4 q)
      · by_cases h0 : 4 * j < k.length
        · rw [hashAt_end h0 (by omega) q]
          exact xor_lt (word_lt _) (Nat.lt_of_le_of_lt (Nat.div_le_self _ _) (word_lt _))
        · rw [hashAt_end0 (by omega) q]; exact q.2
  exact go _ 0 _ (Nat.le_refl _) (hashAt_start k)
/-! ### marks -/
def stride (h : Nat) : Nat := word (h / 2 ^ 17 + h * 2 ^ 15)
theorem stride_eq {h : Nat} (hl : h < 2 ^ 32) : (h / 2 ^ 17) ||| (h * 2 ^ 15 % 2 ^ 32) = stride h := by
  rw [turn_or hl (by decide) (by rfl)]
  unfold stride word
  have h1 : h * 2 ^ 15 % 2 ^ 32 = (h % 2 ^ 17) * 2 ^ 15 := by
    rw [show (2 : Nat) ^ 32 = 2 ^ 17 * 2 ^ 15 from rfl, Nat.mul_mod_mul_right]
  have h2 : h / 2 ^ 17 < 2 ^ 15 := by omega
  have h3 : h % 2 ^ 17 < 2 ^ 17 := Nat.mod_lt _ (by decide)
  omega
def markAt (h j n : Nat) : Nat := word (h + j * stride h) % n
theorem marks_eq (k n : Nat) (key : Bytes) : marks k n key = (List.range k).map fun j => markAt (Sv13.hash key) j n := rfl
theorem marks_succ (k n : Nat) (key : Bytes) : marks (k + 1) n key = marks k n key ++ [markAt (Sv13.hash key) k n] := by
  rw [marks_eq, marks_eq, List.range_succ, List.map_append]
  rfl
theorem marks_length (k n : Nat) (key : Bytes) : (marks k n key).length = k := by
  rw [marks_eq, List.length_map, List.length_range]
theorem word_step (h j d : Nat) : (word (h + j * d) + d) % 2 ^ 32 = word (h + (j + 1) * d) := by
  unfold word
  rw [Nat.add_mod, Nat.mod_mod, ← Nat.add_mod, Nat.add_mul, Nat.one_mul, Nat.add_assoc]
theorem marks_lt {k n : Nat} {key : Bytes} (hn : 0 < n) : ∀ m ∈ marks k n key, m < n := by
  intro m h
  rw [marks_eq] at h
  obtain ⟨j, _, rfl⟩ := List.mem_map.mp h
  exact Nat.mod_lt _ hn
/-! ### the piece, bit by bit -/
def setBit (piece : Bytes) (m : Nat) : Bytes := piece.set (m / 8) (piece.getD (m / 8) 0 ||| 2 ^ (m % 8))
theorem setBit_length (piece : Bytes) (m : Nat) : (setBit piece m).length = piece.length := by simp [setBit]
theorem setBits_length : ∀ (ms : List Nat) (piece : Bytes), (ms.foldl setBit piece).length = piece.length
  | [], p => rfl
  | m :: r, p => by rw [List.foldl_cons, setBits_length r, setBit_length]
theorem setBit_test {piece : Bytes} {m : Nat} (hm : m / 8 < piece.length) (i j : Nat) (hj : j < 8) : ((setBit piece m).getD i 0).testBit j = (decide (m = 8 * i + j) || (piece.getD i 0).testBit j) := by
  unfold setBit
  by_cases hi : m / 8 = i
  · subst hi
    have e : (piece.set (m / 8) (piece.getD (m / 8) 0 ||| 2 ^ (m % 8))).getD (m / 8) 0 = piece.getD (m / 8) 0 ||| 2 ^ (m % 8) := by
      simp [List.getD, hm]
    rw [e, Nat.testBit_or, Nat.testBit_two_pow, Bool.or_comm]
    congr 1
    have : (m % 8 = j) ↔ (m = 8 * (m / 8) + j) := by omega
    simp [this]
  · have e : (piece.set (m / 8) (piece.getD (m / 8) 0 ||| 2 ^ (m % 8))).getD i 0 = piece.getD i 0 := by
      simp [List.getD, hi]
    rw [e]
    have : ¬ m = 8 * i + j := by omega
    simp [this]
theorem setBit_byte {piece : Bytes} {m : Nat} (h : ∀ x ∈ piece, x < 256) : ∀ x ∈ setBit piece m, x < 256 := by
  intro x hx
  unfold setBit at hx
  rcases List.mem_or_eq_of_mem_set hx with hx | hx
  · exact h x hx
  · rw [hx]
    have h1 : piece.getD (m / 8) 0 < 2 ^ 8 := by
      unfold List.getD
      cases q : piece[m / 8]? with
      | none => simp
      | some y => exact h y (List.mem_of_getElem? q)
    have h2 : 2 ^ (m % 8) < 2 ^ 8 := Nat.pow_lt_pow_right (by decide) (Nat.mod_lt _ (by decide))
    exact Nat.or_lt_two_pow h1 h2
theorem setBits_byte : ∀ (ms : List Nat) (piece : Bytes), (∀ x ∈ piece, x < 256) → ∀ x ∈ ms.foldl setBit piece, x < 256
  | [], p, h => h
  | m :: r, p, h => setBits_byte r _ (setBit_byte h)
theorem setBits_test : ∀ (ms : List Nat) (piece : Bytes), (∀ m ∈ ms, m / 8 < piece.length) → ∀ i j, j < 8 → ((ms.foldl setBit piece).getD i 0).testBit j = (ms.contains (8 * i + j) || (piece.getD i 0).testBit j)
  | [], p, _, i, j, _ => by simp
  | m :: r, p, h, i, j, hj => by
    rw [List.foldl_cons, setBits_test r (setBit p m) (fun x hx => by rw [setBit_length]; exact h x (List.mem_cons_of_mem _ hx)) i j hj, setBit_test (h m List.mem_cons_self) i j hj]
    rw [List.contains_cons]
    have : (8 * i + j == m) = decide (m = 8 * i + j) := by
      by_cases e : m = 8 * i + j
      · simp [e]
      · have e' : ¬ 8 * i + j = m := fun q => e q.symm
        simp [e, e']
    rw [this]
    cases r.contains (8 * i + j) <;> cases decide (m = 8 * i + j) <;> rfl
theorem byte_sum (f : Nat → Bool) : (((List.range 8).map fun j => if f j = true then 2 ^ j else 0).sum < 256) ∧ ∀ j, j < 8 → ((List.range 8).map fun j => if f j = true then 2 ^ j else 0).sum.testBit j = f j := by
  have e : (List.range 8).map (fun j => if f j = true then 2 ^ j else 0) = [if f 0 = true then 2 ^ 0 else 0, if f 1 = true then 2 ^ 1 else 0, if f 2 = true then 2 ^ 2 else 0, if f 3 = true then 2 ^ 3 else 0, if f 4 = true then 2 ^ 4 else 0, if f 5 = true then 2 ^ 5 else 0, if f 6 = true then 2 ^ 6 else 0, if f 7 = true then 2 ^ 7 else 0] := rfl
  rw [e]
  have all : ∀ a b c d p q r s : Bool, ([if a = true then 2 ^ 0 else 0, if b = true then 2 ^ 1 else 0, if c = true then 2 ^ 2 else 0, if d = true then 2 ^ 3 else 0, if p = true then 2 ^ 4 else 0, if q = true then 2 ^ 5 else 0, if r = true then 2 ^ 6 else 0, if s = true then 2 ^ 7 else 0] : List Nat).sum < 256 ∧
      ([if a = true then 2 ^ 0 else 0, if b = true then 2 ^ 1 else 0, if c = true then 2 ^ 2 else 0, if d = true then 2 ^ 3 else 0, if p = true then 2 ^ 4 else 0, if q = true then 2 ^ 5 else 0, if r = true then 2 ^ 6 else 0, if s = true then 2 ^ 7 else 0] : List Nat).sum = a.toNat + 2 * (b.toNat + 2 * (c.toNat + 2 * (d.toNat + 2 * (p.toNat + 2 * (q.toNat + 2 * (r.toNat + 2 * s.toNat)))))) := by decide
  obtain ⟨h1, h2⟩ := all (f 0) (f 1) (f 2) (f 3) (f 4) (f 5) (f 6) (f 7)
  refine ⟨h1, fun j hj => ?_⟩
  rw [h2]
  have tb : ∀ (a : Bool) (n : Nat), (a.toNat + 2 * n).testBit 0 = a := fun a n => by
    rw [Nat.testBit_zero]; cases a <;> simp <;> omega
  have ts : ∀ (a : Bool) (n i : Nat), (a.toNat + 2 * n).testBit (i + 1) = n.testBit i := fun a n i => by
    rw [Nat.testBit_succ]; congr 1; cases a <;> simp <;> omega
  have t0 : ∀ a : Bool, a.toNat.testBit 0 = a := fun a => by cases a <;> rfl
  match j, hj with
  | 0, _ => rw [tb]
  | 1, _ => rw [ts, tb]
  | 2, _ => rw [ts, ts, tb]
  | 3, _ => rw [ts, ts, ts, tb]
  | 4, _ => rw [ts, ts, ts, ts, tb]
  | 5, _ => rw [ts, ts, ts, ts, ts, tb]
  | 6, _ => rw [ts, ts, ts, ts, ts, ts, tb]
  | 7, _ => rw [ts, ts, ts, ts, ts, ts, ts, t0]
/-- how many bytes a piece has, but for its last -/
def pieceSize (bits : Nat) (keys : List Bytes) : Nat := (max 64 (keys.length * bits) + 7) / 8
def allMarks (bits : Nat) (n : Nat) (keys : List Bytes) : List Nat := keys.flatMap (marks (probes bits) n)
def pieceBits (bits : Nat) (keys : List Bytes) : Bytes := (allMarks bits (8 * pieceSize bits keys) keys).foldl setBit (List.replicate (pieceSize bits keys) 0)
theorem pieceSize_pos (bits : Nat) (keys : List Bytes) : 0 < pieceSize bits keys := by
  unfold pieceSize
  have : 64 ≤ max 64 (keys.length * bits) := Nat.le_max_left _ _
  omega
theorem byte_ext {x y : Nat} (hx : x < 256) (hy : y < 256) (h : ∀ j, j < 8 → x.testBit j = y.testBit j) : x = y := by
  apply Nat.eq_of_testBit_eq
  intro j
  by_cases hj : j < 8
  · exact h j hj
  · have h8 : (256 : Nat) ≤ 2 ^ j := by
      have := Nat.pow_le_pow_right (show 0 < 2 by decide) (show 8 ≤ j by omega)
      simpa using this
    rw [Nat.testBit_lt_two_pow (Nat.lt_of_lt_of_le hx h8), Nat.testBit_lt_two_pow (Nat.lt_of_lt_of_le hy h8)]
theorem filter_eq (bits : Nat) (keys : List Bytes) : Sv13.filter bits keys = pieceBits bits keys ++ [probes bits] := by
  have hn : bitsOf bits keys = 8 * pieceSize bits keys := Nat.mul_comm _ _
  have hn8 : bitsOf bits keys / 8 = pieceSize bits keys := by rw [hn]; omega
  show ((List.range (bitsOf bits keys / 8)).map fun i => ((List.range 8).map fun j => if (keys.flatMap (marks (probes bits) (bitsOf bits keys))).contains (8 * i + j) = true then 2 ^ j else 0).sum) ++ [probes bits] = _
  congr 1
  rw [hn8, hn]
  have hms : ∀ m ∈ allMarks bits (8 * pieceSize bits keys) keys, m / 8 < (List.replicate (pieceSize bits keys) 0).length := by
    intro m hm
    unfold allMarks at hm
    obtain ⟨k, _, hk⟩ := List.mem_flatMap.mp hm
    have hpos := pieceSize_pos bits keys
    have := marks_lt (by omega) m hk
    rw [List.length_replicate]
    omega
  apply List.ext_getElem?
  intro i
  have hlen : (pieceBits bits keys).length = pieceSize bits keys := by
    unfold pieceBits
    rw [setBits_length, List.length_replicate]
  by_cases hi : i < pieceSize bits keys
  · have hg : (pieceBits bits keys)[i]? = some ((pieceBits bits keys).getD i 0) := by
      simp [List.getD, hlen, hi]
    rw [hg, List.getElem?_map, List.getElem?_range hi]
    show some _ = some _
    congr 1
    obtain ⟨b1, b2⟩ := byte_sum fun j => (allMarks bits (8 * pieceSize bits keys) keys).contains (8 * i + j)
    refine byte_ext b1 ?_ fun j hj => ?_
    · have hb := setBits_byte (allMarks bits (8 * pieceSize bits keys) keys) (List.replicate (pieceSize bits keys) 0) (fun x hx => by rw [(List.mem_replicate.mp hx).2]; decide)
      refine hb _ ?_
      exact List.mem_of_getElem? hg
    · have h2 := setBits_test (allMarks bits (8 * pieceSize bits keys) keys) (List.replicate (pieceSize bits keys) 0) hms i j hj
      unfold pieceBits
      rw [h2]
      refine (b2 j hj).trans ?_
      have : ((List.replicate (pieceSize bits keys) 0).getD i 0).testBit j = false := by
        simp [List.getD, List.getElem?_replicate, hi]
      rw [this, Bool.or_false]
  · rw [List.getElem?_eq_none (by rw [List.length_map, List.length_range]; omega), List.getElem?_eq_none (by rw [hlen]; omega)]
end My

set_option linter.all false
namespace My
open Sv13
def kindN (first last : Bool) : Nat := if first = true then (if last = true then 1 else 2) else if last = true then 4 else 3
theorem piece_length (k : Nat) (b : Bytes) : (piece k b).length = 7 + b.length := by
  unfold piece
  rw [List.length_append, List.length_append, little_length, little_length, List.length_cons]
  omega
theorem logged_skip {f at_ : Nat} {first : Bool} {b : Bytes} (h : 32768 < at_ + 7) : logged (f + 1) at_ first b = List.replicate (32768 - at_) 0 ++ logged f 0 first b := by
  conv => lhs; unfold logged
  rw [if_pos (show BLOCK < at_ + 7 from h)]
  rfl
theorem logged_end {f at_ : Nat} {first : Bool} {b : Bytes} (h : at_ + 7 ≤ 32768) (hb : b.length ≤ 32768 - at_ - 7) : logged (f + 1) at_ first b = piece (kindN first true) b := by
  conv => lhs; unfold logged
  have hB : BLOCK = 32768 := rfl
  rw [if_neg (by rw [hB]; omega), hB]
  have e : min b.length (32768 - at_ - 7) = b.length := by omega
  simp only [e, decide_true, if_true, List.take_length]
  rfl
theorem logged_more {f at_ : Nat} {first : Bool} {b : Bytes} (h : at_ + 7 ≤ 32768) (hb : 32768 - at_ - 7 < b.length) :
    logged (f + 1) at_ first b = piece (kindN first false) (b.take (32768 - at_ - 7)) ++ logged f 0 false (b.drop (32768 - at_ - 7)) := by
  conv => lhs; unfold logged
  have hB : BLOCK = 32768 := rfl
  rw [if_neg (by rw [hB]; omega), hB]
  have e : min b.length (32768 - at_ - 7) = 32768 - at_ - 7 := by omega
  have e2 : decide (32768 - at_ - 7 = b.length) = false := decide_eq_false (by omega)
  simp only [e, e2, Bool.false_eq_true, if_false]
  have e3 : ∀ k, (at_ + (piece k (b.take (32768 - at_ - 7))).length) % 32768 = 0 := fun k => by
    rw [piece_length, List.length_take]
    have : at_ + (7 + min (32768 - at_ - 7) b.length) = 32768 := by omega
    rw [this]
  rw [e3]
  rfl
/-- where a writer of a log stands: what is out, how far it has come -/
structure Logging (place : Nat) (data : Bytes) (out : Bytes) (begin_ : Nat) (first : Bool) : Prop where
  eq : ∃ f, logged (data.length + 2) (place % 32768) true data = out ++ logged (f + 1) ((place + out.length) % 32768) first (data.drop begin_) ∧ data.length - begin_ ≤ f ∧ (first = true → data.length - begin_ + 1 ≤ f)
  le : begin_ ≤ data.length
  fst : first = true → out = [] ∧ begin_ = 0
  ltr : first = false → (place + out.length) % 32768 = 0 ∧ begin_ < data.length ∧ out.length ≤ 14 * begin_ + 13
theorem Logging.start (place : Nat) (data : Bytes) : Logging place data [] 0 true := by
  refine ⟨⟨data.length + 1, ?_, by omega, fun _ => by omega⟩, Nat.zero_le _, fun _ => ⟨rfl, rfl⟩, fun h => nomatch h⟩
  simp
/-- what is put out ahead of the piece -/
def padOf (place : Nat) (out : Bytes) : Bytes := if 32768 < (place + out.length) % 32768 + 7 then List.replicate (32768 - (place + out.length) % 32768) 0 else []
def leftOf (place : Nat) (out : Bytes) : Nat := if 32768 < (place + out.length) % 32768 + 7 then 32768 else 32768 - (place + out.length) % 32768
theorem leftOf_ge (place : Nat) (out : Bytes) : 7 ≤ leftOf place out ∧ leftOf place out ≤ 32768 := by
  unfold leftOf
  split <;> omega
theorem padOf_length (place : Nat) (out : Bytes) : (padOf place out).length ≤ 6 := by
  unfold padOf
  split
  · rw [List.length_replicate]; omega
  · exact Nat.zero_le _
theorem pad_at (place : Nat) (out : Bytes) : (place + (out ++ padOf place out).length) % 32768 = 32768 - leftOf place out := by
  unfold padOf leftOf
  split
  · rw [List.length_append, List.length_replicate]
    omega
  · rw [List.append_nil]
    omega
theorem Logging.pad {place : Nat} {data out : Bytes} {b : Nat} {first : Bool} (L : Logging place data out b first) :
    ∃ f, logged (data.length + 2) (place % 32768) true data = (out ++ padOf place out) ++ logged (f + 1) (32768 - leftOf place out) first (data.drop b) ∧ data.length - b ≤ f ∧ (leftOf place out = 32768 ∨ data.length - b + 1 ≤ f) := by
  obtain ⟨f, e, h1, h2⟩ := L.eq
  unfold padOf leftOf
  split
  · rename_i hp
    cases first with
    | false => exact absurd (L.ltr rfl).1 (by omega)
    | true =>
      have h3 := h2 rfl
      obtain ⟨g, rfl⟩ : ∃ g, f = g + 1 := ⟨f - 1, by omega⟩
      refine ⟨g, ?_, by omega, .inl rfl⟩
      rw [e, logged_skip hp, List.append_assoc]
  · rename_i hp
    refine ⟨f, ?_, h1, ?_⟩
    · rw [List.append_nil, e]
      congr 2
      omega
    · cases first with
      | true => exact .inr (h2 rfl)
      | false => exact .inl (by rw [(L.ltr rfl).1])
/-- the last piece -/
theorem Logging.done {place : Nat} {data out : Bytes} {b : Nat} {first : Bool} (L : Logging place data out b first) (h : data.length ≤ b + leftOf place out - 7) :
    logged (data.length + 2) (place % 32768) true data = (out ++ padOf place out) ++ piece (kindN first true) (data.drop b) ∧ (out ++ padOf place out).length + 7 + (data.length - b) ≤ 15 * data.length + 26 := by
  obtain ⟨f, e, h1, h2⟩ := L.pad
  have hl := leftOf_ge place out
  have hp := padOf_length place out
  have hle := L.le
  refine ⟨?_, ?_⟩
  · rw [e, logged_end (by omega)]
    rw [List.length_drop]
    omega
  · rw [List.length_append]
    cases first with
    | true =>
      obtain ⟨rfl, rfl⟩ := L.fst rfl
      simp only [List.length_nil] at *
      omega
    | false =>
      have := (L.ltr rfl).2
      omega
/-- a piece that is not the last -/
theorem Logging.step {place : Nat} {data out : Bytes} {b : Nat} {first : Bool} (L : Logging place data out b first) (h : b + leftOf place out - 7 < data.length) :
    Logging place data ((out ++ padOf place out) ++ piece (kindN first false) ((data.drop b).take (leftOf place out - 7))) (b + leftOf place out - 7) false := by
  obtain ⟨f, e, h1, h2⟩ := L.pad
  have hl := leftOf_ge place out
  have hp := padOf_length place out
  have hle := L.le
  have hat := pad_at place out
  have hlen : ((out ++ padOf place out) ++ piece (kindN first false) ((data.drop b).take (leftOf place out - 7))).length = (out ++ padOf place out).length + leftOf place out := by
    rw [List.length_append, piece_length, List.length_take, List.length_drop]
    omega
  have h0 : (place + ((out ++ padOf place out).length + leftOf place out)) % 32768 = 0 := by omega
  have hb : (data.drop b).drop (leftOf place out - 7) = data.drop (b + leftOf place out - 7) := by
    rw [List.drop_drop]
    congr 1
    omega
  have hmore : logged (f + 1) (32768 - leftOf place out) first (data.drop b) = piece (kindN first false) ((data.drop b).take (leftOf place out - 7)) ++ logged f 0 false (data.drop (b + leftOf place out - 7)) := by
    have hx : 32768 - (32768 - leftOf place out) - 7 = leftOf place out - 7 := by omega
    rw [logged_more (by omega) (by rw [hx, List.length_drop]; omega), hx, hb]
  have hf : 0 < f := by omega
  obtain ⟨g, rfl⟩ : ∃ g, f = g + 1 := ⟨f - 1, by omega⟩
  refine ⟨⟨g, ?_, ?_, (fun z => nomatch z)⟩, by omega, (fun z => nomatch z), fun _ => ⟨by rw [hlen]; exact h0, h, ?_⟩⟩
  · rw [hlen, h0, e, hmore, List.append_assoc, List.append_assoc, List.append_assoc]
  · omega
  · rw [hlen, List.length_append]
    cases first with
    | true =>
      obtain ⟨rfl, rfl⟩ := L.fst rfl
      simp only [List.length_nil] at *
      omega
    | false =>
      have h3 := (L.ltr rfl)
      have h4 : leftOf place out = 32768 := by
        unfold leftOf
        rw [h3.1]
        rfl
      omega
theorem logged_len : ∀ (f at_ : Nat) (first : Bool) (b : Bytes), (logged f at_ first b).length ≤ 13 * f + b.length
  | 0, _, _, _ => Nat.zero_le _
  | f + 1, at_, first, b => by
    by_cases h : 32768 < at_ + 7
    · rw [logged_skip h, List.length_append, List.length_replicate]
      have := logged_len f 0 first b
      omega
    · by_cases hb : b.length ≤ 32768 - at_ - 7
      · rw [logged_end (by omega) hb, piece_length]
        omega
      · rw [logged_more (by omega) (by omega), List.length_append, piece_length, List.length_take]
        have := logged_len f 0 false (b.drop (32768 - at_ - 7))
        rw [List.length_drop] at this
        omega
theorem logged_length (p : Nat) (b : Bytes) : (logged (b.length + 2) (p % 32768) true b).length ≤ 14 * b.length + 26 := by
  have := logged_len (b.length + 2) (p % 32768) true b
  omega
end My

set_option linter.all false
namespace My
open Sv13
theorem ofLittle_little : ∀ (k n : Nat), n < 256 ^ k → ofLittle (little k n) = n
  | 0, n, h => by
    have : n = 0 := by simpa using h
    subst this
    rfl
  | k + 1, n, h => by
    rw [little_succ, ofLittle_append, little_length]
    have e : little k n = little k (n % 256 ^ k) := by
      unfold little
      refine List.map_congr_left fun i hi => ?_
      have hi : i < k := List.mem_range.mp hi
      have e1 : n % 256 ^ k / 256 ^ i = n / 256 ^ i % 256 ^ (k - i) := by
        have : 256 ^ k = 256 ^ i * 256 ^ (k - i) := by rw [← Nat.pow_add]; congr 1; omega
        rw [this, Nat.mod_mul_right_div_self]
      rw [e1]
      have : 256 ^ (k - i) = 256 * 256 ^ (k - i - 1) := by
        rw [← Nat.pow_succ']
        congr 1
        omega
      rw [this, Nat.mod_mul_right_mod]
    have hq : n / 256 ^ k < 256 := by
      rw [Nat.div_lt_iff_lt_mul (Nat.pow_pos (by decide))]
      rw [Nat.pow_succ] at h
      omega
    rw [e, ofLittle_little k _ (Nat.mod_lt _ (Nat.pow_pos (by decide))), ofLittle_one (Nat.mod_lt _ (by decide)), Nat.mod_eq_of_lt hq]
    exact Nat.mod_add_div n (256 ^ k)
theorem ofLittle_inj : ∀ {a b : Bytes}, a.length = b.length → (∀ x ∈ a, x < 256) → (∀ x ∈ b, x < 256) → ofLittle a = ofLittle b → a = b
  | [], [], _, _, _, _ => rfl
  | [], _ :: _, h, _, _, _ => by simp at h
  | _ :: _, [], h, _, _, _ => by simp at h
  | x :: r, y :: s, h, ha, hb, e => by
    have e : x % 256 + 256 * ofLittle r = y % 256 + 256 * ofLittle s := e
    have hx := ha x List.mem_cons_self
    have hy := hb y List.mem_cons_self
    have h1 : x = y := by omega
    have h2 : ofLittle r = ofLittle s := by omega
    rw [h1, ofLittle_inj (by simpa using h) (fun z hz => ha z (List.mem_cons_of_mem _ hz)) (fun z hz => hb z (List.mem_cons_of_mem _ hz)) h2]
theorem masked_lt (c : Nat) : masked c < 2 ^ 32 := Nat.mod_lt _ (by decide)
theorem slice_bytes {b : Bytes} {i n : Nat} (h : ∀ x ∈ b, x < 256) : ∀ x ∈ slice b i n, x < 256 := fun x hx => h x (List.mem_of_mem_drop (List.mem_of_mem_take hx))
/-- the number of four bytes is a sum's just where they are its bytes -/
theorem sum_at {l : Bytes} {a m : Nat} (hl : ∀ x ∈ l, x < 256) (ha : a + 4 ≤ l.length) (hm : m < 2 ^ 32) : ofLittle (slice l a 4) = m ↔ slice l a 4 = little 4 m := by
  constructor
  · intro e
    refine ofLittle_inj (by rw [slice_length ha, little_length]) (slice_bytes hl) (fun x hx => little_byte x hx) ?_
    rw [e, ofLittle_little 4 m (by omega)]
  · intro e
    rw [e, ofLittle_little 4 m (by omega)]
theorem slice_cons {l : Bytes} {a n x : Nat} (h : l[a]? = some x) : slice l a (n + 1) = x :: slice l (a + 1) n := by
  unfold slice
  obtain ⟨h1, e1⟩ := List.getElem?_eq_some_iff.mp h
  rw [List.drop_eq_getElem_cons h1, List.take_succ_cons, e1]
/-- where a piece is looked for -/
def placeOf (at_ : Nat) : Nat := if 32768 < at_ % 32768 + 7 then at_ + (32768 - at_ % 32768) else at_
theorem placeOf_mod (at_ : Nat) : placeOf at_ % 32768 + 7 ≤ 32768 := by
  unfold placeOf
  split <;> omega
theorem placeOf_ge (at_ : Nat) : at_ ≤ placeOf at_ := by
  unfold placeOf
  split <;> omega
/-- a piece of a log: its type, its bytes, its end; or a refusal -/
def pieceAt (l : Bytes) (at_ : Nat) : Except Int (Nat × Bytes × Nat) :=
  let a := placeOf at_
  if l.length < a + 7 then .error (-3)
  else if 32768 < a % 32768 + 7 + ofLittle (slice l (a + 4) 2) then .error (-4)
  else if l.length < a + 7 + ofLittle (slice l (a + 4) 2) then .error (-3)
  else if ofLittle (slice l a 4) ≠ masked (crc (l.getD (a + 6) 0 :: slice l (a + 7) (ofLittle (slice l (a + 4) 2))) 0) then .error (-4)
  else .ok (l.getD (a + 6) 0, slice l (a + 7) (ofLittle (slice l (a + 4) 2)), a + 7 + ofLittle (slice l (a + 4) 2))
def readOn (l : Bytes) (f : Nat) (had : Bytes) (begun : Bool) (p : Except Int (Nat × Bytes × Nat)) : Except Int (Bytes × Nat) := match p with
  | .error e => .error e
  | .ok (k, d, e) => if k = 1 ∧ begun = false then .ok (d, e) else if k = 4 ∧ begun = true then .ok (had ++ d, e) else if (k = 2 ∧ begun = false) ∨ (k = 3 ∧ begun = true) then readLog l f e (had ++ d) true else .error (-4)
theorem readLog_here {l : Bytes} {f at_ : Nat} {had : Bytes} {begun : Bool} (hl : ∀ x ∈ l, x < 256) (h : at_ % 32768 + 7 ≤ 32768) :
    readLog l (f + 1) at_ had begun = readOn l f had begun (pieceAt l at_) := by
  have hB : BLOCK = 32768 := rfl
  have hp : placeOf at_ = at_ := by unfold placeOf; rw [if_neg (by omega)]
  conv => lhs; unfold readLog
  rw [hB, if_neg (by omega)]
  unfold pieceAt
  simp only [hp]
  by_cases h1 : l.length < at_ + 7
  · rw [if_pos h1, if_pos h1]; rfl
  · rw [if_neg h1, if_neg h1]
    generalize hn : ofLittle (slice l (at_ + 4) 2) = n
    by_cases h2 : 32768 < at_ % 32768 + 7 + n
    · rw [if_pos h2, if_pos h2]; rfl
    · rw [if_neg h2, if_neg h2]
      by_cases h3 : l.length < at_ + 7 + n
      · rw [if_pos h3, if_pos h3]; rfl
      · rw [if_neg h3, if_neg h3]
        have hx : l[at_ + 6]? = some (l.getD (at_ + 6) 0) := by
          have : at_ + 6 < l.length := by omega
          simp [List.getD, List.getElem?_eq_getElem this]
        have hs : slice l (at_ + 6) (n + 1) = l.getD (at_ + 6) 0 :: slice l (at_ + 7) n := slice_cons hx
        rw [hs]
        have hq := sum_at (m := masked (crc (l.getD (at_ + 6) 0 :: slice l (at_ + 7) n) 0)) hl (show at_ + 4 ≤ l.length by omega) (masked_lt _)
        by_cases h4 : slice l at_ 4 = little 4 (masked (crc (l.getD (at_ + 6) 0 :: slice l (at_ + 7) n) 0))
        · have h5 : ¬ (ofLittle (slice l at_ 4) ≠ masked (crc (l.getD (at_ + 6) 0 :: slice l (at_ + 7) n) 0)) := fun z => z (hq.mpr h4)
          rw [if_neg (fun z => z h4)]
          conv => rhs; rw [if_neg h5]
          rfl
        · rw [if_pos h4, if_pos (fun z => h4 (hq.mp z))]
          rfl
theorem readLog_step {l : Bytes} {f at_ : Nat} {had : Bytes} {begun : Bool} (hl : ∀ x ∈ l, x < 256) : ∃ g, f ≤ g ∧ readLog l (f + 2) at_ had begun = readOn l g had begun (pieceAt l at_) := by
  have hB : BLOCK = 32768 := rfl
  by_cases h : 32768 < at_ % 32768 + 7
  · have hp : placeOf at_ = at_ + (32768 - at_ % 32768) := by unfold placeOf; rw [if_pos h]
    have hm : placeOf at_ % 32768 + 7 ≤ 32768 := placeOf_mod at_
    refine ⟨f, Nat.le_refl _, ?_⟩
    conv => lhs; unfold readLog
    rw [hB, if_pos h, ← hp, readLog_here hl hm]
    have e : pieceAt l (placeOf at_) = pieceAt l at_ := by
      have : placeOf (placeOf at_) = placeOf at_ := by
        generalize placeOf at_ = q at hm
        unfold placeOf
        rw [if_neg (by omega)]
      unfold pieceAt
      simp only [this]
    rw [e]
  · exact ⟨f + 1, by omega, readLog_here hl (by omega)⟩
theorem pieceAt_ok {l : Bytes} {at_ k e : Nat} {d : Bytes} (h : pieceAt l at_ = .ok (k, d, e)) : at_ + 7 ≤ e ∧ e ≤ l.length ∧ d.length + at_ + 7 ≤ e ∧ (∀ x ∈ d, x ∈ l) ∧ k = l.getD (placeOf at_ + 6) 0 := by
  have hg := placeOf_ge at_
  unfold pieceAt at h
  simp only at h
  split at h
  · cases h
  · split at h
    · cases h
    · split at h
      · cases h
      · split at h
        · cases h
        · rename_i h1 h2 h3 h4
          injection h with h
          injection h with ha h
          injection h with hb hc
          subst ha hb hc
          have hs : (slice l (placeOf at_ + 7) (ofLittle (slice l (placeOf at_ + 4) 2))).length = ofLittle (slice l (placeOf at_ + 4) 2) := slice_length (by omega)
          refine ⟨by omega, by omega, by rw [hs]; omega, fun x hx => List.mem_of_mem_drop (List.mem_of_mem_take hx), rfl⟩
end My

set_option Elab.async false
set_option linter.all false
set_option maxRecDepth 100000
/-! ### the head of a specification's row over the hand layer -/
namespace KL
open PySem PySem.W PyProof.Rows L2
inductive Arg where
  | int (i : Int)
  | nums (ns : List Int)
def Arg.data : Arg → WData
  | .int i => .int i
  | .nums ns => .list (ns.map WData.int)
def Arg.fits : Arg → Prop
  | .int _ => True
  | .nums ns => ns.length ≤ sizeLine
def ArgIs (K : Frag) (H : Hp) : Arg → V → Prop
  | .int i, v => v = .int i
  | .nums ns, v => ∃ a, v = .ref a ∧ SqL K H a (ns.map V.int)
/-- nothing is tracked but lists that are known to the object -/
def OnlyK (K : Frag) (H : Hp) : Prop := ∀ b, H b = none ∨ (K.lookup b = none ∧ ∃ o xs, H b = some (.frz o (.lst xs)))
theorem ints_of_wellAll {P : Params} {h : Heap} {ns : List Int} {vs : List Value} (w : WellAll P h vs (ns.map WData.int)) : IntsAre vs ns := Att.ints_of_wellAll ns vs w
theorem intsAre_inj : ∀ {vs : List Value} {ns ms : List Int}, IntsAre vs ns → IntsAre vs ms → ns = ms
  | _, _, _, .nil, h => by cases h; rfl
  | _, _, _, .cons n t h1, h => by
    cases h with
    | cons m u h2 => rw [intsAre_inj h1 h2]
/-- an argument that is a list, as it lies in the heap -/
def LiesAt (h : Heap) (b : Addr) (vs : List Value) (ns : List Int) : Prop := h.get? b = some { cls := .type "list", data := .seq vs.toArray } ∧ IntsAre vs ns ∧ ns.length ≤ sizeLine
open Classical in
noncomputable def argHp (K : Frag) (h : Heap) (as : List Addr) : Hp := fun b =>
  if q : K.lookup b = none ∧ b ∈ as ∧ ∃ p : List Value × List Int, LiesAt h b p.1 p.2 then
    some (.frz { cls := .type "list", data := .seq (choose q.2.2).1.toArray } (.lst ((choose q.2.2).2.map V.int)))
  else none
theorem argHp_some {K : Frag} {h : Heap} {as : List Addr} {b : Addr} {vs : List Value} {ns : List Int} (hk : K.lookup b = none) (hb : b ∈ as) (l : LiesAt h b vs ns) :
    argHp K h as b = some (.frz { cls := .type "list", data := .seq vs.toArray } (.lst (ns.map V.int))) := by
  have q : K.lookup b = none ∧ b ∈ as ∧ ∃ p : List Value × List Int, LiesAt h b p.1 p.2 := ⟨hk, hb, (vs, ns), l⟩
  unfold argHp
  rw [dif_pos q]
  obtain ⟨c1, c2, c3⟩ := Classical.choose_spec q.2.2
  have e1 : (Classical.choose q.2.2).1 = vs := by
    have e := c1.symm.trans l.1
    have e' : ((Classical.choose q.2.2).1.toArray : Array Value) = vs.toArray := by
      injection e with e
      injection e with _ _ e _
      injection e with e _
    simpa using e'
  have e2 : (Classical.choose q.2.2).2 = ns := by
    rw [e1] at c2
    exact intsAre_inj c2 l.2.1
  rw [e1, e2]
theorem argHp_of {K : Frag} {h : Heap} {as : List Addr} {b : Addr} {u : HO} (e : argHp K h as b = some u) :
    K.lookup b = none ∧ b ∈ as ∧ ∃ (vs : List Value) (ns : List Int), LiesAt h b vs ns ∧ u = .frz { cls := .type "list", data := .seq vs.toArray } (.lst (ns.map V.int)) := by
  by_cases q : K.lookup b = none ∧ b ∈ as ∧ ∃ p : List Value × List Int, LiesAt h b p.1 p.2
  · unfold argHp at e
    rw [dif_pos q] at e
    exact ⟨q.1, q.2.1, _, _, Classical.choose_spec q.2.2, (Option.some.inj e).symm⟩
  · unfold argHp at e
    rw [dif_neg q] at e
    cases e
def refs : List Value → List Addr
  | [] => []
  | .ref a :: r => a :: refs r
  | _ :: r => refs r
theorem args_are {P : Params} {K : Frag} {h : Heap} (KX : K.In h) (as : List Addr) : ∀ {us : List Value} {gs : List Arg}, WellAll P h us (gs.map Arg.data) → (∀ g ∈ gs, g.fits) → (∀ a ∈ refs us, a ∈ as) →
    ∃ vs : List V, Vals vs us ∧ Paired (fun g v => ArgIs K (argHp K h as) g v) gs vs
  | [], [], _, _, _ => ⟨[], .nil, .nil⟩
  | [], _ :: _, w, _, _ => by rw [List.map_cons] at w; cases w
  | _ :: _, [], w, _, _ => by rw [List.map_nil] at w; cases w
  | u :: us, g :: gs, w, hf, hr => by
    rw [List.map_cons] at w
    cases w with
    | cons w1 w2 =>
      cases g with
      | int i =>
        have w1 : Well P h u (.int i) := w1
        cases w1 with
        | int _ t =>
          obtain ⟨vs, r, p⟩ := args_are KX as w2 (fun g hg => hf g (List.mem_cons_of_mem _ hg)) hr
          exact ⟨.int i :: vs, .cons ⟨t, rfl⟩ r, .cons rfl p⟩
      | nums ns =>
        have w1 : Well P h u (.list (ns.map WData.int)) := w1
        cases w1 with
        | @list a vs0 xs ho hall =>
          have hi := ints_of_wellAll hall
          have hl : ns.length ≤ sizeLine := hf (.nums ns) List.mem_cons_self
          have hr' : a ∈ as := hr a (show a ∈ a :: refs us from List.mem_cons_self)
          obtain ⟨vs, r, p⟩ := args_are KX as w2 (fun g hg => hf g (List.mem_cons_of_mem _ hg)) fun b hb => hr b (show b ∈ a :: refs us from List.mem_cons_of_mem _ hb)
          refine ⟨.ref a :: vs, .cons rfl r, .cons ⟨a, rfl, ?_⟩ p⟩
          cases hk : K.lookup a with
          | none => exact .inl (.inr ⟨_, argHp_some hk hr' ⟨ho, hi, hl⟩⟩)
          | some o =>
            have e := KX a o hk
            rw [ho] at e
            cases e
            exact .inr ⟨_, vs0.toArray, _, hk, rfl, rfl, rfl, by rw [List.size_toArray, hi.length]; exact hl, by simpa using vals_ints hi⟩
theorem reads_ints {cl : Str → Option Addr} {h : Heap} : ∀ {its : List Value} {ns : List Int}, Vals (ns.map V.int) its → ReadsAllW [] cl h its (ns.map WData.int) []
  | [], [], _ => .nil
  | [], _ :: _, r => by rw [List.map_cons] at r; cases r
  | _ :: _, [], r => by rw [List.map_nil] at r; cases r
  | u :: us, n :: ns, r => by
    rw [List.map_cons] at r
    cases r with
    | cons r1 r2 =>
      obtain ⟨t, rfl⟩ := r1
      rw [List.map_cons]
      exact ReadsAllW.cons (as := []) (bs := []) (.int n t) (reads_ints r2)
/-! ### defs of the text, bundled -/
/-- a def of the module as it stands behind the top -/
structure DefAt (K : Frag) (mg : Str → Option Value) (x : Str) (st : Stmt) : Prop where
  ex : ∃ f fd, mg x = some (.ref f) ∧ Fun K x x st f fd
/-- a def that keeps its promise -/
structure Fx (P : Program) (w : World) (K : Frag) (mg : Str → Option Value) (base : Heap) (x : Str) (k : Nat) (ps : List Str) (sp : Sp) : Prop where
  ex : ∃ f fd, mg x = some (.ref f) ∧ keepIn K (.ref f) = true ∧ Binds K fd ps [] ∧ FnOk P w K mg base CX0 k f fd ps sp
theorem pe_fx {X : Cx} {x : Str} {k : Nat} {ps : List Str} {sp : Sp} {p pos : Pos} {e : Expr} {es : List Expr} {t : TA} (F : Fx X.prog X.w X.K X.mg X.base x k ps sp) (hr : Room k X.A) (hg : Gl X x) (ha : PA X (e :: es) t)
    (hdb : (x == ("__debug__" : Str)) = false := by decide) (he : starEach (e :: es) X.env = (false, eval e X.env) :: starEach es X.env := by rfl) (hpl : (backTo pos (starEach es X.env)).any (·.1) = false := by rfl) :
    PE X (.Call (.Name x p) (e :: es) [] pos) (tCall sp [] E0 t) := by
  obtain ⟨f, fd, hm, hk, hb, G⟩ := F.ex
  exact pe_call G hr hg hm hk hb .nil pass0 ha hdb he hpl
section
variable {P : Program} {w : World} {K : Frag} {mg : Str → Option Value} {base : Heap}
theorem DefAt.fx {x : Str} {st : Stmt} {N ps : List Str} {k : Nat} {sp : Sp} (D : DefAt K mg x st) (S : FnScope N ps (defScope st))
    (hb : ∀ (kV doc pm : Value) (an : Option Addr) (cdv ct : Value) (us : List Value), us.length = ps.length → bindArgs (fnOf x x (defArgs st) (defBody st) (defScope st) .none kV doc pm an cdv ct) ⟨us, []⟩ = pure (ps.zip us))
    (len : ∀ vs H Q E, sp vs H Q E → vs.length = ps.length)
    (hbody : ∀ (f : Addr) (cdv : Value) (A : Around) (outer : List Env) (s : Shared) (H : Hp) (vs : List V) (Q : VK) (E : XK), Room k (A.deeper (envOfC x (defScope st) s.heap.objs.size f cdv)) → sp vs H Q E →
      ∃ t, PSs (cxOf CX0 P w K mg base N x (defScope st) f cdv A outer s H E).nox (defBody st) t ∧ t { nx := fun _ H' => Q .non H', rt := Q } (start N vs) H) : Fx P w K mg base x (k + 1) ps sp := by
  obtain ⟨f, fd, hm, F⟩ := D.ex
  exact ⟨f, fd, hm, F.kp, F.binds hb, F.ok S len fun cdv A outer s H vs Q E hr h => hbody f cdv A outer s H vs Q E hr h⟩
theorem Fx.imp {x : Str} {ps : List Str} {k : Nat} {sp sp' : Sp} (F : Fx P w K mg base x k ps sp) (h : ∀ vs H Q E, sp' vs H Q E → sp vs H Q E) : Fx P w K mg base x k ps sp' := by
  obtain ⟨f, fd, hm, hk, hb, G⟩ := F.ex
  exact ⟨f, fd, hm, hk, hb, G.imp h⟩
end
/-- THE HEAD -/
theorem spec_call {P : Program} {w : World} {K : Frag} {mg mb : Str → Option Value} {k : Nat} {x : Str} {fa : Addr} {ps : List Str} {sp : Sp} {s₁ : Shared} {us : List Value} {gs : List Arg} {cl : Str → Option Addr} {ans : List Int}
    (KX : K.In s₁.heap) (hns : s₁.heap.Ns mainGlobals mg) (hb : s₁.heap.Ns builtinsNs mb) (hbb : ∀ x : Str, x ≠ "__name__" → mb x = bootBuiltins x) (hlim : s₁.heap.NoLimit) (hg : s₁.gens = #[])
    (hw : WellAll w.params s₁.heap us (gs.map Arg.data)) (hf : ∀ g ∈ gs, g.fits) (hr : Room k callerA)
    (F : ∀ base : Heap, K.In base → base.Ns mainGlobals mg → Fx P w K mg base x k ps sp) (hmg : mg x = some (.ref fa)) (hul : us.length = ps.length)
    (hsp : ∀ (H : Hp) (vs : List V), OnlyK K H → Paired (fun g v => ArgIs K H g v) gs vs → sp vs H (fun v H' => ∃ a, v = .ref a ∧ SqL K H' a (ans.map V.int)) fun _ _ _ => False) :
    codeAny (model P w) callerA (.call (.ref fa) ⟨us, []⟩) (fun r s' => (∃ u as, r = .ok (.ret u) ∧ ReadsW [] cl s'.heap u (.list (ans.map WData.int)) as) ∧ OldK s₁.heap s'.heap ∧ s'.os = s₁.os ∧ AllBare s'.gens) s₁ := by
  obtain ⟨vs, rv, pv⟩ := args_are KX (refs us) hw hf fun a h => h
  generalize hH : argHp K s₁.heap (refs us) = H at pv
  have hO : OnlyK K H := fun b => by
    cases q : H b with
    | none => exact .inl rfl
    | some u =>
      rw [← hH] at q
      obtain ⟨q1, _, vs, ns, _, rfl⟩ := argHp_of q
      exact .inr ⟨q1, _, _, rfl⟩
  have hok : HOk P w H s₁.heap := fun b u e => by
    rw [← hH] at e
    obtain ⟨_, _, vs, ns, ⟨l1, l2, l3⟩, rfl⟩ := argHp_of e
    exact ⟨l1, by rw [List.length_map]; exact l3, vs, _, vals_ints l2, l1⟩
  have base_of : ∀ {b : Addr} {o : Obj}, s₁.heap.get? b = some o → H b = none → (hidT s₁.heap H).get? b = some o := fun e n => hidT_get e n
  have noA : ∀ {b : Addr} {o : Obj} {es : Array DictEntry} {ep : Nat}, s₁.heap.get? b = some o → o.data = .dict es ep → H b = none := fun {b o es ep} e d => by
    cases q : H b with
    | none => rfl
    | some u =>
      rw [← hH] at q
      obtain ⟨_, _, vs, ns, ⟨l1, _, _⟩, _⟩ := argHp_of q
      rw [l1] at e
      cases e
      cases d
  have nsK : ∀ {b : Addr} {m : Str → Option Value}, s₁.heap.Ns b m → (hidT s₁.heap H).Ns b m := fun {b m} ⟨o, es, ep, e, d, r⟩ => ⟨o, es, ep, base_of e (noA e d), d, r⟩
  have freeK : ∀ b o, K.lookup b = some o → H b = none := fun b o e => by
    rcases hO b with z | ⟨z, _⟩
    · exact z
    · rw [e] at z; cases z
  have hKb : K.In (hidT s₁.heap H) := fun b o e => base_of (KX b o e) (freeK b o e)
  have hM : Mod K mg (hidT s₁.heap H) := ⟨hKb, nsK hns, ⟨mb, nsK hb, hbb⟩, let ⟨mc, h1, h2⟩ := hlim; ⟨mc, nsK h1, h2⟩⟩
  have e0 : Env0 P w K mg (hidT s₁.heap H) callerA [] s₁ H := ⟨rfl, hM, fun b o e => of_hidT e, Nat.le_of_eq (hidT_size _ _), trivial, fun b hb => absurd (show b ∈ ([] : List Addr) from hb) (by simp), hok, .of_eq hg⟩
  obtain ⟨f', fd, hm', _, hbd, G⟩ := (F _ hKb (nsK hns)).ex
  rw [hmg] at hm'
  cases hm'
  have hbind : BindsTo s₁ fd ⟨us, []⟩ (ps.zip us) := by
    have z := hbd s₁ us KX (by rw [List.append_nil]; exact hul)
    rw [List.append_nil] at z
    exact z
  refine codeAny_mono (G.run callerA [] s₁ H ⟨us, []⟩ us vs _ _ hr e0 hbind rv (hsp H vs hO pv)) fun r s' h => ?_
  cases r with
  | error e => exact False.elim h
  | ok fl =>
    cases fl with
    | next => exact False.elim h
    | brk => exact False.elim h
    | cont => exact False.elim h
    | ret u =>
      obtain ⟨v, H', os, bare, un, hok', r', a, rfl, hS⟩ := h
      obtain rfl : u = Value.ref a := r'
      have keeps : ∀ b o, s₁.heap.get? b = some o → s'.heap.get? b = some o := fun b o e => by
        cases q : H b with
        | none => exact un.keep b o e q (by intro z; exact absurd (show b ∈ ([] : List Addr) from z) (by simp)) (by simp)
        | some u =>
          rcases hO b with z | ⟨_, ob, xs, z⟩
          · rw [q] at z; cases z
          · have z2 := un.frzs b ob _ z
            obtain ⟨e1, _⟩ := hok b _ z
            obtain ⟨e2, _⟩ := hok' b _ z2
            rw [e] at e1; cases e1
            exact e2
      refine ⟨⟨.ref a, [a], rfl, ?_⟩, OldK.of_keep keeps, os, bare⟩
      · rcases hS with hS | ⟨o, its, n, e1, e2, e3, e4, _, rv2⟩
        · obtain ⟨_, its, n, rv2, e⟩ := hS.ok hok'
          exact ReadsW.list (as := []) e rfl rfl (by simpa using reads_ints rv2)
        · exact ReadsW.list (as := []) (keeps a o (KX a o e1)) e2 e4 (reads_ints rv2)
/-- the goal that k_headS leaves, from the promise of the row's def -/
theorem walk_ofS {r : OpenSpec} {k : Nat} {q : Program} {loose : List Str} {XP : (Str → Option Value) → Heap → Prop} {YP : World → Heap → Prop} {d : DefRec} {K : Params → Frag} {sp : Frag → Sp} {ps : List Str}
    (hdf : d.params.defaults = []) (hr : Room k callerA)
    (hY : ∀ (w : World) (h : Heap), YP w h → (K w.params).In h)
    (hargs : ∀ args, r.pre args = true → ∃ (gs : List Arg) (ans : List Int), args = gs.map Arg.data ∧ (∀ g ∈ gs, g.fits) ∧ gs.length = ps.length ∧ r.post args (.list (ans.map WData.int)) = true ∧
      ∀ (w : World) (H : Hp) (vs : List V), OnlyK (K w.params) H → Paired (fun g v => ArgIs (K w.params) H g v) gs vs → sp (K w.params) vs H (fun v H' => ∃ a, v = .ref a ∧ SqL (K w.params) H' a (ans.map V.int)) fun _ _ _ => False)
    (F : ∀ (w : World) (mg : Str → Option Value) (h : Heap), (K w.params).In h → h.Ns mainGlobals mg →
      ∀ base : Heap, (K w.params).In base → base.Ns mainGlobals mg → Fx r.prog w (K w.params) mg base d.name k ps (sp (K w.params))) :
    WalkOS q loose XP YP r d [] (fun f vs => PySem.call f vs) := by
  intro w s₀ s₁ mg mb G Y fa o pm cd doc dV kV ho hd hcd hD hmg hg args vals as hpre hlay hrd hwl hlo
  have KX := hY w _ Y
  obtain ⟨gs, ans, rfl, hfit, hlen, hpost, hsp⟩ := hargs args hpre
  have hul : vals.length = ps.length := by
    have : ∀ {P : Params} {h : Heap} {us : List Value} {ds : List WData}, WellAll P h us ds → us.length = ds.length := by
      intro P h us
      induction us with
      | nil => intro ds w; cases w; rfl
      | cons u us ih => intro ds w; cases w with | cons _ w => rw [List.length_cons, List.length_cons, ih w]
    rw [this hwl, List.length_map, hlen]
  refine enter_call (codeAny_mono (spec_call (cl := classAt s₀.heap) (ans := ans) KX G.T.g G.T.b G.T.builtins G.T.nolimit hg hwl hfit hr (F w mg _ KX G.T.g) hmg hul (hsp w)) fun res s' hq => ?_)
  obtain ⟨⟨u, bs, rfl, hrd'⟩, h2, h3, h4⟩ := hq
  exact ⟨.inl ⟨u, _, bs, rfl, fun _ => rfl, hrd', osPost hpost, fun hu => by cases hu⟩, h2, h3, h4⟩
/-! ### reading the request -/
theorem dec_cons {c : Codec} {cs : List Codec} {ds : List WData} {a : c.denote} {r : Codec.denoteAll cs} (h : Codec.decAll (c :: cs) ds = some (a, r)) : ∃ d ds', ds = d :: ds' ∧ c.dec d = some a ∧ Codec.decAll cs ds' = some r := by
  cases ds with
  | nil => cases h
  | cons d ds =>
    have e : Codec.decAll (c :: cs) (d :: ds) = Codec.both Prod.mk (c.dec d) (Codec.decAll cs ds) := rfl
    rw [e] at h
    cases h1 : c.dec d with
    | none => rw [h1] at h; cases h
    | some a' =>
      cases h2 : Codec.decAll cs ds with
      | none => rw [h1, h2] at h; cases h
      | some r' =>
        rw [h1, h2] at h
        cases h
        exact ⟨d, ds, rfl, h1, h2⟩
theorem dec_nil {ds : List WData} {r : Codec.denoteAll []} (h : Codec.decAll [] ds = some r) : ds = [] := by
  cases ds with
  | nil => rfl
  | cons d ds => cases h
theorem dec_int {lo hi : Int} {d : WData} {k : Int} (h : (Codec.int lo hi).dec d = some k) : d = .int k ∧ lo ≤ k ∧ k ≤ hi := by
  have h : Codec.decInt lo hi d = some k := h
  cases d with
  | int z =>
    have h : (if Codec.inInt lo hi z = true then some z else none) = some k := h
    by_cases hc : Codec.inInt lo hi z = true
    · rw [if_pos hc] at h
      cases h
      unfold Codec.inInt at hc
      simp only [Bool.and_eq_true, decide_eq_true_eq] at hc
      exact ⟨rfl, hc.1, hc.2⟩
    · rw [if_neg hc] at h
      cases h
  | _ => cases h
theorem dec_items {lo hi : Int} : ∀ {ds : List WData} {ns : List Int}, Codec.decItems (Codec.decInt lo hi) ds = some ns → ds = ns.map WData.int ∧ ∀ x ∈ ns, lo ≤ x ∧ x ≤ hi
  | [], ns, h => by cases h; exact ⟨rfl, fun _ h => nomatch h⟩
  | d :: ds, ns, h => by
    have h : Codec.both List.cons (Codec.decInt lo hi d) (Codec.decItems (Codec.decInt lo hi) ds) = some ns := h
    cases h1 : Codec.decInt lo hi d with
    | none => rw [h1] at h; cases h
    | some a =>
      cases h2 : Codec.decItems (Codec.decInt lo hi) ds with
      | none => rw [h1, h2] at h; cases h
      | some r =>
        rw [h1, h2] at h
        cases h
        obtain ⟨e1, b1, b2⟩ := dec_int (lo := lo) (hi := hi) h1
        obtain ⟨e2, b3⟩ := dec_items h2
        refine ⟨by rw [e1, e2]; rfl, fun x hx => ?_⟩
        rcases List.mem_cons.mp hx with rfl | hx
        · exact ⟨b1, b2⟩
        · exact b3 x hx
theorem dec_list {least most : Nat} {lo hi : Int} {d : WData} {ns : List Int} (h : (Codec.list least most (.int lo hi)).dec d = some ns) : d = .list (ns.map WData.int) ∧ ns.length ≤ most ∧ ∀ x ∈ ns, lo ≤ x ∧ x ≤ hi := by
  have h : Codec.decList least most (Codec.decInt lo hi) d = some ns := h
  cases d with
  | list ds =>
    have h : (if Codec.inLen least most ds = true then Codec.decItems (Codec.decInt lo hi) ds else none) = some ns := h
    by_cases hc : Codec.inLen least most ds = true
    · rw [if_pos hc] at h
      obtain ⟨e, b⟩ := dec_items h
      unfold Codec.inLen Codec.inNat at hc
      simp only [Bool.and_eq_true, decide_eq_true_eq] at hc
      refine ⟨by rw [e], ?_, b⟩
      rw [e, List.length_map] at hc
      exact hc.2
    · rw [if_neg hc] at h
      cases h
  | _ => cases h
theorem post_list {r : OpenSpec} {as : List WData} {a : Codec.denoteAll r.args} {k : List Int} (h1 : Codec.decAll r.args as = some a) (h2 : r.ret.enc (Codec.app r.args r.f a) = .list (k.map WData.int)) : r.post as (.list (k.map WData.int)) = true := by
  refine os_post h1 ?_
  rw [h2]
  exact same_self _
end KL

set_option Elab.async false
set_option linter.all false
set_option maxRecDepth 100000
namespace KL
open PySem PySem.W PyProof.Rows L2
/-- bytes (naturals) as the layer's values -/
def vb (l : List Nat) : List V := l.map fun n : Nat => V.int (n : Int)
theorem vb_length (l : List Nat) : (vb l).length = l.length := List.length_map _
theorem vb_append (a b : List Nat) : vb (a ++ b) = vb a ++ vb b := List.map_append
theorem vb_get {l : List Nat} {i : Nat} {v : V} (h : (vb l)[i]? = some v) : ∃ n, l[i]? = some n ∧ v = V.int (n : Int) := by
  unfold vb at h
  rw [List.getElem?_map] at h
  cases e : l[i]? with
  | none => rw [e] at h; cases h
  | some n => rw [e] at h; exact ⟨n, rfl, (Option.some.inj h).symm⟩
theorem vb_nats {ns : List Int} (h : ∀ x ∈ ns, 0 ≤ x) : ns.map V.int = vb (ns.map Int.toNat) := by
  unfold vb
  rw [List.map_map]
  refine List.map_congr_left fun x hx => ?_
  show V.int x = V.int ((x.toNat : Nat) : Int)
  rw [Int.toNat_of_nonneg (h x hx)]
theorem xor_nat (a b : Nat) : Builtin.bitXor (a : Int) (b : Int) = ((a ^^^ b : Nat) : Int) := by
  rw [bitXor_and]
  have e : Builtin.bitAnd (a : Int) (b : Int) = ((a &&& b : Nat) : Int) := by
    unfold Builtin.bitAnd
    have h1 : decide ((0 : Int) ≤ (a : Int)) = true := by simp
    have h2 : decide ((0 : Int) ≤ (b : Int)) = true := by simp
    rw [h1, h2]
    rfl
  rw [e]
  have := My.xor_and a b
  omega
theorem and_nat (a b : Nat) : Builtin.bitAnd (a : Int) (b : Int) = ((a &&& b : Nat) : Int) := by
  unfold Builtin.bitAnd
  have h1 : decide ((0 : Int) ≤ (a : Int)) = true := by simp
  have h2 : decide ((0 : Int) ≤ (b : Int)) = true := by simp
  rw [h1, h2]
  rfl
theorem or_nat (a b : Nat) : Builtin.bitOr (a : Int) (b : Int) = ((a ||| b : Nat) : Int) := by
  have h : Builtin.bitXor (a : Int) (b : Int) = Builtin.bitOr (a : Int) (b : Int) - Builtin.bitAnd (a : Int) (b : Int) := rfl
  rw [xor_nat, and_nat] at h
  have h1 := My.xor_and a b
  have h2 := My.or_and a b
  omega
theorem and15 (a : Nat) : Builtin.bitAnd (a : Int) 15 = ((a % 16 : Nat) : Int) := by
  rw [bitAnd_m4]
  omega
theorem shr4 (a : Nat) : (a : Int) / 2 ^ (4 : Int).toNat = ((a / 16 : Nat) : Int) := by
  show (a : Int) / 16 = _
  omega
end KL
/-! ### classes of the text, bundled -/
namespace KL
open PySem PySem.W PyProof.Rows L2
structure Mtx (P : Program) (w : World) (K : Frag) (mg : Str → Option Value) (base : Heap) (C : Addr) (m : Str) (k : Nat) (ps : List Str) (sp : Sp) : Prop where
  ex : ∃ f fd, Cls K C ∧ Meth K C m f ∧ Binds K fd ps [] ∧ FnOk P w K mg base CX0 k f fd ps sp
structure Mkx (P : Program) (w : World) (K : Frag) (mg : Str → Option Value) (base : Heap) (x : Str) (C : Addr) (k : Nat) (ps : List Str) (sp : Sp) : Prop where
  ex : ∃ f fd, mg x = some (.ref C) ∧ Mk K C f ∧ Binds K fd ps [] ∧ FnOk P w K mg base CX0 k f fd ps sp
theorem pe_mx {X : Cx} {x : Str} {C : Addr} {k : Nat} {ps : List Str} {sp : Sp} {p pos : Pos} {e : Expr} {es : List Expr} {t : TA} (M : Mkx X.prog X.w X.K X.mg X.base x C k ps sp) (hr : Room (k + 1) X.A) (hg : Gl X x) (ha : PA X (e :: es) t)
    (hdb : (x == ("__debug__" : Str)) = false := by decide) (he : starEach (e :: es) X.env = (false, eval e X.env) :: starEach es X.env := by rfl) (hpl : (backTo pos (starEach es X.env)).any (·.1) = false := by rfl) :
    PE X (.Call (.Name x p) (e :: es) [] pos) (tMake C sp [] E0 t) := by
  obtain ⟨f, fd, hm, hk, hb, G⟩ := M.ex
  exact pe_make hk G hr hg hm hb .nil pass0 ha hdb he hpl
theorem pe_mx0 {X : Cx} {x : Str} {C : Addr} {k : Nat} {ps : List Str} {sp : Sp} {p pos : Pos} (M : Mkx X.prog X.w X.K X.mg X.base x C k ps sp) (hr : Room (k + 1) X.A) (hg : Gl X x)
    (hdb : (x == ("__debug__" : Str)) = false := by decide) : PE X (.Call (.Name x p) [] [] pos) (tMake C sp [] E0 tNil) := by
  obtain ⟨f, fd, hm, hk, hb, G⟩ := M.ex
  exact pe_make0 hk G hr hg hm hb .nil pass0 hdb
theorem pe_mt {X : Cx} {o e : Expr} {es : List Expr} {C : Addr} {m : Str} {k : Nat} {ps : List Str} {sp : Sp} {apos pos : Pos} {ta : TE} {t : TA} {pl : Sem Bool} (he : PE X o ta) (M : Mtx X.prog X.w X.K X.mg X.base C m k ps sp) (hr : Room k X.A) (ha : PA X (e :: es) t)
    (hst : starEach (e :: es) X.env = (false, eval e X.env) :: starEach es X.env := by rfl) (hpl : (backTo pos (starEach es X.env)).any (·.1) = false := by rfl)
    (ht : eval (.Call (.Attribute o m apos) (e :: es) [] pos) X.env = (do
      let ov ← eval o X.env
      standAt apos.atName
      let (f, first) ← holding [ov] (getMethod ov m pl)
      callWith pos f first (backTo pos (starEach (e :: es) X.env)) (backToKw pos (keywordEach [] X.env))) := by rfl) :
    PE X (.Call (.Attribute o m apos) (e :: es) [] pos) (tMeth C m sp [] E0 ta t) := by
  obtain ⟨f, fd, hc, hm, hb, G⟩ := M.ex
  exact pe_meth he hc hm G hr hb .nil pass0 ha hst hpl ht
theorem pe_mt0 {X : Cx} {o : Expr} {C : Addr} {m : Str} {k : Nat} {ps : List Str} {sp : Sp} {apos pos : Pos} {ta : TE} {pl : Sem Bool} (he : PE X o ta) (M : Mtx X.prog X.w X.K X.mg X.base C m k ps sp) (hr : Room k X.A)
    (ht : eval (.Call (.Attribute o m apos) [] [] pos) X.env = (do
      let ov ← eval o X.env
      standAt apos.atName
      let (f, first) ← holding [ov] (getMethod ov m pl)
      callWith pos f first (backTo pos (starEach [] X.env)) (backToKw pos (keywordEach [] X.env))) := by rfl) :
    PE X (.Call (.Attribute o m apos) [] [] pos) (tMeth C m sp [] E0 ta tNil) := by
  obtain ⟨f, fd, hc, hm, hb, G⟩ := M.ex
  exact pe_meth0 he hc hm G hr hb .nil pass0 ht
/-! ### heaps: what is done with stays -/
theorem Same.upd {G H : Hp} {l : Addr} {o : HO} (s : Same G H) (h : G l = none) : Same G (L2.upd H l o) := fun b u e => by
  rw [upd_ne (ne_of_none e h)]
  exact s b u e
theorem Same.new {G H : Hp} {l : Addr} {o : HO} (s : Same G H) (h : H l = none) : Same G (L2.upd H l o) := Same.upd s (s.free h)
theorem Same.grow {G H : Hp} {l : Addr} {o : HO} (s : Same G H) (h : H l = some o) : Same (L2.upd G l o) H := fun b u e => by
  by_cases hb : b = l
  · subst hb
    rw [upd_same] at e
    rw [h, e]
  · rw [upd_ne hb] at e
    exact s b u e
theorem Same.at {G H : Hp} {l : Addr} {o : HO} (s : Same G H) (h : G l = some o) : H l = some o := s l o h
end KL
namespace KL
open PySem PySem.W PyProof.Rows L2
theorem pe_gint {X : Cx} {x : Str} {i : Int} {pos : Pos} (hg : Gl X x) (hm : ∃ t, X.mg x = some (.int i t)) (hd : (x == ("__debug__" : Str)) = false := by decide) : PE X (.Name x pos) (tC (.int i)) := by
  obtain ⟨t, hm⟩ := hm
  exact pe_glob (v := .int i) hg hm ⟨t, rfl⟩ hd
theorem pe_gstr {X : Cx} {x : Str} {i : Str} {pos : Pos} (hg : Gl X x) (hm : ∃ t, X.mg x = some (.str i t)) (hd : (x == ("__debug__" : Str)) = false := by decide) : PE X (.Name x pos) (tC (.str i)) := by
  obtain ⟨t, hm⟩ := hm
  exact pe_glob (v := .str i) hg hm ⟨t, rfl⟩ hd
theorem pe_gref {X : Cx} {x : Str} {a : Addr} {pos : Pos} (hg : Gl X x) (hm : X.mg x = some (.ref a)) (hd : (x == ("__debug__" : Str)) = false := by decide) : PE X (.Name x pos) (tC (.ref a)) :=
  pe_glob (v := .ref a) hg hm rfl hd
end KL

set_option Elab.async false
set_option linter.all false
set_option maxRecDepth 100000
namespace KL
open PySem PyProof.Rows
/-- by the first that differs; where one has ended, by their lengths -/
def lexBy (d : Int → Int → Bool) (e : Nat → Nat → Bool) : List Int → List Int → Bool
  | x :: xs, y :: ys => if x = y then lexBy d e xs ys else d x y
  | [], ys => e 0 ys.length
  | xs, [] => e xs.length 0
section
open PySem.SeqAt
open PySem.AutoSeq1 (wpAny_loadPart')
open PySem.MeetsSeq PySem.MeetsSeq2 PySem.MeetsSeq3
theorem ints_get {vs : List Value} {ns : List Int} (h : IntsAre vs ns) : ∀ {i : Nat} {n : Int}, ns[i]? = some n → ∃ t, vs[i]? = some (.int n t) := by
  induction h with
  | nil => intro i n e; simp at e
  | cons m t _ ih =>
    intro i n e
    cases i with
    | zero => simp at e; subst e; exact ⟨t, rfl⟩
    | succ i => exact ih (by simpa using e)
theorem lexBy_end (d : Int → Int → Bool) (e : Nat → Nat → Bool) (ns ms : List Int) (h : ns = [] ∨ ms = []) : lexBy d e ns ms = e ns.length ms.length := by
  rcases h with rfl | rfl
  · cases ms <;> rfl
  · cases ns <;> rfl
theorem lexBy_step (d : Int → Int → Bool) (e : Nat → Nat → Bool) (ns ms : List Int) (i : Nat) {x y : Int} (hx : ns[i]? = some x) (hy : ms[i]? = some y) : lexBy d e (ns.drop i) (ms.drop i) = if x = y then lexBy d e (ns.drop (i + 1)) (ms.drop (i + 1)) else d x y := by
  obtain ⟨h1, e1⟩ := List.getElem?_eq_some_iff.mp hx
  obtain ⟨h2, e2⟩ := List.getElem?_eq_some_iff.mp hy
  rw [List.drop_eq_getElem_cons h1, List.drop_eq_getElem_cons h2, e1, e2]
  rfl
theorem le_loop (l b : Addr) (items items2 : Array Value) (n n2 : Nat) (dd dd2 : Option Addr) (sl sl2 : Array (Option Value)) (ns ms : List Int) (hi : IntsAre items.toList ns) (hj : IntsAre items2.toList ms) (k : Nat) :
    ∀ i : Nat, items.size - i = k → (i ≤ items.size ∧ i ≤ items2.size) → Meets (Builtin.«list.__eq__.loop» ⟨[.ref l, .ref b, rawInt i, rawInt 1], []⟩)
      (fun A R s => s.heap.get? l = some { cls := .type "list", dict := dd, data := .seq items n, slots := sl } ∧ s.heap.get? b = some { cls := .type "list", dict := dd2, data := .seq items2 n2, slots := sl2 } ∧
        R (.ok (.ret (.bool (lexBy (fun x y => decide (x ≤ y)) (fun x y => decide (x ≤ y)) (ns.drop i) (ms.drop i))))) s) := by
  have z1 : items.size = ns.length := by rw [← hi.length]; simp
  have z2 : items2.size = ms.length := by rw [← hj.length]; simp
  induction k with
  | zero =>
    intro i hk hle prog w A R s h
    obtain ⟨hp, g, d, tk, os⟩ := s; obtain ⟨hl, hb, h⟩ := h
    wp_walk using wpAny_loadPart' hl, wpAny_loadPart' hb
    have hi1 : items[((i : Nat) : Int).toNat]? = none := by simp; omega
    have hd : ns.drop i = [] := by simp; omega
    rw [hi1]
    rw [lexBy_end _ _ _ _ (.inl hd), List.length_drop, List.length_drop] at h
    have e : decide (ns.length - i ≤ ms.length - i) = decide (items.size ≤ items2.size) := by
      rw [z1, z2]
      have h1 := hle.1
      have h2 := hle.2
      rw [z1] at h1
      rw [z2] at h2
      by_cases q : ns.length ≤ ms.length
      · rw [decide_eq_true q, decide_eq_true (by omega)]
      · rw [decide_eq_false q, decide_eq_false (by omega)]
    rw [e] at h
    wp_walk using wpAny_loadPart' hl, wpAny_loadPart' hb
    exact h
  | succ k ih =>
    intro i hk hle prog w A R s h
    obtain ⟨hp, g, d, tk, os⟩ := s; obtain ⟨hl, hb, h⟩ := h
    wp_walk using wpAny_loadPart' hl, wpAny_loadPart' hb
    have hlt : i < items.size := by omega
    have hx : ns[i]? = some ns[i] := List.getElem?_eq_getElem (by omega)
    obtain ⟨t, ht⟩ := ints_get hi hx
    have hi1 : items[((i : Nat) : Int).toNat]? = some (.int ns[i] t) := by
      rw [← ht]; simp
    by_cases hlt2 : i < items2.size
    · have hy : ms[i]? = some ms[i] := List.getElem?_eq_getElem (by omega)
      obtain ⟨u, hu⟩ := ints_get hj hy
      have hi2 : items2[((i : Nat) : Int).toNat]? = some (.int ms[i] u) := by
        rw [← hu]; simp
      have hc : ((i : Int) + 1) = ((i + 1 : Nat) : Int) := by push_cast; rfl
      rw [lexBy_step _ _ _ _ _ hx hy] at h
      rw [hi1, hi2]
      refine wpAny_bind (SeqAt.EqAt.int_int ns[i] t ms[i] u prog w _ _ ?_)
      by_cases q : ns[i] = ms[i]
      · rw [if_pos q] at h
        have q' : (ns[i] == ms[i]) = true := by simp [q]
        rw [q']
        wp_walk
        rw [hc]
        exact ⟨plainId_quiet plain_eq_loop _, codeAny_builtin entry_eq_loop (by
          rw [Around.under_plainId plain_eq_loop _]
          exact ih (i + 1) (by omega) ⟨by omega, by omega⟩ prog w A R _ ⟨hl, hb, h⟩)⟩
      · rw [if_neg q] at h
        have q' : (ns[i] == ms[i]) = false := by simp [q]
        rw [q']
        wp_walk using wpAny_loadPart' hl, wpAny_loadPart' hb
        rw [hi1, hi2]
        have hle' : ∀ (A : Around) (s : Shared) (E : Value → Shared → Prop) (Q : Value → Shared → Prop), Q (.bool (decide (ns[i] ≤ ms[i]))) s → wpAny (model prog w) A (richCompare .LtE (.int ns[i] t) (.int ms[i] u)) Q E s :=
          fun A s E Q h => (PyProof.Rows.le_int h : wpAny (model prog w) A (compareOp .LtE (.int ns[i] t) (.int ms[i] u)) Q E s)
        wp_walk using hle'
        exact h
    · have hi2 : items2[((i : Nat) : Int).toNat]? = none := by simp; omega
      have hd : ms.drop i = [] := by simp; omega
      rw [hi1, hi2]
      rw [lexBy_end _ _ _ _ (.inr hd), List.length_drop, List.length_drop] at h
      have e : decide (ns.length - i ≤ ms.length - i) = decide (items.size ≤ items2.size) := by
        rw [z1, z2, decide_eq_false (by omega), decide_eq_false (by omega)]
      rw [e] at h
      wp_walk using wpAny_loadPart' hl, wpAny_loadPart' hb
      exact h
theorem list_le_ints (l b : Addr) (items items2 : Array Value) (n n2 : Nat) (dd dd2 : Option Addr) (sl sl2 : Array (Option Value)) (ns ms : List Int) (hi : IntsAre items.toList ns) (hj : IntsAre items2.toList ms) :
    Meets (Builtin.«list.__le__» ⟨[.ref l, .ref b], []⟩)
      (fun _ R s => s.heap.get? l = some { cls := .type "list", dict := dd, data := .seq items n, slots := sl } ∧ s.heap.get? b = some { cls := .type "list", dict := dd2, data := .seq items2 n2, slots := sl2 } ∧
        R (.ok (.ret (.bool (lexBy (fun x y => decide (x ≤ y)) (fun x y => decide (x ≤ y)) ns ms)))) s) := by
  intro prog w A R s h
  obtain ⟨hp, g, d, tk, os⟩ := s; obtain ⟨hl, hb, h⟩ := h
  have f3 := AutoSeq1.sub_list_list
  wp_walk using wpAny_loadPart' hl, wpAny_loadPart' hb
  exact ⟨plainId_quiet plain_eq_loop _, codeAny_builtin entry_eq_loop (by
    rw [Around.under_plainId plain_eq_loop _]
    exact le_loop l b items items2 n n2 dd dd2 sl sl2 ns ms hi hj _ 0 rfl ⟨Nat.zero_le _, Nat.zero_le _⟩ prog w A R _ ⟨hl, hb, h⟩)⟩
end
end KL

set_option Elab.async false
set_option linter.all false
set_option maxRecDepth 100000
namespace KL
open PySem PySem.W PyProof.Rows L2
/-! ### loops over zip and enumerate -/
theorem for_zip {K : Frag} {a b : Addr} {xs ys : List V} {g : TG} {tb : TS} {D : Ends} {σ : L2.St} {H : Hp} (Pv : Nat → L2.St → Hp → Prop) (h0 : Pv 0 σ H) (hl : ∀ i σ H, Pv i σ H → SqL K H a xs ∧ SqL K H b ys)
    (hs : ∀ i x y T σ H, xs[i]? = some x → ys[i]? = some y → H T = none → Pv i σ H → g (.ref T) σ (upd H T (.tup [x, y])) fun σ2 H2 => tb { D with nx := Pv (i + 1), ct := Pv (i + 1), bk := D.nx } σ2 H2)
    (hd : ∀ i σ H, (i = xs.length ∧ i ≤ ys.length ∨ i = ys.length ∧ i ≤ xs.length) → Pv i σ H → D.nx σ H) :
    ∃ W : Nat → Nat → L2.St → Hp → Prop, (∃ m, W 0 m σ H) ∧ ∀ i m σ H, W i m σ H →
      ((Itz K a b).stop i H ∧ D.nx σ H) ∨ ((Itz K a b).go i H ∧ ∃ N : L2.St → Hp → Prop, (∀ σ' H', N σ' H' → ∃ m', m' < m ∧ W (i + 1) m' σ' H') ∧ ∀ x H', (Itz K a b).yld i H x H' → g x σ H' fun σ2 H2 => tb { D with nx := N, ct := N, bk := D.nx } σ2 H2) := by
  refine ⟨fun i m σ H => m = xs.length - i ∧ i ≤ xs.length ∧ i ≤ ys.length ∧ Pv i σ H, ⟨xs.length, by simp, Nat.zero_le _, Nat.zero_le _, h0⟩, ?_⟩
  rintro i m σ H ⟨rfl, hi, hj, p⟩
  obtain ⟨q1, q2⟩ := hl i σ H p
  by_cases hlt : i < xs.length
  · by_cases hlt2 : i < ys.length
    · refine .inr ⟨⟨xs, ys, xs[i], ys[i], q1, q2, by simp [hlt], by simp [hlt2]⟩, Pv (i + 1), fun σ' H' p' => ⟨xs.length - (i + 1), by omega, rfl, hlt, hlt2, p'⟩, fun x H' y => ?_⟩
      obtain ⟨T, u, v, rfl, hT, rfl, e1, e2⟩ := y
      exact hs i u v T σ H (e1 xs q1) (e2 ys q2) hT p
    · exact .inl ⟨⟨xs, ys, q1, q2, .inr (by omega)⟩, hd i σ H (.inr ⟨by omega, hi⟩) p⟩
  · exact .inl ⟨⟨xs, ys, q1, q2, .inl (by omega)⟩, hd i σ H (.inl ⟨by omega, hj⟩) p⟩
theorem for_enum {K : Frag} {a : Addr} {xs : List V} {g : TG} {tb : TS} {D : Ends} {σ : L2.St} {H : Hp} (Pv : Nat → L2.St → Hp → Prop) (h0 : Pv 0 σ H) (hl : ∀ i σ H, Pv i σ H → SqL K H a xs)
    (hs : ∀ i x T σ H, xs[i]? = some x → H T = none → Pv i σ H → g (.ref T) σ (upd H T (.tup [.int (i : Nat), x])) fun σ2 H2 => tb { D with nx := Pv (i + 1), ct := Pv (i + 1), bk := D.nx } σ2 H2)
    (hd : ∀ σ H, Pv xs.length σ H → D.nx σ H) :
    ∃ W : Nat → Nat → L2.St → Hp → Prop, (∃ m, W 0 m σ H) ∧ ∀ i m σ H, W i m σ H →
      ((Ite K a).stop i H ∧ D.nx σ H) ∨ ((Ite K a).go i H ∧ ∃ N : L2.St → Hp → Prop, (∀ σ' H', N σ' H' → ∃ m', m' < m ∧ W (i + 1) m' σ' H') ∧ ∀ x H', (Ite K a).yld i H x H' → g x σ H' fun σ2 H2 => tb { D with nx := N, ct := N, bk := D.nx } σ2 H2) := by
  refine ⟨fun i m σ H => m = xs.length - i ∧ i ≤ xs.length ∧ Pv i σ H, ⟨xs.length, by simp, Nat.zero_le _, h0⟩, ?_⟩
  rintro i m σ H ⟨rfl, hi, p⟩
  have q := hl i σ H p
  by_cases hlt : i < xs.length
  · refine .inr ⟨⟨xs, xs[i], q, by simp [hlt]⟩, Pv (i + 1), fun σ' H' p' => ⟨xs.length - (i + 1), by omega, rfl, hlt, p'⟩, fun x H' y => ?_⟩
    obtain ⟨T, u, rfl, hT, rfl, e1⟩ := y
    exact hs i u T σ H (e1 xs q) hT p
  · have e : i = xs.length := by omega
    subst e
    exact .inl ⟨⟨xs, q, Nat.le_refl _⟩, hd σ H p⟩
/-! ### <= of lists of ints -/
def rLeL (K : Frag) : R2 := fun x y H Q => ∃ (a b : Addr) (ns ms : List Int), x = .ref a ∧ y = .ref b ∧ SqL K H a (ns.map V.int) ∧ SqL K H b (ms.map V.int) ∧ Q (.bl (lexBy (fun x y => decide (x ≤ y)) (fun x y => decide (x ≤ y)) ns ms)) H
theorem op_leL {X : Cx} (hu : X.A.units < cLine) : OpR X (compareOp .LtE) (rLeL X.K) := by
  intro pins s σ H x y v u Q I rx ry h
  obtain ⟨a, b, ns, ms, rfl, rfl, ha, hb, q⟩ := h
  cases rx
  cases ry
  obtain ⟨its, r1, p1, _⟩ := I.list ha
  obtain ⟨its2, r2, p2, _⟩ := I.list hb
  have i1 : IntsAre its.toArray.toList ns := intsAre_of r1
  have i2 : IntsAre its2.toArray.toList ms := intsAre_of r2
  obtain ⟨⟨cls, dd, data, sl⟩, ho, hc, n, hd⟩ := id p1.isList
  obtain ⟨⟨cls2, dd2, data2, sl2⟩, ho2, hc2, n2, hd2⟩ := id p2.isList
  simp only at hc hd hc2 hd2
  subst hc hd hc2 hd2
  exact richCompare_meets_room (op := .LtE) ⟨_, ho, rfl⟩ ⟨_, ho2, rfl⟩ PySem.F.slot_list_le PySem.F.entry_list_le (PySem.F.args_list_le_2 _ _) (list_le_ints a b its.toArray its2.toArray n n2 dd dd2 sl sl2 ns ms i1 i2)
    ⟨ho, ho2, (fun x => nomatch x), .bl _, H, I, rfl, q⟩ hu
theorem lexBy_before : ∀ a b : List Nat, lexBy (fun x y => decide (x ≤ y)) (fun x y => decide (x ≤ y)) (a.map fun n : Nat => (n : Int)) (b.map fun n : Nat => (n : Int)) = !Sv13.before b a
  | [], b => by cases b <;> rfl
  | x :: r, [] => rfl
  | x :: r, y :: s => by
    show (if (x : Int) = (y : Int) then lexBy _ _ (r.map _) (s.map _) else decide ((x : Int) ≤ (y : Int))) = !(decide (y < x) || (y == x && Sv13.before s r))
    by_cases h : x = y
    · subst h
      rw [if_pos rfl, lexBy_before r s]
      simp
    · have h' : ¬ (x : Int) = (y : Int) := by omega
      have h2 : (y == x) = false := by simp; omega
      rw [if_neg h', h2]
      by_cases hl : y < x
      · rw [decide_eq_true hl, decide_eq_false (by omega)]; rfl
      · rw [decide_eq_false hl, decide_eq_true (by omega)]; rfl
end KL

set_option Elab.async false
set_option linter.all false
set_option maxRecDepth 100000
namespace KL
open PySem PySem.W PyProof.Rows L2
/-! ### xs == [], xs != [] -/
def rEqE (K : Frag) (neg : Bool) : R2 := fun x y H Q => ∃ (a b : Addr) (xs : List V), x = .ref a ∧ y = .ref b ∧ SqL K H a xs ∧ SqL K H b [] ∧ Q (.bl (if neg then !xs.isEmpty else xs.isEmpty)) H
theorem op_eqE {X : Cx} (hu : X.A.units < cLine) : OpR X (compareOp .Eq) (rEqE X.K false) := by
  intro pins s σ H x y v u Q I rx ry h
  obtain ⟨a, b, xs, rfl, rfl, ha, hb, q⟩ := h
  cases rx
  cases ry
  obtain ⟨its, r1, p1, _⟩ := I.list ha
  obtain ⟨its2, r2, p2, _⟩ := I.list hb
  cases r2
  have hlen := r1.length
  cases xs with
  | nil =>
    have : its = [] := List.length_eq_zero_iff.mp hlen.symm
    subst this
    exact SeqAt.RcAt.lists (e := fun _ => true) p1.isList p2.isList rfl hu (fun j h1 => absurd h1 (by simp)) _ _ _ _ ⟨.bl true, H, I, rfl, q⟩
  | cons z zs =>
    exact SeqAt.RcAt.lists_lengths p1.isList p2.isList (by rw [List.length_cons] at hlen; simp only [List.size_toArray, ← hlen]; rfl) hu _ _ _ _ ⟨.bl false, H, I, rfl, q⟩
theorem op_neE {X : Cx} (hu : X.A.units < cLine) : OpR X (compareOp .NotEq) (rEqE X.K true) := by
  intro pins s σ H x y v u Q I rx ry h
  obtain ⟨a, b, xs, rfl, rfl, ha, hb, q⟩ := h
  cases rx
  cases ry
  obtain ⟨its, r1, p1, _⟩ := I.list ha
  obtain ⟨its2, r2, p2, _⟩ := I.list hb
  cases r2
  have hlen := r1.length
  cases xs with
  | nil =>
    have : its = [] := List.length_eq_zero_iff.mp hlen.symm
    subst this
    exact SeqAt.RcNeAt.lists (e := fun _ => true) p1.isList p2.isList rfl hu (fun j h1 => absurd h1 (by simp)) _ _ _ _ ⟨.bl false, H, I, rfl, q⟩
  | cons z zs =>
    exact SeqAt.RcNeAt.lists_lengths p1.isList p2.isList (by rw [List.length_cons] at hlen; simp only [List.size_toArray, ← hlen]; rfl) hu _ _ _ _ ⟨.bl true, H, I, rfl, q⟩
end KL

set_option Elab.async false
set_option linter.all false
set_option maxRecDepth 100000
namespace KL
open PySem PySem.W PyProof.Rows L2
/-! ### == and != of lists of bytes -/
theorem all_get : ∀ {xs ys : List Nat}, xs.length = ys.length → (List.range xs.length).all (fun j => decide (xs.getD j 0 = ys.getD j 0)) = decide (xs = ys) := by
  intro xs ys h
  rw [Bool.eq_iff_iff, List.all_eq_true, decide_eq_true_eq]
  constructor
  · intro q
    refine List.ext_getElem h fun i h1 h2 => ?_
    have := of_decide_eq_true (q i (List.mem_range.mpr h1))
    simpa [List.getD, h1, h2] using this
  · intro e j _
    rw [e]
    exact decide_eq_true rfl
theorem vb_items {l : List Nat} {its : List Value} (r : Vals (vb l) its) {j : Nat} (h : j < its.length) : RelV (V.int ((l.getD j 0 : Nat) : Int)) its[j] := by
  have hl : (vb l).length = its.length := r.length
  have hj : (vb l)[j]? = some (V.int ((l.getD j 0 : Nat) : Int)) := by
    rw [vb_length] at hl
    unfold vb
    rw [List.getElem?_map, List.getElem?_eq_getElem (by omega)]
    simp [List.getD, List.getElem?_eq_getElem (show j < l.length by omega)]
  obtain ⟨u, hu, ru⟩ := r.get hj
  rw [List.getElem?_eq_getElem h] at hu
  cases hu
  exact ru
theorem eqV_int (i j : Nat) : eqV (V.int (i : Int)) (V.int (j : Int)) = decide (i = j) := by
  show (((i : Int) == (j : Int)) : Bool) = _
  by_cases h : i = j
  · subst h
    simp
  · rw [decide_eq_false h]
    have : ¬ (i : Int) = (j : Int) := by omega
    simp [this]
def rEqB (K : Frag) (neg : Bool) : R2 := fun x y H Q => ∃ (a b : Addr) (xs ys : List Nat), x = .ref a ∧ y = .ref b ∧ SqL K H a (vb xs) ∧ SqL K H b (vb ys) ∧ Q (.bl (if neg then !decide (xs = ys) else decide (xs = ys))) H
theorem op_eqB {X : Cx} (hu : X.A.units < cLine) : OpR X (compareOp .Eq) (rEqB X.K false) := by
  intro pins s σ H x y v u Q I rx ry h
  obtain ⟨a, b, xs, ys, rfl, rfl, ha, hb, q⟩ := h
  cases rx
  cases ry
  obtain ⟨its, r1, p1, _⟩ := I.list ha
  obtain ⟨its2, r2, p2, _⟩ := I.list hb
  have h1 := r1.length
  have h2 := r2.length
  rw [vb_length] at h1 h2
  by_cases hl : xs.length = ys.length
  · refine SeqAt.RcAt.lists (e := fun j => decide (xs.getD j 0 = ys.getD j 0)) p1.isList p2.isList (by simp only [List.size_toArray]; omega) hu (fun j k1 k2 => ?_) _ _ _ _ ⟨.bl _, H, I, rfl, ?_⟩
    · rw [← eqV_int]
      have k1' : j < its.length := by simpa using k1
      have k2' : j < its2.length := by simpa using k2
      simp only [List.getElem_toArray]
      exact eqAt_V (vb_items r1 k1') (vb_items r2 k2') rfl rfl
    · rw [List.size_toArray, ← h1, all_get hl]
      exact q
  · have e : decide (xs = ys) = false := decide_eq_false fun z => hl (by rw [z])
    rw [e] at q
    exact SeqAt.RcAt.lists_lengths p1.isList p2.isList (by simp only [List.size_toArray, ← h1, ← h2, bne_iff_ne]; exact hl) hu _ _ _ _ ⟨.bl false, H, I, rfl, q⟩
theorem op_neB {X : Cx} (hu : X.A.units < cLine) : OpR X (compareOp .NotEq) (rEqB X.K true) := by
  intro pins s σ H x y v u Q I rx ry h
  obtain ⟨a, b, xs, ys, rfl, rfl, ha, hb, q⟩ := h
  cases rx
  cases ry
  obtain ⟨its, r1, p1, _⟩ := I.list ha
  obtain ⟨its2, r2, p2, _⟩ := I.list hb
  have h1 := r1.length
  have h2 := r2.length
  rw [vb_length] at h1 h2
  by_cases hl : xs.length = ys.length
  · refine SeqAt.RcNeAt.lists (e := fun j => decide (xs.getD j 0 = ys.getD j 0)) p1.isList p2.isList (by simp only [List.size_toArray]; omega) hu (fun j k1 k2 => ?_) _ _ _ _ ⟨.bl _, H, I, rfl, ?_⟩
    · rw [← eqV_int]
      have k1' : j < its.length := by simpa using k1
      have k2' : j < its2.length := by simpa using k2
      simp only [List.getElem_toArray]
      exact eqAt_V (vb_items r1 k1') (vb_items r2 k2') rfl rfl
    · rw [List.size_toArray, ← h1, all_get hl]
      exact q
  · have e : decide (xs = ys) = false := decide_eq_false fun z => hl (by rw [z])
    rw [e] at q
    exact SeqAt.RcNeAt.lists_lengths p1.isList p2.isList (by simp only [List.size_toArray, ← h1, ← h2, bne_iff_ne]; exact hl) hu _ _ _ _ ⟨.bl true, H, I, rfl, q⟩
end KL

set_option Elab.async false
set_option linter.all false
set_option maxRecDepth 100000
namespace KL
open PySem PySem.W PyProof.Rows L2
def isByte (l : List Nat) : Prop := ∀ x ∈ l, x < 256
def newL (xs : List V) (H : Hp) (Q : VK) : Prop := ∀ (l : Addr) (H' : Hp), Same H H' → H l = none → H' l = some (.lst xs) → Q (.ref l) H'
def anyL (K : Frag) (xs : List V) (H : Hp) (Q : VK) : Prop := ∀ (l : Addr) (H' : Hp), Same H H' → SqL K H' l xs → Q (.ref l) H'
def anyT (a : Addr) (xs : List V) (H : Hp) (Q : VK) : Prop := ∀ (l : Addr) (H' : Hp), Same H H' → (l = a ∨ H l = none) → H' l = some (.lst xs) → Q (.ref l) H'
theorem vb_snoc (l : List Nat) {z : Int} {n : Nat} (e : z = (n : Int)) : some (HO.lst (vb l ++ [V.int z])) = some (HO.lst (vb (l ++ [n]))) := by
  rw [vb_append, e]
  rfl
theorem pow8 (i : Nat) : (2 : Int) ^ (8 * i) = ((256 ^ i : Nat) : Int) := by
  rw [show (256 : Nat) ^ i = 2 ^ (8 * i) from (Nat.pow_mul 2 8 i).symm]
  simp
theorem lt_size {n : Nat} (h : n ≤ 16777215) : n < sizeLine := by
  show n < 2 ^ 24
  omega
theorem le_size {n : Nat} (h : n ≤ 16777216) : n ≤ sizeLine := by
  show n ≤ 2 ^ 24
  omega
theorem common_at : ∀ (a b : List Nat) (i : Nat), (∀ j, j < i → a[j]? = b[j]? ∧ a[j]? ≠ none) → Sv13.common a b = i + Sv13.common (a.drop i) (b.drop i)
  | a, b, 0, _ => by simp
  | a, b, i + 1, h => by
    cases a with
    | nil => exact absurd rfl (h 0 (by omega)).2
    | cons x r =>
      cases b with
      | nil =>
        have := (h 0 (by omega)).1
        simp at this
      | cons y s =>
        have e : x = y := by
          have := (h 0 (by omega)).1
          simpa using this
        subst e
        have ih := common_at r s i fun j hj => by
          have := h (j + 1) (by omega)
          simpa using this
        show (if x = x then Sv13.common r s + 1 else 0) = i + 1 + Sv13.common (r.drop i) (s.drop i)
        rw [if_pos rfl, ih]
        omega
theorem common_ne {a b : List Nat} {i x y : Nat} (h : ∀ j, j < i → a[j]? = b[j]? ∧ a[j]? ≠ none) (hx : a[i]? = some x) (hy : b[i]? = some y) (hne : x ≠ y) : Sv13.common a b = i := by
  rw [common_at a b i h]
  obtain ⟨h1, e1⟩ := List.getElem?_eq_some_iff.mp hx
  obtain ⟨h2, e2⟩ := List.getElem?_eq_some_iff.mp hy
  rw [List.drop_eq_getElem_cons h1, List.drop_eq_getElem_cons h2, e1, e2]
  unfold Sv13.common
  rw [if_neg hne]
  rfl
theorem common_end {a b : List Nat} {i : Nat} (h : ∀ j, j < i → a[j]? = b[j]? ∧ a[j]? ≠ none) (he : a.length ≤ i ∨ b.length ≤ i) : Sv13.common a b = i := by
  rw [common_at a b i h]
  rcases he with he | he
  · rw [List.drop_eq_nil_of_le he]
    rfl
  · rw [List.drop_eq_nil_of_le he]
    cases a.drop i <;> rfl
theorem cut_to {xs : List V} {n : Nat} : cutV xs none (some (n : Int)) = xs.take n := by
  unfold cutV
  show (xs.drop 0).take ((if (n : Int) < 0 then ((n : Int) + (xs.length : Int)).toNat else min (n : Int).toNat xs.length) - 0) = _
  rw [if_neg (by omega), List.drop_zero, Nat.sub_zero]
  have e : (n : Int).toNat = n := Int.toNat_natCast n
  rw [e]
  by_cases h : n ≤ xs.length
  · rw [Nat.min_eq_left h]
  · rw [Nat.min_eq_right (by omega), List.take_of_length_le (Nat.le_refl _), List.take_of_length_le (by omega)]
theorem cut_from {xs : List V} {n : Nat} : cutV xs (some (n : Int)) none = xs.drop n := by
  unfold cutV
  show (xs.drop (if (n : Int) < 0 then ((n : Int) + (xs.length : Int)).toNat else min (n : Int).toNat xs.length)).take (xs.length - (if (n : Int) < 0 then ((n : Int) + (xs.length : Int)).toNat else min (n : Int).toNat xs.length)) = _
  rw [if_neg (by omega)]
  have e : (n : Int).toNat = n := Int.toNat_natCast n
  rw [e]
  by_cases h : n ≤ xs.length
  · rw [Nat.min_eq_left h, List.take_of_length_le (by rw [List.length_drop]; omega)]
  · rw [Nat.min_eq_right (by omega), List.drop_eq_nil_of_le (Nat.le_refl _), List.drop_eq_nil_of_le (by omega), List.take_nil]
theorem cut_both {xs : List V} {i j : Nat} (hij : i ≤ j) (hj : j ≤ xs.length) : cutV xs (some (i : Int)) (some (j : Int)) = (xs.drop i).take (j - i) := by
  unfold cutV
  show (xs.drop (if (i : Int) < 0 then ((i : Int) + (xs.length : Int)).toNat else min (i : Int).toNat xs.length)).take ((if (j : Int) < 0 then ((j : Int) + (xs.length : Int)).toNat else min (j : Int).toNat xs.length) - (if (i : Int) < 0 then ((i : Int) + (xs.length : Int)).toNat else min (i : Int).toNat xs.length)) = _
  rw [if_neg (by omega), if_neg (by omega)]
  have e : (i : Int).toNat = i := Int.toNat_natCast i
  have e2 : (j : Int).toNat = j := Int.toNat_natCast j
  rw [e, e2, Nat.min_eq_left (show i ≤ xs.length by omega), Nat.min_eq_left hj]
theorem vb_take (l : List Nat) (n : Nat) : vb (l.take n) = (vb l).take n := List.map_take
theorem vb_drop (l : List Nat) (n : Nat) : vb (l.drop n) = (vb l).drop n := List.map_drop
theorem vb_slice (l : List Nat) (i n : Nat) : vb (Sv13.slice l i n) = ((vb l).drop i).take n := by
  unfold Sv13.slice
  rw [vb_take, vb_drop]
theorem vb_at {l : List Nat} {i x : Nat} (h : l[i]? = some x) : atI (vb l) (i : Int) = some (V.int (x : Int)) := by
  refine atI_nat ?_
  unfold vb
  rw [List.getElem?_map, h]
  rfl
theorem crc_snoc (bs : List Nat) (b c : Nat) : (bs ++ [b]).foldl Sv13.crcByte c = Sv13.crcByte (bs.foldl Sv13.crcByte c) b := by rw [List.foldl_append]; rfl
theorem and32 (a : Nat) : Builtin.bitAnd (a : Int) 4294967295 = ((a % 2 ^ 32 : Nat) : Int) := by
  rw [bitAnd_m32]
  omega
theorem masked_eq {c : Nat} (hc : c < 2 ^ 32) : Builtin.bitAnd (Builtin.bitOr ((c : Int) / 2 ^ (15 : Int).toNat) (Builtin.bitAnd ((c : Int) * 2 ^ (17 : Int).toNat) 4294967295) + 2726488792) 4294967295 = ((Sv13.masked c : Nat) : Int) := by
  have e1 : (c : Int) / 2 ^ (15 : Int).toNat = ((c / 2 ^ 15 : Nat) : Int) := by
    show (c : Int) / 32768 = _
    omega
  have e2 : (c : Int) * 2 ^ (17 : Int).toNat = ((c * 2 ^ 17 : Nat) : Int) := by
    show (c : Int) * 131072 = _
    omega
  rw [e1, e2, and32, or_nat, My.turn_or hc (by decide) rfl]
  have e3 : ((c / 2 ^ 15 + c * 2 ^ 17 % 2 ^ 32 : Nat) : Int) + 2726488792 = ((c / 2 ^ 15 + c * 2 ^ 17 % 2 ^ 32 + 2726488792 : Nat) : Int) := by omega
  rw [e3, and32]
  rfl
theorem between_eq {a b : List Nat} (hb : isByte b) : Sv13.between a b = if a.length ≤ Sv13.common a b ∨ b.length ≤ Sv13.common a b then a else if a.getD (Sv13.common a b) 0 + 1 < b.getD (Sv13.common a b) 0 then a.take (Sv13.common a b) ++ [a.getD (Sv13.common a b) 0 + 1] else a := by
  show (if a.length ≤ Sv13.common a b ∨ b.length ≤ Sv13.common a b then a else if a.getD (Sv13.common a b) 0 + 1 < b.getD (Sv13.common a b) 0 ∧ a.getD (Sv13.common a b) 0 < 255 then a.take (Sv13.common a b) ++ [a.getD (Sv13.common a b) 0 + 1] else a) = _
  split
  · rfl
  · rename_i h
    have hl : Sv13.common a b < b.length := by omega
    have h1 : b.getD (Sv13.common a b) 0 < 256 := by
      have : b.getD (Sv13.common a b) 0 = b[Sv13.common a b] := by simp [List.getD, hl]
      rw [this]
      exact hb _ (List.getElem_mem _)
    by_cases h2 : a.getD (Sv13.common a b) 0 + 1 < b.getD (Sv13.common a b) 0
    · rw [if_pos h2, if_pos ⟨h2, by omega⟩]
    · rw [if_neg h2, if_neg fun z => h2 z.1]
theorem behind_at {a : List Nat} {i x : Nat} (h : ∀ j, j < i → a[j]? = some 255) (hx : a[i]? = some x) (hne : x ≠ 255) : Sv13.behind a = a.take i ++ [x + 1] := by
  have hi : i < a.length := (List.getElem?_eq_some_iff.mp hx).1
  have e : a[i] = x := (List.getElem?_eq_some_iff.mp hx).2
  have hf : a.findIdx? (fun c => c != 255) = some i := by
    rw [List.findIdx?_eq_some_iff_getElem]
    refine ⟨hi, by rw [e]; simp [hne], fun j hj => ?_⟩
    have h1 := h j hj
    have e1 : a[j] = 255 := (List.getElem?_eq_some_iff.mp h1).2
    simp [e1]
  unfold Sv13.behind
  rw [hf]
  simp [List.getD, hx]
theorem behind_all {a : List Nat} (h : ∀ j, j < a.length → a[j]? = some 255) : Sv13.behind a = a := by
  have hf : a.findIdx? (fun c => c != 255) = none := by
    rw [List.findIdx?_eq_none_iff]
    intro x hx
    obtain ⟨j, hj, e⟩ := List.mem_iff_getElem.mp hx
    have h1 := h j hj
    have e1 : a[j] = 255 := (List.getElem?_eq_some_iff.mp h1).2
    rw [← e, e1]
    rfl
  unfold Sv13.behind
  rw [hf]
theorem bne {a b : Str} (h : ¬ a = b) : (a == b) = false := beq_eq_false_iff_ne.mpr h
theorem bne' {a b : Str} (h : ¬ a = b) : (b == a) = false := beq_eq_false_iff_ne.mpr fun e => h e.symm
theorem seq_cut {t u : TS} {D : Ends} {σ : L2.St} {H : Hp} (M : L2.St → Hp → Prop) (h2 : ∀ σ' H', M σ' H' → u D σ' H') (h1 : (∀ σ' H', M σ' H' → u D σ' H') → t { D with nx := u D } σ H) : tSeq t u D σ H := h1 h2
theorem rep_zero (n : Nat) : (List.replicate n [V.int 0]).flatten = vb (List.replicate n 0) := by
  induction n with
  | zero => rfl
  | succ n ih => rw [List.replicate_succ, List.flatten_cons, ih, List.replicate_succ]; rfl
theorem set_cut {v : V} {i : Nat} {u : TS} {D : Ends} {σ : L2.St} {H : Hp} (h : u D (σ.set i (some v)) H) : tSeq (tAsg (tC v) (gName i)) u D σ H := h
theorem atI_last {α : Type} {xs : List α} {x : α} (h : xs.getLast? = some x) : atI xs (-1) = some x := by
  have hn : xs ≠ [] := fun e => by rw [e] at h; cases h
  have hl : 0 < xs.length := List.length_pos_iff.mpr hn
  unfold atI ixN
  rw [if_neg (by decide), if_pos (by omega)]
  show xs[((-1 : Int) + (xs.length : Int)).toNat]? = some x
  have e : ((-1 : Int) + (xs.length : Int)).toNat = xs.length - 1 := by omega
  rw [e, ← List.getLast?_eq_getElem?]
  exact h
theorem gname_nx {i : Nat} {v : V} {σ : L2.St} {H : Hp} {N : L2.St → Hp → Prop} (h : N (σ.set i (some v)) H) : gName i v σ H N := h
theorem vb_ints (l : List Nat) : vb l = (l.map fun n : Nat => (n : Int)).map V.int := by
  unfold vb
  rw [List.map_map]
  rfl
/-! ### attributes -/
theorem lk_here {x : Str} {v : V} {r : List (Str × V)} : ((x, v) :: r).lookup x = some v := by simp only [List.lookup, beq_self_eq_true]
theorem lk_next {x y : Str} {v : V} {r : List (Str × V)} {o : Option V} (h : (x == y) = false) (t : r.lookup x = o) : ((y, v) :: r).lookup x = o := by simp only [List.lookup, h]; exact t
theorem lk_nil {x : Str} : ([] : List (Str × V)).lookup x = none := rfl
theorem pf_nil {x : Str} {v : V} : putF x v [] = [(x, v)] := rfl
theorem pf_here {x : Str} {v u : V} {r : List (Str × V)} : putF x v ((x, u) :: r) = (x, v) :: r := by simp only [putF, if_pos]
theorem pf_next {x y : Str} {v u : V} {r : List (Str × V)} (h : ¬ y = x) : putF x v ((y, u) :: r) = (y, u) :: putF x v r := by simp only [putF, if_neg h]
section
variable {P : Program} {w : World} {K : Frag} {mg : Str → Option Value} {base : Heap}
structure MethAt (K : Frag) (C : Addr) (m qual : Str) (st : Stmt) : Prop where
  ex : ∃ f fd, Meth K C m f ∧ Fun K m qual st f fd
theorem MethAt.mx {C : Addr} {m qual : Str} {st : Stmt} {N ps : List Str} {k : Nat} {sp : Sp} (D : MethAt K C m qual st) (c : Cls K C) (S : FnScope N ps (defScope st))
    (hb : ∀ (kV doc pm : Value) (an : Option Addr) (cdv ct : Value) (us : List Value), us.length = ps.length → bindArgs (fnOf m qual (defArgs st) (defBody st) (defScope st) .none kV doc pm an cdv ct) ⟨us, []⟩ = pure (ps.zip us))
    (len : ∀ vs H Q E, sp vs H Q E → vs.length = ps.length)
    (hbody : ∀ (f : Addr) (cdv : Value) (A : Around) (outer : List Env) (s : Shared) (H : Hp) (vs : List V) (Q : VK) (E : XK), Room k (A.deeper (envOfC qual (defScope st) s.heap.objs.size f cdv)) → sp vs H Q E →
      ∃ t, PSs (cxOf CX0 P w K mg base N qual (defScope st) f cdv A outer s H E).nox (defBody st) t ∧ t { nx := fun _ H' => Q .non H', rt := Q } (start N vs) H) : Mtx P w K mg base C m (k + 1) ps sp := by
  obtain ⟨f, fd, hm, F⟩ := D.ex
  exact ⟨f, fd, c, hm, F.binds hb, F.ok S len fun cdv A outer s H vs Q E hr h => hbody f cdv A outer s H vs Q E hr h⟩
structure MakeAt (K : Frag) (mg : Str → Option Value) (x : Str) (C : Addr) (qual : Str) (st : Stmt) : Prop where
  ex : ∃ f fd, mg x = some (.ref C) ∧ Mk K C f ∧ Fun K "__init__" qual st f fd
theorem MakeAt.mx {x : Str} {C : Addr} {qual : Str} {st : Stmt} {N ps : List Str} {k : Nat} {sp : Sp} (D : MakeAt K mg x C qual st) (S : FnScope N ps (defScope st))
    (hb : ∀ (kV doc pm : Value) (an : Option Addr) (cdv ct : Value) (us : List Value), us.length = ps.length → bindArgs (fnOf "__init__" qual (defArgs st) (defBody st) (defScope st) .none kV doc pm an cdv ct) ⟨us, []⟩ = pure (ps.zip us))
    (len : ∀ vs H Q E, sp vs H Q E → vs.length = ps.length)
    (hbody : ∀ (f : Addr) (cdv : Value) (A : Around) (outer : List Env) (s : Shared) (H : Hp) (vs : List V) (Q : VK) (E : XK), Room k (A.deeper (envOfC qual (defScope st) s.heap.objs.size f cdv)) → sp vs H Q E →
      ∃ t, PSs (cxOf CX0 P w K mg base N qual (defScope st) f cdv A outer s H E).nox (defBody st) t ∧ t { nx := fun _ H' => Q .non H', rt := Q } (start N vs) H) : Mkx P w K mg base x C (k + 1) ps sp := by
  obtain ⟨f, fd, h0, hm, F⟩ := D.ex
  exact ⟨f, fd, h0, hm, F.binds hb, F.ok S len fun cdv A outer s H vs Q E hr h => hbody f cdv A outer s H vs Q E hr h⟩
end
end KL

set_option Elab.async false
set_option linter.all false
set_option maxRecDepth 100000
/-! ### exceptions of the text's own classes: raised, passed on, caught -/
namespace KL
open PySem PySem.W PyProof.Rows L2
theorem ok_there {P : Program} {w : World} {H : Hp} {h : Heap} {a : Addr} {o : HO} (x : ObjOk P w H h a o) : ∃ u, h.get? a = some u := by
  cases o with
  | lst xs => obtain ⟨_, _, _, _, e⟩ := x; exact ⟨_, e⟩
  | tup xs => obtain ⟨_, _, _, u, e, _⟩ := x; exact ⟨u, e⟩
  | dK kvs => obtain ⟨_, _, _, _, u, _, _, e, _⟩ := x; exact ⟨u, e⟩
  | dT kvs => obtain ⟨_, _, _, _, u, _, _, e, _⟩ := x; exact ⟨u, e⟩
  | set S n => obtain ⟨u, _, _, _, e, _⟩ := x; exact ⟨u, e⟩
  | ins C dx fs => obtain ⟨_, _, _, e, _⟩ := x; exact ⟨_, e⟩
  | own y => exact x
  | xd fs => obtain ⟨_, ⟨u, _, _, e, _⟩, _⟩ := x; exact ⟨u, e⟩
  | rng lo hi => obtain ⟨_, _, _, e⟩ := x; exact ⟨_, e⟩
  | frz ob u => exact ⟨_, x.1⟩
  | tbl ps => exact ⟨_, x⟩
  | met f y => exact ⟨_, x⟩
  | ext φ => exact x.2.1
/-- what counts of h is in B: the tracked objects, and those of h0, but the frames -/
def Cov (fs : List Addr) (h0 : Heap) (H' : Hp) (h B : Heap) : Prop := ∀ b o, h.get? b = some o → (H' b ≠ none ∨ ∃ o', h0.get? b = some o') → b ∉ fs → B.get? b = some o
/-- an exception of class cls lies at a; all that counts is kept by the next station -/
def Fly (outer : List Env) (h0 : Heap) (a : Addr) (cls : Value) (H' : Hp) (h : Heap) : Prop := ∃ (B : Heap) (a0 : Value), Heap.FlyingW B outer a cls a0 h ∧ Cov (frs outer) h0 H' h B
/-- how an exception lies behind a call -/
def CX1 (P : Program) (w : World) : CXT := fun outer H s E e s' => ∃ (a : Addr) (cls : Value) (H' : Hp), e = .ref a ∧ Fly outer s.heap a cls H' s'.heap ∧ s'.os = s.os ∧ AllBare s'.gens ∧
  Un (frs outer) [] H H' s.heap s'.heap ∧ HOk P w H' s'.heap ∧ E cls none H'
/-- what the next station is told of a heap that kept B -/
theorem station {P : Program} {w : World} {fs : List Addr} {h0 h h' B : Heap} {H0 H' : Hp} (un : Un fs [] H0 H' h0 h) (hok : HOk P w H' h) (hf : ∀ b ∈ fs, H0 b = none ∧ ∃ o, h0.get? b = some o ∧ ∀ vs, o.data ≠ .fields vs)
    (ut : h.UpToSlots h') (st : B.StaysIn h') (hB : Cov fs h0 H' h B) : Cov fs h0 H' h' B ∧ Un fs [] H0 H' h0 h' ∧ HOk P w H' h' := by
  have nx : ∀ b : Addr, b ∉ ([] : List Addr) := fun b => by simp
  have keep : ∀ b o, h.get? b = some o → (H' b ≠ none ∨ ∃ o', h0.get? b = some o') → b ∉ fs → h'.get? b = some o := fun b o e hc hn => st b o (hB b o e hc hn)
  have frame : ∀ b, H' b ≠ none → b ∉ fs := fun b hb z => by
    obtain ⟨n, o, ho, _⟩ := hf b z
    exact hb (un.free b o ho n (nx b))
  have slotK : ∀ b o, h0.get? b = some o → b ∈ fs → ∃ sl, h'.get? b = some { o with slots := sl } := fun b o e hb => by
    obtain ⟨n, o2, ho2, hnf⟩ := hf b hb
    rw [e] at ho2
    cases ho2
    obtain ⟨sl, e1⟩ := un.slot b o e n hb (nx b)
    obtain ⟨sl', e2⟩ := ut b _ e1 hnf
    exact ⟨sl', e2⟩
  refine ⟨fun b o e hc hn => ?_, ⟨fun b o e n hb _ => ?_, fun b o e n hb _ => slotK b o e hb, fun b o e n _ => un.free b o e n (nx b), fun b o e _ => ?_, un.tups, un.frzs, un.tbls⟩, fun b u e => ?_⟩
  · have h1 : ∃ u, h.get? b = some u := by
      rcases hc with hc | ⟨o', e'⟩
      · cases q : H' b with
        | none => exact absurd q hc
        | some u => exact ok_there (hok b u q)
      · exact un.there b o' e' (nx b)
    obtain ⟨u, e1⟩ := h1
    have e2 := hB b u e1 hc hn
    have e3 := st b u e2
    rw [e] at e3
    cases e3
    exact e2
  · exact keep b o (un.keep b o e n hb (nx b)) (.inr ⟨o, e⟩) hb
  · by_cases hb : b ∈ fs
    · obtain ⟨sl, e2⟩ := slotK b o e hb
      exact ⟨_, e2⟩
    · obtain ⟨o', e1⟩ := un.there b o e (nx b)
      exact ⟨o', keep b o' e1 (.inr ⟨o, e⟩) hb⟩
  · refine (hok b u e).stay (fun c v hc q => ?_) (fun _ q => q) fun _ _ q => q
    have hn : H' c ≠ none := by
      rcases hc with rfl | hc
      · rw [e]; simp
      · rw [hc]; simp
    exact keep c v q (.inl hn) (frame c hn)
/-- a def's body: its frame stands on top -/
structure Top (X : Cx) : Prop where
  stk : X.stack = X.env :: X.outer
  fr : X.env.frame = some X.env.locals
  ex : X.ex = []
theorem Top.un {X : Cx} (T : Top X) {pins : List (Addr × Obj)} {σ : L2.St} {H : Hp} {s : Shared} (I : Inv X pins σ H s) : Un (frs X.outer) [] X.H₀ H X.s₀.heap s.heap := by
  have := I.base
  rw [T.ex] at this
  exact this
theorem Top.frames {X : Cx} {pins : List (Addr × Obj)} {σ : L2.St} {H : Hp} {s : Shared} (I : Inv X pins σ H s) : ∀ b ∈ frs X.outer, X.H₀ b = none ∧ ∃ o, X.s₀.heap.get? b = some o ∧ ∀ vs, o.data ≠ .fields vs := fun b hb =>
  ⟨I.ok.frf b hb, (I.ok.funs.mem hb).2⟩
/-- what this frame counts on is not the frame -/
theorem cov_up {X : Cx} {pins : List (Addr × Obj)} {σ : L2.St} {H H' : Hp} {s : Shared} {h B : Heap} (T : Top X) (I : Inv X pins σ H s) (hf : ∀ b ∈ frs X.stack, H' b = none) (cov : Cov (frs X.stack) s.heap H' h B) : Cov (frs X.outer) X.s₀.heap H' h B := fun b o e hc hn => by
  rcases hc with hc | ⟨o', e'⟩
  · exact cov b o e (.inl hc) fun z => hc (hf b z)
  · refine cov b o e (.inr (I.base.there b o' e' (by rw [T.ex]; simp))) fun z => ?_
    rcases List.mem_cons.mp (I.stkSub b z) with r | r
    · subst r
      exact absurd (Nat.lt_of_lt_of_le (Heap.lt_size e') I.ok.above) (Nat.lt_irrefl _)
    · exact hn r
/-- the callee's exception leaves this frame, too -/
theorem leave_on {X : Cx} {pins : List (Addr × Obj)} {σ : L2.St} {H : Hp} {s s' : Shared} {E : XK} {e : Value} {Ex : Value → Shared → Prop} (T : Top X) (I : Inv X pins σ H s) (h : CX1 X.prog X.w X.stack H s E e s') :
    wpAny (model X.prog X.w) X.A (leaving X.env e) (fun _ s'' => CX1 X.prog X.w X.outer X.H₀ X.s₀ E e s'') Ex s' := by
  obtain ⟨a, cls, H', rfl, ⟨B, a0, fl, cov⟩, os, bare, un, hok, q⟩ := h
  have I' : Inv X pins σ H' s' := I.call' os un hok bare (fun b z => absurd z (by simp))
  have hB := cov_up T I (fun b z => I'.stkFree b z) cov
  have hfr : X.A.frames = some (X.env :: X.outer) := by rw [← T.stk]; exact I.ok.frames
  rw [T.stk] at fl
  refine wpAny_leaves_onW hfr T.fr fl fun h' fl' ut => ?_
  obtain ⟨c1, c2, c3⟩ := station (T.un I') hok (Top.frames I') ut fl'.1 hB
  exact ⟨a, cls, H', rfl, ⟨B, a0, fl', c1⟩, I'.os, bare, c2, c3, q⟩
theorem top_cx {CX : CXT} {P : Program} {w : World} {K : Frag} {mg : Str → Option Value} {base : Heap} {N : List Str} {qual : Str} {scope : Scope} {f : Addr} {cd : Value} {A : Around} {outer : List Env} {s : Shared} {H : Hp} {E : XK} :
    Top (cxOf CX P w K mg base N qual scope f cd A outer s H E) := ⟨rfl, rfl, rfl⟩
/-- in a def's body a callee's exception is its own -/
theorem passX {P : Program} {w : World} {K : Frag} {mg : Str → Option Value} {base : Heap} {N : List Str} {qual : Str} {scope : Scope} {f : Addr} {cd : Value} {A : Around} {outer : List Env} {s : Shared} {H : Hp} {E : XK} :
    Passes (CX1 P w) (cxOf (CX1 P w) P w K mg base N qual scope f cd A outer s H E) E := fun pins σ H1 s1 e s' I h => leave_on top_cx I h
/-! ### bundles -/
structure Fxe (P : Program) (w : World) (K : Frag) (mg : Str → Option Value) (base : Heap) (x : Str) (k : Nat) (ps : List Str) (sp : Sp) : Prop where
  ex : ∃ f fd, mg x = some (.ref f) ∧ keepIn K (.ref f) = true ∧ Binds K fd ps [] ∧ FnOk P w K mg base (CX1 P w) k f fd ps sp
structure Mtxe (P : Program) (w : World) (K : Frag) (mg : Str → Option Value) (base : Heap) (C : Addr) (m : Str) (k : Nat) (ps : List Str) (sp : Sp) : Prop where
  ex : ∃ f fd, Cls K C ∧ Meth K C m f ∧ Binds K fd ps [] ∧ FnOk P w K mg base (CX1 P w) k f fd ps sp
structure Mkxe (P : Program) (w : World) (K : Frag) (mg : Str → Option Value) (base : Heap) (x : Str) (C : Addr) (k : Nat) (ps : List Str) (sp : Sp) : Prop where
  ex : ∃ f fd, mg x = some (.ref C) ∧ Mk K C f ∧ Binds K fd ps [] ∧ FnOk P w K mg base (CX1 P w) k f fd ps sp
theorem pe_fxe {X : Cx} {E : XK} {x : Str} {k : Nat} {ps : List Str} {sp : Sp} {p pos : Pos} {e : Expr} {es : List Expr} {t : TA} (F : Fxe X.prog X.w X.K X.mg X.base x k ps sp) (hr : Room k X.A) (hg : Gl X x) (hp : Passes (CX1 X.prog X.w) X E) (ha : PA X (e :: es) t)
    (hdb : (x == ("__debug__" : Str)) = false := by decide) (he : starEach (e :: es) X.env = (false, eval e X.env) :: starEach es X.env := by rfl) (hpl : (backTo pos (starEach es X.env)).any (·.1) = false := by rfl) :
    PE X (.Call (.Name x p) (e :: es) [] pos) (tCall sp [] E t) := by
  obtain ⟨f, fd, hm, hk, hb, G⟩ := F.ex
  exact pe_call G hr hg hm hk hb .nil hp ha hdb he hpl
theorem pe_mxe {X : Cx} {E : XK} {x : Str} {C : Addr} {k : Nat} {ps : List Str} {sp : Sp} {p pos : Pos} {e : Expr} {es : List Expr} {t : TA} (M : Mkxe X.prog X.w X.K X.mg X.base x C k ps sp) (hr : Room (k + 1) X.A) (hg : Gl X x) (hp : Passes (CX1 X.prog X.w) X E) (ha : PA X (e :: es) t)
    (hdb : (x == ("__debug__" : Str)) = false := by decide) (he : starEach (e :: es) X.env = (false, eval e X.env) :: starEach es X.env := by rfl) (hpl : (backTo pos (starEach es X.env)).any (·.1) = false := by rfl) :
    PE X (.Call (.Name x p) (e :: es) [] pos) (tMake C sp [] E t) := by
  obtain ⟨f, fd, hm, hk, hb, G⟩ := M.ex
  exact pe_make hk G hr hg hm hb .nil hp ha hdb he hpl
theorem pe_mte {X : Cx} {E : XK} {o e : Expr} {es : List Expr} {C : Addr} {m : Str} {k : Nat} {ps : List Str} {sp : Sp} {apos pos : Pos} {ta : TE} {t : TA} {pl : Sem Bool} (he : PE X o ta) (M : Mtxe X.prog X.w X.K X.mg X.base C m k ps sp) (hr : Room k X.A) (hp : Passes (CX1 X.prog X.w) X E) (ha : PA X (e :: es) t)
    (hst : starEach (e :: es) X.env = (false, eval e X.env) :: starEach es X.env := by rfl) (hpl : (backTo pos (starEach es X.env)).any (·.1) = false := by rfl)
    (ht : eval (.Call (.Attribute o m apos) (e :: es) [] pos) X.env = (do
      let ov ← eval o X.env
      standAt apos.atName
      let (f, first) ← holding [ov] (getMethod ov m pl)
      callWith pos f first (backTo pos (starEach (e :: es) X.env)) (backToKw pos (keywordEach [] X.env))) := by rfl) :
    PE X (.Call (.Attribute o m apos) (e :: es) [] pos) (tMeth C m sp [] E ta t) := by
  obtain ⟨f, fd, hc, hm, hb, G⟩ := M.ex
  exact pe_meth he hc hm G hr hb .nil hp ha hst hpl ht
theorem pe_mte0 {X : Cx} {E : XK} {o : Expr} {C : Addr} {m : Str} {k : Nat} {ps : List Str} {sp : Sp} {apos pos : Pos} {ta : TE} {pl : Sem Bool} (he : PE X o ta) (M : Mtxe X.prog X.w X.K X.mg X.base C m k ps sp) (hr : Room k X.A) (hp : Passes (CX1 X.prog X.w) X E)
    (ht : eval (.Call (.Attribute o m apos) [] [] pos) X.env = (do
      let ov ← eval o X.env
      standAt apos.atName
      let (f, first) ← holding [ov] (getMethod ov m pl)
      callWith pos f first (backTo pos (starEach [] X.env)) (backToKw pos (keywordEach [] X.env))) := by rfl) :
    PE X (.Call (.Attribute o m apos) [] [] pos) (tMeth C m sp [] E ta tNil) := by
  obtain ⟨f, fd, hc, hm, hb, G⟩ := M.ex
  exact pe_meth0 he hc hm G hr hb .nil hp ht
section
variable {P : Program} {w : World} {K : Frag} {mg : Str → Option Value} {base : Heap}
theorem fun_oke {x qual : Str} {st : Stmt} {f : Addr} {fd : FuncData} {N ps : List Str} {k : Nat} {sp : Sp} (F : Fun K x qual st f fd) (S : FnScope N ps (defScope st)) (len : ∀ vs H Q E, sp vs H Q E → vs.length = ps.length)
    (hbody : ∀ (cdv : Value) (A : Around) (outer : List Env) (s : Shared) (H : Hp) (vs : List V) (Q : VK) (E : XK), Room k (A.deeper (envOfC qual (defScope st) s.heap.objs.size f cdv)) → sp vs H Q E →
      ∃ t, PSs (cxOf (CX1 P w) P w K mg base N qual (defScope st) f cdv A outer s H E) (defBody st) t ∧ t { nx := fun _ H' => Q .non H', rt := Q } (start N vs) H) : FnOk P w K mg base (CX1 P w) (k + 1) f fd ps sp := by
  obtain ⟨oc, od, kV, doc, pm, an, cdv, ct, osl, rfl, lk, hcd⟩ := F.ex
  exact fn_of lk hcd S len fun A outer s H vs Q E hr hsp => hbody cdv A outer s H vs Q E hr hsp
theorem DefAt.fxe {x : Str} {st : Stmt} {N ps : List Str} {k : Nat} {sp : Sp} (D : DefAt K mg x st) (S : FnScope N ps (defScope st))
    (hb : ∀ (kV doc pm : Value) (an : Option Addr) (cdv ct : Value) (us : List Value), us.length = ps.length → bindArgs (fnOf x x (defArgs st) (defBody st) (defScope st) .none kV doc pm an cdv ct) ⟨us, []⟩ = pure (ps.zip us))
    (len : ∀ vs H Q E, sp vs H Q E → vs.length = ps.length)
    (hbody : ∀ (f : Addr) (cdv : Value) (A : Around) (outer : List Env) (s : Shared) (H : Hp) (vs : List V) (Q : VK) (E : XK), Room k (A.deeper (envOfC x (defScope st) s.heap.objs.size f cdv)) → sp vs H Q E →
      ∃ t, PSs (cxOf (CX1 P w) P w K mg base N x (defScope st) f cdv A outer s H E) (defBody st) t ∧ t { nx := fun _ H' => Q .non H', rt := Q } (start N vs) H) : Fxe P w K mg base x (k + 1) ps sp := by
  obtain ⟨f, fd, hm, F⟩ := D.ex
  exact ⟨f, fd, hm, F.kp, F.binds hb, fun_oke F S len fun cdv A outer s H vs Q E hr h => hbody f cdv A outer s H vs Q E hr h⟩
theorem MethAt.mxe {C : Addr} {m qual : Str} {st : Stmt} {N ps : List Str} {k : Nat} {sp : Sp} (D : MethAt K C m qual st) (c : Cls K C) (S : FnScope N ps (defScope st))
    (hb : ∀ (kV doc pm : Value) (an : Option Addr) (cdv ct : Value) (us : List Value), us.length = ps.length → bindArgs (fnOf m qual (defArgs st) (defBody st) (defScope st) .none kV doc pm an cdv ct) ⟨us, []⟩ = pure (ps.zip us))
    (len : ∀ vs H Q E, sp vs H Q E → vs.length = ps.length)
    (hbody : ∀ (f : Addr) (cdv : Value) (A : Around) (outer : List Env) (s : Shared) (H : Hp) (vs : List V) (Q : VK) (E : XK), Room k (A.deeper (envOfC qual (defScope st) s.heap.objs.size f cdv)) → sp vs H Q E →
      ∃ t, PSs (cxOf (CX1 P w) P w K mg base N qual (defScope st) f cdv A outer s H E) (defBody st) t ∧ t { nx := fun _ H' => Q .non H', rt := Q } (start N vs) H) : Mtxe P w K mg base C m (k + 1) ps sp := by
  obtain ⟨f, fd, hm, F⟩ := D.ex
  exact ⟨f, fd, c, hm, F.binds hb, fun_oke F S len fun cdv A outer s H vs Q E hr h => hbody f cdv A outer s H vs Q E hr h⟩
theorem MakeAt.mxe {x : Str} {C : Addr} {qual : Str} {st : Stmt} {N ps : List Str} {k : Nat} {sp : Sp} (D : MakeAt K mg x C qual st) (S : FnScope N ps (defScope st))
    (hb : ∀ (kV doc pm : Value) (an : Option Addr) (cdv ct : Value) (us : List Value), us.length = ps.length → bindArgs (fnOf "__init__" qual (defArgs st) (defBody st) (defScope st) .none kV doc pm an cdv ct) ⟨us, []⟩ = pure (ps.zip us))
    (len : ∀ vs H Q E, sp vs H Q E → vs.length = ps.length)
    (hbody : ∀ (f : Addr) (cdv : Value) (A : Around) (outer : List Env) (s : Shared) (H : Hp) (vs : List V) (Q : VK) (E : XK), Room k (A.deeper (envOfC qual (defScope st) s.heap.objs.size f cdv)) → sp vs H Q E →
      ∃ t, PSs (cxOf (CX1 P w) P w K mg base N qual (defScope st) f cdv A outer s H E) (defBody st) t ∧ t { nx := fun _ H' => Q .non H', rt := Q } (start N vs) H) : Mkxe P w K mg base x C (k + 1) ps sp := by
  obtain ⟨f, fd, h0, hm, F⟩ := D.ex
  exact ⟨f, fd, h0, hm, F.binds hb, fun_oke F S len fun cdv A outer s H vs Q E hr h => hbody f cdv A outer s H vs Q E hr h⟩
end
/-! ### raise C() -/
abbrev bmE : List Value := [.type "Exception", .type "BaseException", .type "object"]
structure ExcAt (K : Frag) (mg : Str → Option Value) (x : Str) (C : Addr) : Prop where
  ns : nsIn K mainGlobals x = some (some (.ref C))
  ex : excIn K C [.type "Exception", .type "BaseException", .type "object"] "Exception.__new__" = true
  kp : keepIn K (.ref C) = true
  mg : mg x = some (.ref C)
/-- its class as it lies in the heap -/
structure ExcObj (C : Addr) (h : Heap) : Prop where
  ex : ∃ (tl : List Value) (N : Addr) (nm q : Str) (bs : List Value) (hd : Bool) (sn : List Str) (sub : List Value) (ab : Bool) (col : Option Bool) (dd : Option Addr) (k0 k1 k2 k3 k5 : Option Value) (mN : Str → Option Value),
    h.get? C = some (excClassObj nm q C N bs tl hd sn sub ab col dd k0 k1 k2 k3 k5 "Exception.__new__") ∧ h.Ns N mN ∧ mN "__init__" = none ∧ OwnTail h bmE tl
theorem ExcAt.obj {K : Frag} {mg : Str → Option Value} {x : Str} {C : Addr} {h : Heap} (O : ExcAt K mg x C) (hK : K.In h) : ExcObj C h := by
  have z := O.ex
  unfold excIn at z
  split at z
  · rename_i d1 cd slots look
    split at z
    · rename_i Cx tl w0 w1 w2 w3 nid w5 em es
      simp only [beq_iff_eq, Bool.not_eq_true', Bool.and_eq_true] at z
      obtain ⟨⟨⟨⟨⟨z1, z2⟩, z3⟩, z4⟩, z5⟩, z6⟩ := z
      subst z1 z2
      obtain ⟨cnm, cbs, cmro, cns, cqn, chd, csn, csub, cab, ccol, cdel⟩ := cd
      dsimp only at em z3 z5 z6
      subst em z3
      have e : slots = #[w0, w1, w2, w3, some (.builtin "Exception.__new__"), w5] := by
        cases slots with
        | mk l =>
          dsimp only at es
          rw [es]
      subst e
      exact ⟨tl, cns, cnm, cqn, cbs, chd, csn, csub, cab, ccol, d1, w0, w1, w2, w3, w5, _, hK _ _ look, .of_isNs (isNs_of_in hK z5), nsMap_none_of_in hK z5 z6, tail_of_in hK z4⟩
    · cases z
  · cases z
theorem fun_hide {h base B : Heap} : ∀ {l : List Env}, h.FunFrames base l → (∀ b ∈ frs l, B.get? b = none) → h.FunFrames B l
  | [], _, _ => trivial
  | env :: r, hl, hb => by
    obtain ⟨hk, ⟨L, o, hf, hn, ho, hd⟩, hr⟩ := hl
    refine ⟨hk, ⟨L, o, hf, hb L ?_, ho, hd⟩, fun_hide hr fun b z => hb b ?_⟩
    · unfold frs
      rw [List.filterMap_cons, hf]
      exact List.mem_cons_self
    · unfold frs at z ⊢
      rw [List.filterMap_cons, hf]
      exact List.mem_cons_of_mem _ z
/-- a body from which exceptions leave by E -/
structure Body (X : Cx) (E : XK) : Prop where
  top : Top X
  calm : X.calm = true
  xe : ∀ e s', wpAny (model X.prog X.w) X.A (leaving X.env e) (fun _ s'' => CX1 X.prog X.w X.outer X.H₀ X.s₀ E e s'') (fun e' s'' => CX1 X.prog X.w X.outer X.H₀ X.s₀ E e' s'') s' → X.xe e s'
theorem bodyX {P : Program} {w : World} {K : Frag} {mg : Str → Option Value} {base : Heap} {N : List Str} {qual : Str} {scope : Scope} {f : Addr} {cd : Value} {A : Around} {outer : List Env} {s : Shared} {H : Hp} {E : XK} :
    Body (cxOf (CX1 P w) P w K mg base N qual scope f cd A outer s H E) E := ⟨top_cx, rfl, fun _ _ h => h⟩
def tRaise (C : Addr) (E : XK) : TS := fun _ _ H => E (.ref C) none H
theorem ps_raise {X : Cx} {E : XK} {x : Str} {C : Addr} {np cpos pos : Pos} (B : Body X E) (O : ExcAt X.K X.mg x C) (hg : Gl X x) (hdb : (x == ("__debug__" : Str)) = false := by decide) :
    PS X (.Raise (some (.Call (.Name x np) [] [] cpos)) none pos) (tRaise C E) := by
  intro pins s σ H D I h
  obtain ⟨tl, N, nm, q, bs, hd, sn, sub, ab, col, dd, k0, k1, k2, k3, k5, mN, hC, hN, hni, T⟩ := (O.obj I.mod.kin).ex
  refine wpAny_Raise_call_subT (C := C) (nm := nm) (q := q) (N := N) (bs := bs) (bm := tl) (hdct := hd) (sn := sn) (sub := sub) (ab := ab) (col := col) (dd := dd) (k0 := k0) (k1 := k1) (k2 := k2) (k3 := k3) (k5 := k5)
    PySem.F.excBase_Exception (mN := mN) (T.hasType rfl) (I.ok.hd B.calm) rfl hni (ld_glob I hg O.mg ⟨rfl, ?_⟩ hdb)
  refine evalArgs_empty ⟨rfl, Nat.zero_le _, I.bk _ _ hC, hN.keeps I.bk, T.keeps I.bk, fun h' e hm => B.xe _ _ ?_⟩
  have hfr : X.A.frames = some (X.env :: X.outer) := by rw [← B.top.stk]; exact I.ok.frames
  have hfl : s.heap.FunFrames (hideAll s.heap (frs X.stack)) (X.env :: X.outer) := by
    rw [← B.top.stk]
    exact fun_hide I.stack fun b z => hideAll_none _ z
  refine wpAny_leaves_madeW (base := hideAll s.heap (frs X.stack)) hfr B.top.fr (fun b o z => of_hideAll _ z) hfl hm fun h2 t fl _ _ ut => ?_
  have I2 : Inv X pins σ H { s with heap := h', toks := s.toks } := I.kept hm.keeps
  have cov : Cov (frs X.stack) s.heap H h' (hideAll s.heap (frs X.stack)) := fun b o e1 hc hn => by
    have h1 : ∃ u, s.heap.get? b = some u := by
      rcases hc with hc | hc
      · cases z : H b with
        | none => exact absurd z hc
        | some u => exact ok_there (I.hok b u z)
      · exact hc
    obtain ⟨u, e2⟩ := h1
    have e3 := hm.keeps b u e2
    rw [e1] at e3
    cases e3
    exact hideAll_get _ e2 hn
  have hB := cov_up B.top I (fun b z => I.stkFree b z) cov
  obtain ⟨c1, c2, c3⟩ := station (B.top.un I2) I2.hok (Top.frames I2) ut fl.1 hB
  exact ⟨e, .ref C, H, rfl, ⟨_, _, fl, c1⟩, I2.os, I2.bare, c2, c3, h⟩
end KL

set_option Elab.async false
set_option linter.all false
set_option maxRecDepth 100000
/-! ### try .. except C: suite -/
namespace KL
open PySem PySem.W PyProof.Rows L2
abbrev wt (X : Cx) (pn : List (Addr × Obj)) (xe : Value → Shared → Prop) : Cx := { X with pn := X.pn ++ pn, xe := xe }
abbrev wh (X : Cx) (A : Around) : Cx := { X with A := A, calm := false, xe := fun _ _ => False }
theorem inv_wt {X : Cx} {pins : List (Addr × Obj)} {σ : L2.St} {H : Hp} {s : Shared} {xe : Value → Shared → Prop} (I : Inv X pins σ H s) : Inv (wt X pins xe) [] σ H s :=
  ⟨⟨I.ok.mod, I.ok.kind, I.ok.glob, I.ok.blt, I.ok.above, I.ok.inj, I.ok.has, I.ok.cab, I.ok.hd, I.ok.frames, I.ok.stk, I.ok.exf, I.ok.bs, I.ok.bsz, I.ok.noex, I.ok.exfs, I.ok.funs, I.ok.frf⟩,
    I.os, I.bare, I.base, I.loc, I.cell, I.free, I.freeC, (fun p hp => I.pin p (by rw [List.append_nil] at hp; exact hp)), I.hok, I.len⟩
theorem inv_unwt {X : Cx} {pn pins : List (Addr × Obj)} {σ : L2.St} {H : Hp} {s : Shared} {xe : Value → Shared → Prop} (I : Inv (wt X pn xe) pins σ H s) : Inv X pn σ H s :=
  ⟨⟨I.ok.mod, I.ok.kind, I.ok.glob, I.ok.blt, I.ok.above, I.ok.inj, I.ok.has, I.ok.cab, I.ok.hd, I.ok.frames, I.ok.stk, I.ok.exf, I.ok.bs, I.ok.bsz, I.ok.noex, I.ok.exfs, I.ok.funs, I.ok.frf⟩,
    I.os, I.bare, I.base, I.loc, I.cell, I.free, I.freeC, (fun p hp => I.pin p (List.mem_append_left _ hp)), I.hok, I.len⟩
theorem inv_wh {X : Cx} {pins : List (Addr × Obj)} {σ : L2.St} {H : Hp} {s : Shared} {A : Around} (I : Inv X pins σ H s) (hA : A.frames = X.A.frames) : Inv (wh X A) pins σ H s :=
  ⟨⟨I.ok.mod, I.ok.kind, I.ok.glob, I.ok.blt, I.ok.above, I.ok.inj, I.ok.has, I.ok.cab, (fun z => nomatch z), hA.trans I.ok.frames, I.ok.stk, I.ok.exf, I.ok.bs, I.ok.bsz, I.ok.noex, I.ok.exfs, I.ok.funs, I.ok.frf⟩,
    I.os, I.bare, I.base, I.loc, I.cell, I.free, I.freeC, I.pin, I.hok, I.len⟩
theorem inv_unwh {X : Cx} {pins : List (Addr × Obj)} {σ : L2.St} {H : Hp} {s : Shared} {A : Around} (ok : X.Ok) (I : Inv (wh X A) pins σ H s) : Inv X pins σ H s :=
  ⟨ok, I.os, I.bare, I.base, I.loc, I.cell, I.free, I.freeC, I.pin, I.hok, I.len⟩
theorem sp_unwt {X : Cx} {pins : List (Addr × Obj)} {xe : Value → Shared → Prop} {D : Ends} {f : Flow} {s' : Shared} (h : SP (wt X pins xe) [] D f s') : SP X pins D f s' := by
  cases f with
  | next => obtain ⟨σ', H', I, q⟩ := h; exact ⟨σ', H', inv_unwt I, q⟩
  | brk => obtain ⟨σ', H', I, q⟩ := h; exact ⟨σ', H', inv_unwt I, q⟩
  | cont => obtain ⟨σ', H', I, q⟩ := h; exact ⟨σ', H', inv_unwt I, q⟩
  | ret u => obtain ⟨v, σ', H', I, r, q⟩ := h; exact ⟨v, σ', H', inv_unwt I, r, q⟩
theorem sp_unwh {X : Cx} {pins : List (Addr × Obj)} {A : Around} {D : Ends} {f : Flow} {s' : Shared} (ok : X.Ok) (h : SP (wh X A) pins D f s') : SP X pins D f s' := by
  cases f with
  | next => obtain ⟨σ', H', I, q⟩ := h; exact ⟨σ', H', inv_unwh ok I, q⟩
  | brk => obtain ⟨σ', H', I, q⟩ := h; exact ⟨σ', H', inv_unwh ok I, q⟩
  | cont => obtain ⟨σ', H', I, q⟩ := h; exact ⟨σ', H', inv_unwh ok I, q⟩
  | ret u => obtain ⟨v, σ', H', I, r, q⟩ := h; exact ⟨v, σ', H', inv_unwh ok I, r, q⟩
/-- a caught exception at the clauses: all is as behind the call -/
structure Caught (X : Cx) (pins : List (Addr × Obj)) (σ : L2.St) (a : Addr) (cls : Value) (H' : Hp) (s : Shared) : Prop where
  inv : Inv X pins σ H' s
  ex : ∃ (h0 : Heap) (H0 : Hp) (s0 : Shared), s0.heap = h0 ∧ Inv X pins σ H0 s0 ∧ Fly X.stack h0 a cls H' s.heap ∧ Un (frs X.stack) [] H0 H' h0 s.heap
theorem stk_frames {X : Cx} {pins : List (Addr × Obj)} {σ : L2.St} {H : Hp} {s : Shared} (I : Inv X pins σ H s) : ∀ b ∈ frs X.stack, H b = none ∧ ∃ o, s.heap.get? b = some o ∧ ∀ vs, o.data ≠ .fields vs := fun b hb => ⟨I.stkFree b hb, (I.stack.mem hb).2⟩
theorem look_at {X : Cx} {pins : List (Addr × Obj)} {σ : L2.St} {H : Hp} {s s' : Shared} {E : XK} {e : Value} {Q : Flow → Shared → Prop} {Ex : Value → Shared → Prop} {hs : List ExceptHandler} (T : Top X) (I : Inv X pins σ H s) (h : CX1 X.prog X.w X.stack H s E e s')
    (k : ∀ a cls H' s3, e = .ref a → E cls none H' → Caught X pins σ a cls H' s3 → wpAny (model X.prog X.w) X.A (handleBy (.ref a) X.env hs) Q Ex s3) :
    wpAny (model X.prog X.w) X.A (noteFrame e X.env) (fun _ s₂ => wpAny (model X.prog X.w) X.A (setFlight e none) (fun _ s₃ => wpAny (model X.prog X.w) X.A (handleBy e X.env hs) Q Ex s₃) Ex s₂) Ex s' := by
  obtain ⟨a, cls, H', rfl, ⟨B, a0, fl, cov⟩, os, bare, un, hok, q⟩ := h
  have hf := stk_frames I
  have hfr : X.A.frames = some (X.env :: X.outer) := by rw [← T.stk]; exact I.ok.frames
  have fl1 : Heap.FlyingW B (X.env :: X.outer) a cls a0 s'.heap := by rw [← T.stk]; exact fl
  refine wpAny_looks_onW hfr T.fr fl1 fun h4 held ut => ?_
  obtain ⟨c1, c2, c3⟩ := station un hok hf ut held.1 cov
  refine wpAny_landsW held fun h5 fl5 ut5 => ?_
  obtain ⟨d1, d2, d3⟩ := station c2 c3 hf ut5 fl5.1 c1
  have fl6 : Heap.FlyingW B X.stack a cls a0 h5 := by rw [T.stk]; exact fl5
  have I5 : Inv X pins σ H' { s' with heap := h5 } := I.call' (s' := { s' with heap := h5 }) os d2 d3 bare (fun b z => absurd z (by simp))
  exact k a cls H' _ rfl q ⟨I5, s.heap, H, s, rfl, I, ⟨B, a0, fl6, d1⟩, d2⟩
theorem handle_here {X : Cx} {pins : List (Addr × Obj)} {σ : L2.St} {H' : Hp} {s : Shared} {a C : Addr} {x : Str} {np hpos : Pos} {b₀ : Stmt} {suite : List Stmt} {rest : List ExceptHandler} {Q : Flow → Shared → Prop} {Ex : Value → Shared → Prop}
    (O : ExcAt X.K X.mg x C) (hg : Gl X x) (G : Caught X pins σ a (.ref C) H' s)
    (k : ∀ s6, Inv X pins σ H' s6 → wpAny (model X.prog X.w) (X.A.mark (some (.ref a))) (execs (b₀ :: suite) X.env) Q (fun _ _ => False) s6) (hdb : (x == ("__debug__" : Str)) = false := by decide) :
    wpAny (model X.prog X.w) X.A (handleBy (.ref a) X.env (.ExceptHandler (some (.Name x np)) none (b₀ :: suite) hpos :: rest)) Q Ex s := by
  obtain ⟨I, h0, H0, s0, rfl, I0, ⟨B, a0, fl, cov⟩, un⟩ := G
  refine wpAny_handleBy_cons (codeAny_handlers_test ?_) (by intro q; cases q)
  have Iw : Inv (wh X (X.A.mark (some (.ref a)))) pins σ H' s := inv_wh I rfl
  refine ld_glob (X := wh X (X.A.mark (some (.ref a)))) Iw hg O.mg ?_ hdb
  obtain ⟨tl, N, nm, q, bs, hd, sn, sub, ab, col, dd, k0, k1, k2, k3, k5, mN, hC, hN, hni, T⟩ := (O.obj I.kIn).ex
  obtain ⟨ob, hob, hoc⟩ := fl.there
  have hos := I.os
  have hbare := I.bare
  obtain ⟨hh, g, d, tk, os⟩ := s
  refine wpAny_excMatches_sub_self hC hob hoc (T.hasType rfl) (codeAny_handlers_suite ?_)
  refine lands_againW fl fun h6 fl6 ut6 => ?_
  obtain ⟨c1, c2, c3⟩ := station un I.hok (stk_frames I0) ut6 fl6.1 cov
  have I6 : Inv X pins σ H' { heap := h6, gens := g, drawn := d, toks := tk, os := os } := I0.call' (s' := { heap := h6, gens := g, drawn := d, toks := tk, os := os }) (hos.trans I0.os.symm) c2 c3 hbare (fun b z => absurd z (by simp))
  exact wpAny_mono (k _ I6) (fun f s2 z => z) fun _ _ z => z.elim
/-- what stands behind the clauses does not matter for what is wanted -/
def tTry (C : Addr) (E : XK) (tb th : TS) : TS := fun D σ H => (∀ c d H', E c d H' → c = .ref C ∧ ∀ σ', th D σ' H') ∧ tb D σ H
theorem ps_try {X : Cx} {E : XK} {x : Str} {C : Addr} {np hpos pos : Pos} {body : List Stmt} {b₀ : Stmt} {suite : List Stmt} {tb th : TS} (T : Top X) (O : ExcAt X.K X.mg x C) (hg : Gl X x)
    (hb : ∀ pn xe, Passes (CX1 X.prog X.w) (wt X pn xe) E → PSs (wt X pn xe) body tb) (hs : ∀ A', PSs (wh X A') (b₀ :: suite) th) (hdb : (x == ("__debug__" : Str)) = false := by decide) :
    PS X (.Try body [.ExceptHandler (some (.Name x np)) none (b₀ :: suite) hpos] [] [] pos) (tTry C E tb th) := by
  intro pins s σ H D I ⟨hE, h⟩
  refine wpAny_Try_except ?_
  refine wpAny_mono (hb pins (fun e s1 => wpAny (model X.prog X.w) X.A (noteFrame e X.env) (fun _ s₂ => wpAny (model X.prog X.w) X.A (setFlight e none) (fun _ s₃ =>
    wpAny (model X.prog X.w) X.A (handleBy e X.env [.ExceptHandler (some (.Name x np)) none (b₀ :: suite) hpos]) (SP X pins D) X.xe s₃) X.xe s₂) X.xe s1) ?_ [] s σ H D (inv_wt I) h) (fun f s1 q => ?_) fun e s1 q => q
  · intro pins' σ' H' s1 e s' I1 hx
    refine look_at T (inv_unwt I1) hx fun a cls H2 s3 he hc G => ?_
    obtain ⟨rfl, hth⟩ := hE _ _ _ hc
    refine handle_here O hg G (fun s6 I6 => ?_) hdb
    exact wpAny_mono (hs (X.A.mark (some (.ref a))) pins s6 σ' H2 D (inv_wh I6 rfl) (hth σ')) (fun f s7 q => sp_unwh I.ok q) fun _ _ z => z
  · have q' := sp_unwt q
    cases f with
    | next => exact wpAny_execs_nil q'
    | brk => exact q'
    | cont => exact q'
    | ret u => exact q'
/-! ### two clauses -/
def mroOb (o : Obj) : Option (List Value) := match o.data with
  | .cls cd => some cd.mro
  | _ => none
/-- a class right under Exception -/
structure ExcAt1 (K : Frag) (mg : Str → Option Value) (x : Str) (C : Addr) : Prop where
  at_ : ExcAt K mg x C
  mro : ∃ o, K.lookup C = some o ∧ mroOb o = some (.ref C :: bmE)
section
variable {M : Model} {A : Around} {E : Value → Shared → Prop}
theorem exc_other {nm q nm' q' : Str} {C N D N' : Addr} {bs bm bs' bm' : List Value} {hdct hdct' : Bool} {sn sn' : List Str} {sub sub' : List Value} {ab ab' : Bool} {col col' : Option Bool} {dd dd' : Option Addr} {k0 k1 k2 k3 k5 j0 j1 j2 j3 j5 : Option Value} {newId newId' : String}
    {h : Heap} {g : Array GenState} {d : Drawn} {t : Nat} {os : OsState} {e : Addr} {oe : Obj} {Q : Bool → Shared → Prop}
    (hC : h.get? C = some (excClassObj nm q C N bs bm hdct sn sub ab col dd k0 k1 k2 k3 k5 newId)) (hD : h.get? D = some (excClassObj nm' q' D N' bs' bm' hdct' sn' sub' ab' col' dd' j0 j1 j2 j3 j5 newId'))
    (he : h.get? e = some oe) (hcls : oe.cls = .ref D) (hbase : bm.contains (.type "BaseException") = true) (hno : (Value.ref D :: bm').contains (.ref C) = false) (hq : Q false ⟨h, g, d, t, os⟩) : wpAny M A (excMatches (.ref e) (.ref C)) Q E ⟨h, g, d, t, os⟩ := by
  have hb : (Value.ref C :: bm).contains (.type "BaseException") = true := by
    rw [List.contains_cons, hbase, Bool.or_true]
  have f := tc_notTuple
  unfold excMatches
  repeat (first
    | (with_reducible refine wpAny_loadPart_at he ?_; rw [hcls])
    | with_reducible refine wpAny_loadPart_at hC ?_
    | (with_reducible refine wpAny_isSubtype_exc hC ?_; rw [hb])
    | (with_reducible refine wpAny_isSubtype_exc hD ?_; rw [hno])
    | wp_step)
  exact hq
end
theorem handle_skip {X : Cx} {pins : List (Addr × Obj)} {σ : L2.St} {H' : Hp} {s : Shared} {a C D : Addr} {x y : Str} {np hpos : Pos} {b₀ : Stmt} {suite : List Stmt} {rest : List ExceptHandler} {Q : Flow → Shared → Prop} {Ex : Value → Shared → Prop}
    (O : ExcAt X.K X.mg x C) (OD : ExcAt1 X.K X.mg y D) (hne : C ≠ D) (hg : Gl X x) (G : Caught X pins σ a (.ref D) H' s) (k : wpAny (model X.prog X.w) X.A (handleBy (.ref a) X.env rest) Q Ex s) (hdb : (x == ("__debug__" : Str)) = false := by decide) :
    wpAny (model X.prog X.w) X.A (handleBy (.ref a) X.env (.ExceptHandler (some (.Name x np)) none (b₀ :: suite) hpos :: rest)) Q Ex s := by
  obtain ⟨I, h0, H0, s0, rfl, I0, ⟨B, a0, fl, cov⟩, un⟩ := G
  refine wpAny_handleBy_cons (codeAny_handlers_test ?_) (by intro q; cases q)
  have Iw : Inv (wh X (X.A.mark (some (.ref a)))) pins σ H' s := inv_wh I rfl
  refine ld_glob (X := wh X (X.A.mark (some (.ref a)))) Iw hg O.mg ?_ hdb
  obtain ⟨tl, N, nm, q, bs, hd, sn, sub, ab, col, dd, k0, k1, k2, k3, k5, mN, hC, hN, hni, T⟩ := (O.obj I.kIn).ex
  obtain ⟨tl', N', nm', q', bs', hd', sn', sub', ab', col', dd', j0, j1, j2, j3, j5, mN', hD, hN', hni', T'⟩ := (OD.at_.obj I.kIn).ex
  obtain ⟨ob, hob, hoc⟩ := fl.there
  have htl : tl' = bmE := by
    obtain ⟨o, l1, l2⟩ := OD.mro
    have e := I.kIn _ _ l1
    rw [hD] at e
    cases e
    have l3 : some (Value.ref D :: tl') = some (.ref D :: bmE) := l2
    simpa using l3
  obtain ⟨hh, g, d, tk, os⟩ := s
  refine exc_other hC hD hob hoc (T.hasType rfl) ?_ k
  rw [htl, List.contains_cons]
  have e1 : (Value.ref C == Value.ref D) = false := by
    rw [beq_eq_false_iff_ne]
    intro z
    injection z with z
    exact hne z
  rw [e1]
  rfl
def tTry2 (C D : Addr) (E : XK) (tb th th2 : TS) : TS := fun G σ H => (∀ c d H', E c d H' → (c = .ref C ∧ ∀ σ', th G σ' H') ∨ (c = .ref D ∧ ∀ σ', th2 G σ' H')) ∧ tb G σ H
theorem ps_try2 {X : Cx} {E : XK} {x y : Str} {C D : Addr} {np hpos np2 hpos2 pos : Pos} {body : List Stmt} {b₀ b₁ : Stmt} {suite suite2 : List Stmt} {tb th th2 : TS} (T : Top X) (O : ExcAt X.K X.mg x C) (OD : ExcAt1 X.K X.mg y D) (hne : C ≠ D) (hg : Gl X x) (hg2 : Gl X y)
    (hb : ∀ pn xe, Passes (CX1 X.prog X.w) (wt X pn xe) E → PSs (wt X pn xe) body tb) (hs : ∀ A', PSs (wh X A') (b₀ :: suite) th) (hs2 : ∀ A', PSs (wh X A') (b₁ :: suite2) th2) (hdb : (x == ("__debug__" : Str)) = false := by decide) (hdb2 : (y == ("__debug__" : Str)) = false := by decide) :
    PS X (.Try body [.ExceptHandler (some (.Name x np)) none (b₀ :: suite) hpos, .ExceptHandler (some (.Name y np2)) none (b₁ :: suite2) hpos2] [] [] pos) (tTry2 C D E tb th th2) := by
  intro pins s σ H G I ⟨hE, h⟩
  refine wpAny_Try_except ?_
  refine wpAny_mono (hb pins (fun e s1 => wpAny (model X.prog X.w) X.A (noteFrame e X.env) (fun _ s₂ => wpAny (model X.prog X.w) X.A (setFlight e none) (fun _ s₃ =>
    wpAny (model X.prog X.w) X.A (handleBy e X.env [.ExceptHandler (some (.Name x np)) none (b₀ :: suite) hpos, .ExceptHandler (some (.Name y np2)) none (b₁ :: suite2) hpos2]) (SP X pins G) X.xe s₃) X.xe s₂) X.xe s1) ?_ [] s σ H G (inv_wt I) h) (fun f s1 q => ?_) fun e s1 q => q
  · intro pins' σ' H' s1 e s' I1 hx
    refine look_at T (inv_unwt I1) hx fun a cls H2 s3 he hc W => ?_
    rcases hE _ _ _ hc with ⟨rfl, hth⟩ | ⟨rfl, hth⟩
    · refine handle_here O hg W (fun s6 I6 => ?_) hdb
      exact wpAny_mono (hs (X.A.mark (some (.ref a))) pins s6 σ' H2 G (inv_wh I6 rfl) (hth σ')) (fun f s7 q => sp_unwh I.ok q) fun _ _ z => z
    · refine handle_skip O OD hne hg W (handle_here OD.at_ hg2 W (fun s6 I6 => ?_) hdb2) hdb
      exact wpAny_mono (hs2 (X.A.mark (some (.ref a))) pins s6 σ' H2 G (inv_wh I6 rfl) (hth σ')) (fun f s7 q => sp_unwh I.ok q) fun _ _ z => z
  · have q' := sp_unwt q
    cases f with
    | next => exact wpAny_execs_nil q'
    | brk => exact q'
    | cont => exact q'
    | ret u => exact q'
end KL

set_option Elab.async false
set_option linter.all false
set_option maxRecDepth 100000
namespace KL
open PySem PySem.W PyProof.Rows L2
/-- THE HEAD, where exceptions may leave defs -/
theorem spec_callE {P : Program} {w : World} {K : Frag} {mg mb : Str → Option Value} {k : Nat} {x : Str} {fa : Addr} {ps : List Str} {sp : Sp} {s₁ : Shared} {us : List Value} {gs : List Arg} {cl : Str → Option Addr} {ans : List Int}
    (KX : K.In s₁.heap) (hns : s₁.heap.Ns mainGlobals mg) (hb : s₁.heap.Ns builtinsNs mb) (hbb : ∀ x : Str, x ≠ "__name__" → mb x = bootBuiltins x) (hlim : s₁.heap.NoLimit) (hg : s₁.gens = #[])
    (hw : WellAll w.params s₁.heap us (gs.map Arg.data)) (hf : ∀ g ∈ gs, g.fits) (hr : Room k callerA)
    (F : ∀ base : Heap, K.In base → base.Ns mainGlobals mg → Fxe P w K mg base x k ps sp) (hmg : mg x = some (.ref fa)) (hul : us.length = ps.length)
    (hsp : ∀ (H : Hp) (vs : List V), OnlyK K H → Paired (fun g v => ArgIs K H g v) gs vs → sp vs H (fun v H' => ∃ a, v = .ref a ∧ SqL K H' a (ans.map V.int)) fun _ _ _ => False) :
    codeAny (model P w) callerA (.call (.ref fa) ⟨us, []⟩) (fun r s' => (∃ u as, r = .ok (.ret u) ∧ ReadsW [] cl s'.heap u (.list (ans.map WData.int)) as) ∧ OldK s₁.heap s'.heap ∧ s'.os = s₁.os ∧ AllBare s'.gens) s₁ := by
  obtain ⟨vs, rv, pv⟩ := args_are KX (refs us) hw hf fun a h => h
  generalize hH : argHp K s₁.heap (refs us) = H at pv
  have hO : OnlyK K H := fun b => by
    cases q : H b with
    | none => exact .inl rfl
    | some u =>
      rw [← hH] at q
      obtain ⟨q1, _, vs, ns, _, rfl⟩ := argHp_of q
      exact .inr ⟨q1, _, _, rfl⟩
  have hok : HOk P w H s₁.heap := fun b u e => by
    rw [← hH] at e
    obtain ⟨_, _, vs, ns, ⟨l1, l2, l3⟩, rfl⟩ := argHp_of e
    exact ⟨l1, by rw [List.length_map]; exact l3, vs, _, vals_ints l2, l1⟩
  have base_of : ∀ {b : Addr} {o : Obj}, s₁.heap.get? b = some o → H b = none → (hidT s₁.heap H).get? b = some o := fun e n => hidT_get e n
  have noA : ∀ {b : Addr} {o : Obj} {es : Array DictEntry} {ep : Nat}, s₁.heap.get? b = some o → o.data = .dict es ep → H b = none := fun {b o es ep} e d => by
    cases q : H b with
    | none => rfl
    | some u =>
      rw [← hH] at q
      obtain ⟨_, _, vs, ns, ⟨l1, _, _⟩, _⟩ := argHp_of q
      rw [l1] at e
      cases e
      cases d
  have nsK : ∀ {b : Addr} {m : Str → Option Value}, s₁.heap.Ns b m → (hidT s₁.heap H).Ns b m := fun {b m} ⟨o, es, ep, e, d, r⟩ => ⟨o, es, ep, base_of e (noA e d), d, r⟩
  have freeK : ∀ b o, K.lookup b = some o → H b = none := fun b o e => by
    rcases hO b with z | ⟨z, _⟩
    · exact z
    · rw [e] at z; cases z
  have hKb : K.In (hidT s₁.heap H) := fun b o e => base_of (KX b o e) (freeK b o e)
  have hM : Mod K mg (hidT s₁.heap H) := ⟨hKb, nsK hns, ⟨mb, nsK hb, hbb⟩, let ⟨mc, h1, h2⟩ := hlim; ⟨mc, nsK h1, h2⟩⟩
  have e0 : Env0 P w K mg (hidT s₁.heap H) callerA [] s₁ H := ⟨rfl, hM, fun b o e => of_hidT e, Nat.le_of_eq (hidT_size _ _), trivial, fun b hb => absurd (show b ∈ ([] : List Addr) from hb) (by simp), hok, .of_eq hg⟩
  obtain ⟨f', fd, hm', _, hbd, G⟩ := (F _ hKb (nsK hns)).ex
  rw [hmg] at hm'
  cases hm'
  have hbind : BindsTo s₁ fd ⟨us, []⟩ (ps.zip us) := by
    have z := hbd s₁ us KX (by rw [List.append_nil]; exact hul)
    rw [List.append_nil] at z
    exact z
  refine codeAny_mono (G.run callerA [] s₁ H ⟨us, []⟩ us vs _ _ hr e0 hbind rv (hsp H vs hO pv)) fun r s' h => ?_
  cases r with
  | error e =>
    obtain ⟨_, _, _, _, _, _, _, _, _, hE⟩ := h
    exact hE.elim
  | ok fl =>
    cases fl with
    | next => exact False.elim h
    | brk => exact False.elim h
    | cont => exact False.elim h
    | ret u =>
      obtain ⟨v, H', os, bare, un, hok', r', a, rfl, hS⟩ := h
      obtain rfl : u = Value.ref a := r'
      have keeps : ∀ b o, s₁.heap.get? b = some o → s'.heap.get? b = some o := fun b o e => by
        cases q : H b with
        | none => exact un.keep b o e q (by intro z; exact absurd (show b ∈ ([] : List Addr) from z) (by simp)) (by simp)
        | some u =>
          rcases hO b with z | ⟨_, ob, xs, z⟩
          · rw [q] at z; cases z
          · have z2 := un.frzs b ob _ z
            obtain ⟨e1, _⟩ := hok b _ z
            obtain ⟨e2, _⟩ := hok' b _ z2
            rw [e] at e1; cases e1
            exact e2
      refine ⟨⟨.ref a, [a], rfl, ?_⟩, OldK.of_keep keeps, os, bare⟩
      · rcases hS with hS | ⟨o, its, n, e1, e2, e3, e4, _, rv2⟩
        · obtain ⟨_, its, n, rv2, e⟩ := hS.ok hok'
          exact ReadsW.list (as := []) e rfl rfl (by simpa using reads_ints rv2)
        · exact ReadsW.list (as := []) (keeps a o (KX a o e1)) e2 e4 (reads_ints rv2)
/-- the goal that k_headS leaves, from the promise of the row's def -/
theorem walk_ofE {r : OpenSpec} {k : Nat} {q : Program} {loose : List Str} {XP : (Str → Option Value) → Heap → Prop} {YP : World → Heap → Prop} {d : DefRec} {K : Params → Frag} {sp : Frag → Sp} {ps : List Str}
    (hdf : d.params.defaults = []) (hr : Room k callerA)
    (hY : ∀ (w : World) (h : Heap), YP w h → (K w.params).In h)
    (hargs : ∀ args, r.pre args = true → ∃ (gs : List Arg) (ans : List Int), args = gs.map Arg.data ∧ (∀ g ∈ gs, g.fits) ∧ gs.length = ps.length ∧ r.post args (.list (ans.map WData.int)) = true ∧
      ∀ (w : World) (H : Hp) (vs : List V), OnlyK (K w.params) H → Paired (fun g v => ArgIs (K w.params) H g v) gs vs → sp (K w.params) vs H (fun v H' => ∃ a, v = .ref a ∧ SqL (K w.params) H' a (ans.map V.int)) fun _ _ _ => False)
    (F : ∀ (w : World) (mg : Str → Option Value) (h : Heap), (K w.params).In h → h.Ns mainGlobals mg →
      ∀ base : Heap, (K w.params).In base → base.Ns mainGlobals mg → Fxe r.prog w (K w.params) mg base d.name k ps (sp (K w.params))) :
    WalkOS q loose XP YP r d [] (fun f vs => PySem.call f vs) := by
  intro w s₀ s₁ mg mb G Y fa o pm cd doc dV kV ho hd hcd hD hmg hg args vals as hpre hlay hrd hwl hlo
  have KX := hY w _ Y
  obtain ⟨gs, ans, rfl, hfit, hlen, hpost, hsp⟩ := hargs args hpre
  have hul : vals.length = ps.length := by
    have : ∀ {P : Params} {h : Heap} {us : List Value} {ds : List WData}, WellAll P h us ds → us.length = ds.length := by
      intro P h us
      induction us with
      | nil => intro ds w; cases w; rfl
      | cons u us ih => intro ds w; cases w with | cons _ w => rw [List.length_cons, List.length_cons, ih w]
    rw [this hwl, List.length_map, hlen]
  refine enter_call (codeAny_mono (spec_callE (cl := classAt s₀.heap) (ans := ans) KX G.T.g G.T.b G.T.builtins G.T.nolimit hg hwl hfit hr (F w mg _ KX G.T.g) hmg hul (hsp w)) fun res s' hq => ?_)
  obtain ⟨⟨u, bs, rfl, hrd'⟩, h2, h3, h4⟩ := hq
  exact ⟨.inl ⟨u, _, bs, rfl, fun _ => rfl, hrd', osPost hpost, fun hu => by cases hu⟩, h2, h3, h4⟩
end KL

set_option Elab.async false
set_option linter.all false
set_option maxRecDepth 100000
/-! ### the end of a row's proof: what the walk of the text's top leaves -/
namespace KL
open PySem PySem.W PyProof.Rows L2
theorem def_mk {K : Frag} {h : Heap} {mg : Str → Option Value} {x : Str} {st : Stmt} {f : Addr} {oc : Value} {od an : Option Addr} {osl : Array (Option Value)} {kV doc pm cdv ct : Value} (X : K.In h) (G : h.Ns mainGlobals mg)
    (a : nsIn K mainGlobals x = some (some (.ref f))) (l : K.lookup f = some ⟨oc, od, .func (fnOf x x (defArgs st) (defBody st) (defScope st) .none kV doc pm an cdv ct), osl⟩) (c : codeIn K cdv x = true) (k : keepIn K (.ref f) = true) : DefAt K mg x st :=
  ⟨f, _, mg_of X G a, fun_mk l c k⟩
theorem int_mk {K : Frag} {h : Heap} {mg : Str → Option Value} {x : Str} {i : Int} {t : Tok} (X : K.In h) (G : h.Ns mainGlobals mg) (a : nsIn K mainGlobals x = some (some (.int i t))) : ∃ t, mg x = some (.int i t) := ⟨t, mg_of X G a⟩
theorem str_mk {K : Frag} {h : Heap} {mg : Str → Option Value} {x i : Str} {t : Tok} (X : K.In h) (G : h.Ns mainGlobals mg) (a : nsIn K mainGlobals x = some (some (.str i t))) : ∃ t, mg x = some (.str i t) := ⟨t, mg_of X G a⟩
/-- a tuple of these numbers -/
def chkT : List Nat → List Value → Bool
  | [], [] => true
  | n :: ns, .int i _ :: vs => decide (i = (n : Int)) && chkT ns vs
  | _, _ => false
theorem vals_chk : ∀ {ns : List Nat} {vs : List Value}, chkT ns vs = true → Vals (vb ns) vs
  | [], [], _ => .nil
  | [], _ :: _, h => by cases h
  | _ :: _, [], h => by cases h
  | n :: ns, v :: vs, h => by
    cases v with
    | int i t =>
      have h2 : (decide (i = (n : Int)) && chkT ns vs) = true := h
      rw [Bool.and_eq_true, decide_eq_true_eq] at h2
      obtain ⟨h3, h4⟩ := h2
      subst h3
      exact .cons ⟨t, rfl⟩ (vals_chk h4)
    | _ => cases h
theorem rem_mk {K : Frag} {h : Heap} {mg : Str → Option Value} {r : Addr} {od : Option Addr} {n : Nat} {sl : Array (Option Value)} {arr : Array Value} (X : K.In h) (G : h.Ns mainGlobals mg) (a : nsIn K mainGlobals "REMAINDERS" = some (some (.ref r)))
    (l : K.lookup r = some ⟨.type "tuple", od, .seq arr n, sl⟩) (c : chkT My.tab8 arr.toList = true) : ∃ a, mg "REMAINDERS" = some (.ref a) ∧ ∀ H, SqT K H a (vb My.tab8) := by
  have hv := vals_chk c
  have hl := hv.length
  rw [vb_length, My.tab8_length] at hl
  refine ⟨r, mg_of X G a, fun H => .inr ⟨_, _, _, l, rfl, rfl, ?_, hv⟩⟩
  rw [← Array.length_toList, ← hl]
  exact le_size (by decide)
/-- bytes that are handed in, as naturals -/
theorem nats_back {ns : List Int} (h : ∀ x ∈ ns, (0 : Int) ≤ x ∧ x ≤ 255) : (ns.map Int.toNat).map (fun n : Nat => (n : Int)) = ns ∧ isByte (ns.map Int.toNat) := by
  refine ⟨?_, fun x hx => ?_⟩
  · rw [List.map_map]
    conv => rhs; rw [← List.map_id ns]
    refine List.map_congr_left fun x hx => ?_
    exact Int.toNat_of_nonneg (h x hx).1
  · obtain ⟨z, hz, rfl⟩ := List.mem_map.mp hx
    have := h z hz
    omega
theorem within_len {n : Nat} (h : n ≤ 100000) : Sv13.within (n : Int) 0 Sv13.SIZE = true := by
  unfold Sv13.within
  have h1 : (0 : Int) ≤ (n : Int) := by omega
  have h2 : (n : Int) ≤ Sv13.SIZE := by
    show (n : Int) ≤ 16777216
    omega
  rw [decide_eq_true h1, decide_eq_true h2]
  rfl
theorem seq_back {K : Frag} {H : Hp} {a : Addr} {bs : List Nat} (h : SqL K H a ((bs.map fun n : Nat => (n : Int)).map V.int)) : SqL K H a (vb bs) := by
  rw [List.map_map] at h
  exact h
end KL

set_option Elab.async false
set_option linter.all false
set_option maxRecDepth 100000
namespace KL
open PySem PySem.W PyProof.Rows L2
def top (i : Nat) : Stmt := PySem.Challenge.pw_keylogs_s09_read.main.body.getD i (.Pass ⟨0, 0, 0, 0⟩)
abbrev s_LogEnds : Stmt := top 5
abbrev s_LogDamaged : Stmt := top 6
abbrev s_number_at : Stmt := top 8
abbrev s_sum_from : Stmt := top 13
abbrev s_masked : Stmt := top 14
abbrev s_within : Stmt := top 17
abbrev s_is_length : Stmt := top 18
abbrev s_Piece : Stmt := top 28
abbrev s_Piece_init : Stmt := inClass (top 28) 0
abbrev s_left_in_block : Stmt := top 29
abbrev s_piece_sum : Stmt := top 30
abbrev s_piece_at : Stmt := top 31
abbrev s_record_from : Stmt := top 32
abbrev s_read : Stmt := top 34
structure Consts (K : Frag) (mg : Str → Option Value) : Prop where
  OUT_OF_RANGE : ∃ t, mg "OUT_OF_RANGE" = some (.int (-2) t)
  LOG_ENDS : ∃ t, mg "LOG_ENDS" = some (.int (-3) t)
  LOG_DAMAGED : ∃ t, mg "LOG_DAMAGED" = some (.int (-4) t)
  TOO_LONG : ∃ t, mg "TOO_LONG" = some (.int (-7) t)
  ALL_ONES : ∃ t, mg "ALL_ONES" = some (.int 4294967295 t)
  MASK_ADDEND : ∃ t, mg "MASK_ADDEND" = some (.int 2726488792 t)
  REMAINDERS : ∃ a, mg "REMAINDERS" = some (.ref a) ∧ ∀ H, SqT K H a (vb My.tab8)
  LONGEST : ∃ t, mg "LONGEST" = some (.int 16777216 t)
  BLOCK : ∃ t, mg "BLOCK" = some (.int 32768 t)
  SUM_WIDTH : ∃ t, mg "SUM_WIDTH" = some (.int 4 t)
  LENGTH_WIDTH : ∃ t, mg "LENGTH_WIDTH" = some (.int 2 t)
  HEAD_WIDTH : ∃ t, mg "HEAD_WIDTH" = some (.int 7 t)
  WHOLE : ∃ t, mg "WHOLE" = some (.int 1 t)
  FIRST : ∃ t, mg "FIRST" = some (.int 2 t)
  MIDDLE : ∃ t, mg "MIDDLE" = some (.int 3 t)
  LAST : ∃ t, mg "LAST" = some (.int 4 t)
  nlen : mg "len" = none
  nrange : mg "range" = none
  nzip : mg "zip" = none
  nenumerate : mg "enumerate" = none
  nlist : mg "list" = none
  nmin : mg "min" = none
  nmax : mg "max" = none
  nord : mg "ord" = none
end KL

set_option Elab.async false
set_option linter.all false
set_option maxRecDepth 100000
namespace KL
open PySem PySem.W PyProof.Rows L2
section
variable {P : Program} {w : World} {K : Frag} {mg : Str → Option Value} {base : Heap}
def sp_within : Sp := fun vs H Q _ => ∃ n lo hi : Int, vs = [.int n, .int lo, .int hi] ∧ Q (.bl (decide (lo ≤ n) && decide (n ≤ hi))) H
theorem sc_within : FnScope ["number", "low", "high"] ["number", "low", "high"] (defScope s_within) := ⟨rfl, rfl, rfl, by decide +kernel, rfl, by decide +kernel, by decide +kernel⟩
theorem fx_within (D : DefAt K mg "within" s_within) : Fx P w K mg base "within" 1 ["number", "low", "high"] sp_within := by
  refine D.fx sc_within (fun _ _ _ _ _ _ us hl => match us, hl with | [_, _, _], _ => rfl) (fun vs H Q E h => ?_) (fun f cdv A outer s H vs Q E hr h => ?_)
  · obtain ⟨n, lo, hi, rfl, _⟩ := h
    rfl
  · obtain ⟨n, lo, hi, rfl, k⟩ := h
    refine ⟨_, pss_one (ps_ret (pe_chain op_le op_le (pv 1) (pv 0) (pv 2))), ?_⟩
    refine ⟨_, rfl, _, rfl, _, _, rfl, rfl, _, rfl, ?_⟩
    by_cases h1 : lo ≤ n
    · rw [decide_eq_true h1]
      refine iteT ⟨_, rfl, _, _, rfl, rfl, ?_⟩
      rw [decide_eq_true h1, Bool.true_and] at k
      exact k
    · rw [decide_eq_false h1]
      refine iteF ?_
      rw [decide_eq_false h1, Bool.false_and] at k
      exact k
end
end KL

set_option Elab.async false
set_option linter.all false
set_option maxRecDepth 100000
namespace KL
open PySem PySem.W PyProof.Rows L2
section
variable {P : Program} {w : World} {K : Frag} {mg : Str → Option Value} {base : Heap}
def sp_is_length : Sp := fun vs H Q _ => ∃ n : Int, vs = [.int n] ∧ Q (.bl (decide (0 ≤ n) && decide (n ≤ 16777216))) H
theorem sc_is_length : FnScope ["number"] ["number"] (defScope s_is_length) := ⟨rfl, rfl, rfl, by decide +kernel, rfl, by decide +kernel, by decide +kernel⟩
theorem fx_is_length (D : DefAt K mg "is_length" s_is_length) (C : Consts K mg) (F : Fx P w K mg base "within" 1 ["number", "low", "high"] sp_within) : Fx P w K mg base "is_length" 2 ["number"] sp_is_length := by
  refine D.fx sc_is_length (fun _ _ _ _ _ _ us hl => match us, hl with | [_], _ => rfl) (fun vs H Q E h => ?_) (fun f cdv A outer s H vs Q E hr h => ?_)
  · obtain ⟨n, rfl, _⟩ := h
    rfl
  · obtain ⟨n, rfl, k⟩ := h
    refine ⟨_, pss_one (ps_ret (pe_fx F hr rfl (pa_cons (pv 0) (pa_cons pe_int (pa_cons (pe_gint rfl C.LONGEST) pa_nil))))), ?_⟩
    exact ⟨_, rfl, n, 0, 16777216, rfl, k⟩
end
end KL

set_option Elab.async false
set_option linter.all false
set_option maxRecDepth 100000
namespace KL
open PySem PySem.W PyProof.Rows L2
section
variable {P : Program} {w : World} {K : Frag} {mg : Str → Option Value} {base : Heap}
def sp_sum_from (K : Frag) : Sp := fun vs H Q _ => ∃ (st : Nat) (a : Addr) (bs : List Nat), vs = [.int (st : Int), .ref a] ∧ SqL K H a (vb bs) ∧ isByte bs ∧ Q (.int ((Sv13.crc bs st : Nat) : Int)) H
theorem tab8_at {x : Nat} : atI (vb My.tab8) ((x % 256 : Nat) : Int) = some (V.int ((My.tab8.getD (x % 256) 0 : Nat) : Int)) := by
  have hx : x % 256 < My.tab8.length := by rw [My.tab8_length]; exact Nat.mod_lt _ (by decide)
  refine atI_nat ?_
  unfold vb
  rw [List.getElem?_map, List.getElem?_eq_getElem hx]
  simp [List.getD, List.getElem?_eq_getElem hx]
theorem and255 (a : Nat) : Builtin.bitAnd (a : Int) 255 = ((a % 256 : Nat) : Int) := by
  rw [bitAnd_m8]
  omega
theorem shr8 (a : Nat) : (a : Int) / 2 ^ (8 : Int).toNat = ((a / 256 : Nat) : Int) := by
  show (a : Int) / 256 = _
  omega
theorem sc_sum_from : FnScope ["start", "data", "left", "byte"] ["start", "data"] (defScope s_sum_from) := ⟨rfl, rfl, rfl, by decide +kernel, rfl, by decide +kernel, by decide +kernel⟩
theorem fx_sum_from (D : DefAt K mg "sum_from" s_sum_from) (C : Consts K mg) : Fx P w K mg base "sum_from" 1 ["start", "data"] (sp_sum_from K) := by
  obtain ⟨ra, hrem, hS⟩ := C.REMAINDERS
  refine D.fx sc_sum_from (fun _ _ _ _ _ _ us hl => match us, hl with | [_, _], _ => rfl) (fun vs H Q E h => ?_) (fun f cdv A outer s H vs Q E hr h => ?_)
  · obtain ⟨st, a, bs, rfl, _⟩ := h
    rfl
  · obtain ⟨st, a, bs, rfl, ha, hby, k⟩ := h
    refine ⟨_, pss_cons (ps_set (i := 2) sc_sum_from.nd rfl (Or.inl rfl) (pe_op op_xor (pv 0) (pe_gint rfl C.ALL_ONES)))
      (pss_cons (ps_for PassesOwn.never rfl (pi_list (pv 1)) (pg_name (i := 3) sc_sum_from.nd rfl (Or.inl rfl))
        (pss_one (ps_set (i := 2) sc_sum_from.nd rfl (Or.inl rfl) (pe_op op_xor (pe_op op_shr (pv 2) pe_int) (pe_ix ix_tup (pe_gref rfl hrem) (pe_op op_and (pe_op op_xor (pv 2) (pv 3)) pe_int) (fun _ _ => rfl))))))
      (pss_one (ps_ret (pe_op op_xor (pv 2) (pe_gint rfl C.ALL_ONES))))), ?_⟩
    refine ⟨_, rfl, _, _, rfl, rfl, ?_⟩
    refine ⟨_, rfl, a, rfl, ⟨_, ha⟩, for_list (K := K) (a := a) (xs := vb bs) (fun i σ H2 => H2 = H ∧ ∃ v, σ = [some (.int (st : Int)), some (.ref a), some (.int (((bs.take i).foldl Sv13.crcByte (Nat.xor st (2 ^ 32 - 1)) : Nat) : Int)), v])
      ⟨rfl, none, ?_⟩ (fun i σ H2 _ ⟨e, _⟩ => by rw [e]; exact ha) ?_ ?_⟩
    · have e : Builtin.bitXor (st : Int) 4294967295 = ((Nat.xor st (2 ^ 32 - 1) : Nat) : Int) := xor_nat st 4294967295
      show [some (V.int (st : Int)), some (V.ref a), some (V.int (Builtin.bitXor (st : Int) 4294967295)), none] = _
      rw [e]
      rfl
    · rintro i x σ H2 hx ⟨rfl, v, rfl⟩
      obtain ⟨b, hb, rfl⟩ := vb_get hx
      have hlt : b < 256 := hby b (List.mem_of_getElem? hb)
      generalize hc : (bs.take i).foldl Sv13.crcByte (Nat.xor st (2 ^ 32 - 1)) = c
      have hnext : (bs.take (i + 1)).foldl Sv13.crcByte (Nat.xor st (2 ^ 32 - 1)) = (c / 256) ^^^ My.tab8.getD ((c ^^^ b) % 256) 0 := by
        rw [List.take_succ, hb]
        show ((bs.take i) ++ [b]).foldl Sv13.crcByte (Nat.xor st (2 ^ 32 - 1)) = _
        rw [crc_snoc, hc, My.turn8 hlt]
      have a1 : atI (vb My.tab8) (Builtin.bitAnd (Builtin.bitXor (c : Int) (b : Int)) 255) = some (V.int ((My.tab8.getD ((c ^^^ b) % 256) 0 : Nat) : Int)) := by
        rw [xor_nat, and255]
        exact tab8_at
      refine ⟨_, rfl, _, _, rfl, rfl, (by show (0 : Int) ≤ 8; decide), _, rfl, _, rfl, _, _, rfl, rfl, _, _, rfl, rfl, ra, _, _, _, rfl, rfl, hS _, a1, _, _, rfl, rfl, ?_⟩
      refine ⟨rfl, some (V.int (b : Int)), ?_⟩
      rw [hnext]
      show [some (V.int (st : Int)), some (V.ref a), some (V.int (Builtin.bitXor ((c : Int) / 2 ^ (8 : Int).toNat) ((My.tab8.getD ((c ^^^ b) % 256) 0 : Nat) : Int))), some (V.int (b : Int))] = _
      rw [shr8, xor_nat]
    · rintro σ H2 ⟨rfl, v, rfl⟩
      refine ⟨_, rfl, _, _, rfl, rfl, ?_⟩
      have e : (bs.take (vb bs).length) = bs := by rw [vb_length, List.take_length]
      rw [e]
      have e2 : Builtin.bitXor ((bs.foldl Sv13.crcByte (Nat.xor st (2 ^ 32 - 1)) : Nat) : Int) 4294967295 = ((Sv13.crc bs st : Nat) : Int) := xor_nat _ 4294967295
      show Q (V.int (Builtin.bitXor ((bs.foldl Sv13.crcByte (Nat.xor st (2 ^ 32 - 1)) : Nat) : Int) 4294967295)) _
      rw [e2]
      exact k
end
end KL

set_option Elab.async false
set_option linter.all false
set_option maxRecDepth 100000
namespace KL
open PySem PySem.W PyProof.Rows L2
section
variable {P : Program} {w : World} {K : Frag} {mg : Str → Option Value} {base : Heap}
def sp_masked : Sp := fun vs H Q _ => ∃ c : Nat, vs = [.int (c : Int)] ∧ c < 2 ^ 32 ∧ Q (.int ((Sv13.masked c : Nat) : Int)) H
theorem sc_masked : FnScope ["number", "turned"] ["number"] (defScope s_masked) := ⟨rfl, rfl, rfl, by decide +kernel, rfl, by decide +kernel, by decide +kernel⟩
theorem fx_masked (D : DefAt K mg "masked" s_masked) (C : Consts K mg) : Fx P w K mg base "masked" 1 ["number"] sp_masked := by
  refine D.fx sc_masked (fun _ _ _ _ _ _ us hl => match us, hl with | [_], _ => rfl) (fun vs H Q E h => ?_) (fun f cdv A outer s H vs Q E hr h => ?_)
  · obtain ⟨c, rfl, _⟩ := h
    rfl
  · obtain ⟨c, rfl, hc, k⟩ := h
    refine ⟨_, (pss_cons (ps_set (i := 1) sc_masked.nd rfl (Or.inl rfl) (pe_op op_or (pe_op op_shr (pv 0) pe_int) (pe_op op_and (pe_op op_shl (pv 0) pe_int) (pe_gint rfl C.ALL_ONES))))
      (pss_one (ps_ret (pe_op op_and (pe_op op_add (pv 1) (pe_gint rfl C.MASK_ADDEND)) (pe_gint rfl C.ALL_ONES))))), ?_⟩
    refine ⟨_, rfl, _, _, rfl, rfl, (by show (0 : Int) ≤ 15; decide), _, rfl, _, _, rfl, rfl, ⟨(by decide), (by decide), ?_⟩, _, _, rfl, rfl, _, _, rfl, rfl, ?_⟩
    · rw [Int.natAbs_natCast]
      omega
    · refine ⟨_, rfl, _, _, rfl, rfl, _, _, rfl, rfl, ?_⟩
      rw [← masked_eq hc] at k
      exact k
end
end KL

set_option Elab.async false
set_option linter.all false
set_option maxRecDepth 100000
namespace KL
open PySem PySem.W PyProof.Rows L2
section
variable {P : Program} {w : World} {K : Frag} {mg : Str → Option Value} {base : Heap}
def sp_number_at (K : Frag) : Sp := fun vs H Q _ => ∃ (a : Addr) (bs : List Nat) (b n : Nat), vs = [.ref a, .int (b : Int), .int (n : Int)] ∧ SqL K H a (vb bs) ∧ isByte bs ∧ b + n ≤ bs.length ∧ n ≤ 8 ∧ Q (.int ((Sv13.ofLittle (Sv13.slice bs b n) : Nat) : Int)) H
theorem sc_number_at : FnScope ["data", "begin", "width", "number", "place"] ["data", "begin", "width"] (defScope s_number_at) := ⟨rfl, rfl, rfl, by decide +kernel, rfl, by decide +kernel, by decide +kernel⟩
theorem fx_number_at (D : DefAt K mg "number_at" s_number_at) (C : Consts K mg) : Fx P w K mg base "number_at" 1 ["data", "begin", "width"] (sp_number_at K) := by
  refine D.fx sc_number_at (fun _ _ _ _ _ _ us hl => match us, hl with | [_, _, _], _ => rfl) (fun vs H Q E h => ?_) (fun f cdv A outer s H vs Q E hr h => ?_)
  · obtain ⟨a, bs, b, n, rfl, _⟩ := h
    rfl
  · obtain ⟨a, bs, b, n, rfl, ha, hby, hle, hn, q⟩ := h
    refine ⟨_, (pss_cons (ps_set (i := 3) sc_number_at.nd rfl (Or.inl rfl) pe_int)
      (pss_cons (ps_for PassesOwn.never rfl (pi_range1 rfl C.nrange (pa_cons (pv 2) pa_nil)) (pg_name (i := 4) sc_number_at.nd rfl (Or.inl rfl)) (pss_one (ps_aug (i := 3) sc_number_at.nd rfl (Or.inl rfl) (pe_op op_shl (pe_ix ix_list (pv 0) (pe_op op_add (pv 1) (pv 4)) (fun _ _ => rfl)) (pe_op op_mul pe_int (pv 4))) ip_add)))
      (pss_one (ps_ret (pv 3))))), ?_⟩
    refine ⟨_, rfl, (n : Int), rfl, by omega, by omega, for_range (n := (n : Int).toNat) (fun i σ H2 => H2 = H ∧ ∃ v, σ = [some (.ref a), some (.int (b : Int)), some (.int (n : Int)), some (.int ((Sv13.ofLittle (Sv13.slice bs b i) : Nat) : Int)), v])
      ⟨rfl, none, rfl⟩ ?_ ?_⟩
    · rintro i σ H2 hi ⟨rfl, v, rfl⟩
      have hi : i < n := hi
      have hx : bs[b + i]? = some bs[b + i] := List.getElem?_eq_getElem (by omega)
      have hlt : bs[b + i] < 256 := hby _ (List.getElem_mem _)
      refine ⟨_, rfl, _, rfl, _, rfl, _, rfl, _, _, rfl, rfl, a, _, _, _, rfl, rfl, ha, at_of (j := b + i) (v := V.int ((bs[b + i] : Nat) : Int)) ?_ ?_, _, rfl, _, _, rfl, rfl, .inl ⟨by decide, by decide⟩, _, _, rfl, rfl, ⟨?_, ?_, ?_⟩, _, _, rfl, rfl, ?_⟩
      · omega
      · unfold vb
        rw [List.getElem?_map, hx]
        rfl
      · omega
      · omega
      · show (((bs[b + i] : Nat) : Int)).natAbs < 2 ^ 64
        rw [Int.natAbs_natCast]
        omega
      · refine ⟨rfl, some (V.int (0 + (i : Int))), ?_⟩
        have e1 : ((8 : Int) * (0 + (i : Int))).toNat = 8 * i := by omega
        have e2 : ((bs[b + i] : Nat) : Int) * 2 ^ ((8 : Int) * (0 + (i : Int))).toNat = ((bs[b + i] * 256 ^ i : Nat) : Int) := by
          rw [e1, pow8]
          simp
        show [some (V.ref a), some (V.int (b : Int)), some (V.int (n : Int)), some (V.int (((Sv13.ofLittle (Sv13.slice bs b i) : Nat) : Int) + ((bs[b + i] : Nat) : Int) * 2 ^ ((8 : Int) * (0 + (i : Int))).toNat)), some (V.int (0 + (i : Int)))] = _
        rw [e2, My.ofLittle_slice hx hlt]
        simp
    · rintro σ H2 ⟨rfl, v, rfl⟩
      exact ⟨_, rfl, q⟩
end
end KL

set_option Elab.async false
set_option linter.all false
set_option maxRecDepth 100000
namespace KL
open PySem PySem.W PyProof.Rows L2
section
variable {P : Program} {w : World} {K : Frag} {mg : Str → Option Value} {base : Heap}
def sp_left_in_block : Sp := fun vs H Q _ => ∃ p : Nat, vs = [.int (p : Int)] ∧ Q (.int ((32768 - p % 32768 : Nat) : Int)) H
theorem sc_left_in_block : FnScope ["place"] ["place"] (defScope s_left_in_block) := ⟨rfl, rfl, rfl, by decide +kernel, rfl, by decide +kernel, by decide +kernel⟩
theorem fx_left_in_block (D : DefAt K mg "left_in_block" s_left_in_block) (C : Consts K mg) : Fx P w K mg base "left_in_block" 1 ["place"] sp_left_in_block := by
  refine D.fx sc_left_in_block (fun _ _ _ _ _ _ us hl => match us, hl with | [_], _ => rfl) (fun vs H Q E h => ?_) (fun f cdv A outer s H vs Q E hr h => ?_)
  · obtain ⟨p, rfl, _⟩ := h
    rfl
  · obtain ⟨p, rfl, q⟩ := h
    refine ⟨_, (pss_one (ps_ret (pe_op op_sub (pe_gint rfl C.BLOCK) (pe_op op_mod (pv 0) (pe_gint rfl C.BLOCK))))), ?_⟩
    refine ⟨_, rfl, _, _, rfl, rfl, (by show (0 : Int) < 32768; decide), _, _, rfl, rfl, ?_⟩
    have e : (32768 : Int) - (p : Int) % 32768 = ((32768 - p % 32768 : Nat) : Int) := by omega
    rw [← e] at q
    exact q
end
end KL

set_option Elab.async false
set_option linter.all false
set_option maxRecDepth 100000
namespace KL
open PySem PySem.W PyProof.Rows L2
section
variable {P : Program} {w : World} {K : Frag} {mg : Str → Option Value} {base : Heap}
def sp_piece_sum (K : Frag) : Sp := fun vs H Q _ => ∃ (k : Nat) (a : Addr) (bs : List Nat), vs = [.int (k : Int), .ref a] ∧ k < 256 ∧ SqL K H a (vb bs) ∧ isByte bs ∧ ∀ H', Same H H' → Q (.int ((Sv13.masked (Sv13.crc (k :: bs) 0) : Nat) : Int)) H'
theorem sc_piece_sum : FnScope ["kind", "content"] ["kind", "content"] (defScope s_piece_sum) := ⟨rfl, rfl, rfl, by decide +kernel, rfl, by decide +kernel, by decide +kernel⟩
theorem fx_piece_sum (D : DefAt K mg "piece_sum" s_piece_sum) (C : Consts K mg) (F_masked : Fx P w K mg base "masked" 1 ["number"] sp_masked) (F_sum_from : Fx P w K mg base "sum_from" 1 ["start", "data"] (sp_sum_from K)) : Fx P w K mg base "piece_sum" 2 ["kind", "content"] (sp_piece_sum K) := by
  refine D.fx sc_piece_sum (fun _ _ _ _ _ _ us hl => match us, hl with | [_, _], _ => rfl) (fun vs H Q E h => ?_) (fun f cdv A outer s H vs Q E hr h => ?_)
  · obtain ⟨k, a, bs, rfl, _⟩ := h
    rfl
  · obtain ⟨k, a, bs, rfl, hk, ha, hby, q⟩ := h
    refine ⟨_, (pss_one (ps_ret (pe_fx F_masked (hr.mono (by decide)) rfl (pa_cons (pe_fx F_sum_from (hr.mono (by decide)) rfl (pa_cons (pe_fx F_sum_from (hr.mono (by decide)) rfl (pa_cons pe_int (pa_cons (pe_lst (pa_cons (pv 0) pa_nil)) pa_nil))) (pa_cons (pv 1) pa_nil))) pa_nil)))), ?_⟩
    have hk1 : isByte [k] := fun x hx => by rw [List.mem_singleton.mp hx]; exact hk
    refine ⟨_, rfl, (by show 1 ≤ sizeLine; decide), fun l hl => ?_⟩
    have s1 : Same H (upd H l (.lst [V.int (k : Int)])) := Same.new (Same.refl H) hl
    refine ⟨0, l, [k], rfl, SqL.of upd_same, hk1, ?_⟩
    refine ⟨_, rfl, Sv13.crc [k] 0, a, bs, rfl, s1.seq ha, hby, ?_⟩
    have e : Sv13.crc (k :: bs) 0 = Sv13.crc bs (Sv13.crc [k] 0) := My.crc_on [k] bs 0
    rw [e] at q
    exact ⟨_, rfl, My.crc_lt (My.crc_lt (by decide) hk1) hby, q _ s1⟩
end
end KL

set_option Elab.async false
set_option linter.all false
set_option maxRecDepth 100000
namespace KL
open PySem PySem.W PyProof.Rows L2
section
variable {P : Program} {w : World} {K : Frag} {mg : Str → Option Value} {base : Heap}
structure PieceCls (K : Frag) (C : Addr) : Prop where
  cl : Cls K C
  nK : NoAttr K C "kind"
  nD : NoAttr K C "data"
  nE : NoAttr K C "end"
def fsP (k : Nat) (d : Addr) (e : Nat) : List (Str × V) := [("kind", .int (k : Int)), ("data", .ref d), ("end", .int (e : Int))]
theorem fsP_kind {k e : Nat} {d : Addr} : (fsP k d e).lookup ("kind" : Str) = some (.int (k : Int)) := lk_here
theorem fsP_data {k e : Nat} {d : Addr} : (fsP k d e).lookup ("data" : Str) = some (.ref d) := lk_next (by decide +kernel) lk_here
theorem fsP_end {k e : Nat} {d : Addr} : (fsP k d e).lookup ("end" : Str) = some (.int (e : Int)) := lk_next (by decide +kernel) (lk_next (by decide +kernel) lk_here)
def sp_Piece_init (C : Addr) : Sp := fun vs H Q _ => ∃ (p dx : Addr) (k : Nat) (d : Addr) (e : Nat), vs = [.ref p, .int (k : Int), .ref d, .int (e : Int)] ∧ H p = some (.ins C dx []) ∧ Q .non (upd H p (.ins C dx (fsP k d e)))
theorem sc_Piece_init : FnScope ["self", "kind", "data", "end"] ["self", "kind", "data", "end"] (defScope s_Piece_init) := ⟨rfl, rfl, rfl, by decide +kernel, rfl, by decide +kernel, by decide +kernel⟩
theorem mx_Piece_init {C : Addr} (D : MakeAt K mg "Piece" C "Piece.__init__" s_Piece_init) (T : PieceCls K C) : Mkx P w K mg base "Piece" C 1 ["self", "kind", "data", "end"] (sp_Piece_init C) := by
  refine D.mx sc_Piece_init (fun _ _ _ _ _ _ us hl => match us, hl with | [_, _, _, _], _ => rfl) (fun vs H Q E h => ?_) (fun f cdv A outer s H vs Q E hr h => ?_)
  · obtain ⟨p, dx, k, d, e, rfl, _⟩ := h
    rfl
  · obtain ⟨p, dx, k, d, e, rfl, hp, q⟩ := h
    refine ⟨_, (pss_cons (ps_fld (pv 0) (pv 1) rfl)
      (pss_cons (ps_fld (pv 0) (pv 2) rfl)
      (pss_one (ps_fld (pv 0) (pv 3) rfl)))), ?_⟩
    refine ⟨_, rfl, _, rfl, p, C, dx, [], rfl, hp, T.cl, T.nK, (by show 0 < 1000; decide), ?_⟩
    refine ⟨_, rfl, _, rfl, p, C, dx, _, rfl, upd_same, T.cl, T.nD, (by show 1 < 1000; decide), ?_⟩
    refine ⟨_, rfl, _, rfl, p, C, dx, _, rfl, upd_same, T.cl, T.nE, (by show 2 < 1000; decide), ?_⟩
    rw [upd_upd, upd_upd]
    have e1 : putF "end" (V.int (e : Int)) (putF "data" (V.ref d) (putF "kind" (V.int (k : Int)) [])) = fsP k d e := by
      unfold fsP
      simp (disch := decide +kernel) only [pf_nil, pf_here, pf_next]
    show Q .non (upd H p (.ins C dx (putF "end" (V.int (e : Int)) (putF "data" (V.ref d) (putF "kind" (V.int (k : Int)) [])))))
    rw [e1]
    exact q
end
end KL

set_option Elab.async false
set_option linter.all false
set_option maxRecDepth 100000
namespace KL
open PySem PySem.W PyProof.Rows L2
section
variable {P : Program} {w : World} {K : Frag} {mg : Str → Option Value} {base : Heap}
/-- what a refusal's number wants -/
def Fails (CE CD : Addr) (e : Int) (E : XK) : Prop := (e = -3 → ∀ H', E (.ref CE) none H') ∧ (e = -4 → ∀ H', E (.ref CD) none H')
def sp_piece_at (K : Frag) (Cp CE CD : Addr) : Sp := fun vs H Q E => ∃ (a : Addr) (l : List Nat) (p : Nat), vs = [.ref a, .int (p : Int)] ∧ SqL K H a (vb l) ∧ isByte l ∧ l.length ≤ 100000 ∧ (∀ e, My.pieceAt l p = .error e → Fails CE CD e E) ∧
  ∀ k d e, My.pieceAt l p = .ok (k, d, e) → ∀ (pp dx ld : Addr) (H' : Hp), Same H H' → H' pp = some (.ins Cp dx (fsP k ld e)) → H' ld = some (.lst (vb d)) → Q (.ref pp) H'
theorem sc_piece_at : FnScope ["log", "place", "begin", "data_begin", "end", "kind", "data"] ["log", "place"] (defScope s_piece_at) := ⟨rfl, rfl, rfl, by decide +kernel, rfl, by decide +kernel, by decide +kernel⟩
theorem fx_piece_at {Cp CE CD : Addr} (D : DefAt K mg "piece_at" s_piece_at) (C : Consts K mg) (OE : ExcAt K mg "LogEnds" CE) (OD : ExcAt K mg "LogDamaged" CD) (F_left : Fx P w K mg base "left_in_block" 1 ["place"] sp_left_in_block)
    (F_number_at : Fx P w K mg base "number_at" 1 ["data", "begin", "width"] (sp_number_at K)) (F_piece_sum : Fx P w K mg base "piece_sum" 2 ["kind", "content"] (sp_piece_sum K)) (M_Piece : Mkx P w K mg base "Piece" Cp 1 ["self", "kind", "data", "end"] (sp_Piece_init Cp)) :
    Fxe P w K mg base "piece_at" 3 ["log", "place"] (sp_piece_at K Cp CE CD) := by
  refine D.fxe sc_piece_at (fun _ _ _ _ _ _ us hl => match us, hl with | [_, _], _ => rfl) (fun vs H Q E h => ?_) (fun f cdv A outer s H vs Q E hr h => ?_)
  · obtain ⟨a, l, p, rfl, _⟩ := h
    rfl
  · obtain ⟨a, l, p, rfl, ha, hby, hlen, herr, hok⟩ := h
    refine ⟨_, (pss_cons (ps_set (i := 2) sc_piece_at.nd rfl (Or.inl rfl) (pv 1))
      (pss_cons (ps_if (pt_cmpR op_lt (pe_fx F_left (hr.mono (by decide)) rfl (pa_cons (pv 1) pa_nil)) (pe_gint rfl C.HEAD_WIDTH) (nomark _)) (pss_one (ps_set (i := 2) sc_piece_at.nd rfl (Or.inl rfl) (pe_op op_add (pv 1) (pe_fx F_left (hr.mono (by decide)) rfl (pa_cons (pv 1) pa_nil))))) pss_nil)
      (pss_cons (ps_set (i := 3) sc_piece_at.nd rfl (Or.inl rfl) (pe_op op_add (pv 2) (pe_gint rfl C.HEAD_WIDTH)))
      (pss_cons (ps_if (pt_cmpR op_gt (pv 3) (pe_callB call_len_seq rfl C.nlen PySem.boot_len (pa_cons (pv 0) pa_nil)) (nomark _)) (pss_one (ps_raise bodyX OE rfl)) pss_nil)
      (pss_cons (ps_set (i := 4) sc_piece_at.nd rfl (Or.inl rfl) (pe_op op_add (pv 3) (pe_fx F_number_at (hr.mono (by decide)) rfl (pa_cons (pv 0) (pa_cons (pe_op op_add (pv 2) (pe_gint rfl C.SUM_WIDTH)) (pa_cons (pe_gint rfl C.LENGTH_WIDTH) pa_nil))))))
      (pss_cons (ps_if (pt_cmpR op_gt (pe_op op_sub (pv 4) (pv 2)) (pe_fx F_left (hr.mono (by decide)) rfl (pa_cons (pv 2) pa_nil)) (nomark _)) (pss_one (ps_raise bodyX OD rfl)) pss_nil)
      (pss_cons (ps_if (pt_cmpR op_gt (pv 4) (pe_callB call_len_seq rfl C.nlen PySem.boot_len (pa_cons (pv 0) pa_nil)) (nomark _)) (pss_one (ps_raise bodyX OE rfl)) pss_nil)
      (pss_cons (ps_set (i := 5) sc_piece_at.nd rfl (Or.inl rfl) (pe_ix ix_list (pv 0) (pe_op op_sub (pv 3) pe_int) (fun _ _ => rfl)))
      (pss_cons (ps_set (i := 6) sc_piece_at.nd rfl (Or.inl rfl) (pe_slice sl_list (pv 0) (po_some (pv 3)) (po_some (pv 4))))
      (pss_cons (ps_if (pt_cmpR op_ne (pe_fx F_number_at (hr.mono (by decide)) rfl (pa_cons (pv 0) (pa_cons (pv 2) (pa_cons (pe_gint rfl C.SUM_WIDTH) pa_nil)))) (pe_fx F_piece_sum (hr.mono (by decide)) rfl (pa_cons (pv 5) (pa_cons (pv 6) pa_nil))) (nomark _)) (pss_one (ps_raise bodyX OD rfl)) pss_nil)
      (pss_one (ps_ret (pe_mx M_Piece (hr.mono (by decide)) rfl (pa_cons (pv 5) (pa_cons (pv 6) (pa_cons (pv 4) pa_nil)))))))))))))))), ?_⟩
    unfold My.pieceAt at herr hok
    simp only at herr hok
    refine ⟨_, rfl, ?_⟩
    refine gname_nx ?_
    dsimp only
    refine seq_cut (t := tIfS _ _ _) (fun σ' H' => H' = H ∧ σ' = [some (.ref a), some (.int (p : Int)), some (.int ((My.placeOf p : Nat) : Int)), none, none, none, none]) ?_ fun rest => ?_
    · rintro σ' H1 ⟨rfl, rfl⟩
      generalize My.placeOf p = b at herr hok
      refine ⟨_, rfl, _, _, rfl, rfl, ?_⟩
      have e7 : (b : Int) + 7 = ((b + 7 : Nat) : Int) := by omega
      refine gname_nx ?_
      dsimp only
      rw [e7]
      refine ⟨_, rfl, _, rfl, a, _, rfl, .inl ha, _, _, rfl, rfl, _, rfl, ?_⟩
      by_cases h1 : l.length < b + 7
      · rw [decide_eq_true (by rw [vb_length]; omega)]
        refine iteT ?_
        rw [if_pos h1] at herr
        exact (herr _ rfl).1 rfl _
      · rw [decide_eq_false (by rw [vb_length]; omega)]
        refine iteF ?_
        rw [if_neg h1] at herr hok
        refine ⟨_, rfl, _, rfl, _, rfl, _, _, rfl, rfl, a, l, b + 4, 2, ?_, ha, hby, by omega, by decide, ?_⟩
        · show [V.ref a, V.int ((b : Int) + 4), V.int 2] = _
          rw [show (b : Int) + 4 = ((b + 4 : Nat) : Int) by omega]
          rfl
        generalize hn : Sv13.ofLittle (Sv13.slice l (b + 4) 2) = n at herr hok
        have hn2 : n < 65536 := by
          rw [← hn]
          have := My.ofLittle_lt (Sv13.slice l (b + 4) 2)
          rw [My.slice_length (by omega)] at this
          exact this
        refine ⟨_, _, rfl, rfl, ?_⟩
        have en : ((b + 7 : Nat) : Int) + (n : Int) = ((b + 7 + n : Nat) : Int) := by omega
        refine gname_nx ?_
        dsimp only
        rw [en]
        refine ⟨_, rfl, _, rfl, _, _, rfl, rfl, _, rfl, b, rfl, _, _, rfl, rfl, _, rfl, ?_⟩
        by_cases h2 : 32768 < b % 32768 + 7 + n
        · rw [decide_eq_true (by omega)]
          refine iteT ?_
          rw [if_pos h2] at herr
          exact (herr _ rfl).2 rfl _
        · rw [decide_eq_false (by omega)]
          refine iteF ?_
          rw [if_neg h2] at herr hok
          refine ⟨_, rfl, _, rfl, a, _, rfl, .inl ha, _, _, rfl, rfl, _, rfl, ?_⟩
          by_cases h3 : l.length < b + 7 + n
          · rw [decide_eq_true (by rw [vb_length]; omega)]
            refine iteT ?_
            rw [if_pos h3] at herr
            exact (herr _ rfl).1 rfl _
          · rw [decide_eq_false (by rw [vb_length]; omega)]
            refine iteF ?_
            rw [if_neg h3] at herr hok
            have hx : l[b + 6]? = some (l.getD (b + 6) 0) := by
              have : b + 6 < l.length := by omega
              simp [List.getD, List.getElem?_eq_getElem this]
            have hk : l.getD (b + 6) 0 < 256 := hby _ (List.mem_of_getElem? hx)
            generalize l.getD (b + 6) 0 = k at hx hk herr hok
            refine ⟨_, rfl, _, rfl, _, _, rfl, rfl, a, _, _, V.int (k : Int), rfl, rfl, ha, ?_, ?_⟩
            · rw [show ((b + 7 : Nat) : Int) - 1 = ((b + 6 : Nat) : Int) by omega]
              exact vb_at hx
            refine ⟨_, rfl, _, rfl, _, rfl, _, rfl, _, rfl, a, _, rfl, ha, fun ld hld => ?_⟩
            have s1 : Same H1 (upd H1 ld (.lst (cutV (vb l) (some ((b + 7 : Nat) : Int)) (some ((b + 7 + n : Nat) : Int))))) := Same.new (Same.refl H1) hld
            have hcut : cutV (vb l) (some ((b + 7 : Nat) : Int)) (some ((b + 7 + n : Nat) : Int)) = vb (Sv13.slice l (b + 7) n) := by
              rw [cut_both (by omega) (by rw [vb_length]; omega), vb_slice]
              congr 1
              omega
            rw [hcut] at s1 ⊢
            have hdby : isByte (Sv13.slice l (b + 7) n) := fun x hx => hby x (List.mem_of_mem_drop (List.mem_of_mem_take hx))
            generalize Sv13.slice l (b + 7) n = d at s1 herr hok hdby
            refine ⟨_, rfl, _, rfl, a, l, b, 4, rfl, s1.seq ha, hby, by omega, by decide, ?_⟩
            refine ⟨_, rfl, _, rfl, k, ld, d, rfl, hk, SqL.of upd_same, hdby, fun H2 s2 => ?_⟩
            refine ⟨rfl, _, rfl, ?_⟩
            by_cases h4 : Sv13.ofLittle (Sv13.slice l b 4) = Sv13.masked (Sv13.crc (k :: d) 0)
            · rw [h4, decide_eq_true rfl]
              refine iteF ?_
              have h4' : ¬ (Sv13.ofLittle (Sv13.slice l b 4) ≠ Sv13.masked (Sv13.crc (k :: d) 0)) := fun z => z h4
              rw [if_neg h4'] at hok
              refine ⟨_, rfl, _, rfl, _, rfl, fun pp dx hpp hdx hne => ?_⟩
              refine ⟨pp, dx, k, ld, b + 7 + n, rfl, upd_same, rfl, ?_⟩
              rw [upd_upd]
              have hld2 : H2 ld = some (.lst (vb d)) := s2 _ _ upd_same
              have n1 : ld ≠ pp := ne_of_none hld2 hpp
              have n2 : ld ≠ dx := ne_of_none hld2 hdx
              refine hok _ _ _ rfl pp dx ld _ ?_ upd_same (by rw [upd_ne n1, upd_ne n2]; exact hld2)
              exact Same.new (Same.new (s1.trans s2) hdx) (by rw [upd_ne hne.symm]; exact hpp)
            · rw [decide_eq_false (by
                intro z
                injection z with z
                exact h4 (by omega))]
              refine iteT ?_
              rw [if_pos h4] at herr
              exact (herr _ rfl).2 rfl _
    · refine ⟨_, rfl, p, rfl, _, _, rfl, rfl, _, rfl, ?_⟩
      by_cases hb : 32768 < p % 32768 + 7
      · have ep : My.placeOf p = p + (32768 - p % 32768) := by unfold My.placeOf; rw [if_pos hb]
        rw [decide_eq_true (by omega)]
        refine iteT ⟨_, rfl, _, rfl, p, rfl, _, _, rfl, rfl, rest _ _ ⟨rfl, ?_⟩⟩
        rw [ep]
        show [some (V.ref a), some (V.int (p : Int)), some (V.int ((p : Int) + ((32768 - p % 32768 : Nat) : Int))), none, none, none, none] = _
        rw [Int.natCast_add]
      · have ep : My.placeOf p = p := by unfold My.placeOf; rw [if_neg hb]
        rw [decide_eq_false (by omega)]
        refine iteF (rest _ _ ⟨rfl, ?_⟩)
        rw [ep]
        rfl
end
end KL

set_option Elab.async false
set_option linter.all false
set_option maxRecDepth 100000
namespace KL
open PySem PySem.W PyProof.Rows L2
section
variable {P : Program} {w : World} {K : Frag} {mg : Str → Option Value} {base : Heap}
def sp_record_from (K : Frag) (CE CD : Addr) : Sp := fun vs H Q E => ∃ (a : Addr) (l : List Nat) (p : Nat), vs = [.ref a, .int (p : Int)] ∧ SqL K H a (vb l) ∧ isByte l ∧ l.length ≤ 100000 ∧ p ≤ l.length ∧ (∀ e, Sv13.readLog l (l.length + 2) p [] false = .error e → Fails CE CD e E) ∧
  ∀ r e, Sv13.readLog l (l.length + 2) p [] false = .ok (r, e) → r.length ≤ 100000 → ∀ (t lr : Addr) (H' : Hp), Same H H' → H' t = some (.tup [.ref lr, .int ((e : Nat) : Int)]) → H' lr = some (.lst (vb r)) → Q (.ref t) H'
theorem sc_record_from : FnScope ["log", "place", "record", "end", "kinds", "piece"] ["log", "place"] (defScope s_record_from) := ⟨rfl, rfl, rfl, by decide +kernel, rfl, by decide +kernel, by decide +kernel⟩
theorem inV_two (k a b : Nat) : inV (V.int (k : Int)) [V.int (a : Int), V.int (b : Int)] = decide (k = a ∨ k = b) := by
  unfold inV
  simp only [List.any_cons, List.any_nil, Bool.or_false, eqV_int]
  rw [Bool.eq_iff_iff]
  simp only [Bool.or_eq_true, decide_eq_true_eq]
  constructor
  · rintro (h | h)
    · exact .inl h.symm
    · exact .inr h.symm
  · rintro (h | h)
    · exact .inl h.symm
    · exact .inr h.symm
/-- the kinds that may come next -/
def kindsV (begun : Bool) : List V := if begun = true then [V.int ((3 : Nat) : Int), V.int ((4 : Nat) : Int)] else [V.int ((1 : Nat) : Int), V.int ((2 : Nat) : Int)]
theorem kinds_flat (begun : Bool) : (kindsV begun).all flatV = true := by cases begun <;> rfl
theorem kinds_in (begun : Bool) (k : Nat) : inV (V.int (k : Int)) (kindsV begun) = decide (if begun = true then k = 3 ∨ k = 4 else k = 1 ∨ k = 2) := by
  cases begun
  · exact inV_two k 1 2
  · exact inV_two k 3 4
theorem kinds_ne {K : Frag} {H : Hp} {t u : Addr} (begun : Bool) (h1 : H t = some (.tup (kindsV begun))) (h2 : H u = some (.tup [])) : ∃ d e, Dp K H (.ref t) d ∧ Dp K H (.ref u) e ∧ SeqAt.shaped d = true ∧ SeqAt.shaped e = true ∧ PyData.eqv d e = false := by
  cases begun
  · exact ⟨_, _, .tup (SqT.of h1) (.cons (.int _) (.cons (.int _) .nil)), .tup (SqT.of h2) .nil, rfl, rfl, rfl⟩
  · exact ⟨_, _, .tup (SqT.of h1) (.cons (.int _) (.cons (.int _) .nil)), .tup (SqT.of h2) .nil, rfl, rfl, rfl⟩
theorem fx_record_from {Cp CE CD : Addr} (D : DefAt K mg "record_from" s_record_from) (C : Consts K mg) (OD : ExcAt K mg "LogDamaged" CD) (T : PieceCls K Cp) (F_piece_at : Fxe P w K mg base "piece_at" 3 ["log", "place"] (sp_piece_at K Cp CE CD)) :
    Fxe P w K mg base "record_from" 4 ["log", "place"] (sp_record_from K CE CD) := by
  refine D.fxe sc_record_from (fun _ _ _ _ _ _ us hl => match us, hl with | [_, _], _ => rfl) (fun vs H Q E h => ?_) (fun f cdv A outer s H vs Q E hr h => ?_)
  · obtain ⟨a, l, p, rfl, _⟩ := h
    rfl
  · obtain ⟨a, l, p, rfl, ha, hby, hlen, hp, herr, hok⟩ := h
    refine ⟨_, (pss_cons (ps_set (i := 2) sc_record_from.nd rfl (Or.inl rfl) (pe_lst pa_nil))
      (pss_cons (ps_set (i := 3) sc_record_from.nd rfl (Or.inl rfl) (pv 1))
      (pss_cons (ps_set (i := 4) sc_record_from.nd rfl (Or.inl rfl) (pe_tup (pa_cons (pe_gint rfl C.WHOLE) (pa_cons (pe_gint rfl C.FIRST) pa_nil))))
      (pss_cons (ps_while PassesOwn.leaving (pt_cmpR (op_neD hr.units) (pv 4) (pe_tup pa_nil) (nomark _)) (pss_cons (ps_set (i := 5) sc_record_from.nd rfl (Or.inl rfl) (pe_fxe F_piece_at (hr.mono (by decide)) rfl passX (pa_cons (pv 0) (pa_cons (pv 3) pa_nil))))
      (pss_cons (ps_if (pt_cmpR op_notIn_seq (pe_fld (pv 5) rfl) (pv 4) rfl) (pss_one (ps_raise bodyX OD rfl)) pss_nil)
      (pss_cons (ps_expr (pe_bm PySem.F.plainAttrs_list PySem.F.slot_list_extend PySem.F.type_list_extend mt_extend (pv 2) (pa_cons (pe_fld (pv 5) rfl) pa_nil)))
      (pss_cons (ps_set (i := 3) sc_record_from.nd rfl (Or.inl rfl) (pe_fld (pv 5) rfl))
      (pss_one (ps_set (i := 4) sc_record_from.nd rfl (Or.inl rfl) (pe_ifExp (pt_cmpR op_in_seq (pe_fld (pv 5) rfl) (pe_tup (pa_cons (pe_gint rfl C.FIRST) (pa_cons (pe_gint rfl C.MIDDLE) pa_nil))) rfl) (pe_tup (pa_cons (pe_gint rfl C.MIDDLE) (pa_cons (pe_gint rfl C.LAST) pa_nil))) (pe_tup pa_nil)))))))))
      (pss_one (ps_ret (pe_tup (pa_cons (pv 2) (pa_cons (pv 3) pa_nil))))))))), ?_⟩
    generalize hR : Sv13.readLog l (l.length + 2) p [] false = R at herr hok
    refine ⟨Nat.zero_le _, fun lr hlr => ⟨_, rfl, (by show 2 ≤ sizeLine; decide), fun tk htk => ?_⟩⟩
    have n1 : lr ≠ tk := ne_of_none upd_same htk
    refine ⟨fun m σ H2 => Same H H2 ∧ ∃ (had : List Nat) (at_ : Nat) (tk : Addr) (v5 : Option V), H2 lr = some (.lst (vb had)) ∧ had.length ≤ at_ ∧ at_ ≤ l.length ∧ σ = [some (.ref a), some (.int (p : Int)), some (.ref lr), some (.int (at_ : Int)), some (.ref tk), v5] ∧
        ((∃ (begun : Bool) (g : Nat), H2 tk = some (.tup (kindsV begun)) ∧ R = Sv13.readLog l (g + 2) at_ had begun ∧ l.length - at_ ≤ g ∧ (begun = false → had = []) ∧ m = l.length - at_ + 1) ∨ (H2 tk = some (.tup []) ∧ R = .ok (had, at_) ∧ m = 0)),
      ⟨_, Same.new (Same.new (Same.refl H) hlr) htk, [], p, tk, none, (by rw [upd_ne n1]; exact upd_same), Nat.zero_le _, hp, rfl, .inl ⟨false, l.length, upd_same, hR.symm, by omega, fun _ => rfl, rfl⟩⟩, ?_⟩
    rintro m σ H2 ⟨hs, had, at_, tk, v5, h2, hh, hat, rfl, hcase⟩
    refine ⟨_, rfl, Nat.zero_le _, fun te hte => ?_⟩
    have s1 : Same H2 (upd H2 te (.tup [])) := Same.new (Same.refl H2) hte
    rcases hcase with ⟨begun, g, hk, hRe, hg, hb0, rfl⟩ | ⟨hk, hRe, rfl⟩
    · obtain ⟨d1, d2, e1, e2, e3, e4, e5⟩ := kinds_ne (K := K) begun (s1 _ _ hk) (upd_same (H := H2) (a := te) (o := .tup []))
      refine ⟨d1, d2, e1, e2, e3, e4, _, rfl, ?_⟩
      rw [e5]
      refine iteT ⟨_, fun σ' H' h => h, ?_⟩
      have sA := hs.trans s1
      obtain ⟨f2, hf2, hstep⟩ := My.readLog_step (f := g) (at_ := at_) (had := had) (begun := begun) hby
      rw [← hRe] at hstep
      refine ⟨_, rfl, _, rfl, a, l, at_, rfl, sA.seq ha, hby, hlen, fun e he => ?_, fun k d e he pp dx ld H3 s3 hpp hld => ?_⟩
      · rw [he] at hstep
        exact herr e hstep
      · rw [he] at hstep
        have hpo := My.pieceAt_ok he
        have hk3 : H3 tk = some (.tup (kindsV begun)) := s3 _ _ (s1 _ _ hk)
        have h3 : H3 lr = some (.lst (vb had)) := s3 _ _ (s1 _ _ h2)
        have sB := sA.trans s3
        refine ⟨_, rfl, pp, Cp, dx, _, _, rfl, hpp, T.cl, T.nK, fsP_kind, ?_⟩
        refine ⟨_, rfl, tk, _, rfl, .inr (SqT.of hk3), rfl, kinds_flat begun, _, rfl, ?_⟩
        by_cases hin : (if begun = true then k = 3 ∨ k = 4 else k = 1 ∨ k = 2)
        · have c1 : (if true = true then !inV (V.int (k : Int)) (kindsV begun) else inV (V.int (k : Int)) (kindsV begun)) = false := by
            rw [kinds_in, decide_eq_true hin]
            rfl
          rw [c1]
          refine iteF ?_
          have npl : pp ≠ lr := ne_of hpp h3 (by intro z; cases z)
          refine ⟨_, rfl, .inl ⟨rfl, _, SqL.of h3⟩, _, rfl, pp, Cp, dx, _, _, rfl, hpp, T.cl, T.nD, fsP_data, lr, ld, _, _, rfl, rfl, h3, hld, le_size (by rw [vb_length, vb_length]; omega), ?_⟩
          have hpp4 : (upd H3 lr (.lst (vb had ++ vb d))) pp = some (.ins Cp dx (fsP k ld e)) := by rw [upd_ne npl]; exact hpp
          have sC : Same H (upd H3 lr (.lst (vb had ++ vb d))) := Same.upd sB hlr
          refine ⟨_, rfl, pp, Cp, dx, _, _, rfl, hpp4, T.cl, T.nE, fsP_end, ?_⟩
          refine ⟨_, rfl, pp, Cp, dx, _, _, rfl, hpp4, T.cl, T.nK, fsP_kind, (by show 2 ≤ sizeLine; decide), fun t2 ht2 => ?_⟩
          refine ⟨t2, _, rfl, .inr (SqT.of upd_same), rfl, rfl, _, rfl, ?_⟩
          have sD := Same.new sC (o := .tup [V.int 2, V.int 3]) ht2
          have nt2 : lr ≠ t2 := ne_of_none upd_same ht2
          have hlr2 : (upd (upd H3 lr (.lst (vb had ++ vb d))) t2 (.tup [V.int 2, V.int 3])) lr = some (.lst (vb (had ++ d))) := by
            rw [upd_ne nt2, upd_same, vb_append]
          have hal : (had ++ d).length ≤ e := by
            rw [List.length_append]
            omega
          have c2 : (if false = true then !inV (V.int (k : Int)) [V.int 2, V.int 3] else inV (V.int (k : Int)) [V.int 2, V.int 3]) = decide (k = 2 ∨ k = 3) := inV_two k 2 3
          rw [c2]
          by_cases hmore : k = 2 ∨ k = 3
          · rw [decide_eq_true hmore]
            refine iteT ⟨(by show 2 ≤ sizeLine; decide), fun t3 ht3 => ?_⟩
            have nt3 : lr ≠ t3 := ne_of_none hlr2 ht3
            have hRn : R = Sv13.readLog l f2 e (had ++ d) true := by
              rw [hstep]
              show (if k = 1 ∧ begun = false then _ else if k = 4 ∧ begun = true then _ else if (k = 2 ∧ begun = false) ∨ (k = 3 ∧ begun = true) then Sv13.readLog l f2 e (had ++ d) true else _) = _
              rw [if_neg (by omega), if_neg (by omega), if_pos]
              cases begun with
              | true =>
                have hin : k = 3 ∨ k = 4 := hin
                exact .inr ⟨by omega, rfl⟩
              | false =>
                have hin : k = 1 ∨ k = 2 := hin
                exact .inl ⟨by omega, rfl⟩
            refine ⟨l.length - e + 1, by omega, Same.new sD ht3, had ++ d, e, t3, _, (by rw [upd_ne nt3]; exact hlr2), hal, hpo.2.1, rfl, .inl ⟨true, f2 - 2, upd_same, ?_, by omega, (fun z => nomatch z), rfl⟩⟩
            rw [show f2 - 2 + 2 = f2 by omega]
            exact hRn
          · rw [decide_eq_false hmore]
            refine iteF ⟨Nat.zero_le _, fun t3 ht3 => ?_⟩
            have nt3 : lr ≠ t3 := ne_of_none hlr2 ht3
            have hRn : R = .ok (had ++ d, e) := by
              rw [hstep]
              show (if k = 1 ∧ begun = false then Except.ok (d, e) else if k = 4 ∧ begun = true then Except.ok (had ++ d, e) else _) = _
              cases begun with
              | true =>
                have hin : k = 3 ∨ k = 4 := hin
                rw [if_neg (by omega), if_pos ⟨by omega, rfl⟩]
              | false =>
                have hin : k = 1 ∨ k = 2 := hin
                rw [if_pos ⟨by omega, rfl⟩, hb0 rfl]
                rfl
            exact ⟨0, by omega, Same.new sD ht3, had ++ d, e, t3, _, (by rw [upd_ne nt3]; exact hlr2), hal, hpo.2.1, rfl, .inr ⟨upd_same, hRn, rfl⟩⟩
        · have c1 : (if true = true then !inV (V.int (k : Int)) (kindsV begun) else inV (V.int (k : Int)) (kindsV begun)) = true := by
            rw [kinds_in, decide_eq_false hin]
            rfl
          rw [c1]
          refine iteT ?_
          have hRn : R = .error (-4) := by
            rw [hstep]
            show (if k = 1 ∧ begun = false then _ else if k = 4 ∧ begun = true then _ else if (k = 2 ∧ begun = false) ∨ (k = 3 ∧ begun = true) then _ else Except.error (-4)) = _
            cases begun with
            | true =>
              have hin : ¬ (k = 3 ∨ k = 4) := hin
              rw [if_neg (by simp), if_neg (by omega), if_neg (by simp; omega)]
            | false =>
              have hin : ¬ (k = 1 ∨ k = 2) := hin
              rw [if_neg (by omega), if_neg (by simp), if_neg (by simp; omega)]
          exact (herr _ hRn).2 rfl _
    · refine ⟨_, _, .tup (SqT.of (s1 _ _ hk)) .nil, .tup (SqT.of upd_same) .nil, rfl, rfl, _, rfl, ?_⟩
      refine iteF ⟨_, rfl, _, rfl, (by show 2 ≤ sizeLine; decide), fun t ht => ?_⟩
      have nt : lr ≠ t := ne_of_none (s1 _ _ h2) ht
      exact hok _ _ hRe (by omega) t lr _ (Same.new (hs.trans s1) ht) upd_same (by rw [upd_ne nt]; exact s1 _ _ h2)
end
end KL

set_option Elab.async false
set_option linter.all false
set_option maxRecDepth 100000
namespace KL
open PySem PySem.W PyProof.Rows L2
section
variable {P : Program} {w : World} {K : Frag} {mg : Str → Option Value} {base : Heap}
def readAns (place most : Int) (l : List Nat) : List Int := if (Sv13.within place 0 (l.length : Int) && Sv13.within most 0 Sv13.SIZE) = false then [-2] else
  match Sv13.readLog l (l.length + 2) place.toNat [] false with
  | .error e => [e]
  | .ok x => if most < (x.1.length : Int) then [-7] else (x.1.length : Int) :: ((x.1.map fun n : Nat => (n : Int)) ++ [(x.2 : Int)])
theorem readLog_err {l : Sv13.Bytes} : ∀ (f at_ : Nat) (had : Sv13.Bytes) (begun : Bool) (e : Int), Sv13.readLog l f at_ had begun = .error e → e = -3 ∨ e = -4
  | 0, _, _, _, e, h => by cases h; exact .inr rfl
  | f + 1, at_, had, begun, e, h => by
    unfold Sv13.readLog at h
    split at h
    · exact readLog_err f _ _ _ e h
    · split at h
      · cases h; exact .inl rfl
      · simp only at h
        split at h
        · cases h; exact .inr rfl
        · split at h
          · cases h; exact .inl rfl
          · split at h
            · cases h; exact .inr rfl
            · split at h
              · cases h
              · split at h
                · cases h
                · split at h
                  · exact readLog_err f _ _ _ e h
                  · cases h; exact .inr rfl
def sp_read (K : Frag) : Sp := fun vs H Q _ => ∃ (place most : Int) (a : Addr) (l : List Nat), vs = [.int place, .int most, .ref a] ∧ SqL K H a (vb l) ∧ isByte l ∧ l.length ≤ 100000 ∧ ∀ (la : Addr) (H' : Hp), H' la = some (.lst ((readAns place most l).map V.int)) → Q (.ref la) H'
theorem sc_read : FnScope ["place", "most", "log", "found", "record", "end"] ["place", "most", "log"] (defScope s_read) := ⟨rfl, rfl, rfl, by decide +kernel, rfl, by decide +kernel, by decide +kernel⟩
theorem fx_read {CE CD : Addr} (D : DefAt K mg "read" s_read) (C : Consts K mg) (OE : ExcAt K mg "LogEnds" CE) (OD : ExcAt1 K mg "LogDamaged" CD) (hne : CE ≠ CD) (F_is_length : Fx P w K mg base "is_length" 2 ["number"] sp_is_length) (F_within : Fx P w K mg base "within" 1 ["number", "low", "high"] sp_within)
    (F_record_from : Fxe P w K mg base "record_from" 4 ["log", "place"] (sp_record_from K CE CD)) : Fxe P w K mg base "read" 5 ["place", "most", "log"] (sp_read K) := by
  refine D.fxe sc_read (fun _ _ _ _ _ _ us hl => match us, hl with | [_, _, _], _ => rfl) (fun vs H Q E h => ?_) (fun f cdv A outer s H vs Q E hr h => ?_)
  · obtain ⟨place, most, a, l, rfl, _⟩ := h
    rfl
  · obtain ⟨place, most, a, l, rfl, ha, hby, hlen, q⟩ := h
    refine ⟨_, (pss_cons (ps_if (pt_not (PW.pt (pw_and (pt_val (pe_fx F_is_length (hr.mono (by decide)) rfl (pa_cons (pe_callB call_len_seq rfl C.nlen PySem.boot_len (pa_cons (pv 2) pa_nil)) pa_nil))) (pw_and (pt_val (pe_fx F_within (hr.mono (by decide)) rfl (pa_cons (pv 0) (pa_cons pe_int (pa_cons (pe_callB call_len_seq rfl C.nlen PySem.boot_len (pa_cons (pv 2) pa_nil)) pa_nil))))) (pw_and1 (pt_val (pe_fx F_is_length (hr.mono (by decide)) rfl (pa_cons (pv 1) pa_nil)))))))) (pss_one (ps_ret (pe_lst (pa_cons (pe_gint rfl C.OUT_OF_RANGE) pa_nil)))) pss_nil)
      (pss_cons (ps_try2 (E := fun c _ _ => (c = .ref CE ∧ Sv13.readLog l (l.length + 2) place.toNat [] false = .error (-3)) ∨ (c = .ref CD ∧ Sv13.readLog l (l.length + 2) place.toNat [] false = .error (-4))) top_cx OE OD hne rfl rfl
        (fun pn xe hp => pss_one (ps_set (i := 3) sc_read.nd rfl (Or.inl rfl) (pe_fxe F_record_from (hr.mono (by decide)) rfl hp (pa_cons (pv 2) (pa_cons (pv 0) pa_nil)))))
        (fun A' => pss_one (ps_ret (pe_lst (pa_cons (pe_gint rfl C.LOG_ENDS) pa_nil)))) (fun A' => pss_one (ps_ret (pe_lst (pa_cons (pe_gint rfl C.LOG_DAMAGED) pa_nil)))))
      (pss_cons (ps_set (i := 4) sc_read.nd rfl (Or.inl rfl) (pe_ix ix_tup (pv 3) pe_int (fun _ _ => rfl)))
      (pss_cons (ps_set (i := 5) sc_read.nd rfl (Or.inl rfl) (pe_ix ix_tup (pv 3) pe_int (fun _ _ => rfl)))
      (pss_cons (ps_if (pt_cmpR op_gt (pe_callB call_len_seq rfl C.nlen PySem.boot_len (pa_cons (pv 4) pa_nil)) (pv 1) (nomark _)) (pss_one (ps_ret (pe_lst (pa_cons (pe_gint rfl C.TOO_LONG) pa_nil)))) pss_nil)
      (pss_one (ps_ret (pe_op op_cat (pe_op op_cat (pe_lst (pa_cons (pe_callB call_len_seq rfl C.nlen PySem.boot_len (pa_cons (pv 4) pa_nil)) pa_nil)) (pv 4)) (pe_lst (pa_cons (pv 5) pa_nil)))))))))), ?_⟩
    unfold readAns at q
    refine ⟨_, rfl, a, _, rfl, .inl ha, _, rfl, _, rfl, ?_⟩
    have c1 : (decide ((0 : Int) ≤ (((vb l).length : Nat) : Int)) && decide ((((vb l).length : Nat) : Int) ≤ 16777216)) = true := by
      rw [vb_length, decide_eq_true (by omega), decide_eq_true (by omega)]
      rfl
    rw [c1]
    refine iteT ?_
    have bad : (Sv13.within place 0 (l.length : Int) && Sv13.within most 0 Sv13.SIZE) = false → ∀ la, H la = none → Q (.ref la) (upd H la (.lst [.int (-2)])) := fun hz la hla => by
      rw [if_pos hz] at q
      exact q la _ upd_same
    refine ⟨_, rfl, _, rfl, a, _, rfl, .inl ha, place, 0, _, rfl, _, rfl, ?_⟩
    rw [vb_length]
    cases hp : (decide ((0 : Int) ≤ place) && decide (place ≤ (l.length : Int))) with
    | false =>
      have hp' : Sv13.within place 0 (l.length : Int) = false := hp
      exact iteF (iteT ⟨(by show 1 ≤ sizeLine; decide), fun la hla => bad (by rw [hp']; rfl) la hla⟩)
    | true =>
      have hp' : Sv13.within place 0 (l.length : Int) = true := hp
      refine iteT ⟨_, rfl, most, rfl, _, rfl, ?_⟩
      cases hm : (decide ((0 : Int) ≤ most) && decide (most ≤ 16777216)) with
      | false =>
        have hm' : Sv13.within most 0 Sv13.SIZE = false := hm
        exact iteT ⟨(by show 1 ≤ sizeLine; decide), fun la hla => bad (by rw [hm', Bool.and_false]) la hla⟩
      | true =>
        have hm' : Sv13.within most 0 Sv13.SIZE = true := hm
        rw [if_neg (by rw [hp', hm']; decide)] at q
        refine iteF ?_
        rw [Bool.and_eq_true, decide_eq_true_eq, decide_eq_true_eq] at hp
        have e1 : ((place.toNat : Nat) : Int) = place := Int.toNat_of_nonneg hp.1
        refine ⟨fun c d H' hc => ?_, ?_⟩
        · rcases hc with ⟨rfl, hc⟩ | ⟨rfl, hc⟩
          · refine .inl ⟨rfl, fun σ' => ⟨(by show 1 ≤ sizeLine; decide), fun la hla => ?_⟩⟩
            rw [hc] at q
            exact q la _ upd_same
          · refine .inr ⟨rfl, fun σ' => ⟨(by show 1 ≤ sizeLine; decide), fun la hla => ?_⟩⟩
            rw [hc] at q
            exact q la _ upd_same
        · refine ⟨_, rfl, _, rfl, a, l, place.toNat, by rw [e1]; rfl, ha, hby, hlen, by omega, fun e he => ⟨fun e3 H' => ?_, fun e4 H' => ?_⟩, fun r e he hrl t lr H2 s2 ht hlr => ?_⟩
          · subst e3
            exact .inl ⟨rfl, he⟩
          · subst e4
            exact .inr ⟨rfl, he⟩
          · rw [he] at q
            dsimp only at q
            refine ⟨_, rfl, t, _, _, _, rfl, rfl, SqT.of ht, rfl, ?_⟩
            refine ⟨_, rfl, t, _, _, _, rfl, rfl, SqT.of ht, rfl, ?_⟩
            refine ⟨_, rfl, lr, _, rfl, .inl (SqL.of hlr), _, rfl, _, _, rfl, rfl, _, rfl, ?_⟩
            rw [vb_length]
            by_cases hc : most < (r.length : Int)
            · rw [decide_eq_true hc]
              rw [if_pos hc] at q
              exact iteT ⟨(by show 1 ≤ sizeLine; decide), fun la hla => q la _ upd_same⟩
            · rw [decide_eq_false hc]
              rw [if_neg hc] at q
              refine iteF ⟨_, rfl, lr, _, rfl, .inl (SqL.of hlr), (by show 1 ≤ sizeLine; decide), fun l1 hl1 => ?_⟩
              have n1 : lr ≠ l1 := ne_of_none hlr hl1
              refine ⟨_, rfl, l1, lr, _, _, rfl, rfl, upd_same, (by rw [upd_ne n1]; exact hlr), le_size (by rw [vb_length]; simp only [List.length_cons, List.length_nil]; omega), fun l2 hl2 => ?_⟩
              refine ⟨_, rfl, (by show 1 ≤ sizeLine; decide), fun l3 hl3 => ?_⟩
              have n2 : l2 ≠ l3 := ne_of_none upd_same hl3
              refine ⟨l2, l3, _, _, rfl, rfl, (by rw [upd_ne n2]; exact upd_same), upd_same, le_size (by rw [List.length_append, vb_length]; simp only [List.length_cons, List.length_nil]; omega), fun l4 hl4 => ?_⟩
              refine q l4 _ ?_
              rw [upd_same, vb_length, List.map_cons, List.map_append, ← vb_ints]
              rfl
end
end KL

set_option Elab.async false
set_option linter.all false
set_option maxRecDepth 100000
namespace KL
open PySem PySem.W PyProof.Rows L2
theorem read_ans {place most : Int} {ns : List Int} (hl : ns.length ≤ 100000) : PySv13.read place most ns = readAns place most (ns.map Int.toNat) := by
  have hw := within_len hl
  have hf : ∀ x : Sv13.Ans, Sv13.does (.read (ns.map Int.toNat) (ns.length : Int) place most) = x → PySv13.read place most ns = x.v :: (Sv13Neutral.ints x.b ++ Sv13Neutral.ints x.next.toList) := by
    intro x hx
    rw [← hx]
    rfl
  have hlen : (ns.map Int.toNat).length = ns.length := List.length_map _
  unfold readAns
  rw [hlen]
  have e : Sv13.does (.read (ns.map Int.toNat) (ns.length : Int) place most) = if (Sv13.within place 0 (ns.length : Int) && Sv13.within most 0 Sv13.SIZE) = false then Sv13.ok (-2) else match Sv13.readLog (ns.map Int.toNat) (ns.length + 2) place.toNat [] false with
      | .error e => Sv13.ok e
      | .ok x => if most < (x.1.length : Int) then Sv13.ok (-7) else ⟨x.1.length, x.1, some x.2⟩ := by
    show (if (Sv13.within (ns.length : Int) 0 Sv13.SIZE && (Sv13.within place 0 (ns.length : Int) && Sv13.within most 0 Sv13.SIZE)) = false then Sv13.ok (-2) else _) = _
    rw [hw, Bool.true_and]
    rfl
  rw [hf _ e]
  by_cases hc : (Sv13.within place 0 (ns.length : Int) && Sv13.within most 0 Sv13.SIZE) = false
  · rw [if_pos hc, if_pos hc]
    rfl
  · rw [if_neg hc, if_neg hc]
    cases Sv13.readLog (ns.map Int.toNat) (ns.length + 2) place.toNat [] false with
    | error e => rfl
    | ok x =>
      dsimp only
      by_cases hm : most < (x.1.length : Int)
      · rw [if_pos hm, if_pos hm]
        rfl
      · rw [if_neg hm, if_neg hm]
        rfl
theorem args_ (args : List WData) (hpre : PySem.Challenge.rw_keylogs_s09_read.pre args = true) : ∃ (place most : Int) (bs : List Nat), args = [Arg.int place, Arg.int most, Arg.nums (bs.map fun n : Nat => (n : Int))].map Arg.data ∧ bs.length ≤ 100000 ∧ isByte bs ∧ PySem.Challenge.rw_keylogs_s09_read.post args (.list ((readAns place most bs).map WData.int)) = true := by
  obtain ⟨⟨k, k2, ns, u⟩, e, _⟩ := os_pre_some hpre
  obtain ⟨d, ds, rfl, e1, e2⟩ := dec_cons e
  obtain ⟨d2, ds2, rfl, e3, e4⟩ := dec_cons e2
  obtain ⟨d3, ds3, rfl, e5, e6⟩ := dec_cons e4
  obtain rfl := dec_nil e6
  obtain ⟨rfl, b1, b2⟩ := dec_int e1
  obtain ⟨rfl, b3, b4⟩ := dec_int e3
  obtain ⟨rfl, b5, b6⟩ := dec_list e5
  obtain ⟨hn, hby⟩ := nats_back b6
  refine ⟨k, k2, ns.map Int.toNat, ?_, by rw [List.length_map]; exact b5, hby, ?_⟩
  · rw [hn]
    rfl
  · refine post_list e ?_
    show WData.list ((PySv13.read k k2 ns).map WData.int) = WData.list _
    rw [read_ans b5]
theorem all_ {P : Program} {w : World} {K : Frag} {h : Heap} {mg : Str → Option Value} (X : K.In h) (G : h.Ns mainGlobals mg)
    {f_number_at : Addr} {od_number_at an_number_at : Option Addr} {sl_number_at : Array (Option Value)} {oc_number_at kV_number_at dc_number_at pm_number_at cd_number_at ct_number_at : Value}
    {f_sum_from : Addr} {od_sum_from an_sum_from : Option Addr} {sl_sum_from : Array (Option Value)} {oc_sum_from kV_sum_from dc_sum_from pm_sum_from cd_sum_from ct_sum_from : Value}
    {f_masked : Addr} {od_masked an_masked : Option Addr} {sl_masked : Array (Option Value)} {oc_masked kV_masked dc_masked pm_masked cd_masked ct_masked : Value}
    {f_within : Addr} {od_within an_within : Option Addr} {sl_within : Array (Option Value)} {oc_within kV_within dc_within pm_within cd_within ct_within : Value}
    {f_is_length : Addr} {od_is_length an_is_length : Option Addr} {sl_is_length : Array (Option Value)} {oc_is_length kV_is_length dc_is_length pm_is_length cd_is_length ct_is_length : Value}
    {f_left_in_block : Addr} {od_left_in_block an_left_in_block : Option Addr} {sl_left_in_block : Array (Option Value)} {oc_left_in_block kV_left_in_block dc_left_in_block pm_left_in_block cd_left_in_block ct_left_in_block : Value}
    {f_piece_sum : Addr} {od_piece_sum an_piece_sum : Option Addr} {sl_piece_sum : Array (Option Value)} {oc_piece_sum kV_piece_sum dc_piece_sum pm_piece_sum cd_piece_sum ct_piece_sum : Value}
    {f_piece_at : Addr} {od_piece_at an_piece_at : Option Addr} {sl_piece_at : Array (Option Value)} {oc_piece_at kV_piece_at dc_piece_at pm_piece_at cd_piece_at ct_piece_at : Value}
    {f_record_from : Addr} {od_record_from an_record_from : Option Addr} {sl_record_from : Array (Option Value)} {oc_record_from kV_record_from dc_record_from pm_record_from cd_record_from ct_record_from : Value}
    {f_read : Addr} {od_read an_read : Option Addr} {sl_read : Array (Option Value)} {oc_read kV_read dc_read pm_read cd_read ct_read : Value}
    {C_Piece : Addr}
    {f_Piece_init : Addr} {od_Piece_init an_Piece_init : Option Addr} {sl_Piece_init : Array (Option Value)} {oc_Piece_init kV_Piece_init dc_Piece_init pm_Piece_init cd_Piece_init ct_Piece_init : Value}
    {C_LogEnds : Addr}
    {C_LogDamaged : Addr}
    {o_LogDamaged : Obj}
    {t_OUT_OF_RANGE : Tok}
    {t_LOG_ENDS : Tok}
    {t_LOG_DAMAGED : Tok}
    {t_TOO_LONG : Tok}
    {t_ALL_ONES : Tok}
    {t_MASK_ADDEND : Tok}
    {rem : Addr} {od_rem : Option Addr} {n_rem : Nat} {sl_rem : Array (Option Value)} {arr : Array Value}
    {t_LONGEST : Tok}
    {t_BLOCK : Tok}
    {t_SUM_WIDTH : Tok}
    {t_LENGTH_WIDTH : Tok}
    {t_HEAD_WIDTH : Tok}
    {t_WHOLE : Tok}
    {t_FIRST : Tok}
    {t_MIDDLE : Tok}
    {t_LAST : Tok}
    (a_number_at : nsIn K mainGlobals "number_at" = some (some (.ref f_number_at)))
    (l_number_at : K.lookup f_number_at = some ⟨oc_number_at, od_number_at, .func (fnOf "number_at" "number_at" (defArgs s_number_at) (defBody s_number_at) (defScope s_number_at) .none kV_number_at dc_number_at pm_number_at an_number_at cd_number_at ct_number_at), sl_number_at⟩)
    (c_number_at : codeIn K cd_number_at "number_at" = true)
    (k_number_at : keepIn K (.ref f_number_at) = true)
    (a_sum_from : nsIn K mainGlobals "sum_from" = some (some (.ref f_sum_from)))
    (l_sum_from : K.lookup f_sum_from = some ⟨oc_sum_from, od_sum_from, .func (fnOf "sum_from" "sum_from" (defArgs s_sum_from) (defBody s_sum_from) (defScope s_sum_from) .none kV_sum_from dc_sum_from pm_sum_from an_sum_from cd_sum_from ct_sum_from), sl_sum_from⟩)
    (c_sum_from : codeIn K cd_sum_from "sum_from" = true)
    (k_sum_from : keepIn K (.ref f_sum_from) = true)
    (a_masked : nsIn K mainGlobals "masked" = some (some (.ref f_masked)))
    (l_masked : K.lookup f_masked = some ⟨oc_masked, od_masked, .func (fnOf "masked" "masked" (defArgs s_masked) (defBody s_masked) (defScope s_masked) .none kV_masked dc_masked pm_masked an_masked cd_masked ct_masked), sl_masked⟩)
    (c_masked : codeIn K cd_masked "masked" = true)
    (k_masked : keepIn K (.ref f_masked) = true)
    (a_within : nsIn K mainGlobals "within" = some (some (.ref f_within)))
    (l_within : K.lookup f_within = some ⟨oc_within, od_within, .func (fnOf "within" "within" (defArgs s_within) (defBody s_within) (defScope s_within) .none kV_within dc_within pm_within an_within cd_within ct_within), sl_within⟩)
    (c_within : codeIn K cd_within "within" = true)
    (k_within : keepIn K (.ref f_within) = true)
    (a_is_length : nsIn K mainGlobals "is_length" = some (some (.ref f_is_length)))
    (l_is_length : K.lookup f_is_length = some ⟨oc_is_length, od_is_length, .func (fnOf "is_length" "is_length" (defArgs s_is_length) (defBody s_is_length) (defScope s_is_length) .none kV_is_length dc_is_length pm_is_length an_is_length cd_is_length ct_is_length), sl_is_length⟩)
    (c_is_length : codeIn K cd_is_length "is_length" = true)
    (k_is_length : keepIn K (.ref f_is_length) = true)
    (a_left_in_block : nsIn K mainGlobals "left_in_block" = some (some (.ref f_left_in_block)))
    (l_left_in_block : K.lookup f_left_in_block = some ⟨oc_left_in_block, od_left_in_block, .func (fnOf "left_in_block" "left_in_block" (defArgs s_left_in_block) (defBody s_left_in_block) (defScope s_left_in_block) .none kV_left_in_block dc_left_in_block pm_left_in_block an_left_in_block cd_left_in_block ct_left_in_block), sl_left_in_block⟩)
    (c_left_in_block : codeIn K cd_left_in_block "left_in_block" = true)
    (k_left_in_block : keepIn K (.ref f_left_in_block) = true)
    (a_piece_sum : nsIn K mainGlobals "piece_sum" = some (some (.ref f_piece_sum)))
    (l_piece_sum : K.lookup f_piece_sum = some ⟨oc_piece_sum, od_piece_sum, .func (fnOf "piece_sum" "piece_sum" (defArgs s_piece_sum) (defBody s_piece_sum) (defScope s_piece_sum) .none kV_piece_sum dc_piece_sum pm_piece_sum an_piece_sum cd_piece_sum ct_piece_sum), sl_piece_sum⟩)
    (c_piece_sum : codeIn K cd_piece_sum "piece_sum" = true)
    (k_piece_sum : keepIn K (.ref f_piece_sum) = true)
    (a_piece_at : nsIn K mainGlobals "piece_at" = some (some (.ref f_piece_at)))
    (l_piece_at : K.lookup f_piece_at = some ⟨oc_piece_at, od_piece_at, .func (fnOf "piece_at" "piece_at" (defArgs s_piece_at) (defBody s_piece_at) (defScope s_piece_at) .none kV_piece_at dc_piece_at pm_piece_at an_piece_at cd_piece_at ct_piece_at), sl_piece_at⟩)
    (c_piece_at : codeIn K cd_piece_at "piece_at" = true)
    (k_piece_at : keepIn K (.ref f_piece_at) = true)
    (a_record_from : nsIn K mainGlobals "record_from" = some (some (.ref f_record_from)))
    (l_record_from : K.lookup f_record_from = some ⟨oc_record_from, od_record_from, .func (fnOf "record_from" "record_from" (defArgs s_record_from) (defBody s_record_from) (defScope s_record_from) .none kV_record_from dc_record_from pm_record_from an_record_from cd_record_from ct_record_from), sl_record_from⟩)
    (c_record_from : codeIn K cd_record_from "record_from" = true)
    (k_record_from : keepIn K (.ref f_record_from) = true)
    (a_read : nsIn K mainGlobals "read" = some (some (.ref f_read)))
    (l_read : K.lookup f_read = some ⟨oc_read, od_read, .func (fnOf "read" "read" (defArgs s_read) (defBody s_read) (defScope s_read) .none kV_read dc_read pm_read an_read cd_read ct_read), sl_read⟩)
    (c_read : codeIn K cd_read "read" = true)
    (k_read : keepIn K (.ref f_read) = true)
    (aC_Piece : nsIn K mainGlobals "Piece" = some (some (.ref C_Piece)))
    (a_Piece_init : findIn K (.ref C_Piece) "__init__" = some (some (.ref f_Piece_init)))
    (i_Piece_init : isFn K (.ref f_Piece_init) = true)
    (l_Piece_init : K.lookup f_Piece_init = some ⟨oc_Piece_init, od_Piece_init, .func (fnOf "__init__" "Piece.__init__" (defArgs s_Piece_init) (defBody s_Piece_init) (defScope s_Piece_init) .none kV_Piece_init dc_Piece_init pm_Piece_init an_Piece_init cd_Piece_init ct_Piece_init), sl_Piece_init⟩)
    (c_Piece_init : codeIn K cd_Piece_init "Piece.__init__" = true)
    (k_Piece_init : keepIn K (.ref f_Piece_init) = true)
    (pg_Piece : plainGet K C_Piece Str.empty = true)
    (hd_Piece : hasDictIn K C_Piece = true)
    (po_Piece : plainOver K C_Piece = true)
    (sa_Piece : findIn K (.ref C_Piece) "__setattr__" = some (some (.builtin "object.__setattr__")))
    (mk_Piece : makesIn K C_Piece = true)
    (kc_Piece : keepIn K (.ref C_Piece) = true)
    (n_Piece_kind : findIn K (.ref C_Piece) "kind" = some none)
    (n_Piece_data : findIn K (.ref C_Piece) "data" = some none)
    (n_Piece_end : findIn K (.ref C_Piece) "end" = some none)
    (aC_LogEnds : nsIn K mainGlobals "LogEnds" = some (some (.ref C_LogEnds)))
    (xC_LogEnds : excIn K C_LogEnds [.type "Exception", .type "BaseException", .type "object"] "Exception.__new__" = true)
    (kc_LogEnds : keepIn K (.ref C_LogEnds) = true)
    (aC_LogDamaged : nsIn K mainGlobals "LogDamaged" = some (some (.ref C_LogDamaged)))
    (xC_LogDamaged : excIn K C_LogDamaged [.type "Exception", .type "BaseException", .type "object"] "Exception.__new__" = true)
    (kc_LogDamaged : keepIn K (.ref C_LogDamaged) = true)
    (lC_LogDamaged : K.lookup C_LogDamaged = some o_LogDamaged)
    (mC_LogDamaged : mroOb o_LogDamaged = some (.ref C_LogDamaged :: bmE))
    (ne_exc : C_LogEnds ≠ C_LogDamaged)
    (g_OUT_OF_RANGE : nsIn K mainGlobals "OUT_OF_RANGE" = some (some (.int (-2) t_OUT_OF_RANGE)))
    (g_LOG_ENDS : nsIn K mainGlobals "LOG_ENDS" = some (some (.int (-3) t_LOG_ENDS)))
    (g_LOG_DAMAGED : nsIn K mainGlobals "LOG_DAMAGED" = some (some (.int (-4) t_LOG_DAMAGED)))
    (g_TOO_LONG : nsIn K mainGlobals "TOO_LONG" = some (some (.int (-7) t_TOO_LONG)))
    (g_ALL_ONES : nsIn K mainGlobals "ALL_ONES" = some (some (.int 4294967295 t_ALL_ONES)))
    (g_MASK_ADDEND : nsIn K mainGlobals "MASK_ADDEND" = some (some (.int 2726488792 t_MASK_ADDEND)))
    (gr1 : nsIn K mainGlobals "REMAINDERS" = some (some (.ref rem)))
    (gr2 : K.lookup rem = some ⟨.type "tuple", od_rem, .seq arr n_rem, sl_rem⟩)
    (gr3 : chkT My.tab8 arr.toList = true)
    (g_LONGEST : nsIn K mainGlobals "LONGEST" = some (some (.int 16777216 t_LONGEST)))
    (g_BLOCK : nsIn K mainGlobals "BLOCK" = some (some (.int 32768 t_BLOCK)))
    (g_SUM_WIDTH : nsIn K mainGlobals "SUM_WIDTH" = some (some (.int 4 t_SUM_WIDTH)))
    (g_LENGTH_WIDTH : nsIn K mainGlobals "LENGTH_WIDTH" = some (some (.int 2 t_LENGTH_WIDTH)))
    (g_HEAD_WIDTH : nsIn K mainGlobals "HEAD_WIDTH" = some (some (.int 7 t_HEAD_WIDTH)))
    (g_WHOLE : nsIn K mainGlobals "WHOLE" = some (some (.int 1 t_WHOLE)))
    (g_FIRST : nsIn K mainGlobals "FIRST" = some (some (.int 2 t_FIRST)))
    (g_MIDDLE : nsIn K mainGlobals "MIDDLE" = some (some (.int 3 t_MIDDLE)))
    (g_LAST : nsIn K mainGlobals "LAST" = some (some (.int 4 t_LAST)))
    (z_len : nsIn K mainGlobals "len" = some none)
    (z_range : nsIn K mainGlobals "range" = some none)
    (z_zip : nsIn K mainGlobals "zip" = some none)
    (z_enumerate : nsIn K mainGlobals "enumerate" = some none)
    (z_list : nsIn K mainGlobals "list" = some none)
    (z_min : nsIn K mainGlobals "min" = some none)
    (z_max : nsIn K mainGlobals "max" = some none)
    (z_ord : nsIn K mainGlobals "ord" = some none)
    (base : Heap) : Fxe P w K mg base "read" 5 ["place", "most", "log"] (sp_read K) := by
  have C : Consts K mg := ⟨int_mk X G g_OUT_OF_RANGE, int_mk X G g_LOG_ENDS, int_mk X G g_LOG_DAMAGED, int_mk X G g_TOO_LONG, int_mk X G g_ALL_ONES, int_mk X G g_MASK_ADDEND, rem_mk X G gr1 gr2 gr3, int_mk X G g_LONGEST, int_mk X G g_BLOCK, int_mk X G g_SUM_WIDTH, int_mk X G g_LENGTH_WIDTH, int_mk X G g_HEAD_WIDTH, int_mk X G g_WHOLE, int_mk X G g_FIRST, int_mk X G g_MIDDLE, int_mk X G g_LAST, mg_none_of X G z_len, mg_none_of X G z_range, mg_none_of X G z_zip, mg_none_of X G z_enumerate, mg_none_of X G z_list, mg_none_of X G z_min, mg_none_of X G z_max, mg_none_of X G z_ord⟩
  have D_number_at := def_mk (st := s_number_at) X G a_number_at l_number_at c_number_at k_number_at
  have D_sum_from := def_mk (st := s_sum_from) X G a_sum_from l_sum_from c_sum_from k_sum_from
  have D_masked := def_mk (st := s_masked) X G a_masked l_masked c_masked k_masked
  have D_within := def_mk (st := s_within) X G a_within l_within c_within k_within
  have D_is_length := def_mk (st := s_is_length) X G a_is_length l_is_length c_is_length k_is_length
  have D_left_in_block := def_mk (st := s_left_in_block) X G a_left_in_block l_left_in_block c_left_in_block k_left_in_block
  have D_piece_sum := def_mk (st := s_piece_sum) X G a_piece_sum l_piece_sum c_piece_sum k_piece_sum
  have D_piece_at := def_mk (st := s_piece_at) X G a_piece_at l_piece_at c_piece_at k_piece_at
  have D_record_from := def_mk (st := s_record_from) X G a_record_from l_record_from c_record_from k_record_from
  have D_read := def_mk (st := s_read) X G a_read l_read c_read k_read
  have L_Piece : Cls K C_Piece := ⟨pg_Piece, hd_Piece, po_Piece, sa_Piece⟩
  have T_Piece : PieceCls K C_Piece := ⟨L_Piece, n_Piece_kind, n_Piece_data, n_Piece_end⟩
  have M_Piece_init : MakeAt K mg "Piece" C_Piece "Piece.__init__" s_Piece_init := ⟨_, _, mg_of X G aC_Piece, ⟨mk_Piece, a_Piece_init, i_Piece_init, kc_Piece⟩, fun_mk l_Piece_init c_Piece_init k_Piece_init⟩
  have O_LogEnds : ExcAt K mg "LogEnds" C_LogEnds := ⟨aC_LogEnds, xC_LogEnds, kc_LogEnds, mg_of X G aC_LogEnds⟩
  have O_LogDamaged : ExcAt K mg "LogDamaged" C_LogDamaged := ⟨aC_LogDamaged, xC_LogDamaged, kc_LogDamaged, mg_of X G aC_LogDamaged⟩
  have F_within := fx_within (P := P) (w := w) (base := base) D_within
  have F_is_length := fx_is_length D_is_length C F_within
  have F_sum_from := fx_sum_from (P := P) (w := w) (base := base) D_sum_from C
  have F_masked := fx_masked (P := P) (w := w) (base := base) D_masked C
  have F_number_at := fx_number_at (P := P) (w := w) (base := base) D_number_at C
  have F_left := fx_left_in_block (P := P) (w := w) (base := base) D_left_in_block C
  have F_sum := fx_piece_sum D_piece_sum C F_masked F_sum_from
  have X_Piece := mx_Piece_init (P := P) (w := w) (base := base) M_Piece_init T_Piece
  have F_piece := fx_piece_at D_piece_at C O_LogEnds O_LogDamaged F_left F_number_at F_sum X_Piece
  have F_rec := fx_record_from D_record_from C O_LogDamaged T_Piece F_piece
  exact fx_read D_read C O_LogEnds ⟨O_LogDamaged, o_LogDamaged, lC_LogDamaged, mC_LogDamaged⟩ ne_exc F_is_length F_within F_rec
end KL
open PySem PySem.W PyProof.Rows
set_option maxRecDepth 100000 in
set_option maxHeartbeats 0 in
theorem PySem.Challenge.cw_keylogs_s09_read_holds : PySem.Challenge.rw_keylogs_s09_read.Holds := by
  w_on; k_headS; (case hw => exact ⟨[.int 0, .int 0, .list []], by decide +kernel, by decide +kernel⟩)
  k_fillS
  refine KL.walk_ofE (r := PySem.Challenge.rw_keylogs_s09_read) (k := 5) (ps := ["place", "most", "log"]) (sp := KL.sp_read) rfl ⟨rfl, by decide, by decide⟩ (fun w h Y => PySem.W.kIn_of Y) ?A ?F
  case A =>
    intro args hpre
    obtain ⟨place, most, bs, h1, h2, hby, h3⟩ := KL.args_ args hpre
    refine ⟨_, KL.readAns place most bs, h1, ?_, rfl, h3, ?_⟩
    · intro g hg
      simp only [List.mem_cons, List.not_mem_nil, or_false] at hg
      rcases hg with rfl | rfl | rfl
      · trivial
      · trivial
      · show (bs.map fun n : Nat => (n : Int)).length ≤ PySem.sizeLine
        rw [List.length_map]
        exact KL.le_size (by omega)
    · intro w H vs hO hp
      cases hp with
      | cons p1 hp =>
        cases hp with
        | cons p2 hp =>
          cases hp with
          | cons p3 hp =>
            cases hp
            cases p1
            cases p2
            obtain ⟨a, rfl, hS⟩ := p3
            exact ⟨place, most, a, bs, rfl, KL.seq_back hS, hby, h2, fun l H' h => ⟨l, rfl, .inl (.inl h)⟩⟩
  case F =>
    intro w mg h KX G base _ _
    refine' KL.all_ KX G ?a_number_at ?l_number_at ?c_number_at ?k_number_at ?a_sum_from ?l_sum_from ?c_sum_from ?k_sum_from ?a_masked ?l_masked ?c_masked ?k_masked ?a_within ?l_within ?c_within ?k_within ?a_is_length ?l_is_length ?c_is_length ?k_is_length ?a_left_in_block ?l_left_in_block ?c_left_in_block ?k_left_in_block ?a_piece_sum ?l_piece_sum ?c_piece_sum ?k_piece_sum ?a_piece_at ?l_piece_at ?c_piece_at ?k_piece_at ?a_record_from ?l_record_from ?c_record_from ?k_record_from ?a_read ?l_read ?c_read ?k_read ?aC_Piece ?a_Piece_init ?i_Piece_init ?l_Piece_init ?c_Piece_init ?k_Piece_init ?pg_Piece ?hd_Piece ?po_Piece ?sa_Piece ?mk_Piece ?kc_Piece ?n_Piece_kind ?n_Piece_data ?n_Piece_end ?aC_LogEnds ?xC_LogEnds ?kc_LogEnds ?aC_LogDamaged ?xC_LogDamaged ?kc_LogDamaged ?lC_LogDamaged ?mC_LogDamaged ?ne_exc ?g_OUT_OF_RANGE ?g_LOG_ENDS ?g_LOG_DAMAGED ?g_TOO_LONG ?g_ALL_ONES ?g_MASK_ADDEND ?gr1 ?gr2 ?gr3 ?g_LONGEST ?g_BLOCK ?g_SUM_WIDTH ?g_LENGTH_WIDTH ?g_HEAD_WIDTH ?g_WHOLE ?g_FIRST ?g_MIDDLE ?g_LAST ?z_len ?z_range ?z_zip ?z_enumerate ?z_list ?z_min ?z_max ?z_ord base
    (case a_number_at => k_is)
    (case l_number_at => k_is)
    (case c_number_at => k_is)
    (case k_number_at => k_is)
    (case a_sum_from => k_is)
    (case l_sum_from => k_is)
    (case c_sum_from => k_is)
    (case k_sum_from => k_is)
    (case a_masked => k_is)
    (case l_masked => k_is)
    (case c_masked => k_is)
    (case k_masked => k_is)
    (case a_within => k_is)
    (case l_within => k_is)
    (case c_within => k_is)
    (case k_within => k_is)
    (case a_is_length => k_is)
    (case l_is_length => k_is)
    (case c_is_length => k_is)
    (case k_is_length => k_is)
    (case a_left_in_block => k_is)
    (case l_left_in_block => k_is)
    (case c_left_in_block => k_is)
    (case k_left_in_block => k_is)
    (case a_piece_sum => k_is)
    (case l_piece_sum => k_is)
    (case c_piece_sum => k_is)
    (case k_piece_sum => k_is)
    (case a_piece_at => k_is)
    (case l_piece_at => k_is)
    (case c_piece_at => k_is)
    (case k_piece_at => k_is)
    (case a_record_from => k_is)
    (case l_record_from => k_is)
    (case c_record_from => k_is)
    (case k_record_from => k_is)
    (case a_read => k_is)
    (case l_read => k_is)
    (case c_read => k_is)
    (case k_read => k_is)
    (case aC_Piece => k_is)
    (case a_Piece_init => k_is)
    (case i_Piece_init => k_is)
    (case l_Piece_init => k_is)
    (case c_Piece_init => k_is)
    (case k_Piece_init => k_is)
    (case pg_Piece => k_is)
    (case hd_Piece => k_is)
    (case po_Piece => k_is)
    (case sa_Piece => k_is)
    (case mk_Piece => k_is)
    (case kc_Piece => k_is)
    (case n_Piece_kind => k_is)
    (case n_Piece_data => k_is)
    (case n_Piece_end => k_is)
    (case aC_LogEnds => k_is)
    (case xC_LogEnds => k_exc)
    (case kc_LogEnds => k_is)
    (case aC_LogDamaged => k_is)
    (case xC_LogDamaged => k_exc)
    (case kc_LogDamaged => k_is)
    (case lC_LogDamaged => k_is)
    (case mC_LogDamaged => rfl)
    (case ne_exc => decide)
    (case g_OUT_OF_RANGE => k_is)
    (case g_LOG_ENDS => k_is)
    (case g_LOG_DAMAGED => k_is)
    (case g_TOO_LONG => k_is)
    (case g_ALL_ONES => k_is)
    (case g_MASK_ADDEND => k_is)
    (case gr1 => k_is)
    (case gr2 => k_is)
    (case gr3 => decide +kernel)
    (case g_LONGEST => k_is)
    (case g_BLOCK => k_is)
    (case g_SUM_WIDTH => k_is)
    (case g_LENGTH_WIDTH => k_is)
    (case g_HEAD_WIDTH => k_is)
    (case g_WHOLE => k_is)
    (case g_FIRST => k_is)
    (case g_MIDDLE => k_is)
    (case g_LAST => k_is)
    (case z_len => k_is)
    (case z_range => k_is)
    (case z_zip => k_is)
    (case z_enumerate => k_is)
    (case z_list => k_is)
    (case z_min => k_is)
    (case z_max => k_is)
    (case z_ord => k_is)
#print axioms PySem.Challenge.cw_keylogs_s09_read_holds


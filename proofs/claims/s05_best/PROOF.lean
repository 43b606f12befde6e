import PyProof.Rows.All
import Wide.All
import OpenK.AllK
import Wide.FinOn
import PyProof.EqAt
import PyProof.EqKinds
import PyProof.TupleCall
import KE.BitLaws
import Open.SpecLaws
import KE.OsHead
import KE.OsGo
import Sf96Spec
import PySem.Challenge.RW_takeover_s05_best
set_option Elab.async false
set_option linter.all false
set_option maxRecDepth 100000
namespace L2
open PySem PySem.Spec PyProof.Rows
abbrev Key := Sum Int Str
def keyIs : Key → Value → Bool
  | .inl k, v => Value.isInt k v
  | .inr x, v => Value.isStrOf x v
def keyH (w : World) : Key → Int
  | .inl k => hashInt k
  | .inr x => hashStr w x
theorem keyIs_shape : ∀ {k : Key} {v : Value}, keyIs k v = true → (∃ i t, k = Sum.inl i ∧ v = Value.int i t) ∨ (∃ x t, k = Sum.inr x ∧ v = Value.str x t)
  | .inl i, v, h => by
    obtain ⟨t, e⟩ := Value.isInt_shape (k := i) (v := v) h
    exact .inl ⟨i, t, rfl, e⟩
  | .inr x, v, h => by
    obtain ⟨t, e⟩ := Value.isStrOf_shape (x := x) (v := v) h
    exact .inr ⟨x, t, rfl, e⟩
theorem key_ll (a b : Int) : decide ((Sum.inl a : Key) = Sum.inl b) = (a == b) := by
  by_cases e : a = b
  · subst e; simp
  · have h : ¬ (Sum.inl a : Key) = Sum.inl b := fun q => e (Sum.inl.inj q)
    rw [decide_eq_false h]
    exact (beq_eq_false_iff_ne.mpr e).symm
theorem key_rr (a b : Str) : decide ((Sum.inr a : Key) = Sum.inr b) = decide (a = b) := by
  by_cases e : a = b
  · subst e; simp
  · have h : ¬ (Sum.inr a : Key) = Sum.inr b := fun q => e (Sum.inr.inj q)
    rw [decide_eq_false h, decide_eq_false e]
theorem key_lr (a : Int) (b : Str) : decide ((Sum.inl a : Key) = Sum.inr b) = false := decide_eq_false (fun q => nomatch q)
theorem key_rl (a : Str) (b : Int) : decide ((Sum.inr a : Key) = Sum.inl b) = false := decide_eq_false (fun q => nomatch q)
def mixKind (prog : Program) (w : World) : PySem.KeyKind prog w Key where
  is := keyIs
  hash := keyH w
  inj := fun v a b ha hb => by
    rcases keyIs_shape ha with ⟨i, t, rfl, rfl⟩ | ⟨x, t, rfl, rfl⟩
    · rcases keyIs_shape hb with ⟨j, u, rfl, e⟩ | ⟨y, u, rfl, e⟩
      · injection e with e1 _; rw [e1]
      · exact nomatch e
    · rcases keyIs_shape hb with ⟨j, u, rfl, e⟩ | ⟨y, u, rfl, e⟩
      · exact nomatch e
      · injection e with e1 _; rw [e1]
  byValue := fun k v h => by
    rcases keyIs_shape h with ⟨i, t, rfl, rfl⟩ | ⟨x, t, rfl, rfl⟩ <;> rfl
  pyHash := fun hv h => by
    rcases keyIs_shape hv with ⟨i, t, rfl, rfl⟩ | ⟨x, t, rfl, rfl⟩
    · exact wpAny_pyHash_int h
    · exact wpAny_pyHash_str h
  eqBool := fun hu hv h => by
    rcases keyIs_shape hu with ⟨i, t, rfl, rfl⟩ | ⟨x, t, rfl, rfl⟩
    · rcases keyIs_shape hv with ⟨j, u, rfl, rfl⟩ | ⟨y, u, rfl, rfl⟩
      · rw [key_ll] at h; exact wpAny_eqBool_int h
      · rw [key_lr] at h; exact SeqAt.EqAt.int_str i t y u _ _ _ _ h
    · rcases keyIs_shape hv with ⟨j, u, rfl, rfl⟩ | ⟨y, u, rfl, rfl⟩
      · rw [key_rl] at h; exact SeqAt.EqAt.str_int x t j u _ _ _ _ h
      · rw [key_rr] at h; exact wpAny_eqBool_str h
  «strs» := fun k x t v h => by
    rcases keyIs_shape h with ⟨i, u, rfl, e⟩ | ⟨y, u, rfl, e⟩
    · exact nomatch e
    · injection e with e1 _
      subst e1
      cases v <;> rfl
end L2
namespace L2
open PySem PySem.Spec PyProof.Rows
inductive V where
  | non | bl (b : Bool) | int (i : Int) | str (x : Str) | byt (b : Array UInt8) | flt (b : UInt64) | ref (a : Addr) | ty (n : String)
  deriving DecidableEq
def RelV : V → Value → Prop
  | .non, u => u = Value.none
  | .bl b, u => u = Value.bool b
  | .int i, u => ∃ t, u = Value.int i t
  | .str x, u => ∃ t, u = Value.str x t
  | .byt b, u => ∃ t, u = Value.bytes b t
  | .flt b, u => ∃ t, u = Value.float b t
  | .ref a, u => u = Value.ref a
  | .ty n, u => u = Value.type n
abbrev Vals : List V → List Value → Prop := Paired RelV
theorem Vals.length {xs : List V} {us : List Value} (r : Vals xs us) : xs.length = us.length := Paired.length r
theorem Vals.get : ∀ {xs : List V} {us : List Value} {i : Nat} {x : V}, Vals xs us → xs[i]? = some x → ∃ u, us[i]? = some u ∧ RelV x u
  | _, _, _, _, .nil, e => by simp at e
  | _, _, 0, _, .cons r _, e => by simp at e; subst e; exact ⟨_, rfl, r⟩
  | _, _, i + 1, x, .cons _ t, e => by
    obtain ⟨u, h1, h2⟩ := Vals.get (i := i) (x := x) t (by simpa using e)
    exact ⟨u, by simpa using h1, h2⟩
theorem Vals.set {x : V} {u : Value} (r : RelV x u) : ∀ {xs : List V} {us : List Value} (i : Nat), Vals xs us → Vals (xs.set i x) (us.set i u)
  | _, _, _, .nil => .nil
  | _, _, 0, .cons _ t => .cons r t
  | _, _, i + 1, .cons q t => .cons q (Vals.set r i t)
theorem Vals.append : ∀ {xs ys : List V} {us ws : List Value}, Vals xs us → Vals ys ws → Vals (xs ++ ys) (us ++ ws)
  | _, _, _, _, .nil, s => s
  | _, _, _, _, .cons r t, s => .cons r (Vals.append t s)
theorem Vals.take : ∀ {xs : List V} {us : List Value} (n : Nat), Vals xs us → Vals (xs.take n) (us.take n)
  | _, _, 0, _ => .nil
  | _, _, _ + 1, .nil => .nil
  | _, _, n + 1, .cons r t => .cons r (Vals.take n t)
theorem Vals.drop : ∀ {xs : List V} {us : List Value} (n : Nat), Vals xs us → Vals (xs.drop n) (us.drop n)
  | _, _, 0, r => r
  | _, _, _ + 1, .nil => .nil
  | _, _, n + 1, .cons _ t => Vals.drop n t
def RelO : Option V → Option Value → Prop
  | some v, some u => RelV v u
  | none, none => True
  | _, _ => False
def KV {κ : Type} : List (κ × V) → List (κ × Value) → Prop := Paired fun (p : κ × V) (q : κ × Value) => p.1 = q.1 ∧ RelV p.2 q.2
def kV : Key → V
  | .inl i => .int i
  | .inr x => .str x
inductive HO where
  /-- a list -/
  | lst (xs : List V)
  /-- a tuple (never changes) -/
  | tup (xs : List V)
  /-- a dict whose keys are ints and texts; one whose keys are tuples of ints and texts (the empty one is both) -/
  | dK (kvs : List (Key × V)) | dT (kvs : List (List Key × V))
  /-- a set of ints: its members, its size -/
  | set (S : Int → Bool) (n : Nat)
  /-- an instance of the class at C, its dict at dx, its attributes -/
  | ins (C dx : Addr) (fs : List (Str × V))
  /-- the dict of the instance at x -/
  | own (x : Addr)
  /-- the dict of an exception -/
  | xd (fs : List (Str × V))
  /-- a bound method, f of x -/
  | met (f x : Addr)
  /-- a range object lo, lo + 1, .. below hi -/
  | rng (lo hi : Int)
  /-- a thing that is known to the object (the script; a dict while a loop walks it): read, never written while it is so -/
  | frz (o : Obj) (u : HO)
  /-- a code object's table -/
  | tbl (ps : Array Value)
  /-- any other thing, by what is true of its one object (a def of one's own: SetO a S n := HO.ext fun h => ..) -/
  | ext (φ : Heap → Prop)
abbrev Hp := Addr → Option HO
def upd (H : Hp) (a : Addr) (o : HO) : Hp := fun b => if b = a then some o else H b
theorem upd_same {H : Hp} {a : Addr} {o : HO} : upd H a o a = some o := by unfold upd; rw [if_pos rfl]
theorem upd_ne {H : Hp} {a b : Addr} {o : HO} (h : b ≠ a) : upd H a o b = H b := by unfold upd; rw [if_neg h]
theorem ne_of_none {H : Hp} {a b : Addr} {o : HO} (h : H a = some o) (h' : H b = none) : a ≠ b := by
  intro e; subst e; rw [h] at h'; cases h'
section
variable (P : Program) (w : World)
def ObjOk (H : Hp) (h : Heap) (a : Addr) : HO → Prop
  | .lst xs => xs.length ≤ sizeLine ∧ ∃ (its : List Value) (n : Nat), Vals xs its ∧ h.get? a = some { cls := .type "list", data := .seq its.toArray n }
  | .tup xs => xs.length ≤ sizeLine ∧ ∃ its : List Value, Vals xs its ∧ IsTup h a its.toArray
  | .dK kvs => kvs.length ≤ sizeLine ∧ (a == sysModules) = false ∧ ∃ vs, KV kvs vs ∧ h.DictOf (mixKind P w) a vs
  | .dT kvs => kvs.length ≤ sizeLine ∧ (a == sysModules) = false ∧ ∃ xs : List (List Key × Addr × Value),
      Paired (fun (p : List Key × V) (q : List Key × Addr × Value) => p.1 = q.1 ∧ H q.2.1 = some (.tup (p.1.map kV)) ∧ RelV p.2 q.2.2) kvs xs ∧
      ∃ o es ep, h.get? a = some o ∧ o.ExactDict ∧ o.data = .dict es ep ∧ es.toList = xs.map (entryOfKey (tupleKind (mixKind P w))) ∧ (xs.map (·.1)).Nodup
  | .set S n => h.SetOf (intKind P w) a S n
  | .ins C dx fs => H dx = some (.own a) ∧ fs.length ≤ 1000 ∧ dx ≠ a ∧ h.get? a = some (PySem.W.instObj C dx) ∧
      ∃ mA, h.Ns1 dx mA ∧ (∀ f, RelO (fs.lookup f) (mA f)) ∧ PySem.Within mA (fs.map (·.1))
  | .own _ => ∃ o, h.get? a = some o
  | .xd fs => ∃ mA, h.Ns1 a mA ∧ ∀ f, RelO (fs.lookup f) (mA f)
  | .rng lo hi => ∃ t u v, h.get? a = some { cls := .type "range", data := .fields #[.int lo t, .int hi u, .int 1 v] }
  | .frz o u => h.get? a = some o ∧ ObjOk H h a u
  | .tbl ps => h.get? a = some { cls := .none, data := .fields ps }
  | .met f x => h.get? a = some (PySem.W.methodObj (.ref f) (.ref x))
  | .ext φ => φ h ∧ (∃ o, h.get? a = some o) ∧ ∀ h1 h2 : Heap, φ h1 → (∀ o, h1.get? a = some o → h2.get? a = some o) → φ h2
def HOk (H : Hp) (h : Heap) : Prop := ∀ a o, H a = some o → ObjOk P w H h a o
end
section
variable {P : Program} {w : World} {H H' : Hp} {h h' : Heap} {a : Addr} {o : HO}
theorem ObjOk.lt (x : ObjOk P w H h a o) : a < h.objs.size := by
  cases o with
  | lst xs => obtain ⟨_, _, _, _, e⟩ := x; exact Heap.lt_size e
  | tup xs => obtain ⟨_, _, _, p⟩ := x; exact p.lt
  | dK kvs => obtain ⟨_, _, _, _, o, _, _, e, _⟩ := x; exact Heap.lt_size e
  | dT kvs => obtain ⟨_, _, _, _, o, _, _, e, _⟩ := x; exact Heap.lt_size e
  | set S n => obtain ⟨o, _, _, _, e, _⟩ := x; exact Heap.lt_size e
  | ins C dx fs => obtain ⟨_, _, _, e, _⟩ := x; exact Heap.lt_size e
  | own y => obtain ⟨_, e⟩ := x; exact Heap.lt_size e
  | xd fs => obtain ⟨_, ⟨_, _, _, e, _⟩, _⟩ := x; exact Heap.lt_size e
  | rng lo hi => obtain ⟨_, _, _, e⟩ := x; exact Heap.lt_size e
  | frz ob u => obtain ⟨e, _⟩ := x; exact Heap.lt_size e
  | tbl ps => exact Heap.lt_size (show h.get? a = some _ from x)
  | met f y => exact Heap.lt_size (show h.get? a = some _ from x)
  | ext φ => obtain ⟨_, ⟨_, e⟩, _⟩ := x; exact Heap.lt_size e
theorem Paired.mapP {α β : Type} {F G : α → β → Prop} : ∀ {l₁ : List α} {l₂ : List β}, Paired F l₁ l₂ → (∀ a b, F a b → G a b) → Paired G l₁ l₂
  | _, _, .nil, _ => .nil
  | _, _, .cons r t, f => .cons (f _ _ r) (Paired.mapP t f)
theorem ObjOk.stay (x : ObjOk P w H h a o) (k : ∀ b u, (b = a ∨ H b = some (.own a)) → h.get? b = some u → h'.get? b = some u)
    (ho : ∀ b, H b = some (.own a) → H' b = some (.own a)) (ht : ∀ b xs, H b = some (.tup xs) → H' b = some (.tup xs)) : ObjOk P w H' h' a o := by
  induction o with
  | lst xs => obtain ⟨z, its, n, r, e⟩ := x; exact ⟨z, its, n, r, k _ _ (.inl rfl) e⟩
  | tup xs => obtain ⟨z, its, r, ob, e, c⟩ := x; exact ⟨z, its, r, ob, k _ _ (.inl rfl) e, c⟩
  | dK kvs => obtain ⟨z, y, vs, r, ob, es, ep, e, c⟩ := x; exact ⟨z, y, vs, r, ob, es, ep, k _ _ (.inl rfl) e, c⟩
  | dT kvs =>
    obtain ⟨z, y, xs, r, ob, es, ep, e, c⟩ := x
    exact ⟨z, y, xs, Paired.mapP r fun p q z => ⟨z.1, ht _ _ z.2.1, z.2.2⟩, ob, es, ep, k _ _ (.inl rfl) e, c⟩
  | set S n => obtain ⟨ob, es, ep, t, e, c⟩ := x; exact ⟨ob, es, ep, t, k _ _ (.inl rfl) e, c⟩
  | ins C dx fs =>
    obtain ⟨d, z, ne, e, mA, ⟨od, es, ep, e2, c⟩, r⟩ := x
    exact ⟨ho _ d, z, ne, k _ _ (.inl rfl) e, mA, ⟨od, es, ep, k _ _ (.inr d) e2, c⟩, r⟩
  | own y => obtain ⟨ob, e⟩ := x; exact ⟨ob, k _ _ (.inl rfl) e⟩
  | xd fs => obtain ⟨mA, ⟨od, es, ep, e, c⟩, r⟩ := x; exact ⟨mA, ⟨od, es, ep, k _ _ (.inl rfl) e, c⟩, r⟩
  | rng lo hi => obtain ⟨t, u, v, e⟩ := x; exact ⟨t, u, v, k _ _ (.inl rfl) e⟩
  | frz ob u ih => obtain ⟨e, q⟩ := x; exact ⟨k _ _ (.inl rfl) e, ih q⟩
  | tbl ps =>
    have e : h.get? a = some { cls := .none, data := .fields ps } := x
    show h'.get? a = some { cls := .none, data := .fields ps }
    exact k a _ (.inl rfl) e
  | met f y =>
    have e : h.get? a = some (PySem.W.methodObj (.ref f) (.ref y)) := x
    show h'.get? a = some (PySem.W.methodObj (.ref f) (.ref y))
    exact k a _ (.inl rfl) e
  | ext φ => obtain ⟨p, ⟨o, e⟩, st⟩ := x; exact ⟨st _ _ p fun o q => k _ _ (.inl rfl) q, ⟨o, k _ _ (.inl rfl) e⟩, st⟩
theorem HOk.lt (x : HOk P w H h) (e : H a = some o) : a < h.objs.size := (x a o e).lt
theorem HOk.fresh (x : HOk P w H h) (e : h.objs.size ≤ a) : H a = none := by
  cases q : H a with
  | none => rfl
  | some u => exact absurd (Nat.lt_of_lt_of_le (x.lt q) e) (Nat.lt_irrefl _)
theorem HOk.kept (x : HOk P w H h) (k : ∀ b u, h.get? b = some u → h'.get? b = some u) : HOk P w H h' := fun a o e =>
  (x a o e).stay (fun b u _ q => k b u q) (fun _ q => q) fun _ _ q => q
theorem HOk.laid (x : HOk P w H h) (k : ∀ b u, h.get? b = some u → h'.get? b = some u) (hp : h.objs.size ≤ a) (new : ObjOk P w (upd H a o) h' a o) : HOk P w (upd H a o) h' := fun b u e => by
  have hn := x.fresh hp
  by_cases hb : b = a
  · subst hb; rw [upd_same] at e; cases e; exact new
  · rw [upd_ne hb] at e
    exact (x b u e).stay (fun c v _ q => k c v q) (fun c q => by rw [upd_ne (ne_of_none q hn)]; exact q) fun c xs q => by rw [upd_ne (ne_of_none q hn)]; exact q
end
def Rd (H : Hp) (a : Addr) (u : HO) : Prop := H a = some u ∨ ∃ o, H a = some (.frz o u)
theorem Rd.of {H : Hp} {a : Addr} {u : HO} (h : H a = some u) : Rd H a u := .inl h
theorem Rd.ok {P : Program} {w : World} {H : Hp} {h : Heap} {a : Addr} {u : HO} (r : Rd H a u) (x : HOk P w H h) : ObjOk P w H h a u := by
  rcases r with r | ⟨o, r⟩
  · exact x a u r
  · obtain ⟨_, q⟩ := x a _ r
    exact q
def Mut : Option HO → Prop
  | some (.lst _) => True
  | some (.dK _) => True
  | some (.dT _) => True
  | some (.set _ _) => True
  | some (.ins _ _ _) => True
  | some (.ext _) => True
  | _ => False
section
variable {P : Program} {w : World} {H : Hp} {h h' : Heap} {x e : Addr} {o' : HO}
theorem HOk.write (ok : HOk P w H h) (mu : Mut (H x)) (he : e = x ∨ H e = some (.own x)) (k : ∀ b u, b ≠ e → h.get? b = some u → h'.get? b = some u) (heo : ∃ u, h'.get? e = some u)
    (new : ObjOk P w (upd H x o') h' x o') : HOk P w (upd H x o') h' := fun b u q => by
  have nown : ∀ c y, H c = some (.own y) → c ≠ x := fun c y r z => by subst z; rw [r] at mu; exact mu
  have ntup : ∀ c xs, H c = some (.tup xs) → c ≠ x := fun c xs r z => by subst z; rw [r] at mu; exact mu
  by_cases hb : b = x
  · subst hb; rw [upd_same] at q; cases q; exact new
  · rw [upd_ne hb] at q
    by_cases hbe : b = e
    · have q' : H b = some (.own x) := by
        rcases he with z | z
        · exact absurd (hbe.trans z) hb
        · rw [hbe]; exact z
      rw [q] at q'; cases q'
      obtain ⟨v, hv⟩ := heo
      exact ⟨v, by rw [hbe]; exact hv⟩
    · refine (ok b u q).stay (fun c v hc r => k c v ?_ r) (fun c r => by rw [upd_ne (nown c b r)]; exact r) fun c xs r => by rw [upd_ne (ntup c xs r)]; exact r
      rcases hc with rfl | hc
      · exact hbe
      · rintro rfl
        rcases he with z | z
        · exact nown c b hc z
        · rw [hc] at z; cases z; exact hb rfl
end
structure Un (fs ex : List Addr) (H H' : Hp) (h h' : Heap) : Prop where
  keep : ∀ b o, h.get? b = some o → H b = none → b ∉ fs → b ∉ ex → h'.get? b = some o
  slot : ∀ b o, h.get? b = some o → H b = none → b ∈ fs → b ∉ ex → ∃ sl, h'.get? b = some { o with slots := sl }
  free : ∀ b o, h.get? b = some o → H b = none → b ∉ ex → H' b = none
  there : ∀ b o, h.get? b = some o → b ∉ ex → ∃ o', h'.get? b = some o'
  tups : ∀ b xs, H b = some (.tup xs) → H' b = some (.tup xs)
  frzs : ∀ b o u, H b = some (.frz o u) → H' b = some (.frz o u)
  tbls : ∀ b ps, H b = some (.tbl ps) → ∃ more, H' b = some (.tbl (ps ++ more))
section
variable {fs fs' ex ex' : List Addr} {H H1 H2 : Hp} {h h1 h2 h' : Heap} {a x e : Addr} {o : HO}
theorem Un.any (u : Un fs ex H H1 h h1) {b : Addr} {ob : Obj} (q : h.get? b = some ob) (n : H b = none) (hx : b ∉ ex) : ∃ sl, h1.get? b = some { ob with slots := sl } := by
  by_cases hb : b ∈ fs
  · exact u.slot b ob q n hb hx
  · exact ⟨ob.slots, u.keep b ob q n hb hx⟩
theorem Un.trans (a : Un fs ex H H1 h h1) (b : Un fs ex H1 H2 h1 h2) : Un fs ex H H2 h h2 where
  keep := fun c ob q n hc hx => b.keep c ob (a.keep c ob q n hc hx) (a.free c ob q n hx) hc hx
  slot := fun c ob q n hc hx => by
    obtain ⟨sl, e1⟩ := a.slot c ob q n hc hx
    obtain ⟨sl', e2⟩ := b.slot c _ e1 (a.free c ob q n hx) hc hx
    exact ⟨sl', e2⟩
  free := fun c ob q n hx => by
    obtain ⟨o', e1⟩ := a.there c ob q hx
    exact b.free c o' e1 (a.free c ob q n hx) hx
  there := fun c ob q hx => by
    obtain ⟨o', e1⟩ := a.there c ob q hx
    exact b.there c o' e1 hx
  tups := fun c xs q => b.tups c xs (a.tups c xs q)
  frzs := fun c ob xs q => b.frzs c ob xs (a.frzs c ob xs q)
  tbls := fun c ps q => by
    obtain ⟨m1, e1⟩ := a.tbls c ps q
    obtain ⟨m2, e2⟩ := b.tbls c _ e1
    exact ⟨m1 ++ m2, by rw [e2, Array.append_assoc]⟩
theorem Un.kept (k : ∀ b u, h.get? b = some u → h'.get? b = some u) : Un fs ex H H h h' :=
  ⟨fun b ob q _ _ _ => k b ob q, fun b ob q _ _ _ => ⟨ob.slots, k b ob q⟩, fun _ _ _ n _ => n, fun b ob q _ => ⟨ob, k b ob q⟩, fun _ _ q => q, fun _ _ _ q => q, fun _ ps q => ⟨#[], by rw [q]; simp⟩⟩
theorem Un.refl : Un fs ex H H h h := Un.kept fun _ _ q => q
theorem Un.laid (k : ∀ b u, h.get? b = some u → h'.get? b = some u) (hp : h.objs.size ≤ a) (hn : H a = none) : Un fs ex H (upd H a o) h h' where
  keep := fun b u q _ _ _ => k b u q
  slot := fun b u q _ _ _ => ⟨u.slots, k b u q⟩
  free := fun b u q n _ => by rw [upd_ne (Nat.ne_of_lt (Nat.lt_of_lt_of_le (Heap.lt_size q) hp))]; exact n
  there := fun b u q _ => ⟨u, k b u q⟩
  tups := fun b xs q => by rw [upd_ne (ne_of_none q hn)]; exact q
  frzs := fun b u xs q => by rw [upd_ne (ne_of_none q hn)]; exact q
  tbls := fun b ps q => ⟨#[], by rw [upd_ne (ne_of_none q hn), q]; simp⟩
theorem Un.write (mu : Mut (H x)) (he : e = x ∨ H e = some (.own x)) (k : ∀ b u, b ≠ e → h.get? b = some u → h'.get? b = some u) (heo : ∃ u, h'.get? e = some u) : Un fs ex H (upd H x o) h h' := by
  have hx : ∀ b, H b = none → b ≠ x := fun b n z => by subst z; rw [n] at mu; exact mu
  have hb : ∀ b, H b = none → b ≠ e := fun b n z => by
    subst z
    rcases he with r | r
    · exact hx b n r
    · rw [n] at r; cases r
  have hm : ∀ b u, H b = some u → ¬ Mut (some u) → b ≠ x := fun b u q nm z => by subst z; rw [q] at mu; exact nm mu
  refine ⟨fun b u q n _ _ => k b u (hb b n) q, fun b u q n _ _ => ⟨u.slots, k b u (hb b n) q⟩, fun b u q n _ => by rw [upd_ne (hx b n)]; exact n, fun b u q _ => ?_,
    fun b xs q => by rw [upd_ne (hm b _ q fun z => z)]; exact q, fun b u xs q => by rw [upd_ne (hm b _ q fun z => z)]; exact q, fun b ps q => ⟨#[], by rw [upd_ne (hm b _ q fun z => z), q]; simp⟩⟩
  by_cases hbe : b = e
  · subst hbe; exact heo
  · exact ⟨u, k b u hbe q⟩
theorem Un.mono (u : Un fs ex H H1 h h1) (hs : ∀ b ∈ fs, b ∈ fs') (hx : ∀ b ∈ ex, b ∈ ex') : Un fs' ex' H H1 h h1 :=
  ⟨fun b ob q n hb he => u.keep b ob q n (fun z => hb (hs b z)) fun z => he (hx b z), fun _ _ q n _ he => u.any q n fun z => he (hx _ z), fun b ob q n he => u.free b ob q n fun z => he (hx b z), fun b ob q he => u.there b ob q fun z => he (hx b z), u.tups, u.frzs, u.tbls⟩
end
def trk (h : Heap) (H : Hp) : List Addr := (List.range h.objs.size).filter fun a => (H a).isSome
def hidT (h : Heap) (H : Hp) : Heap := PySem.W.hideAll h (trk h H)
theorem hidT_size (h : Heap) (H : Hp) : (hidT h H).objs.size = h.objs.size := PySem.W.hideAll_size _ _
theorem hidT_get {h : Heap} {H : Hp} {b : Addr} {o : Obj} (e : h.get? b = some o) (n : H b = none) : (hidT h H).get? b = some o :=
  PySem.W.hideAll_get _ e fun hm => by
    have q : (H b).isSome = true := (List.mem_filter.mp hm).2
    rw [n] at q; simp at q
theorem of_hidT {h : Heap} {H : Hp} {b : Addr} {o : Obj} (e : (hidT h H).get? b = some o) : h.get? b = some o ∧ H b = none := by
  have e' : h.get? b = some o := PySem.W.of_hideAll (trk h H) e
  refine ⟨e', ?_⟩
  cases q : H b with
  | none => rfl
  | some x =>
    have hm : b ∈ trk h H := List.mem_filter.mpr ⟨List.mem_range.mpr (Heap.lt_size e'), by simp [q]⟩
    have z : (hidT h H).get? b = none := PySem.W.hideAll_none (trk h H) hm
    rw [z] at e; cases e
def allNews (g h : Heap) (L : Addr) : List (Addr × Obj) := (List.range h.objs.size).filterMap fun a => if a = L ∨ (g.get? a).isSome = true then none else (h.get? a).map fun o => (a, o)
def rest (g h : Heap) (L d : Addr) : List (Addr × Obj) := (allNews g h L).filter fun p => decide (p.1 ≠ d)
end L2
namespace L2
open PySem PySem.Spec PyProof.Rows
structure Mod (K : PySem.W.Frag) (mg : Str → Option Value) (base : Heap) : Prop where
  kin : K.In base
  glob : base.Ns mainGlobals mg
  blt : ∃ mb, base.Ns builtinsNs mb ∧ ∀ x : Str, x ≠ "__name__" → mb x = bootBuiltins x
  nolimit : base.NoLimit
structure Cx where
  prog : Program
  w : World
  K : PySem.W.Frag
  mg : Str → Option Value
  base : Heap
  A : Around
  N : List Str
  s_0 : Shared
  H_0 : Hp
  env : Env
  outer : List Env
  stack : List Env
  ex : List Addr
  fn : Str → Bool
  calm : Bool
  pn : List (Addr × Obj)
  xe : Value → Shared → Prop
def frs (l : List Env) : List Addr := l.filterMap (·.frame)
abbrev Cx.fs (X : Cx) : List Addr := frs X.outer
def Vis (sc : Scope) (x : Str) : Prop := sc.names.lookup x = some .local ∨ sc.names.lookup x = some .cell ∨ sc.names.lookup x = some .free
def Loc (sc : Scope) (x : Str) : Prop := sc.names.lookup x = some .local ∨ sc.names.lookup x = some .cell
def Look (env : Env) (h : Heap) (m : Str → Option Value) (x : Str) (u : Value) : Prop :=
  (env.kindOf x = some .local ∧ m x = some u) ∨ ((env.kindOf x = some .cell ∨ env.kindOf x = some .free) ∧ ∃ c, env.cells.lookup x = some c ∧ h.IsCell c (some u))
structure Cx.Ok (X : Cx) : Prop where
  mod : Mod X.K X.mg X.base
  kind : X.env.scope.kind = .function
  glob : X.env.globals = mainGlobals
  blt : X.env.builtins = builtinsNs
  above : X.s_0.heap.objs.size ≤ X.env.locals
  inj : ∀ x y c, X.env.cells.lookup x = some c → X.env.cells.lookup y = some c → x = y
  has : ∀ x, (X.env.kindOf x = some .cell ∨ X.env.kindOf x = some .free) → ∃ c, X.env.cells.lookup x = some c
  cab : ∀ x c, X.fn x = true → X.env.cells.lookup x = some c → X.s_0.heap.objs.size ≤ c
  hd : X.calm = true → X.A.handled = none
  frames : X.A.frames = some X.stack
  stk : X.stack = X.outer ∨ (X.stack = X.env :: X.outer ∧ X.env.frame = some X.env.locals)
  exf : ∀ b ∈ X.ex, b ≠ X.env.locals ∧ ∀ x c, X.env.cells.lookup x = some c → c ≠ b
  bs : ∀ b o, X.base.get? b = some o → X.s_0.heap.get? b = some o ∧ X.H_0 b = none
  bsz : X.base.objs.size ≤ X.s_0.heap.objs.size
  noex : ∀ b o, X.base.get? b = some o → b ∉ X.ex
  exfs : ∀ b ∈ X.ex, b ∉ X.fs
  funs : X.s_0.heap.FunFrames X.base X.outer
  frf : ∀ b ∈ X.fs, X.H_0 b = none
structure Inv (X : Cx) (pins : List (Addr × Obj)) (σ : List (Option V)) (H : Hp) (s : Shared) : Prop where
  ok : X.Ok
  os : s.os = X.s_0.os
  bare : AllBare s.gens
  base : Un X.fs X.ex X.H_0 H X.s_0.heap s.heap
  loc : ∃ m, s.heap.Ns X.env.locals m ∧ ∀ (i : Nat) (x : Str) (v : V), X.N[i]? = some x → σ[i]? = some (some v) → Vis X.env.scope x → ∃ u, RelV v u ∧ Look X.env s.heap m x u
  cell : ∀ x c, X.env.cells.lookup x = some c → ∃ v, s.heap.IsCell c v
  free : H X.env.locals = none
  freeC : ∀ x c, X.env.cells.lookup x = some c → H c = none
  pin : ∀ p ∈ X.pn ++ pins, s.heap.get? p.1 = some p.2 ∧ H p.1 = none ∧ p.1 ≠ X.env.locals ∧ p.1 ∉ X.fs ∧ ∀ v, p.2.data ≠ .cell v
  hok : HOk X.prog X.w H s.heap
  len : σ.length = X.N.length
section
variable {X : Cx} {pins : List (Addr × Obj)} {σ : List (Option V)} {H H' : Hp} {s : Shared} {h' : Heap}
theorem Cx.Ok.nofr (ok : X.Ok) {b : Addr} {o : Obj} (e : X.base.get? b = some o) : b ∉ X.fs := fun hb => by
  have := (ok.funs.mem hb).1
  rw [e] at this; cases this
theorem Inv.bs (I : Inv X pins σ H s) : ∀ b o, X.base.get? b = some o → s.heap.get? b = some o ∧ H b = none := fun b o e =>
  ⟨I.base.keep b o (I.ok.bs b o e).1 (I.ok.bs b o e).2 (I.ok.nofr e) (I.ok.noex b o e), I.base.free b o (I.ok.bs b o e).1 (I.ok.bs b o e).2 (I.ok.noex b o e)⟩
theorem Inv.bk (I : Inv X pins σ H s) : ∀ b o, X.base.get? b = some o → s.heap.get? b = some o := fun b o e => (I.bs b o e).1
theorem Inv.mod (I : Inv X pins σ H s) : Mod X.K X.mg X.base := I.ok.mod
theorem Inv.kIn (I : Inv X pins σ H s) : X.K.In s.heap := I.ok.mod.kin.keeps I.bk
theorem Inv.nolimit (I : Inv X pins σ H s) : s.heap.NoLimit := I.ok.mod.nolimit.keeps I.bk
theorem Inv.lt (I : Inv X pins σ H s) : X.env.locals < s.heap.objs.size := let ⟨_, hn, _⟩ := I.loc; hn.lt
theorem Inv.sz (I : Inv X pins σ H s) : X.s_0.heap.objs.size ≤ s.heap.objs.size := Nat.le_trans I.ok.above (Nat.le_of_lt I.lt)
theorem Inv.nofs (I : Inv X pins σ H s) {a : Addr} (h : s.heap.objs.size ≤ a) : a ∉ X.fs := fun hb => by
  obtain ⟨_, o, ho, _⟩ := I.ok.funs.mem hb
  exact absurd (Nat.lt_of_lt_of_le (Heap.lt_size ho) (Nat.le_trans I.sz h)) (Nat.lt_irrefl _)
theorem Inv.cne (I : Inv X pins σ H s) : ∀ x c, X.env.cells.lookup x = some c → c ≠ X.env.locals := fun x c e z => by
  obtain ⟨v, o, ho, hd⟩ := I.cell x c e
  obtain ⟨m, ⟨o', es, ep, ho', hd', _⟩, _⟩ := I.loc
  rw [z, ho'] at ho; cases ho; rw [hd'] at hd; cases hd
theorem Inv.funs (I : Inv X pins σ H s) : s.heap.FunFrames X.base X.outer := by
  have all : ∀ (l : List Env), (∀ b ∈ frs l, b ∈ X.fs) → X.s_0.heap.FunFrames X.base l → s.heap.FunFrames X.base l := by
    intro l
    induction l with
    | nil => intro _ _; trivial
    | cons env r ih =>
      intro hs hl
      obtain ⟨hk, ⟨L, o, hf, hn, ho, hd⟩, hr⟩ := hl
      have hL : L ∈ X.fs := hs L (by unfold frs; rw [List.filterMap_cons, hf]; exact List.mem_cons_self)
      obtain ⟨sl, e⟩ := I.base.slot L o ho (I.ok.frf L hL) hL fun z => I.ok.exfs L z hL
      exact ⟨hk, ⟨L, _, hf, hn, e, hd⟩, ih (fun b hb => hs b (by unfold frs; rw [List.filterMap_cons, hf]; exact List.mem_cons_of_mem _ hb)) hr⟩
  exact all X.outer (fun _ hb => hb) I.ok.funs
theorem Inv.stack (I : Inv X pins σ H s) : s.heap.FunFrames X.base X.stack := by
  rcases I.ok.stk with e | ⟨e, hf⟩
  · rw [e]; exact I.funs
  · rw [e]
    obtain ⟨m, hn, _⟩ := I.loc
    refine .cons (by rw [I.ok.kind]; decide) hf hn ?_ I.funs
    exact Heap.get?_none_of_le (Nat.le_trans I.ok.bsz I.ok.above)
theorem Inv.stkSub (I : Inv X pins σ H s) : ∀ b ∈ frs X.stack, b ∈ X.env.locals :: X.fs := fun b hb => by
  rcases I.ok.stk with e | ⟨e, hf⟩
  · rw [e] at hb; exact List.mem_cons_of_mem _ hb
  · rw [e] at hb
    unfold frs at hb
    rw [List.filterMap_cons, hf] at hb
    exact hb
theorem Inv.stkFree (I : Inv X pins σ H s) : ∀ b ∈ frs X.stack, H b = none := fun b hb => by
  rcases List.mem_cons.mp (I.stkSub b hb) with e | hb
  · rw [e]; exact I.free
  · obtain ⟨_, o, ho, _⟩ := I.ok.funs.mem hb
    exact I.base.free b o ho (I.ok.frf b hb) fun z => I.ok.exfs b z hb
theorem Inv.step {g' : Array GenState} {t' : Nat} {d' : Drawn} {ch : List Addr} (I : Inv X pins σ H s)
    (hch : ∀ b ∈ ch, (b ∈ X.ex ∨ X.s_0.heap.objs.size ≤ b) ∧ b ≠ X.env.locals ∧ (∀ x c, X.env.cells.lookup x = some c → c ≠ b) ∧ ∀ p ∈ X.pn ++ pins, p.1 ≠ b)
    (keep : ∀ b o, b ≠ X.env.locals → b ∉ X.fs → b ∉ ch → s.heap.get? b = some o → H b = none → h'.get? b = some o)
    (slot : ∀ b o, b ≠ X.env.locals → b ∈ X.fs → b ∉ ch → s.heap.get? b = some o → H b = none → ∃ sl, h'.get? b = some { o with slots := sl }) (free : ∀ b o, b ∉ ch → s.heap.get? b = some o → H b = none → H' b = none)
    (there : ∀ b o, b ∉ ch → s.heap.get? b = some o → ∃ o', h'.get? b = some o')
    (tups : ∀ b xs, H b = some (.tup xs) → H' b = some (.tup xs)) (frzs : ∀ b o u, H b = some (.frz o u) → H' b = some (.frz o u)) (tbls : ∀ b ps, H b = some (.tbl ps) → ∃ more, H' b = some (.tbl (ps ++ more)))
    (ns : ∀ m, s.heap.Ns X.env.locals m → h'.Ns X.env.locals m) (hok : HOk X.prog X.w H' h') (hg : AllBare g') :
    Inv X pins σ H' { s with heap := h', gens := g', drawn := d', toks := t' } := by
  have neL : ∀ b o, X.s_0.heap.get? b = some o → b ≠ X.env.locals := fun b o e => Nat.ne_of_lt (Nat.lt_of_lt_of_le (Heap.lt_size e) I.ok.above)
  have neC : ∀ b o, X.s_0.heap.get? b = some o → b ∉ X.ex → b ∉ ch := fun b o e hx hb => by
    rcases (hch b hb).1 with z | z
    · exact hx z
    · exact absurd (Nat.lt_of_lt_of_le (Heap.lt_size e) z) (Nat.lt_irrefl _)
  have cellK : ∀ x c, X.env.cells.lookup x = some c → ∀ v, s.heap.IsCell c v → h'.IsCell c v := fun x c e v ⟨o, ho, hd⟩ => by
    have nch : c ∉ ch := fun z => (hch c z).2.2.1 x c e rfl
    by_cases hc : c ∈ X.fs
    · obtain ⟨sl, q⟩ := slot c o (I.cne x c e) hc nch ho (I.freeC x c e)
      exact ⟨_, q, hd⟩
    · exact ⟨o, keep c o (I.cne x c e) hc nch ho (I.freeC x c e), hd⟩
  refine ⟨I.ok, I.os, hg, ⟨fun b o e n hb hx => ?_, fun b o e n hb hx => ?_, fun b o e n hx => ?_, fun b o e hx => ?_, fun b xs e => tups b xs (I.base.tups b xs e), fun b o xs e => frzs b o xs (I.base.frzs b o xs e), fun b ps e => ?_⟩, ?_, fun x c e => ?_, ?_, fun x c e => ?_, fun p hp => ?_, hok, I.len⟩
  · exact keep b o (neL b o e) hb (neC b o e hx) (I.base.keep b o e n hb hx) (I.base.free b o e n hx)
  · obtain ⟨sl, e1⟩ := I.base.slot b o e n hb hx
    obtain ⟨sl', e2⟩ := slot b _ (neL b o e) hb (neC b o e hx) e1 (I.base.free b o e n hx)
    exact ⟨sl', e2⟩
  · obtain ⟨o', e1⟩ := I.base.there b o e hx
    exact free b o' (neC b o e hx) e1 (I.base.free b o e n hx)
  · obtain ⟨o', e1⟩ := I.base.there b o e hx
    exact there b o' (neC b o e hx) e1
  · obtain ⟨m1, e1⟩ := I.base.tbls b ps e
    obtain ⟨m2, e2⟩ := tbls b _ e1
    exact ⟨m1 ++ m2, by rw [e2, Array.append_assoc]⟩
  · obtain ⟨m, hn, hl⟩ := I.loc
    refine ⟨m, ns m hn, fun i x v e1 e2 e3 => ?_⟩
    obtain ⟨u, r, l⟩ := hl i x v e1 e2 e3
    refine ⟨u, r, ?_⟩
    rcases l with l | ⟨k, c, e, z⟩
    · exact .inl l
    · exact .inr ⟨k, c, e, cellK x c e _ z⟩
  · obtain ⟨v, z⟩ := I.cell x c e
    exact ⟨v, cellK x c e v z⟩
  · obtain ⟨m, ⟨o, _, _, ho, _⟩, _⟩ := I.loc
    exact free _ o (fun z => (hch _ z).2.1 rfl) ho I.free
  · obtain ⟨v, o, ho, hd⟩ := I.cell x c e
    exact free c o (fun z => (hch c z).2.2.1 x c e rfl) ho (I.freeC x c e)
  · obtain ⟨e, n, ne, nf, d⟩ := I.pin p hp
    have nch : p.1 ∉ ch := fun z => (hch p.1 z).2.2.2 p hp rfl
    exact ⟨keep p.1 p.2 ne nf nch e n, free p.1 p.2 nch e n, ne, nf, d⟩
theorem Inv.un {t' : Nat} (I : Inv X pins σ H s) (u : Un X.fs [] H H' s.heap h') (hok : HOk X.prog X.w H' h') : Inv X pins σ H' { s with heap := h', toks := t' } := by
  obtain ⟨m, ⟨o, es, ep, ho, r⟩, _⟩ := id I.loc
  obtain ⟨sl, hL⟩ := u.any ho I.free (by simp)
  exact I.step (g' := s.gens) (d' := s.drawn) (ch := []) (fun _ z => nomatch z) (fun b o _ hb _ e n => u.keep b o e n hb (by simp)) (fun b o _ hb _ e n => u.slot b o e n hb (by simp)) (fun b o _ e n => u.free b o e n (by simp)) (fun b o _ e => u.there b o e (by simp)) u.tups u.frzs u.tbls (fun m' hm => by
    obtain ⟨o', es', ep', ho', r'⟩ := hm
    rw [ho] at ho'; cases ho'
    exact ⟨_, es', ep', hL, r'⟩) hok I.bare
theorem Inv.call {g' : Array GenState} {t' : Nat} {d' : Drawn} {ch : List Addr} (I : Inv X pins σ H s) (u : Un (frs X.stack) ch H H' s.heap h') (hok : HOk X.prog X.w H' h') (hg : AllBare g')
    (hch : ∀ b ∈ ch, (b ∈ X.ex ∨ X.s_0.heap.objs.size ≤ b) ∧ b ≠ X.env.locals ∧ (∀ x c, X.env.cells.lookup x = some c → c ≠ b) ∧ ∀ p ∈ X.pn ++ pins, p.1 ≠ b) :
    Inv X pins σ H' { s with heap := h', gens := g', drawn := d', toks := t' } := by
  obtain ⟨m, ⟨o, es, ep, ho, r⟩, _⟩ := id I.loc
  obtain ⟨sl, hL⟩ := u.any ho I.free fun z => (hch _ z).2.1 rfl
  exact I.step (ch := ch) hch (fun b o hL hb hc e n => u.keep b o e n (fun z => (List.mem_cons.mp (I.stkSub b z)).elim hL hb) hc) (fun b o _ _ hc e n => u.any e n hc) (fun b o hc e n => u.free b o e n hc) (fun b o hc e => u.there b o e hc) u.tups u.frzs u.tbls (fun m' hm => by
    obtain ⟨o', es', ep', ho', r'⟩ := hm
    rw [ho] at ho'; cases ho'
    exact ⟨_, es', ep', hL, r'⟩) hok hg
theorem Inv.turned {t' : Nat} {it : Addr} (I : Inv X pins σ H s) (k : ∀ b o, b ≠ it → s.heap.get? b = some o → h'.get? b = some o) (hn : H it = none) (hL : it ≠ X.env.locals)
    (h1 : it ∈ X.ex ∨ X.s_0.heap.objs.size ≤ it) (h2 : ∀ x c, X.env.cells.lookup x = some c → c ≠ it) (h3 : ∀ p ∈ X.pn ++ pins, p.1 ≠ it) : Inv X pins σ H { s with heap := h', toks := t' } := by
  have nit : ∀ b u, H b = some u → b ≠ it := fun b u e z => by rw [z, hn] at e; cases e
  refine I.step (g' := s.gens) (d' := s.drawn) (ch := [it]) (fun b hb => ?_) (fun b o _ _ hc e _ => k b o (fun z => hc (by simp [z])) e) (fun b o _ _ hc e _ => ⟨o.slots, k b o (fun z => hc (by simp [z])) e⟩) (fun _ _ _ _ n => n)
    (fun b o hc e => ⟨o, k b o (fun z => hc (by simp [z])) e⟩) (fun _ _ e => e) (fun _ _ _ e => e) (fun b ps e => ⟨#[], by rw [e]; simp⟩) (fun m hm => ?_) (fun b u e => ?_) I.bare
  · have e : b = it := by simpa using hb
    subst e
    exact ⟨h1, hL, h2, h3⟩
  · obtain ⟨o, es, ep, ho, r⟩ := hm
    exact ⟨o, es, ep, k _ o (Ne.symm hL) ho, r⟩
  · refine (I.hok b u e).stay (fun c v hc q => k c v ?_ q) (fun _ q => q) fun _ _ q => q
    rcases hc with z | z
    · rw [z]; exact nit b u e
    · exact nit c _ z
theorem Inv.tok (I : Inv X pins σ H s) (t : Nat) : Inv X pins σ H { s with toks := t } := I.un (h' := s.heap) (t' := t) Un.refl I.hok
theorem Inv.kept {t' : Nat} (I : Inv X pins σ H s) (k : ∀ b u, s.heap.get? b = some u → h'.get? b = some u) : Inv X pins σ H { s with heap := h', toks := t' } := I.un (Un.kept k) (I.hok.kept k)
theorem Inv.laid {a : Addr} {o : HO} {t' : Nat} (I : Inv X pins σ H s) (k : ∀ b u, s.heap.get? b = some u → h'.get? b = some u) (hp : s.heap.objs.size ≤ a) (new : ObjOk X.prog X.w (upd H a o) h' a o) :
    Inv X pins σ (upd H a o) { s with heap := h', toks := t' } := I.un (Un.laid k hp (I.hok.fresh hp)) (I.hok.laid k hp new)
theorem Inv.write {x e : Addr} {o : HO} {t' : Nat} (I : Inv X pins σ H s) (mu : Mut (H x)) (he : e = x ∨ H e = some (.own x)) (k : ∀ b u, b ≠ e → s.heap.get? b = some u → h'.get? b = some u) (heo : ∃ u, h'.get? e = some u)
    (new : ObjOk X.prog X.w (upd H x o) h' x o) : Inv X pins σ (upd H x o) { s with heap := h', toks := t' } := I.un (Un.write mu he k heo) (I.hok.write mu he k heo new)
theorem Inv.weak {σ' : List (Option V)} (I : Inv X pins σ H s) (hl : σ'.length = σ.length) (w : ∀ (i : Nat) v, σ'[i]? = some (some v) → σ[i]? = some (some v)) : Inv X pins σ' H s :=
  ⟨I.ok, I.os, I.bare, I.base, let ⟨m, hn, hl'⟩ := I.loc; ⟨m, hn, fun i x v e1 e2 e3 => hl' i x v e1 (w i v e2) e3⟩, I.cell, I.free, I.freeC, I.pin, I.hok, hl.trans I.len⟩
theorem Inv.pins_of {pins' : List (Addr × Obj)} (I : Inv X pins σ H s) (h : ∀ p ∈ pins', s.heap.get? p.1 = some p.2 ∧ H p.1 = none ∧ p.1 ≠ X.env.locals ∧ p.1 ∉ X.fs ∧ ∀ v, p.2.data ≠ .cell v) : Inv X pins' σ H s :=
  ⟨I.ok, I.os, I.bare, I.base, I.loc, I.cell, I.free, I.freeC, fun p hp => (List.mem_append.mp hp).elim (fun z => I.pin p (List.mem_append_left _ z)) (h p), I.hok, I.len⟩
theorem nodup_ix {N : List Str} (hN : N.Nodup) {i j : Nat} {x : Str} (a : N[i]? = some x) (b : N[j]? = some x) : i = j := by
  obtain ⟨h1, e1⟩ := List.getElem?_eq_some_iff.mp a
  obtain ⟨h2, e2⟩ := List.getElem?_eq_some_iff.mp b
  exact (List.getElem_inj hN).mp (e1.trans e2.symm)
theorem store_ok2 {M : Model} {A : Around} {E : Value → Shared → Prop} {i : Nat} {x : Str} {v : V} {u : Value} {Q : Unit → Shared → Prop} (I : Inv X pins σ H s) (hN : X.N.Nodup) (hi : X.N[i]? = some x) (hx : Loc X.env.scope x) (r : RelV v u)
    (h : ∀ s', Inv X pins (σ.set i (some v)) H s' → (∃ a, Heap.SameBut a s.heap s'.heap ∧ (a = X.env.locals ∨ X.env.cells.lookup x = some a)) → Q () s') (hf : X.fn x = true ∨ X.env.scope.names.lookup x = some .local := by first | exact .inl rfl | exact .inr rfl | assumption) : wpAny M A (storeName X.env x u) Q E s := by
  obtain ⟨m, hn, hl⟩ := id I.loc
  have hcls : (X.env.scope.kind == .class || (X.env.scope.kind == .module && X.env.locals != X.env.globals)) = false := by rw [I.ok.kind]; rfl
  have hiσ : i < σ.length := by rw [I.len]; exact (List.getElem?_eq_some_iff.mp hi).1
  have cne := I.cne
  have tracked : ∀ {a : Addr} {h' : Heap}, (∃ o, s.heap.get? a = some o ∧ H a = none) → Heap.SameBut a s.heap h' → HOk X.prog X.w H h' := fun {a h'} ha hs b ob e => by
    obtain ⟨_, _, hfree⟩ := ha
    refine (I.hok b ob e).stay (fun c w' hc q => (hs.2 c ?_).trans q) (fun _ q => q) fun _ _ q => q
    rintro rfl
    rcases hc with rfl | hc
    · rw [hfree] at e; cases e
    · rw [hfree] at hc; cases hc
  rcases hx with hk | hk
  · refine wpAny_storeName_local hk hn (fun h' hn' hs => ?_) hcls
    obtain ⟨oL, _, _, hoL, _⟩ := id hn
    refine h _ ⟨I.ok, I.os, I.bare, ⟨fun b o e n hb hx => ?_, fun b o e n hb hx => ?_, I.base.free, fun b o e hx => ?_, I.base.tups, I.base.frzs, I.base.tbls⟩, ⟨_, hn', fun j y v' e1 e2 e3 => ?_⟩, fun y c e => ?_, I.free, I.freeC, fun p hp => ?_, tracked ⟨oL, hoL, I.free⟩ hs, by simpa using I.len⟩ ⟨_, hs, .inl rfl⟩
    · exact (hs.2 b (Nat.ne_of_lt (Nat.lt_of_lt_of_le (Heap.lt_size e) I.ok.above))).trans (I.base.keep b o e n hb hx)
    · obtain ⟨sl, e1⟩ := I.base.slot b o e n hb hx
      exact ⟨sl, (hs.2 b (Nat.ne_of_lt (Nat.lt_of_lt_of_le (Heap.lt_size e) I.ok.above))).trans e1⟩
    · obtain ⟨o', e1⟩ := I.base.there b o e hx
      exact ⟨o', (hs.2 b (Nat.ne_of_lt (Nat.lt_of_lt_of_le (Heap.lt_size e) I.ok.above))).trans e1⟩
    · by_cases hj : j = i
      · subst hj
        rw [hi] at e1; cases e1
        rw [List.getElem?_set_self hiσ] at e2
        cases e2
        exact ⟨u, r, .inl ⟨hk, by simp⟩⟩
      · rw [List.getElem?_set_ne (Ne.symm hj)] at e2
        obtain ⟨u', r', q⟩ := hl j y v' e1 e2 e3
        refine ⟨u', r', ?_⟩
        rcases q with ⟨k, e⟩ | ⟨k, c, e, z⟩
        · refine .inl ⟨k, ?_⟩
          have : y ≠ x := fun e => hj (nodup_ix hN e1 (e ▸ hi))
          simp [this, e]
        · exact .inr ⟨k, c, e, z.sameBut hs (cne y c e)⟩
    · obtain ⟨w', z⟩ := I.cell y c e
      exact ⟨w', z.sameBut hs (cne y c e)⟩
    · obtain ⟨e, n, ne, nf, d⟩ := I.pin p hp
      exact ⟨(hs.2 p.1 ne).trans e, n, ne, nf, d⟩
  · have hfn : X.fn x = true := by
      rcases hf with z | z
      · exact z
      · rw [z] at hk; cases hk
    obtain ⟨c, hc⟩ := I.ok.has x (.inl hk)
    obtain ⟨w', z⟩ := I.cell x c hc
    refine wpAny_storeName_cell I.ok.kind hk hc z (fun h' hc' hs => ?_)
    obtain ⟨oc, hoc, hocd⟩ := id z
    refine h { s with heap := h' } ⟨I.ok, I.os, I.bare, ⟨fun b o e n hb hx => ?_, fun b o e n hb hx => ?_, I.base.free, fun b o e hx => ?_, I.base.tups, I.base.frzs, I.base.tbls⟩, ⟨m, hn.sameBut hs (Ne.symm (cne x c hc)), fun j y v' e1 e2 e3 => ?_⟩, fun y c' e => ?_, I.free, I.freeC, fun p hp => ?_, tracked ⟨oc, hoc, I.freeC x c hc⟩ hs, by simpa using I.len⟩ ⟨c, hs, .inr hc⟩
    · exact (hs.2 b (Nat.ne_of_lt (Nat.lt_of_lt_of_le (Heap.lt_size e) (I.ok.cab x c hfn hc)))).trans (I.base.keep b o e n hb hx)
    · obtain ⟨sl, e1⟩ := I.base.slot b o e n hb hx
      exact ⟨sl, (hs.2 b (Nat.ne_of_lt (Nat.lt_of_lt_of_le (Heap.lt_size e) (I.ok.cab x c hfn hc)))).trans e1⟩
    · obtain ⟨o', e1⟩ := I.base.there b o e hx
      exact ⟨o', (hs.2 b (Nat.ne_of_lt (Nat.lt_of_lt_of_le (Heap.lt_size e) (I.ok.cab x c hfn hc)))).trans e1⟩
    · by_cases hj : j = i
      · subst hj
        rw [hi] at e1; cases e1
        rw [List.getElem?_set_self hiσ] at e2
        cases e2
        exact ⟨u, r, .inr ⟨.inl hk, c, hc, hc'⟩⟩
      · rw [List.getElem?_set_ne (Ne.symm hj)] at e2
        obtain ⟨u', r', q⟩ := hl j y v' e1 e2 e3
        refine ⟨u', r', ?_⟩
        rcases q with q | ⟨k, c', e, z'⟩
        · exact .inl q
        · refine .inr ⟨k, c', e, z'.sameBut hs ?_⟩
          rintro rfl
          exact hj (nodup_ix hN e1 (I.ok.inj _ _ _ e hc ▸ hi))
    · by_cases hcc : c' = c
      · subst hcc; exact ⟨_, hc'⟩
      · obtain ⟨w2, z2⟩ := I.cell y c' e
        exact ⟨w2, z2.sameBut hs hcc⟩
    · obtain ⟨e, n, ne, nf, d⟩ := I.pin p hp
      refine ⟨(hs.2 p.1 ?_).trans e, n, ne, nf, d⟩
      intro q
      rw [q, hoc] at e
      have q' : oc = p.2 := Option.some.inj e
      exact d w' (by rw [← q']; exact hocd)
theorem store_ok {M : Model} {A : Around} {E : Value → Shared → Prop} {i : Nat} {x : Str} {v : V} {u : Value} {Q : Unit → Shared → Prop} (I : Inv X pins σ H s) (hN : X.N.Nodup) (hi : X.N[i]? = some x) (hx : Loc X.env.scope x) (r : RelV v u)
    (h : ∀ s', Inv X pins (σ.set i (some v)) H s' → Q () s') (hf : X.fn x = true ∨ X.env.scope.names.lookup x = some .local := by first | exact .inl rfl | exact .inr rfl | assumption) : wpAny M A (storeName X.env x u) Q E s :=
  store_ok2 I hN hi hx r (fun s' I' _ => h s' I') hf
theorem Inv.call' {s' : Shared} {ch : List Addr} (I : Inv X pins σ H s) (ho : s'.os = s.os) (u : Un (frs X.stack) ch H H' s.heap s'.heap) (hok : HOk X.prog X.w H' s'.heap) (hg : AllBare s'.gens)
    (hch : ∀ b ∈ ch, (b ∈ X.ex ∨ X.s_0.heap.objs.size ≤ b) ∧ b ≠ X.env.locals ∧ (∀ x c, X.env.cells.lookup x = some c → c ≠ b) ∧ ∀ p ∈ X.pn ++ pins, p.1 ≠ b) : Inv X pins σ H' s' := by
  obtain ⟨h', g', d', t', o'⟩ := s'
  have e : o' = s.os := ho
  subst e
  exact I.call (g' := g') (t' := t') (d' := d') u hok hg hch
end
abbrev XK := Value → Option Addr → Hp → Prop
abbrev St := List (Option V)
abbrev VK := V → Hp → Prop
abbrev TE := St → Hp → VK → Prop
abbrev TT := St → Hp → (Bool → Hp → Prop) → Prop
abbrev TA := St → Hp → (List V → Hp → Prop) → Prop
structure Ends where
  nx : St → Hp → Prop
  rt : VK
  bk : St → Hp → Prop := fun _ _ => False
  ct : St → Hp → Prop := fun _ _ => False
abbrev TS := Ends → St → Hp → Prop
def EP (X : Cx) (pins : List (Addr × Obj)) (σ : St) (Q : VK) (u : Value) (s' : Shared) : Prop := ∃ v H', Inv X pins σ H' s' ∧ RelV v u ∧ Q v H'
def TP (X : Cx) (pins : List (Addr × Obj)) (σ : St) (Q : Bool → Hp → Prop) (b : Bool) (s' : Shared) : Prop := ∃ H', Inv X pins σ H' s' ∧ Q b H'
def AP (X : Cx) (pins : List (Addr × Obj)) (σ : St) (Q : List V → Hp → Prop) (us : List Value) (s' : Shared) : Prop := ∃ vs H', Inv X pins σ H' s' ∧ Vals vs us ∧ Q vs H'
def SP (X : Cx) (pins : List (Addr × Obj)) (D : Ends) (f : Flow) (s' : Shared) : Prop :=
  match f with
  | .next => ∃ σ' H', Inv X pins σ' H' s' ∧ D.nx σ' H'
  | .brk => ∃ σ' H', Inv X pins σ' H' s' ∧ D.bk σ' H'
  | .cont => ∃ σ' H', Inv X pins σ' H' s' ∧ D.ct σ' H'
  | .ret u => ∃ v σ' H', Inv X pins σ' H' s' ∧ RelV v u ∧ D.rt v H'
def PE (X : Cx) (e : Expr) (t : TE) : Prop :=
  ∀ (pins : List (Addr × Obj)) (s : Shared) (σ : St) (H : Hp) (Q : VK), Inv X pins σ H s → t σ H Q → wpAny (model X.prog X.w) X.A (eval e X.env) (EP X pins σ Q) X.xe s
def PT (X : Cx) (e : Expr) (t : TT) : Prop :=
  ∀ (pins : List (Addr × Obj)) (s : Shared) (σ : St) (H : Hp) (Q : Bool → Hp → Prop), Inv X pins σ H s → t σ H Q → wpAny (model X.prog X.w) X.A (isTrue e X.env (eval e X.env)) (TP X pins σ Q) X.xe s
def PW (X : Cx) (e : Expr) (t : TT) : Prop :=
  ∀ (whole : Sem Value) (pins : List (Addr × Obj)) (s : Shared) (σ : St) (H : Hp) (Q : Bool → Hp → Prop), Inv X pins σ H s → t σ H Q → wpAny (model X.prog X.w) X.A (isTrue e X.env whole) (TP X pins σ Q) X.xe s
theorem PW.pt {X : Cx} {e : Expr} {t : TT} (h : PW X e t) : PT X e t := h _
def PA (X : Cx) (es : List Expr) (t : TA) : Prop :=
  ∀ (pos : Pos) (pins : List (Addr × Obj)) (s : Shared) (σ : St) (H : Hp) (Q : List V → Hp → Prop), Inv X pins σ H s → t σ H Q → wpAny (model X.prog X.w) X.A (spliced (backTo pos (starEach es X.env))) (AP X pins σ Q) X.xe s
def PS (X : Cx) (st : Stmt) (t : TS) : Prop :=
  ∀ (pins : List (Addr × Obj)) (s : Shared) (σ : St) (H : Hp) (D : Ends), Inv X pins σ H s → t D σ H → wpAny (model X.prog X.w) X.A (exec st X.env) (SP X pins D) X.xe s
def PSs (X : Cx) (st : List Stmt) (t : TS) : Prop :=
  ∀ (pins : List (Addr × Obj)) (s : Shared) (σ : St) (H : Hp) (D : Ends), Inv X pins σ H s → t D σ H → wpAny (model X.prog X.w) X.A (execs st X.env) (SP X pins D) X.xe s
theorem thn {α : Type} {t : Sem α} {Q Q' : α → Shared → Prop} {M : Model} {A : Around} {E : Value → Shared → Prop} {s : Shared} (h : wpAny M A t Q E s) (hQ : ∀ a s, Q a s → Q' a s) : wpAny M A t Q' E s := wpAny_mono h hQ fun _ _ x => x
end L2
namespace L2
open PySem PySem.Spec PyProof.Rows
section
variable {X : Cx}
def tVar (i : Nat) : TE := fun σ H Q => ∃ v, σ[i]? = some (some v) ∧ Q v H
def tC (v : V) : TE := fun _ H Q => Q v H
theorem pe_var {i : Nat} {x : Str} {pos : Pos} (hN : X.N[i]? = some x) (hv : Vis X.env.scope x) (hd : (x == ("__debug__" : Str)) = false := by decide) (hcd : (x == ("__classdict__" : Str)) = false := by decide) : PE X (.Name x pos) (tVar i) := by
  intro pins s σ H Q I h
  obtain ⟨v, e, h⟩ := h
  obtain ⟨m, hn, hl⟩ := I.loc
  obtain ⟨u, r, l⟩ := hl i x v hN e hv
  have fin : EP X pins σ Q u s := ⟨v, H, I, r, h⟩
  rcases l with ⟨hk, hm⟩ | ⟨hk, c, hc, hcell⟩
  · exact wpAny_Name (wpAny_loadName_local I.ok.kind hk hn hm fin) hd
  · rcases hk with hk | hk
    · exact wpAny_Name (wpAny_loadName_cell I.ok.kind hk hc hcell fin) hd
    · exact wpAny_Name (wpAny_loadName_free I.ok.kind hk hc hcell fin hcd) hd
theorem pe_int {i j pos} : PE X (.Constant (.int i) j pos) (tC (.int i)) := fun _ _ _ H _ I h => wpAny_Constant_int ⟨.int i, H, I.tok _, ⟨_, rfl⟩, h⟩
theorem pe_bl {b j pos} : PE X (.Constant (.bool b) j pos) (tC (.bl b)) := fun _ _ _ H _ I h => Constant_bool ⟨.bl b, H, I, rfl, h⟩
def Gl (X : Cx) (x : Str) : Prop := X.env.kindOf x = some .globalImplicit
theorem ld_glob {E : Value → Shared → Prop} {pins : List (Addr × Obj)} {s : Shared} {σ : St} {H : Hp} {x : Str} {u : Value} {pos : Pos} {Q : Value → Shared → Prop} (I : Inv X pins σ H s) (hg : Gl X x) (hm : X.mg x = some u) (h : Q u s)
    (hd : (x == ("__debug__" : Str)) = false := by decide) : wpAny (model X.prog X.w) X.A (eval (.Name x pos) X.env) Q E s :=
  Calls.Name_function_global I.ok.kind hg (Calls.loadGlobal_global (by rw [I.ok.glob]; exact I.mod.glob.keeps I.bk) hm h) hd
theorem ld_blt {E : Value → Shared → Prop} {pins : List (Addr × Obj)} {s : Shared} {σ : St} {H : Hp} {x : Str} {u : Value} {pos : Pos} {Q : Value → Shared → Prop} (I : Inv X pins σ H s) (hg : Gl X x) (hm : X.mg x = none) (hv : bootBuiltins x = some u) (h : Q u s)
    (hn : x ≠ "__name__" := by decide) (hd : (x == ("__debug__" : Str)) = false := by decide) : wpAny (model X.prog X.w) X.A (eval (.Name x pos) X.env) Q E s := by
  obtain ⟨mb, h1, h2⟩ := I.mod.blt
  exact Calls.Name_function_global I.ok.kind hg (Calls.loadGlobal_builtin (by rw [I.ok.glob]; exact I.mod.glob.keeps I.bk) hm (by rw [I.ok.blt]; exact h1.keeps I.bk) ((h2 x hn).trans hv) h) hd
variable {a b : Expr} {ta tb : TE} {pos : Pos}
def tB (t : TE) : TT := fun σ H Q => t σ H fun x H1 => ∃ c, x = .bl c ∧ Q c H1
theorem pt_val {e : Expr} {t : TE} (h : PE X e t) (he : ∀ whole, isTrue e X.env whole = (do let v ← whole; standAt e.pos; holding [v] (truthy v)) := by intro _; rfl) : PT X e (tB t) := by
  intro pins s σ H Q I hw
  refine isTrue_plain (thn (h pins s σ H _ I hw) fun v s1 ⟨x, H1, I1, r1, q1⟩ => ?_) (he _)
  obtain ⟨d, rfl, q⟩ := q1
  cases r1
  exact wpAny_truthy_bool ⟨H1, I1, q⟩
variable {tA tB' : TT} {rest : List Expr}
def tAnd (t u : TT) : TT := fun σ H Q => t σ H fun c H1 => if c = true then u σ H1 Q else Q false H1
def tOr (t u : TT) : TT := fun σ H Q => t σ H fun c H1 => if c = true then Q true H1 else u σ H1 Q
def tNot (t : TT) : TT := fun σ H Q => t σ H fun c H1 => Q (!c) H1
theorem pw_and1 (ha : PT X a tA) : PW X (.BoolOp .And [a] pos) tA := by
  intro wh pins s σ H Q I h
  refine isTrue_and (thn (ha pins s σ H Q I h) fun c s1 e => ?_)
  cases c with
  | true => exact isTrue_and_nil e
  | false => exact e
theorem pw_or1 (ha : PT X a tA) : PW X (.BoolOp .Or [a] pos) tA := by
  intro wh pins s σ H Q I h
  refine isTrue_or (thn (ha pins s σ H Q I h) fun c s1 e => ?_)
  cases c with
  | false => exact isTrue_or_nil e
  | true => exact e
theorem pw_and (ha : PT X a tA) (hb : PW X (.BoolOp .And (b :: rest) pos) tB') : PW X (.BoolOp .And (a :: b :: rest) pos) (tAnd tA tB') := by
  intro wh pins s σ H Q I h
  refine isTrue_and (thn (ha pins s σ H _ I h) fun c s1 ⟨H1, I1, q1⟩ => ?_)
  cases c with
  | true => exact hb wh pins s1 σ H1 Q I1 q1
  | false => exact ⟨H1, I1, q1⟩
theorem pw_or (ha : PT X a tA) (hb : PW X (.BoolOp .Or (b :: rest) pos) tB') : PW X (.BoolOp .Or (a :: b :: rest) pos) (tOr tA tB') := by
  intro wh pins s σ H Q I h
  refine isTrue_or (thn (ha pins s σ H _ I h) fun c s1 ⟨H1, I1, q1⟩ => ?_)
  cases c with
  | true => exact ⟨H1, I1, q1⟩
  | false => exact hb wh pins s1 σ H1 Q I1 q1
theorem pt_not (ha : PT X a tA) : PT X (.UnaryOp .Not a pos) (tNot tA) := by
  intro pins s σ H Q I h
  exact isTrue_not (ha pins s σ H (fun c H1 => Q (!c) H1) I h)
def tAndV (ta tb : TE) : TE := fun σ H Q => ta σ H fun x H1 => ∃ c, x = .bl c ∧ if c = true then tb σ H1 Q else Q (.bl false) H1
theorem pe_one {op} {t : TE} (h : PE X a t) : PE X (.BoolOp op [a] pos) t := fun pins s σ H Q I hw => BoolOp_one (h pins s σ H Q I hw)
theorem pe_and (ha : PE X a ta) (hb : PE X (.BoolOp .And (b :: rest) pos) tb) : PE X (.BoolOp .And (a :: b :: rest) pos) (tAndV ta tb) := by
  intro pins s σ H Q I h
  refine BoolOp_and (thn (ha pins s σ H _ I h) fun v s1 ⟨x, H1, I1, r1, q1⟩ => ?_)
  obtain ⟨c, rfl, q1⟩ := q1
  cases r1
  refine wpAny_truthy_bool ?_
  cases c with
  | true => exact hb pins s1 σ H1 Q I1 q1
  | false => exact ⟨.bl false, H1, I1, rfl, q1⟩
def tIf (t : TT) (ta tb : TE) : TE := fun σ H Q => t σ H fun c H1 => if c = true then ta σ H1 Q else tb σ H1 Q
theorem pe_ifExp {c : Expr} (hc : PT X c tA) (ha : PE X a ta) (hb : PE X b tb) : PE X (.IfExp c a b pos) (tIf tA ta tb) := by
  intro pins s σ H Q I h
  refine wpAny_IfExp (thn (hc pins s σ H _ I h) fun d s1 ⟨H1, I1, q1⟩ => ?_)
  cases d with
  | true => exact ha pins s1 σ H1 Q I1 q1
  | false => exact hb pins s1 σ H1 Q I1 q1
end
end L2
namespace L2
open PySem PySem.Spec PyProof.Rows
def SqL (K : PySem.W.Frag) (H : Hp) (a : Addr) (xs : List V) : Prop :=
  Rd H a (.lst xs) ∨
    ∃ (o : Obj) (its : Array Value) (n : Nat), K.lookup a = some o ∧ o.cls = .type "list" ∧ o.dict = none ∧ o.data = .seq its n ∧ its.size ≤ sizeLine ∧ Vals xs its.toList
def SqT (K : PySem.W.Frag) (H : Hp) (a : Addr) (xs : List V) : Prop :=
  Rd H a (.tup xs) ∨
    ∃ (o : Obj) (its : Array Value) (n : Nat), K.lookup a = some o ∧ o.cls = .type "tuple" ∧ o.data = .seq its n ∧ its.size ≤ sizeLine ∧ Vals xs its.toList
def absV : Value → Option V
  | .none => some .non
  | .bool b => some (.bl b)
  | .int i _ => some (.int i)
  | .str x _ => some (.str x)
  | .bytes b _ => some (.byt b)
  | .float b _ => some (.flt b)
  | .ref a => some (.ref a)
  | .type n => some (.ty n)
  | _ => none
theorem RelV.abs {x : V} {u : Value} (r : RelV x u) : absV u = some x := by
  cases x with
  | non => cases r; rfl
  | bl _ => cases r; rfl
  | int _ => obtain ⟨t, rfl⟩ := r; rfl
  | str _ => obtain ⟨t, rfl⟩ := r; rfl
  | byt _ => obtain ⟨t, rfl⟩ := r; rfl
  | flt _ => obtain ⟨t, rfl⟩ := r; rfl
  | ref _ => cases r; rfl
  | ty _ => cases r; rfl
theorem RelV.inj {x y : V} {u : Value} (r : RelV x u) (q : RelV y u) : x = y := Option.some.inj (r.abs.symm.trans q.abs)
theorem Vals.inj : ∀ {xs ys : List V} {us : List Value}, Vals xs us → Vals ys us → xs = ys
  | _, _, _, .nil, .nil => rfl
  | _, _, _, .cons r t, .cons r' t' => by rw [r.inj r', Vals.inj t t']
section
variable {X : Cx} {pins : List (Addr × Obj)} {σ : St} {H : Hp} {s : Shared} {a : Addr} {xs ys : List V}
theorem SqL.of {K : PySem.W.Frag} (h : H a = some (.lst xs)) : SqL K H a xs := .inl (.inl h)
theorem SqT.of {K : PySem.W.Frag} (h : H a = some (.tup xs)) : SqT K H a xs := .inl (.inl h)
theorem Inv.list (I : Inv X pins σ H s) (h : SqL X.K H a xs) : ∃ its : List Value, Vals xs its ∧ PlainL s.heap a its.toArray ∧ xs.length ≤ sizeLine := by
  rcases h with h | ⟨o, its, n, hk, hc, hd, hs, hz, r⟩
  · obtain ⟨z, its, n, r, e⟩ := h.ok I.hok
    exact ⟨its, r, ⟨_, n, e, rfl, rfl, rfl⟩, z⟩
  · refine ⟨its.toList, r, ⟨o, n, I.kIn a o hk, hc, hd, by simpa using hs⟩, ?_⟩
    have e := r.length
    simp only [Array.length_toList] at e
    omega
theorem Inv.tuple (I : Inv X pins σ H s) (h : SqT X.K H a xs) : ∃ its : List Value, Vals xs its ∧ IsTup s.heap a its.toArray ∧ xs.length ≤ sizeLine := by
  rcases h with h | ⟨o, its, n, hk, hc, hs, hz, r⟩
  · obtain ⟨z, its, r, p⟩ := h.ok I.hok
    exact ⟨its, r, p, z⟩
  · refine ⟨its.toList, r, ⟨o, I.kIn a o hk, hc, n, by simpa using hs⟩, ?_⟩
    have e := r.length
    simp only [Array.length_toList] at e
    omega
theorem Inv.list_inj (I : Inv X pins σ H s) (h : SqL X.K H a xs) (h' : SqL X.K H a ys) : xs = ys := by
  obtain ⟨its, r, ⟨o, n, e, _, _, d⟩, _⟩ := I.list h
  obtain ⟨its', r', ⟨o', n', e', _, _, d'⟩, _⟩ := I.list h'
  rw [e] at e'; cases e'
  rw [d] at d'
  injection d' with d1 _
  have : its = its' := by simpa using congrArg Array.toList d1
  subst this
  exact r.inj r'
end
abbrev Cx.wish (X : Cx) (E : Value → Shared → Prop) : Cx := { X with xe := E }
abbrev Cx.nox (X : Cx) : Cx := X.wish fun _ _ => False
theorem Cx.Ok.wish {X : Cx} (ok : X.Ok) (E : Value → Shared → Prop) : (X.wish E).Ok :=
  ⟨ok.mod, ok.kind, ok.glob, ok.blt, ok.above, ok.inj, ok.has, ok.cab, ok.hd, ok.frames, ok.stk, ok.exf, ok.bs, ok.bsz, ok.noex, ok.exfs, ok.funs, ok.frf⟩
theorem Cx.Ok.unwish {X : Cx} {E : Value → Shared → Prop} (ok : (X.wish E).Ok) : X.Ok :=
  ⟨ok.mod, ok.kind, ok.glob, ok.blt, ok.above, ok.inj, ok.has, ok.cab, ok.hd, ok.frames, ok.stk, ok.exf, ok.bs, ok.bsz, ok.noex, ok.exfs, ok.funs, ok.frf⟩
section
variable {X : Cx} {pins : List (Addr × Obj)} {σ : St} {H : Hp} {s : Shared} {E : Value → Shared → Prop}
theorem Inv.wish (I : Inv X pins σ H s) (E : Value → Shared → Prop) : Inv (X.wish E) pins σ H s := ⟨I.ok.wish E, I.os, I.bare, I.base, I.loc, I.cell, I.free, I.freeC, I.pin, I.hok, I.len⟩
theorem Inv.unwish (I : Inv (X.wish E) pins σ H s) : Inv X pins σ H s := ⟨I.ok.unwish, I.os, I.bare, I.base, I.loc, I.cell, I.free, I.freeC, I.pin, I.hok, I.len⟩
theorem SP.unwish {D : Ends} {f : Flow} {s' : Shared} (h : SP (X.wish E) pins D f s') : SP X pins D f s' := by
  cases f with
  | next => obtain ⟨σ', H', I, q⟩ := h; exact ⟨σ', H', I.unwish, q⟩
  | brk => obtain ⟨σ', H', I, q⟩ := h; exact ⟨σ', H', I.unwish, q⟩
  | cont => obtain ⟨σ', H', I, q⟩ := h; exact ⟨σ', H', I.unwish, q⟩
  | ret u => obtain ⟨v, σ', H', I, r, q⟩ := h; exact ⟨v, σ', H', I.unwish, r, q⟩
theorem PE.nox {e : Expr} {t : TE} (h : PE X.nox e t) : PE X e t := fun pins s σ H Q I hw =>
  wpAny_mono (h pins s σ H Q (I.wish _) hw) (fun _ _ ⟨v, H', I', r, q⟩ => ⟨v, H', I'.unwish, r, q⟩) fun _ _ z => False.elim z
theorem PT.nox {e : Expr} {t : TT} (h : PT X.nox e t) : PT X e t := fun pins s σ H Q I hw =>
  wpAny_mono (h pins s σ H Q (I.wish _) hw) (fun _ _ ⟨H', I', q⟩ => ⟨H', I'.unwish, q⟩) fun _ _ z => False.elim z
theorem PSs.nox {st : List Stmt} {t : TS} (h : PSs X.nox st t) : PSs X st t := fun pins s σ H D I hw =>
  wpAny_mono (h pins s σ H D (I.wish _) hw) (fun _ _ q => q.unwish) fun _ _ z => False.elim z
end
section
variable {X : Cx} {st : Stmt} {rest : List Stmt} {t u : TS} {e : Expr} {te : TE} {pos : Pos}
def tNext : TS := fun D σ H => D.nx σ H
def tSeq (t u : TS) : TS := fun D σ H => t { D with nx := u D } σ H
theorem pss_nil : PSs X [] tNext := fun _ _ σ H _ I h => wpAny_execs_nil ⟨σ, H, I, h⟩
theorem pss_cons (h1 : PS X st t) (h2 : PSs X rest u) : PSs X (st :: rest) (tSeq t u) := by
  intro pins s σ H D I h
  refine wpAny_execs_cons (thn (h1 pins s σ H { D with nx := u D } I h) fun f s1 q => ?_)
  cases f with
  | next =>
    obtain ⟨σ', H', I', q⟩ := q
    exact h2 pins s1 σ' H' D I' q
  | ret v => exact q
  | brk => exact q
  | cont => exact q
theorem pss_one (h1 : PS X st t) : PSs X [st] t := by
  intro pins s σ H D I h
  refine wpAny_execs_cons (thn (h1 pins s σ H D I h) fun f s1 q => ?_)
  cases f with
  | next => exact wpAny_execs_nil q
  | ret v => exact q
  | brk => exact q
  | cont => exact q
def tRet (te : TE) : TS := fun D σ H => te σ H D.rt
theorem ps_ret (he : PE X e te) : PS X (.Return (some e) pos) (tRet te) := by
  intro pins s σ H D I h
  exact wpAny_Return_some (thn (he pins s σ H _ I h) fun v s1 ⟨x, H1, I1, r1, q1⟩ => ⟨x, σ, H1, I1, r1, q1⟩)
def tIfS (c : TT) (t u : TS) : TS := fun D σ H => c σ H fun b H1 => if b = true then t D σ H1 else u D σ H1
theorem ps_if {c : Expr} {a b : List Stmt} {tc : TT} (hc : PT X c tc) (ha : PSs X a t) (hb : PSs X b u) : PS X (.If c a b pos) (tIfS tc t u) := by
  intro pins s σ H D I h
  refine wpAny_If (thn (hc pins s σ H _ I h) fun d s1 ⟨H1, I1, q1⟩ => ?_)
  cases d with
  | true => exact ha pins s1 σ H1 D I1 q1
  | false => exact hb pins s1 σ H1 D I1 q1
end
abbrev TG := V → St → Hp → (St → Hp → Prop) → Prop
abbrev TGs := List V → St → Hp → (St → Hp → Prop) → Prop
def PG (X : Cx) (target : Expr) (t : TG) : Prop :=
  ∀ (pins : List (Addr × Obj)) (s : Shared) (σ : St) (H : Hp) (v : V) (u : Value) (Q : St → Hp → Prop), Inv X pins σ H s → RelV v u → t v σ H Q →
    wpAny (model X.prog X.w) X.A (assign target X.env u) (fun _ s' => ∃ σ' H', Inv X pins σ' H' s' ∧ Q σ' H') X.xe s
def PGs (X : Cx) (ts : List Expr) (t : TGs) : Prop :=
  ∀ (pins : List (Addr × Obj)) (s : Shared) (σ : St) (H : Hp) (vs : List V) (us : List Value) (Q : St → Hp → Prop), Inv X pins σ H s → Vals vs us → t vs σ H Q →
    wpAny (model X.prog X.w) X.A (assignInOrder ((assignEach ts X.env).map (·.2)) us) (fun _ s' => ∃ σ' H', Inv X pins σ' H' s' ∧ Q σ' H') X.xe s
abbrev TSet := V → V → V → Hp → (Hp → Prop) → Prop
def PSet (X : Cx) (t : TSet) : Prop :=
  ∀ (pins : List (Addr × Obj)) (s : Shared) (σ : St) (H : Hp) (o i v : V) (ov iv u : Value) (Q : Hp → Prop), Inv X pins σ H s → RelV o ov → RelV i iv → RelV v u → t o i v H Q →
    wpAny (model X.prog X.w) X.A (setItem ov iv u) (fun _ s' => ∃ H', Inv X pins σ H' s' ∧ Q H') X.xe s
section
variable {X : Cx} {pos : Pos}
def gName (i : Nat) : TG := fun v σ H Q => Q (σ.set i (some v)) H
theorem pg_name {i : Nat} {x : Str} (hN : X.N.Nodup) (hi : X.N[i]? = some x) (hx : Loc X.env.scope x) (hf : X.fn x = true ∨ X.env.scope.names.lookup x = some .local := by first | exact .inl rfl | exact .inr rfl | assumption) : PG X (.Name x pos) (gName i) := by
  intro pins s σ H v u Q I r h
  exact wpAny_assign_Name (store_ok I hN hi hx r (fun s' I' => ⟨_, H, I', h⟩) hf)
def gNil : TGs := fun vs σ H Q => vs = [] ∧ Q σ H
def gCons (t : TG) (u : TGs) : TGs := fun vs σ H Q => ∃ v r, vs = v :: r ∧ t v σ H fun σ' H' => u r σ' H' Q
theorem pgs_nil : PGs X [] gNil := by
  intro pins s σ H vs us Q I r h
  obtain ⟨e, h⟩ := h
  subst e
  cases r
  exact assignInOrder_nil ⟨σ, H, I, h⟩
theorem pgs_cons {e : Expr} {es : List Expr} {t : TG} {u : TGs} (h1 : PG X e t) (h2 : PGs X es u)
    (hs : (assignEach (e :: es) X.env).map (·.2) = assign e X.env :: (assignEach es X.env).map (·.2) := by rfl) : PGs X (e :: es) (gCons t u) := by
  intro pins s σ H vs us Q I r h
  obtain ⟨v, vr, e1, h⟩ := h
  subst e1
  cases r with
  | cons r rr =>
    rw [hs]
    refine assignInOrder_cons (thn (h1 pins s σ H _ _ _ I r h) fun _ s1 ⟨σ1, H1, I1, q1⟩ => ?_)
    exact h2 pins s1 σ1 H1 _ _ Q I1 rr q1
def gTup (K : PySem.W.Frag) (n : Nat) (t : TGs) : TG := fun v σ H Q => ∃ a xs, v = .ref a ∧ SqT K H a xs ∧ xs.length = n ∧ t xs σ H Q
theorem pg_tup {es : List Expr} {k : Nat} {t : TGs} {n : Nat} (hc : X.calm = true) (h : PGs X es t)
    (hn : (assignEach es X.env).length = n := by rfl) (hst : (assignEach es X.env).findIdx? (·.1) = none := by rfl) : PG X (.Tuple es k pos) (gTup X.K n t) := by
  intro pins s σ H v u Q I r hw
  obtain ⟨a, xs, e1, hq, hl, hw⟩ := hw
  subst e1
  cases r
  obtain ⟨its, rv, ht, hz⟩ := I.tuple hq
  refine assign_Tuple_tuple (I.ok.hd hc) ht (by simp [hn, ← hl, rv.length]) hst fun h' hx => ?_
  have I1 : Inv X pins σ H { s with heap := h' } := I.kept (t' := s.toks) fun b o e => hx b o (Nat.ne_of_lt (Heap.lt_size e)) e
  exact h pins _ σ H xs _ Q I1 (by simpa using rv) hw
def gSub (to ti : TE) (t : TSet) : TG := fun v σ H Q => to σ H fun o H1 => ti σ H1 fun i H2 => t o i v H2 fun H3 => Q σ H3
theorem pg_sub {o i : Expr} {to ti : TE} {t : TSet} (ho : PE X o to) (hi : PE X i ti) (hs : PSet X t)
    (ha : ∀ v, assign (.Subscript o i pos) X.env v = (do
      let ov ← holding [v] (eval o X.env)
      let iv ← holding [v, ov] (eval i X.env)
      standAt pos
      holding [v, ov, iv] (setItem ov iv v)
      release [v, ov, iv] []) := by intro _; rfl) : PG X (.Subscript o i pos) (gSub to ti t) := by
  intro pins s σ H v u Q I r h
  rw [ha]
  refine wpAny_bind (wpAny_holding (thn (ho pins s σ H _ I h) fun ov s1 ⟨x, H1, I1, r1, q1⟩ => ?_))
  refine wpAny_bind (wpAny_holding (thn (hi pins s1 σ H1 _ I1 q1) fun iv s2 ⟨y, H2, I2, r2, q2⟩ => ?_))
  refine wpAny_bind (wpAny_standAt (wpAny_bind (wpAny_holding (thn (hs pins s2 σ H2 x y v ov iv u _ I2 r1 r2 r q2) fun _ s3 ⟨H3, I3, q3⟩ => ?_))))
  exact wpAny_release ⟨σ, H3, I3, q3⟩
def tAsg (te : TE) (g : TG) : TS := fun D σ H => te σ H fun x H1 => g x σ H1 D.nx
theorem ps_asg {tg e : Expr} {te : TE} {g : TG} (he : PE X e te) (hg : PG X tg g) (hs : swapsWithSole [tg] e pos.line X.env = pure false := by rfl) (hw : swappedStores [tg] e X.env = pure none := by rfl)
    (h1 : (assignEach [tg] X.env).map (·.2) = [assign tg X.env] := by rfl) : PS X (.Assign [tg] e pos) (tAsg te g) := by
  intro pins s σ H D I h
  refine wpAny_Assign_stores (thn (he pins s σ H _ I h) fun v s1 ⟨x, H1, I1, r1, q1⟩ => ?_) hs hw
  rw [h1]
  exact thn (hg pins s1 σ H1 x v _ I1 r1 q1) fun _ s2 q => q
theorem ps_set {i : Nat} {x : Str} {e : Expr} {te : TE} {pos' : Pos} (hN : X.N.Nodup) (hi : X.N[i]? = some x) (hx : Loc X.env.scope x) (he : PE X e te) (hs : swapsWith e (some (.Name x pos')) pos.line X.env = pure false := by rfl) (hf : X.fn x = true ∨ X.env.scope.names.lookup x = some .local := by first | exact .inl rfl | exact .inr rfl | assumption) :
    PS X (.Assign [.Name x pos'] e pos) (tAsg te (gName i)) := by
  intro pins s σ H D I h
  refine wpAny_Assign_Name (thn (he pins s σ H _ I h) fun v s1 ⟨y, H1, I1, r1, q1⟩ => ?_) hs
  exact store_ok I1 hN hi hx r1 (fun s2 I2 => ⟨_, H1, I2, q1⟩) hf
end
section
variable {X : Cx} {pos : Pos}
def tWhile (c : TT) (tb : TS) : TS := fun D σ H => ∃ W : Nat → St → Hp → Prop, (∃ m, W m σ H) ∧ ∀ m σ H, W m σ H →
  c σ H fun b H1 => if b = true then ∃ N : St → Hp → Prop, (∀ σ' H', N σ' H' → ∃ m', m' < m ∧ W m' σ' H') ∧ tb { D with nx := N, ct := N, bk := D.nx } σ H1 else D.nx σ H1
theorem ps_while {c : Expr} {body : List Stmt} {tc : TT} {tb : TS} (hp : PassesOwn (model X.prog X.w) X.A X.env X.xe) (hc : PT X c tc) (hb : PSs X body tb) : PS X (.While c body [] pos) (tWhile tc tb) := by
  intro pins s σ H D I h
  obtain ⟨W, ⟨m0, w0⟩, turn⟩ := h
  refine wpAny_While (codeAny_whileLoop (fun n s' => ∃ σ' H', Inv X pins σ' H' s' ∧ W n σ' H') ?_ m0 ⟨σ, H, I, w0⟩)
  rintro n s1 ⟨σ1, H1, I1, w1⟩
  refine wpAny_passesOwn hp (thn (hc pins s1 σ1 H1 _ I1 (turn n σ1 H1 w1)) fun b s2 ⟨H2, I2, q2⟩ => ?_)
  cases b with
  | true =>
    obtain ⟨N, hN, q2⟩ := q2
    rw [if_pos rfl]
    refine wpAny_passesOwn hp (thn (hb pins s2 σ1 H2 _ I2 q2) fun f s3 q3 => ?_)
    cases f with
    | next =>
      obtain ⟨σ3, H3, I3, n3⟩ := q3
      obtain ⟨m', hm, w3⟩ := hN σ3 H3 n3
      exact ⟨m', hm, σ3, H3, I3, w3⟩
    | cont =>
      obtain ⟨σ3, H3, I3, n3⟩ := q3
      obtain ⟨m', hm, w3⟩ := hN σ3 H3 n3
      exact ⟨m', hm, σ3, H3, I3, w3⟩
    | brk => exact q3
    | ret v => exact q3
  | false =>
    rw [if_neg Bool.false_ne_true]
    exact wpAny_execs_nil ⟨σ1, H2, I2, q2⟩
end
structure It where
  go : Nat → Hp → Prop
  yld : Nat → Hp → V → Hp → Prop
  stop : Nat → Hp → Prop
def FpOk (X : Cx) (pins : List (Addr × Obj)) (H : Hp) (b : Addr) : Prop :=
  H b = none ∧ b ≠ X.env.locals ∧ b ∉ X.fs ∧ (b ∈ X.ex ∨ X.s_0.heap.objs.size ≤ b) ∧ (∀ x c, X.env.cells.lookup x = some c → c ≠ b) ∧ ∀ p ∈ X.pn ++ pins, p.1 ≠ b
theorem Inv.fpOk {X : Cx} {pins : List (Addr × Obj)} {σ : St} {H H' : Hp} {s : Shared} {b : Addr} (I : Inv X pins σ H s) (hb : s.heap.objs.size ≤ b) (hn : H' b = none) : FpOk X pins H' b := by
  refine ⟨hn, Nat.ne_of_gt (Nat.lt_of_lt_of_le I.lt hb), I.nofs hb, .inr (Nat.le_trans I.sz hb), fun x c e z => ?_, fun p hp z => ?_⟩
  · obtain ⟨v, q⟩ := I.cell x c e
    exact absurd (Nat.lt_of_lt_of_le q.lt (by rw [z]; exact hb)) (Nat.lt_irrefl _)
  · exact absurd (Nat.lt_of_lt_of_le (Heap.lt_size (I.pin p hp).1) (by rw [z]; exact hb)) (Nat.lt_irrefl _)
structure Turn (P : Program) (w : World) (K : PySem.W.Frag) (tg : Expr) (J : It) (fp : List Addr) (it : Addr) (tn : Nat → Heap → Prop) : Prop where
  mem : it ∈ fp
  obj : ∀ i h, tn i h → ∀ b ∈ fp, ∃ o, h.get? b = some o ∧ ∀ v, o.data ≠ .cell v
  keep : ∀ i h h', tn i h → (∀ b ∈ fp, ∀ o, h.get? b = some o → h'.get? b = some o) → tn i h'
  item : ∀ (X : Cx), X.prog = P → X.w = w → X.K = K → X.calm = true → ∀ (i : Nat) (pins : List (Addr × Obj)) (s : Shared) (σ : St) (H : Hp) (E : Value → Shared → Prop), Inv X pins σ H s → (∀ b ∈ fp, FpOk X pins H b) → tn i s.heap → J.go i H →
    wpAny (model P w) X.A (pyNext (.ref it)) (fun r s1 => ∃ u, r = some u ∧
      wpAny (model P w) X.A (letOwnedTupleGo tg (.ref it) u) (fun _ s2 => ∃ x H', Inv X pins σ H' s2 ∧ RelV x u ∧ J.yld i H x H' ∧ tn (i + 1) s2.heap ∧ ∀ b ∈ fp, H' b = none) E s1) E s
  done : ∀ (X : Cx), X.prog = P → X.w = w → X.K = K → X.calm = true → ∀ (i : Nat) (pins : List (Addr × Obj)) (s : Shared) (σ : St) (H : Hp) (E : Value → Shared → Prop), Inv X pins σ H s → (∀ b ∈ fp, FpOk X pins H b) → tn i s.heap → J.stop i H →
    wpAny (model P w) X.A (pyNext (.ref it)) (fun r s1 => r = none ∧ Inv X pins σ H s1) E s
  self : ∀ (A : Around) (i : Nat) (s : Shared) (Q : Value → Shared → Prop) (E : Value → Shared → Prop), tn i s.heap → Q (.ref it) s → wpAny (model P w) A (pyIter (.ref it)) Q E s
abbrev TI := St → Hp → (It → Hp → Prop) → Prop
def PIE (X : Cx) (pins : List (Addr × Obj)) (σ : St) (tg : Expr) (R : It → Hp → Prop) (itv : Value) (s2 : Shared) : Prop :=
  ∃ (it : Addr) (fp : List Addr) (tn : Nat → Heap → Prop) (J : It) (H' : Hp), itv = .ref it ∧ Inv X pins σ H' s2 ∧ Turn X.prog X.w X.K tg J fp it tn ∧ tn 0 s2.heap ∧ (∀ b ∈ fp, FpOk X pins H' b) ∧ R J H'
def PI (X : Cx) (tg iter : Expr) (wi : TI) : Prop :=
  ∀ (pins : List (Addr × Obj)) (s : Shared) (σ : St) (H : Hp) (R : It → Hp → Prop), Inv X pins σ H s → wi σ H R →
    wpAny (model X.prog X.w) X.A (eval iter X.env) (fun v s1 => wpAny (model X.prog X.w) X.A (pyIter v) (PIE X pins σ tg R) X.xe s1) X.xe s
theorem go_of {M : Model} {A : Around} {E : Value → Shared → Prop} {s : Shared} {tg : Expr} {it : Addr} {u : Value} {o : Obj} {n : String} {vs : Array Value} {Q : Unit → Shared → Prop} (ho : s.heap.get? it = some o) (hc : o.cls = .type n) (hd : o.data = .fields vs)
    (hn : ["enumerate", "zip", "dict_itemiterator", "dict_reverseitemiterator", "odict_iterator", "itertools.zip_longest", "itertools.pairwise"].contains n = false) (hQ : Q () s) : wpAny M A (letOwnedTupleGo tg (.ref it) u) Q E s := by
  unfold letOwnedTupleGo
  cases tg <;> first
    | exact wpAny_pure hQ
    | (cases u <;> first
        | exact wpAny_pure hQ
        | (refine wpAny_bind (wpAny_load ho ?_)
           rw [hc, hd]
           show wpAny M A (if (["enumerate", "zip", "dict_itemiterator", "dict_reverseitemiterator", "odict_iterator", "itertools.zip_longest", "itertools.pairwise"].contains n && vs[0]? == some (rawInt _)) = true then _ else _) Q E s
           rw [if_neg (by intro h; rw [hn, Bool.false_and] at h; cases h)]
           exact wpAny_pure hQ))
def Itl (K : PySem.W.Frag) (a : Addr) : It :=
  ⟨fun i H => ∃ xs x, SqL K H a xs ∧ xs[i]? = some x, fun i H x H' => H' = H ∧ ∀ xs, SqL K H a xs → xs[i]? = some x, fun i H => ∃ xs, SqL K H a xs ∧ xs.length ≤ i⟩
def Itr (lo : Int) (n : Nat) : It := ⟨fun i _ => i < n, fun i H x H' => H' = H ∧ x = .int (lo + i), fun i _ => n ≤ i⟩
theorem turn_list {P : Program} {w : World} {K : PySem.W.Frag} {tg : Expr} (a it : Addr) : Turn P w K tg (Itl K a) [it] it (fun i h => h.IsListIter it a i) where
  mem := by simp
  obj := fun i h st b hb => by
    have e : b = it := by simpa using hb
    subst e
    obtain ⟨o, e, c, d⟩ := st
    exact ⟨o, e, fun v z => by rw [d] at z; cases z⟩
  keep := fun i h h' st k => st.at fun o e => k it (by simp) o e
  item := by
    intro X hP hw hK hc i pins s σ H E I hf st hg
    subst hP hw hK
    obtain ⟨xs, x, hq, hx⟩ := hg
    obtain ⟨its, rv, p, hz⟩ := I.list hq
    obtain ⟨u, hu, ru⟩ := rv.get hx
    obtain ⟨f0, f1, f2, f3, f4, f5⟩ := hf it (by simp)
    refine wpAny_pyNext_list_item st p.isList (x := u) (by simpa using hu) fun h' st' sb => ?_
    have I1 : Inv X pins σ H { s with heap := h' } := I.turned (t' := s.toks) (fun b o hb e => (sb.2 b hb).trans e) f0 f1 f3 f4 f5
    obtain ⟨o, e, c, d⟩ := id st'
    exact ⟨u, rfl, go_of (s := { s with heap := h' }) e c d (by decide) ⟨x, H, I1, ru, ⟨rfl, fun ys hy => by rw [I.list_inj hy hq]; exact hx⟩, st', fun b hb => (hf b hb).1⟩⟩
  done := by
    intro X hP hw hK hc i pins s σ H E I hf st hg
    subst hP hw hK
    obtain ⟨xs, hq, hx⟩ := hg
    obtain ⟨its, rv, p, hz⟩ := I.list hq
    obtain ⟨f0, f1, f2, f3, f4, f5⟩ := hf it (by simp)
    have hl := rv.length
    exact wpAny_pyNext_list_end (I.ok.hd hc) st p.isList (by simp; omega) fun h' eb => ⟨rfl, I.turned (t' := s.toks) (fun b o hb e => eb b o hb e) f0 f1 f3 f4 f5⟩
  self := fun _ _ _ _ _ st h => wpAny_pyIter_listiter st h
theorem turn_range {P : Program} {w : World} {K : PySem.W.Frag} {tg : Expr} (it : Addr) (lo : Int) (n : Nat) : Turn P w K tg (Itr lo n) [it] it (fun i h => IsRangeIter h it (lo + (i : Nat) * 1) ((n : Int) - (i : Nat)) 1) where
  mem := by simp
  obj := fun i h st b hb => by
    have e : b = it := by simpa using hb
    subst e
    exact ⟨_, st, fun v z => by
      have z' : Data.fields _ = Data.cell v := z
      cases z'⟩
  keep := fun i h h' st k => k it (by simp) _ st
  item := by
    intro X hP hw hK hc i pins s σ H E I hf st hg
    subst hP hw hK
    obtain ⟨f0, f1, f2, f3, f4, f5⟩ := hf it (by simp)
    have W := Walks.range (prog := X.prog) (w := X.w) (I.ok.hd hc) it lo 1 n
    refine W.item i s _ _ hg st fun v h' tk hv st' kk => ?_
    obtain ⟨t, rfl⟩ := hv
    have I1 : Inv X pins σ H { s with heap := h', toks := tk } := I.turned (fun b o hb e => kk b o (by simpa using hb) e) f0 f1 f3 f4 f5
    refine ⟨_, rfl, go_of (s := { s with heap := h', toks := tk }) (n := "range_iterator") st' rfl rfl (by decide) ⟨.int (lo + i), H, I1, ⟨t, ?_⟩, ⟨rfl, rfl⟩, st', fun b hb => (hf b hb).1⟩⟩
    rw [Int.mul_one]
  done := by
    intro X hP hw hK hc i pins s σ H E I hf st hg
    subst hP hw hK
    obtain ⟨f0, f1, f2, f3, f4, f5⟩ := hf it (by simp)
    exact wpAny_pyNext_range_end (I.ok.hd hc) st (by have : n ≤ i := hg; omega) fun h' eb => ⟨rfl, I.turned (t' := s.toks) (fun b o hb e => eb b o hb e) f0 f1 f3 f4 f5⟩
  self := fun _ _ _ _ _ st h => wpAny_pyIter_rangeiter st h
end L2
namespace L2
open PySem PySem.Spec PyProof.Rows
section
variable {X : Cx} {tg : Expr}
def iList (K : PySem.W.Frag) (tl : TE) : TI := fun σ H R => tl σ H fun x H1 => ∃ a, x = .ref a ∧ (∃ xs, SqL K H1 a xs) ∧ R (Itl K a) H1
theorem pi_list {l : Expr} {tl : TE} (hl : PE X l tl) : PI X tg l (iList X.K tl) := by
  intro pins s σ H R I h
  refine thn (hl pins s σ H _ I h) fun v s1 ⟨x, H1, I1, r1, q1⟩ => ?_
  obtain ⟨a, e, ⟨xs, hq⟩, q⟩ := q1
  subst e
  cases r1
  obtain ⟨its, rv, p, hz⟩ := I1.list hq
  refine wpAny_pyIter_list p.isList ?_
  refine ⟨s1.heap.objs.size, [s1.heap.objs.size], _, _, H1, rfl, I1.kept (t' := s1.toks) fun b o e => Heap.get?_push_of_some _ e, turn_list a _, ⟨_, Heap.get?_push_size _ rfl, rfl, rfl⟩, fun b hb => ?_, q⟩
  have e : b = s1.heap.objs.size := by simpa using hb
  subst e
  exact I1.fpOk (Nat.le_refl _) (I1.hok.fresh (Nat.le_refl _))
theorem range_it {pins : List (Addr × Obj)} {σ : St} {H : Hp} {s : Shared} {R : It → Hp → Prop} {E : Value → Shared → Prop} {lo hi : Int} {t u v : Tok} {tk : Nat} (I : Inv X pins σ H s) (h1 : -(2 ^ 62) ≤ lo) (h2 : lo < 2 ^ 62) (h3 : -(2 ^ 62) ≤ hi) (h4 : hi < 2 ^ 62)
    (q : R (Itr lo (hi - lo).toNat) H) : wpAny (model X.prog X.w) X.A (pyIter (.ref s.heap.objs.size)) (PIE X pins σ tg R) E { s with heap := s.heap.push { cls := .type "range", data := .fields #[.int lo t, .int hi u, .int 1 v] }, toks := tk } := by
  refine wpAny_pyIter_range (IsRange.new ..) (small_one h1 h2 h3 h4) ?_
  have I1 : Inv X pins σ H { s with heap := s.heap.push { cls := .type "range", data := .fields #[.int lo t, .int hi u, .int 1 v] }, toks := tk } := I.kept fun b o e => Heap.get?_push_of_some _ e
  refine ⟨(s.heap.push { cls := .type "range", data := .fields #[.int lo t, .int hi u, .int 1 v] }).objs.size, [(s.heap.push { cls := .type "range", data := .fields #[.int lo t, .int hi u, .int 1 v] }).objs.size], _, _, H, rfl,
    I1.kept (t' := tk) fun b o e => Heap.get?_push_of_some _ e, turn_range _ lo (hi - lo).toNat, ?_, fun b hb => ?_, q⟩
  · have e1 : lo + ((0 : Nat) : Int) * 1 = lo := by simp
    have e2 : (((hi - lo).toNat : Nat) : Int) - ((0 : Nat) : Int) = Builtin.Range.rangeSize lo hi 1 := by rw [rangeSize_one]; split <;> omega
    show IsRangeIter _ _ (lo + ((0 : Nat) : Int) * 1) ((((hi - lo).toNat : Nat) : Int) - ((0 : Nat) : Int)) 1
    rw [e1, e2]
    exact Heap.get?_push_size _ rfl
  · have e : b = (s.heap.push { cls := .type "range", data := .fields #[.int lo t, .int hi u, .int 1 v] }).objs.size := by simpa using hb
    subst e
    exact I1.fpOk (Nat.le_refl _) (I1.hok.fresh (Nat.le_refl _))
def iRng1 (ta : TA) : TI := fun σ H R => ta σ H fun vs H1 => ∃ j : Int, vs = [.int j] ∧ -(2 ^ 62) ≤ j ∧ j < 2 ^ 62 ∧ R (Itr 0 j.toNat) H1
def iRng2 (ta : TA) : TI := fun σ H R => ta σ H fun vs H1 => ∃ i j : Int, vs = [.int i, .int j] ∧ (-(2 ^ 62) ≤ i ∧ i < 2 ^ 62 ∧ -(2 ^ 62) ≤ j ∧ j < 2 ^ 62) ∧ R (Itr i (j - i).toNat) H1
theorem pi_range1 {a : Expr} {ta : TA} {p pos : Pos} (hg : Gl X "range") (hm : X.mg "range" = none) (ha : PA X [a] ta) (hs : starEach [a] X.env = [(false, eval a X.env)] := by rfl) : PI X tg (.Call (.Name "range" p) [a] [] pos) (iRng1 ta) := by
  intro pins s σ H R I h
  refine Call_ (ld_blt I hg hm boot_range (PyProof.Rows.callWith_type1 (thn (ha pos pins s σ H _ I h) fun us s1 ⟨vs, H1, I1, r1, q1⟩ => ?_) hs rfl))
  obtain ⟨j, e, q1, q2, q⟩ := q1
  subst e
  cases r1 with
  | cons r rr =>
    cases rr
    obtain ⟨t, rfl⟩ := r
    exact call_range_1 (range_it I1 (by omega) (by omega) q1 q2 (by simpa using q))
theorem pi_range2 {a b : Expr} {ta : TA} {p pos : Pos} (hg : Gl X "range") (hm : X.mg "range" = none) (ha : PA X [a, b] ta) (hs : starEach [a, b] X.env = [(false, eval a X.env), (false, eval b X.env)] := by rfl) (hs2 : starEach [b] X.env = [(false, eval b X.env)] := by rfl) :
    PI X tg (.Call (.Name "range" p) [a, b] [] pos) (iRng2 ta) := by
  intro pins s σ H R I h
  refine Call_ (ld_blt I hg hm boot_range (PyProof.Rows.callWith_type1 (thn (ha pos pins s σ H _ I h) fun us s1 ⟨vs, H1, I1, r1, q1⟩ => ?_) (by rw [hs, hs2]) (by rw [hs2]; rfl)))
  obtain ⟨i, j, e, ⟨q1, q2, q3, q4⟩, q⟩ := q1
  subst e
  cases r1 with
  | cons r rr =>
    cases rr with
    | cons r' rr =>
      cases rr
      obtain ⟨t, rfl⟩ := r
      obtain ⟨t', rfl⟩ := r'
      exact call_range_2 (range_it I1 q1 q2 q3 q4 q)
def tFor (wi : TI) (g : TG) (tb : TS) : TS := fun D σ H => wi σ H fun J H1 => ∃ W : Nat → Nat → St → Hp → Prop, (∃ m, W 0 m σ H1) ∧ ∀ i m σ H, W i m σ H →
  (J.stop i H ∧ D.nx σ H) ∨ (J.go i H ∧ ∃ N : St → Hp → Prop, (∀ σ' H', N σ' H' → ∃ m', m' < m ∧ W (i + 1) m' σ' H') ∧ ∀ x H', J.yld i H x H' → g x σ H' fun σ2 H2 => tb { D with nx := N, ct := N, bk := D.nx } σ2 H2)
def pinsAt (fp : List Addr) (h : Heap) : List (Addr × Obj) := fp.filterMap fun b => (h.get? b).map fun o => (b, o)
theorem mem_pinsAt {fp : List Addr} {h : Heap} {b : Addr} {o : Obj} (hb : b ∈ fp) (e : h.get? b = some o) : (b, o) ∈ pinsAt fp h := List.mem_filterMap.mpr ⟨b, hb, by rw [e]; rfl⟩
theorem of_pinsAt {fp : List Addr} {h : Heap} {p : Addr × Obj} (hp : p ∈ pinsAt fp h) : p.1 ∈ fp ∧ h.get? p.1 = some p.2 := by
  obtain ⟨b, hb, e⟩ := List.mem_filterMap.mp hp
  cases q : h.get? b with
  | none => rw [q] at e; cases e
  | some o =>
    rw [q] at e
    have e' : (b, o) = p := Option.some.inj e
    subst e'
    exact ⟨hb, q⟩
theorem Inv.pinned {pins : List (Addr × Obj)} {σ : St} {H : Hp} {s : Shared} {fp : List Addr} (I : Inv X pins σ H s) (hf : ∀ b ∈ fp, FpOk X pins H b) (ho : ∀ b ∈ fp, ∃ o, s.heap.get? b = some o ∧ ∀ v, o.data ≠ .cell v) : Inv X (pins ++ pinsAt fp s.heap) σ H s :=
  I.pins_of fun p hp => (List.mem_append.mp hp).elim (fun z => I.pin p (List.mem_append_right _ z)) fun z => by
    obtain ⟨hb, e⟩ := of_pinsAt z
    obtain ⟨f0, f1, f2, _⟩ := hf p.1 hb
    obtain ⟨o, e', d⟩ := ho p.1 hb
    rw [e] at e'; cases e'
    exact ⟨e, f0, f1, f2, d⟩
theorem Inv.unpinned {pins pl : List (Addr × Obj)} {σ : St} {H : Hp} {s : Shared} (I : Inv X (pins ++ pl) σ H s) : Inv X pins σ H s := I.pins_of fun p hp => I.pin p (List.mem_append_right _ (List.mem_append_left _ hp))
theorem ps_for {iter : Expr} {body : List Stmt} {wi : TI} {g : TG} {tb : TS} {pos : Pos} (hp : PassesOwn (model X.prog X.w) X.A X.env X.xe) (hc : X.calm = true) (hi : PI X tg iter wi) (hg : PG X tg g) (hb : PSs X body tb)
    (hs : ∀ x, foldedSetIterable iter X.env x = pure x := by intro _; rfl) : PS X (.For tg iter body [] pos) (tFor wi g tb) := by
  intro pins s σ H D I h
  refine wpAny_For (thn (hi pins s σ H _ I h) fun v s1 h1 => thn h1 fun itv s2 h2 => ?_) hs
  obtain ⟨it, fp, tn, J, H2, e, I2, T, st2, f2, W, ⟨m0, w0⟩, turn⟩ := h2
  subst e
  -- what stays true of the iterator's objects through the loop
  have stat : ∀ {H' : Hp}, (∀ b ∈ fp, H' b = none) → ∀ b ∈ fp, FpOk X pins H' b := fun hn b hb => ⟨hn b hb, (f2 b hb).2⟩
  refine codeAny_forLoop_any (fun n s' => ∃ i σ' H', Inv X pins σ' H' s' ∧ tn i s'.heap ∧ (∀ b ∈ fp, H' b = none) ∧ W i n σ' H') ?_ m0 ⟨0, σ, H2, I2, st2, fun b hb => (f2 b hb).1, w0⟩
  rintro n s3 ⟨i, σ3, H3, I3, st3, fr3, w3⟩
  rcases turn i n σ3 H3 w3 with ⟨stop, qn⟩ | ⟨go, N, hN, step⟩
  · refine wpAny_passesOwn hp (thn (T.done X rfl rfl rfl hc i pins s3 σ3 H3 X.xe I3 (stat fr3) st3 stop) fun r s4 ⟨hr, I4⟩ => ?_)
    subst hr
    exact wpAny_execs_nil ⟨σ3, H3, I4, qn⟩
  · refine wpAny_passesOwn hp (thn (T.item X rfl rfl rfl hc i pins s3 σ3 H3 X.xe I3 (stat fr3) st3 go) fun r s4 ⟨u, hr, h4⟩ => ?_)
    subst hr
    refine wpAny_passesOwn hp (thn h4 fun _ s5 ⟨x, H5, I5, r5, y5, st5, fr5⟩ => ?_)
    have I5' := I5.pinned (stat fr5) (T.obj _ _ st5)
    refine wpAny_passesOwn hp (thn (hg _ s5 σ3 H5 x u _ I5' r5 (step x H5 y5)) fun _ s6 ⟨σ6, H6, I6, q6⟩ => ?_)
    refine wpAny_passesOwn hp (thn (hb _ s6 σ6 H6 _ I6 q6) fun f s7 q7 => ?_)
    have again : ∀ {σ7 : St} {H7 : Hp}, Inv X (pins ++ pinsAt fp s5.heap) σ7 H7 s7 → N σ7 H7 → ∃ m, m < n ∧ ∃ i σ' H', Inv X pins σ' H' s7 ∧ tn i s7.heap ∧ (∀ b ∈ fp, H' b = none) ∧ W i m σ' H' := fun {σ7 H7} I7 n7 => by
      obtain ⟨m', hm, w7⟩ := hN σ7 H7 n7
      refine ⟨m', hm, i + 1, σ7, H7, I7.unpinned, T.keep _ _ _ st5 fun b hb o e => (I7.pin (b, o) (List.mem_append_right _ (List.mem_append_right _ (mem_pinsAt hb e)))).1, fun b hb => ?_, w7⟩
      obtain ⟨o, e, d⟩ := T.obj _ _ st5 b hb
      exact (I7.pin (b, o) (List.mem_append_right _ (List.mem_append_right _ (mem_pinsAt hb e)))).2.1
    cases f with
    | next => obtain ⟨σ7, H7, I7, n7⟩ := q7; exact again I7 n7
    | cont => obtain ⟨σ7, H7, I7, n7⟩ := q7; exact again I7 n7
    | brk => obtain ⟨σ7, H7, I7, q7⟩ := q7; exact ⟨σ7, H7, I7.unpinned, q7⟩
    | ret v => obtain ⟨x7, σ7, H7, I7, r7, q7⟩ := q7; exact ⟨x7, σ7, H7, I7.unpinned, r7, q7⟩
end
theorem for_list {K : PySem.W.Frag} {a : Addr} {xs : List V} {g : TG} {tb : TS} {D : Ends} {σ : St} {H : Hp} (Pv : Nat → St → Hp → Prop) (h0 : Pv 0 σ H) (hl : ∀ i σ H, i ≤ xs.length → Pv i σ H → SqL K H a xs)
    (hs : ∀ i x σ H, xs[i]? = some x → Pv i σ H → g x σ H fun σ2 H2 => tb { D with nx := Pv (i + 1), ct := Pv (i + 1), bk := D.nx } σ2 H2) (hd : ∀ σ H, Pv xs.length σ H → D.nx σ H) :
    ∃ W : Nat → Nat → St → Hp → Prop, (∃ m, W 0 m σ H) ∧ ∀ i m σ H, W i m σ H →
      ((Itl K a).stop i H ∧ D.nx σ H) ∨ ((Itl K a).go i H ∧ ∃ N : St → Hp → Prop, (∀ σ' H', N σ' H' → ∃ m', m' < m ∧ W (i + 1) m' σ' H') ∧ ∀ x H', (Itl K a).yld i H x H' → g x σ H' fun σ2 H2 => tb { D with nx := N, ct := N, bk := D.nx } σ2 H2) := by
  refine ⟨fun i m σ H => m = xs.length - i ∧ i ≤ xs.length ∧ Pv i σ H, ⟨xs.length, by simp, Nat.zero_le _, h0⟩, ?_⟩
  rintro i m σ H ⟨rfl, hi, p⟩
  have q := hl i σ H hi p
  by_cases hlt : i < xs.length
  · refine .inr ⟨⟨xs, xs[i], q, by simp [hlt]⟩, Pv (i + 1), fun σ' H' p' => ⟨xs.length - (i + 1), by omega, rfl, hlt, p'⟩, fun x H' y => ?_⟩
    obtain ⟨e, y⟩ := y
    subst e
    exact hs i x σ _ (y xs q) p
  · have e : i = xs.length := by omega
    subst e
    exact .inl ⟨⟨xs, q, Nat.le_refl _⟩, hd σ H p⟩
theorem for_range {lo : Int} {n : Nat} {g : TG} {tb : TS} {D : Ends} {σ : St} {H : Hp} (Pv : Nat → St → Hp → Prop) (h0 : Pv 0 σ H)
    (hs : ∀ i σ H, i < n → Pv i σ H → g (.int (lo + i)) σ H fun σ2 H2 => tb { D with nx := Pv (i + 1), ct := Pv (i + 1), bk := D.nx } σ2 H2) (hd : ∀ σ H, Pv n σ H → D.nx σ H) :
    ∃ W : Nat → Nat → St → Hp → Prop, (∃ m, W 0 m σ H) ∧ ∀ i m σ H, W i m σ H →
      ((Itr lo n).stop i H ∧ D.nx σ H) ∨ ((Itr lo n).go i H ∧ ∃ N : St → Hp → Prop, (∀ σ' H', N σ' H' → ∃ m', m' < m ∧ W (i + 1) m' σ' H') ∧ ∀ x H', (Itr lo n).yld i H x H' → g x σ H' fun σ2 H2 => tb { D with nx := N, ct := N, bk := D.nx } σ2 H2) := by
  refine ⟨fun i m σ H => m = n - i ∧ i ≤ n ∧ Pv i σ H, ⟨n, by simp, Nat.zero_le _, h0⟩, ?_⟩
  rintro i m σ H ⟨rfl, hi, p⟩
  by_cases hlt : i < n
  · refine .inr ⟨hlt, Pv (i + 1), fun σ' H' p' => ⟨n - (i + 1), by omega, rfl, hlt, p'⟩, fun x H' y => ?_⟩
    obtain ⟨e, y⟩ := y
    subst e y
    exact hs i σ _ hlt p
  · have e : i = n := by omega
    subst e
    exact .inl ⟨Nat.le_refl _, hd σ H p⟩
end L2
namespace L2
open PySem PySem.Spec PyProof.Rows
abbrev R2 := V → V → Hp → VK → Prop
def OpR (X : Cx) (f : Value → Value → Sem Value) (r : R2) : Prop :=
  ∀ (pins : List (Addr × Obj)) (s : Shared) (σ : St) (H : Hp) (x y : V) (v u : Value) (Q : VK), Inv X pins σ H s → RelV x v → RelV y u → r x y H Q →
    wpAny (model X.prog X.w) X.A (f v u) (EP X pins σ Q) X.xe s
def UnR (X : Cx) (f : Value → Sem Value) (r : V → Hp → VK → Prop) : Prop :=
  ∀ (pins : List (Addr × Obj)) (s : Shared) (σ : St) (H : Hp) (x : V) (v : Value) (Q : VK), Inv X pins σ H s → RelV x v → r x H Q →
    wpAny (model X.prog X.w) X.A (f v) (EP X pins σ Q) X.xe s
def CallR (X : Cx) (f : Value) (r : List V → Hp → VK → Prop) : Prop :=
  ∀ (pins : List (Addr × Obj)) (s : Shared) (σ : St) (H : Hp) (xs : List V) (us : List Value) (Q : VK), Inv X pins σ H s → Vals xs us → r xs H Q →
    wpAny (model X.prog X.w) X.A (call f us) (EP X pins σ Q) X.xe s
def tOp (r : R2) (ta tb : TE) : TE := fun σ H Q => ta σ H fun x H1 => tb σ H1 fun y H2 => r x y H2 Q
def tUn (r : V → Hp → VK → Prop) (ta : TE) : TE := fun σ H Q => ta σ H fun x H1 => r x H1 Q
def rI (C : Int → Int → Prop) (g : Int → Int → V) : R2 := fun x y H Q => ∃ i j, x = .int i ∧ y = .int j ∧ C i j ∧ Q (g i j) H
def rI0 (g : Int → Int → V) : R2 := fun x y H Q => ∃ i j, x = .int i ∧ y = .int j ∧ Q (g i j) H
def rU (g : Int → V) : V → Hp → VK → Prop := fun x H Q => ∃ i, x = .int i ∧ Q (g i) H
section
variable {X : Cx} {a b c : Expr} {ta tb tc : TE} {pos : Pos}
theorem binT (ha : PE X a ta) (hb : PE X b tb) {pins : List (Addr × Obj)} {s : Shared} {σ : St} {H : Hp} {R : V → V → Hp → Prop} (I : Inv X pins σ H s)
    (h : ta σ H fun x H1 => tb σ H1 fun y H2 => R x y H2) {Q : Value → Shared → Prop} {f : Value → Value → Sem Value}
    (hf : ∀ v u s2 x y H2, Inv X pins σ H2 s2 → RelV x v → RelV y u → R x y H2 → wpAny (model X.prog X.w) X.A (f v u) Q X.xe s2) :
    wpAny (model X.prog X.w) X.A (eval a X.env) (fun v s₁ => wpAny (model X.prog X.w) X.A (eval b X.env) (fun u s₂ => wpAny (model X.prog X.w) X.A (f v u) Q X.xe s₂) X.xe s₁) X.xe s := by
  refine thn (ha pins s σ H _ I h) fun v s1 ⟨x, H1, I1, r1, q1⟩ => ?_
  refine thn (hb pins s1 σ H1 _ I1 q1) fun u s2 ⟨y, H2, I2, r2, q2⟩ => ?_
  exact hf v u s2 x y H2 I2 r1 r2 q2
theorem pe_op {op : Operator} {r : R2} (ho : OpR X (binaryOp op) r) (ha : PE X a ta) (hb : PE X b tb) : PE X (.BinOp a op b pos) (tOp r ta tb) := by
  intro pins s σ H Q I h
  exact wpAny_BinOp (binT ha hb I h fun v u s2 x y H2 I2 rx ry q => ho pins s2 σ H2 x y v u Q I2 rx ry q)
theorem pe_un {op : UnaryOp} {r : V → Hp → VK → Prop} (ho : UnR X (unaryOp op) r) (ha : PE X a ta) : PE X (.UnaryOp op a pos) (tUn r ta) := by
  intro pins s σ H Q I h
  exact UnaryOp_ (thn (ha pins s σ H _ I h) fun v s1 ⟨x, H1, I1, r1, q1⟩ => ho pins s1 σ H1 x v Q I1 r1 q1)
theorem opI {f : Value → Value → Sem Value} {C : Int → Int → Prop} {g : Int → Int → Int}
    (rule : ∀ (i j : Int) (t u : Tok) (s : Shared) (Q : Value → Shared → Prop) (E : Value → Shared → Prop), C i j → Q (.int (g i j) s.toks) { s with toks := s.toks + 1 } → wpAny (model X.prog X.w) X.A (f (.int i t) (.int j u)) Q E s) :
    OpR X f (rI C fun i j => .int (g i j)) := by
  intro pins s σ H x y v u Q I rx ry h
  obtain ⟨i, j, rfl, rfl, hc, q⟩ := h
  obtain ⟨t, rfl⟩ := rx
  obtain ⟨t', rfl⟩ := ry
  exact rule i j t t' s _ _ hc ⟨.int (g i j), H, I.tok _, ⟨_, rfl⟩, q⟩
theorem opI0 {f : Value → Value → Sem Value} {g : Int → Int → Int}
    (rule : ∀ (i j : Int) (t u : Tok) (s : Shared) (Q : Value → Shared → Prop) (E : Value → Shared → Prop), Q (.int (g i j) s.toks) { s with toks := s.toks + 1 } → wpAny (model X.prog X.w) X.A (f (.int i t) (.int j u)) Q E s) :
    OpR X f (rI0 fun i j => .int (g i j)) := by
  intro pins s σ H x y v u Q I rx ry h
  obtain ⟨i, j, rfl, rfl, q⟩ := h
  obtain ⟨t, rfl⟩ := rx
  obtain ⟨t', rfl⟩ := ry
  exact rule i j t t' s _ _ ⟨.int (g i j), H, I.tok _, ⟨_, rfl⟩, q⟩
theorem opB0 {f : Value → Value → Sem Value} {g : Int → Int → Bool}
    (rule : ∀ (i j : Int) (t u : Tok) (s : Shared) (Q : Value → Shared → Prop) (E : Value → Shared → Prop), Q (.bool (g i j)) s → wpAny (model X.prog X.w) X.A (f (.int i t) (.int j u)) Q E s) :
    OpR X f (rI0 fun i j => .bl (g i j)) := by
  intro pins s σ H x y v u Q I rx ry h
  obtain ⟨i, j, rfl, rfl, q⟩ := h
  obtain ⟨t, rfl⟩ := rx
  obtain ⟨t', rfl⟩ := ry
  exact rule i j t t' s _ _ ⟨.bl (g i j), H, I, rfl, q⟩
def CDiv (i j : Int) : Prop := 0 < j ∧ j < 1073741824
def CPow (i j : Int) : Prop := 0 ≤ j ∧ j ≤ 1000000 ∧ i.natAbs < 2 ^ 64
def CMul (i j : Int) : Prop := (-(2 ^ 64) < i ∧ i < 2 ^ 64) ∨ (-(2 ^ 64) < j ∧ j < 2 ^ 64)
theorem CMul.ok {i j : Int} (h : CMul i j) : IntMulOk i j := by
  rcases h with ⟨h1, h2⟩ | ⟨h1, h2⟩
  · exact .of_left (intBits_le_64 h1 h2)
  · exact .of_right (intBits_le_64 h1 h2)
theorem two_pow_nn (k : Nat) : (0 : Int) ≤ 2 ^ k := by
  rw [two_pow_cast]
  exact Int.natCast_nonneg _
theorem op_add : OpR X (binaryOp .Add) (rI0 fun i j => .int (i + j)) := opI0 fun _ _ _ _ _ _ _ q => add_int q
theorem op_sub : OpR X (binaryOp .Sub) (rI0 fun i j => .int (i - j)) := opI0 fun _ _ _ _ _ _ _ q => sub_int q
theorem op_mul : OpR X (binaryOp .Mult) (rI CMul fun i j => .int (i * j)) := opI fun _ _ _ _ _ _ _ hc q => mul_int q hc.ok
theorem op_fdiv : OpR X (binaryOp .FloorDiv) (rI CDiv fun i j => .int (i / j)) := opI fun i j _ _ _ _ _ hc q => by
  have h1 : (0 : Int) < j := hc.1
  have h2 : j < 1073741824 := hc.2
  exact floordiv_int (by omega) (by rw [Int.fdiv_eq_ediv_of_nonneg i (by omega)]; exact q) (.inl (PyProof.noPylong_small (by omega)))
theorem op_shl : OpR X (binaryOp .LShift) (rI CPow fun i j => .int (i * 2 ^ j.toNat)) := opI fun _ _ _ _ _ _ _ hc q => lshift_int_small hc.1 hc.2.1 hc.2.2 q
theorem op_shr : OpR X (binaryOp .RShift) (rI (fun _ j => 0 ≤ j) fun i j => .int (i / 2 ^ j.toNat)) := opI fun i j _ _ _ _ _ hc q =>
  rshift_int hc (by rw [Int.fdiv_eq_ediv_of_nonneg i (two_pow_nn _)]; exact q)
theorem op_and : OpR X (binaryOp .BitAnd) (rI0 fun i j => .int (Builtin.bitAnd i j)) := opI0 fun _ _ _ _ _ _ _ q => and_int q
theorem op_or : OpR X (binaryOp .BitOr) (rI0 fun i j => .int (Builtin.bitOr i j)) := opI0 fun _ _ _ _ _ _ _ q => or_int q
theorem op_xor : OpR X (binaryOp .BitXor) (rI0 fun i j => .int (Builtin.bitXor i j)) := opI0 fun _ _ _ _ _ _ _ q => xor_int q
theorem unI {f : Value → Sem Value} {g : Int → Int}
    (rule : ∀ (i : Int) (t : Tok) (s : Shared) (Q : Value → Shared → Prop) (E : Value → Shared → Prop), Q (.int (g i) s.toks) { s with toks := s.toks + 1 } → wpAny (model X.prog X.w) X.A (f (.int i t)) Q E s) :
    UnR X f (rU fun i => .int (g i)) := by
  intro pins s σ H x v Q I rx h
  obtain ⟨i, rfl, q⟩ := h
  obtain ⟨t, rfl⟩ := rx
  exact rule i t s _ _ ⟨.int (g i), H, I.tok _, ⟨_, rfl⟩, q⟩
theorem un_neg : UnR X (unaryOp .USub) (rU fun i => .int (-i)) := unI fun _ _ _ _ _ q => neg_int q
end
def scal : V → V → Bool
  | .non, .non => true | .non, .int _ => true | .int _, .non => true | .non, .bl _ => true | .bl _, .non => true | .non, .str _ => true | .str _, .non => true
  | .int _, .int _ => true | .bl _, .bl _ => true | .str _, .str _ => true | .byt _, .byt _ => true
  | .int _, .str _ => true | .str _, .int _ => true | .bl _, .str _ => true | .str _, .bl _ => true
  | _, _ => false
def rEq : R2 := fun x y H Q => scal x y = true ∧ Q (.bl (decide (x = y))) H
def rNe : R2 := fun x y H Q => scal x y = true ∧ Q (.bl (!decide (x = y))) H
theorem dec_int {i j : Int} : decide (V.int i = V.int j) = (i == j) := by
  rw [Bool.eq_iff_iff]
  simp
theorem dec_bl {i j : Bool} : decide (V.bl i = V.bl j) = (i == j) := by
  rw [Bool.eq_iff_iff]
  simp
theorem dec_str {i j : Str} : decide (V.str i = V.str j) = (i == j) := by
  rw [Bool.eq_iff_iff]
  simp
theorem dec_byt {i j : Array UInt8} : decide (V.byt i = V.byt j) = (i.toList == j.toList) := by
  rw [Bool.eq_iff_iff]
  cases i
  cases j
  simp
section
variable {X : Cx} {a b c : Expr} {ta tb tc : TE} {pos : Pos}
theorem fin_bl {pins : List (Addr × Obj)} {σ : St} {H : Hp} {s : Shared} {Q : VK} {k k' : Bool} (I : Inv X pins σ H s) (q : Q (.bl k) H) (e : k = k') : EP X pins σ Q (.bool k') s := by
  subst e
  exact ⟨.bl k, H, I, rfl, q⟩
theorem op_eq : OpR X (compareOp .Eq) rEq := by
  intro pins s σ H x y v u Q I rx ry h
  obtain ⟨hs, q⟩ := h
  cases x with
  | non =>
    cases rx
    cases y with
    | non => cases ry; exact PySem.EqNone.eq_none_none (fin_bl I q (by simp))
    | bl j => cases ry; exact PySem.EqNone.eq_none_bool (fin_bl I q (by simp))
    | int j => obtain ⟨t', rfl⟩ := ry; exact PySem.EqNone.eq_none_int (fin_bl I q (by simp))
    | str j => obtain ⟨t', rfl⟩ := ry; exact PySem.EqNone.eq_none_str (fin_bl I q (by simp))
    | _ => exact absurd (show false = true from hs) Bool.false_ne_true
  | bl i =>
    cases rx
    cases y with
    | non => cases ry; exact PySem.EqNone.eq_bool_none (fin_bl I q (by simp))
    | bl j => cases ry; exact eq_bool (fin_bl I q dec_bl)
    | str j => obtain ⟨t', rfl⟩ := ry; exact PySem.EqMixed.eq_bool_str (fin_bl I q (by simp))
    | _ => exact absurd (show false = true from hs) Bool.false_ne_true
  | int i =>
    obtain ⟨t, rfl⟩ := rx
    cases y with
    | non => cases ry; exact PySem.EqNone.eq_int_none (fin_bl I q (by simp))
    | int j => obtain ⟨t', rfl⟩ := ry; exact eq_int (fin_bl I q dec_int)
    | str j => obtain ⟨t', rfl⟩ := ry; exact PySem.EqMixed.eq_int_str (fin_bl I q (by simp))
    | _ => exact absurd (show false = true from hs) Bool.false_ne_true
  | str i =>
    obtain ⟨t, rfl⟩ := rx
    cases y with
    | non => cases ry; exact PySem.EqNone.eq_str_none (fin_bl I q (by simp))
    | bl j => cases ry; exact PySem.EqMixed.eq_str_bool (fin_bl I q (by simp))
    | int j => obtain ⟨t', rfl⟩ := ry; exact PySem.EqMixed.eq_str_int (fin_bl I q (by simp))
    | str j => obtain ⟨t', rfl⟩ := ry; exact eq_str (fin_bl I q dec_str)
    | _ => exact absurd (show false = true from hs) Bool.false_ne_true
  | byt i =>
    obtain ⟨t, rfl⟩ := rx
    cases y with
    | byt j => obtain ⟨t', rfl⟩ := ry; exact PySem.W.eq_bytes (fin_bl I q dec_byt)
    | _ => exact absurd (show false = true from hs) Bool.false_ne_true
  | _ => cases y <;> exact absurd (show false = true from hs) Bool.false_ne_true
theorem op_ne : OpR X (compareOp .NotEq) rNe := by
  intro pins s σ H x y v u Q I rx ry h
  obtain ⟨hs, q⟩ := h
  cases x with
  | non =>
    cases rx
    cases y with
    | non => cases ry; exact PySem.EqNone.ne_none_none (fin_bl I q (by simp))
    | bl j => cases ry; exact PySem.EqNone.ne_none_bool (fin_bl I q (by simp))
    | int j => obtain ⟨t', rfl⟩ := ry; exact PySem.EqNone.ne_none_int (fin_bl I q (by simp))
    | str j => obtain ⟨t', rfl⟩ := ry; exact PySem.EqNone.ne_none_str (fin_bl I q (by simp))
    | _ => exact absurd (show false = true from hs) Bool.false_ne_true
  | bl i =>
    cases rx
    cases y with
    | non => cases ry; exact PySem.EqNone.ne_bool_none (fin_bl I q (by simp))
    | bl j => cases ry; exact ne_bool (fin_bl I q (congrArg not dec_bl))
    | str j => obtain ⟨t', rfl⟩ := ry; exact PySem.EqMixed.ne_bool_str (fin_bl I q (by simp))
    | _ => exact absurd (show false = true from hs) Bool.false_ne_true
  | int i =>
    obtain ⟨t, rfl⟩ := rx
    cases y with
    | non => cases ry; exact PySem.EqNone.ne_int_none (fin_bl I q (by simp))
    | int j => obtain ⟨t', rfl⟩ := ry; exact ne_int (fin_bl I q (congrArg not dec_int))
    | str j => obtain ⟨t', rfl⟩ := ry; exact PySem.EqMixed.ne_int_str (fin_bl I q (by simp))
    | _ => exact absurd (show false = true from hs) Bool.false_ne_true
  | str i =>
    obtain ⟨t, rfl⟩ := rx
    cases y with
    | non => cases ry; exact PySem.EqNone.ne_str_none (fin_bl I q (by simp))
    | bl j => cases ry; exact PySem.EqMixed.ne_str_bool (fin_bl I q (by simp))
    | int j => obtain ⟨t', rfl⟩ := ry; exact PySem.EqMixed.ne_str_int (fin_bl I q (by simp))
    | str j => obtain ⟨t', rfl⟩ := ry; exact ne_str (fin_bl I q (congrArg not dec_str))
    | _ => exact absurd (show false = true from hs) Bool.false_ne_true
  | byt i =>
    obtain ⟨t, rfl⟩ := rx
    cases y with
    | byt j => obtain ⟨t', rfl⟩ := ry; exact PySem.W.ne_bytes (fin_bl I q (congrArg not dec_byt))
    | _ => exact absurd (show false = true from hs) Bool.false_ne_true
  | _ => cases y <;> exact absurd (show false = true from hs) Bool.false_ne_true
theorem op_lt : OpR X (compareOp .Lt) (rI0 fun i j => .bl (decide (i < j))) := opB0 fun _ _ _ _ _ _ _ q => lt_int q
theorem op_le : OpR X (compareOp .LtE) (rI0 fun i j => .bl (decide (i ≤ j))) := opB0 fun _ _ _ _ _ _ _ q => le_int q
theorem op_gt : OpR X (compareOp .Gt) (rI0 fun i j => .bl (decide (j < i))) := opB0 fun _ _ _ _ _ _ _ q => gt_int q
theorem op_ge : OpR X (compareOp .GtE) (rI0 fun i j => .bl (decide (j ≤ i))) := opB0 fun _ _ _ _ _ _ _ q => ge_int q
theorem nomark (b : Expr) {op : CmpOp} (h : op ≠ .In := by decide) (h2 : op ≠ .NotIn := by decide) : behindInMarks op b = false := by
  have e1 : (op == CmpOp.In) = false := by cases op <;> first | rfl | exact absurd rfl h
  have e2 : (op == CmpOp.NotIn) = false := by cases op <;> first | rfl | exact absurd rfl h2
  cases b <;> simp [behindInMarks, e1, e2]
theorem pe_cmpR {op : CmpOp} {r : R2} (ho : OpR X (compareOp op) r) (ha : PE X a ta) (hb : PE X b tb) (hm : behindInMarks op b = false) : PE X (.Compare a [op] [b] pos) (tOp r ta tb) := by
  intro pins s σ H Q I h
  exact wpAny_Compare1 (binT ha hb I h fun v u s2 x y H2 I2 rx ry q => ho pins s2 σ H2 x y v u Q I2 rx ry q) hm
def tTest (t : TE) : TT := fun σ H Q => t σ H fun x H' => ∃ k, x = .bl k ∧ Q k H'
theorem pt_cmpR {op : CmpOp} {r : R2} (ho : OpR X (compareOp op) r) (ha : PE X a ta) (hb : PE X b tb) (hm : behindInMarks op b = false) : PT X (.Compare a [op] [b] pos) (tTest (tOp r ta tb)) := by
  intro pins s σ H Q I h
  refine wpAny_isTrue_Compare1 (thn (ha pins s σ H _ I h) fun v s1 ⟨x, H1, I1, r1, q1⟩ => thn (hb pins s1 σ H1 _ I1 q1) fun u s2 ⟨y, H2, I2, r2, q2⟩ =>
    thn (ho pins s2 σ H2 x y v u _ I2 r1 r2 q2) fun c s3 ⟨z, H3, I3, r3, k, e, q3⟩ => ?_) hm
  subst e
  cases r3
  exact wpAny_truthy_bool ⟨H3, I3, q3⟩
theorem line63 : (sizeLine : Nat) < 2 ^ 63 := by rw [sizeLine_eq]; decide
theorem vals1 {x : V} {us : List Value} (r : Vals [x] us) : ∃ u, us = [u] ∧ RelV x u := by
  cases r with
  | cons r1 r2 => cases r2; exact ⟨_, rfl, r1⟩
end
end L2
namespace L2
open PySem PySem.Spec PyProof.Rows
structure ObjM (h : Heap) (x dx C : Addr) (mA : Str → Option Value) : Prop where
  obj : h.get? x = some (PySem.W.instObj C dx)
  ns : h.Ns1 dx mA
  ne : dx ≠ x
theorem lookIn_ns {h : Heap} {dx : Addr} {mA : Str → Option Value} (n : h.Ns1 dx mA) : ∃ od, h.get? dx = some od ∧ ∀ name, PySem.W.lookIn name od = some (mA name) := by
  obtain ⟨o, es, ep, ho, hd, hk, _, hm⟩ := n
  refine ⟨o, ho, fun name => ?_⟩
  have e := hm name
  unfold nsFind findBy at e
  rw [← Array.find?_toList] at e
  unfold PySem.W.lookIn
  rw [hd]
  dsimp only
  split
  · rename_i y q
    rw [q] at e
    exact congrArg some e
  · rename_i q
    rw [q] at e
    have a : es.toList.any (·.refKey) = false := by
      rw [List.any_eq_false]
      intro y hy
      obtain ⟨z, t, hkey⟩ := hk y (Array.mem_toList_iff.mp hy)
      simp [DictEntry.refKey, hkey]
    have a' : ¬ es.toList.any (·.refKey) = true := by rw [a]; exact Bool.false_ne_true
    rw [if_neg a']
    exact congrArg some e
theorem ObjM.look {h : Heap} {x dx C : Addr} {mA : Str → Option Value} (I : ObjM h x dx C mA) : ∃ od, PySem.W.InstAt h x (PySem.W.instObj C dx) C (some od) ∧ ∀ name, PySem.W.lookIn name od = some (mA name) :=
  let ⟨od, ho, hl⟩ := lookIn_ns I.ns
  ⟨od, ⟨I.obj, rfl, rfl, ho⟩, hl⟩
section
variable {prog : Program} {w : World} {A : Around} {E : Value → Shared → Prop} {s : Shared} {K : PySem.W.Frag} {x dx C f : Addr} {mA : Str → Option Value} {name : Str} {v : Value}
end
section
variable {P : Program} {w : World} {H H' : Hp} {h h' : Heap} {a C dx : Addr} {fs fs' : List (Str × V)}
end
structure Cls (K : PySem.W.Frag) (C : Addr) : Prop where
  pg : PySem.W.plainGet K C Str.empty = true
  hd : PySem.W.hasDictIn K C = true
  po : PySem.W.plainOver K C = true
  sa : PySem.W.findIn K (.ref C) "__setattr__" = some (some (.builtin "object.__setattr__"))
theorem Cls.get {K : PySem.W.Frag} {C : Addr} (c : Cls K C) (f : Str) : PySem.W.plainGet K C f = true := c.pg
section
variable {X : Cx} {pins : List (Addr × Obj)} {σ : St} {H : Hp} {s : Shared} {a C dx : Addr} {fs : List (Str × V)} {f : Str} {v : V} {A : Around} {E : Value → Shared → Prop}
end
section
variable {X : Cx} {o e value : Expr} {f : Str} {pos pos' tpos : Pos} {ta tv : TE}
end
section
variable {X : Cx} {pins : List (Addr × Obj)} {σ : St} {H : Hp} {s : Shared} {A : Around} {E : Value → Shared → Prop} {Q : Value → Shared → Prop} {c : Value} {b : Bool}
end
end L2
namespace L2
open PySem PySem.Spec PyProof.Rows
structure Room (k : Nat) (A : Around) : Prop where
  hd : A.handled = none
  dp : A.depth + 3 * k + 5 < recursionLimit
  un : A.units + 16 * k + 200 < cLine
theorem Room.mono {j k : Nat} {A : Around} (r : Room k A) (h : j ≤ k) : Room j A := ⟨r.hd, by have := r.dp; omega, by have := r.un; omega⟩
theorem Room.deeper {k : Nat} {A : Around} (r : Room (k + 1) A) (env : Env) : Room k (A.deeper env) :=
  ⟨r.hd, by have := r.dp; show A.depth + 1 + 3 * k + 5 < _; omega, by have := r.un; show A.units + 3 + 16 * k + 200 < _; omega⟩
theorem Room.depth {k : Nat} {A : Around} (r : Room k A) : A.depth < recursionLimit := by have := r.dp; omega
theorem Room.units {k : Nat} {A : Around} (r : Room k A) : A.units + 64 < cLine := by have := r.un; omega
def tNil : TA := fun _ H Q => Q [] H
def tCons (ta : TE) (tr : TA) : TA := fun σ H Q => ta σ H fun x H1 => tr σ H1 fun xs H2 => Q (x :: xs) H2
section
variable {X : Cx} {e : Expr} {es : List Expr} {te : TE} {t : TA} {pos : Pos}
theorem pa_nil : PA X [] tNil := fun _ _ _ _ H Q I h => Calls.spliced_nil ⟨[], H, I, .nil, h⟩
theorem pa_cons (ha : PE X e te) (hr : PA X es t) (hs : starEach (e :: es) X.env = (false, eval e X.env) :: starEach es X.env := by rfl) : PA X (e :: es) (tCons te t) := by
  intro pos pins s σ H Q I h
  rw [hs]
  show wpAny _ _ (spliced ((false, eval e X.env) :: backTo pos (starEach es X.env))) _ _ s
  refine Calls.spliced_cons (thn (ha pins s σ H _ I h) fun u s1 ⟨x, H1, I1, r1, q1⟩ => ?_)
  exact thn (hr pos pins s1 σ H1 _ I1 q1) fun us s2 ⟨xs, H2, I2, r2, q2⟩ => ⟨x :: xs, H2, I2, .cons r1 r2, q2⟩
def tTup (t : TA) : TE := fun σ H Q => t σ H fun xs H1 => xs.length ≤ sizeLine ∧ ∀ p, H1 p = none → Q (.ref p) (upd H1 p (.tup xs))
def tLst (t : TA) : TE := fun σ H Q => t σ H fun xs H1 => xs.length ≤ sizeLine ∧ ∀ p, H1 p = none → Q (.ref p) (upd H1 p (.lst xs))
theorem pe_tup {x1} (h : PA X es t) : PE X (.Tuple es x1 pos) (tTup t) := by
  intro pins s σ H Q I hq
  refine wpAny_Tuple_spliced (thn (h pos pins s σ H _ I hq) fun us s1 ⟨xs, H1, I1, r, z, q⟩ => ⟨by rw [← r.length]; exact z, ?_⟩)
  have hf : H1 s1.heap.objs.size = none := I1.hok.fresh (Nat.le_refl _)
  refine ⟨.ref s1.heap.objs.size, upd H1 s1.heap.objs.size (.tup xs), I1.laid (t' := s1.toks) (fun b u e => Heap.get?_push_of_some _ e) (Nat.le_refl _) ?_, rfl, q _ hf⟩
  exact ⟨z, us, r, ⟨_, Heap.get?_push_size _ rfl, rfl, _, rfl⟩⟩
theorem pe_lst (h : PA X es t) : PE X (.List es pos) (tLst t) := by
  intro pins s σ H Q I hq
  refine wpAny_List_spliced (thn (h pos pins s σ H _ I hq) fun us s1 ⟨xs, H1, I1, r, z, q⟩ => ⟨by rw [← r.length]; exact z, ?_⟩)
  have hf : H1 s1.heap.objs.size = none := I1.hok.fresh (Nat.le_refl _)
  refine ⟨.ref s1.heap.objs.size, upd H1 s1.heap.objs.size (.lst xs), I1.laid (t' := s1.toks) (fun b u e => Heap.get?_push_of_some _ e) (Nat.le_refl _) ?_, rfl, q _ hf⟩
  exact ⟨z, us, 0, r, Heap.get?_push_size _ rfl⟩
end
abbrev Sp := List V → Hp → VK → XK → Prop
abbrev CXT := List Env → Hp → Shared → XK → Value → Shared → Prop
structure Env0 (P : Program) (w : World) (K : PySem.W.Frag) (mg : Str → Option Value) (base : Heap) (A : Around) (outer : List Env) (s : Shared) (H : Hp) : Prop where
  frames : A.frames = some outer
  mod : Mod K mg base
  bs : ∀ b o, base.get? b = some o → s.heap.get? b = some o ∧ H b = none
  bsz : base.objs.size ≤ s.heap.objs.size
  funs : s.heap.FunFrames base outer
  frf : ∀ b ∈ frs outer, H b = none
  hok : HOk P w H s.heap
  bare : AllBare s.gens
def CE (outer : List Env) (P : Program) (w : World) (H : Hp) (s : Shared) (Q : VK) (u : Value) (s' : Shared) : Prop :=
  ∃ v H', s'.os = s.os ∧ AllBare s'.gens ∧ Un (frs outer) [] H H' s.heap s'.heap ∧ HOk P w H' s'.heap ∧ RelV v u ∧ Q v H'
def CR (CX : CXT) (outer : List Env) (P : Program) (w : World) (H : Hp) (s : Shared) (Q : VK) (E : XK) (r : Result) (s' : Shared) : Prop :=
  match r with
  | .ok (.ret u) => CE outer P w H s Q u s'
  | .ok _ => False
  | .error e => CX outer H s E e s'
structure FnOk (P : Program) (w : World) (K : PySem.W.Frag) (mg : Str → Option Value) (base : Heap) (CX : CXT) (k : Nat) (f : Addr) (fd : FuncData) (ps : List Str) (sp : Sp) : Prop where
  len : ∀ vs H Q E, sp vs H Q E → vs.length = ps.length
  run : ∀ (A : Around) (outer : List Env) (s : Shared) (H : Hp) (args : Args) (us : List Value) (vs : List V) (Q : VK) (E : XK), Room k A → Env0 P w K mg base A outer s H → BindsTo s fd args (ps.zip us) → Vals vs us → sp vs H Q E →
    codeAny (model P w) A (.call (.ref f) args) (CR CX outer P w H s Q E) s
theorem FnOk.mono {P : Program} {w : World} {K : PySem.W.Frag} {mg : Str → Option Value} {base : Heap} {CX : CXT} {j k : Nat} {f : Addr} {fd : FuncData} {ps : List Str} {sp : Sp} (F : FnOk P w K mg base CX j f fd ps sp) (h : j ≤ k) :
    FnOk P w K mg base CX k f fd ps sp := ⟨F.len, fun A outer s H args us vs Q E hr => F.run A outer s H args us vs Q E (hr.mono h)⟩
section
variable {X : Cx} {pins : List (Addr × Obj)} {σ : St} {H : Hp} {s s' : Shared}
theorem Inv.env0 (I : Inv X pins σ H s) : Env0 X.prog X.w X.K X.mg X.base X.A X.stack s H :=
  ⟨I.ok.frames, I.ok.mod, I.bs, Nat.le_trans I.ok.bsz I.sz, I.stack, I.stkFree, I.hok, I.bare⟩
theorem Inv.after {Q : VK} {u : Value} (I : Inv X pins σ H s) (h : CE X.stack X.prog X.w H s Q u s') : EP X pins σ Q u s' := by
  obtain ⟨v, H', os, bare, un, hok, r, q⟩ := h
  obtain ⟨hh, g, d, t, os'⟩ := s'
  obtain rfl : os' = s.os := os
  exact ⟨v, H', I.call (h' := hh) (g' := g) (d' := d) (t' := t) (ch := []) un hok bare (fun b z => absurd z (by simp)), r, q⟩
end
def tCall (sp : Sp) (dvs : List V) (E : XK) (t : TA) : TE := fun σ H Q => t σ H fun vs H1 => sp (vs ++ dvs) H1 Q E
def Binds (K : PySem.W.Frag) (fd : FuncData) (ps : List Str) (ds : List Value) : Prop :=
  ∀ (s : Shared) (us : List Value), K.In s.heap → (us ++ ds).length = ps.length → BindsTo s fd ⟨us, []⟩ (ps.zip (us ++ ds))
theorem Binds.all {K : PySem.W.Frag} {fd : FuncData} {ps : List Str} (h : ∀ us : List Value, us.length = ps.length → bindArgs fd ⟨us, []⟩ = pure (ps.zip us)) : Binds K fd ps [] := fun s us _ hl => by
  rw [List.append_nil] at hl ⊢
  exact .of_eq (h us hl)
def Passes (CX : CXT) (X : Cx) (E : XK) : Prop := ∀ (pins : List (Addr × Obj)) (σ : St) (H : Hp) (s : Shared) (e : Value) (s' : Shared), Inv X pins σ H s → CX X.stack H s E e s' → X.xe e s'
section
variable {X : Cx} {CX : CXT} {k : Nat} {f C : Addr} {fd : FuncData} {ps : List Str} {sp : Sp} {dvs : List V} {ds : List Value} {E : XK} {x m : Str} {p pos apos : Pos} {e o : Expr} {es : List Expr} {ta : TE} {t : TA}
theorem run_fn {pins : List (Addr × Obj)} {σ : St} {H : Hp} {s : Shared} {Q : VK} {us : List Value} {vs : List V} (F : FnOk X.prog X.w X.K X.mg X.base CX k f fd ps sp) (hr : Room k X.A) (hb : Binds X.K fd ps ds) (hd : Vals dvs ds) (hx : Passes CX X E)
    (I : Inv X pins σ H s) (r : Vals vs us) (h : sp (vs ++ dvs) H Q E) : wpAny (model X.prog X.w) X.A (call (.ref f) us) (EP X pins σ Q) X.xe s := by
  have r2 : Vals (vs ++ dvs) (us ++ ds) := r.append hd
  have hl : (us ++ ds).length = ps.length := by rw [← r2.length]; exact F.len _ _ _ _ h
  refine wpAny_call (codeAny_mono (F.run X.A X.stack s H ⟨us, []⟩ (us ++ ds) (vs ++ dvs) Q E hr I.env0 (hb s us I.kIn hl) r2 h) fun r s' hq => ?_)
  cases r with
  | error e => exact hx pins σ H s e s' I hq
  | ok fl =>
    cases fl with
    | ret u => exact I.after hq
    | next => exact False.elim hq
    | brk => exact False.elim hq
    | cont => exact False.elim hq
theorem pe_call (F : FnOk X.prog X.w X.K X.mg X.base CX k f fd ps sp) (hr : Room k X.A) (hg : Gl X x) (hm : X.mg x = some (.ref f)) (hk : PySem.W.keepIn X.K (.ref f) = true) (hb : Binds X.K fd ps ds) (hd : Vals dvs ds) (hx : Passes CX X E)
    (ha : PA X (e :: es) t) (hdb : (x == ("__debug__" : Str)) = false := by decide) (he : starEach (e :: es) X.env = (false, eval e X.env) :: starEach es X.env := by rfl) (hpl : (backTo pos (starEach es X.env)).any (·.1) = false := by rfl) :
    PE X (.Call (.Name x p) (e :: es) [] pos) (tCall sp dvs E t) := by
  intro pins s σ H Q I h
  refine wpAny_Call_Name_kw (ld_glob I hg hm ?_ hdb)
  refine PySem.W.callWith_K (h₀ := X.base) I.ok.mod.kin hk (thn (ha pos pins s σ H _ I h) fun us s1 ⟨vs, H1, I1, r, q⟩ => ⟨I1.kIn, ?_⟩) he hpl
  exact run_fn F hr hb hd hx I1 r q
end
section
variable {X : Cx} {CX : CXT} {k : Nat} {f C : Addr} {fd : FuncData} {ps ks : List Str} {sp : Sp} {E : XK} {x m : Str} {p pos apos kpos : Pos} {e o : Expr} {es : List Expr} {kws : List Keyword} {te ta : TE} {t tk : TA} {nm : Option Str}
variable {g : List Value → List Value → List Value} {gV : List V → List V → List V}
end
structure FnScope (N P : List Str) (sc : Scope) : Prop where
  kind : sc.kind = .function
  co : sc.isCoroutine = false
  gen : sc.isGenerator = false
  nd : N.Nodup
  pre : N.take P.length = P
  par : ∀ x ∈ P, sc.names.lookup x = some .local ∨ sc.names.lookup x = some .cell
  nofree : ∀ y ∈ sc.names, y.2 ≠ .free
theorem bindL_out {kindOf : Str → Option NameKind} {x : Str} : ∀ {binds : List (Str × Value)} {m : Str → Option Value}, (∀ v, (x, v) ∉ binds) → bindL kindOf binds m x = m x
  | [], _, _ => rfl
  | (n, v) :: r, m, h => by
    unfold bindL
    rw [bindL_out fun w hw => h w (List.mem_cons_of_mem _ hw)]
    split
    · have : x ≠ n := by rintro rfl; exact h v List.mem_cons_self
      simp [this]
    · rfl
theorem bindC_out {kindOf : Str → Option NameKind} {x : Str} : ∀ {binds : List (Str × Value)} {m : Str → Option Value}, (∀ v, (x, v) ∉ binds) → bindC kindOf binds m x = m x
  | [], _, _ => rfl
  | (n, v) :: r, m, h => by
    unfold bindC
    rw [bindC_out fun w hw => h w (List.mem_cons_of_mem _ hw)]
    split
    · rfl
    · have : x ≠ n := by rintro rfl; exact h v List.mem_cons_self
      simp [this]
theorem bindL_get {kindOf : Str → Option NameKind} {x : Str} {v : Value} : ∀ {P : List Str} {vs : List Value} {i : Nat} {m : Str → Option Value}, P.Nodup → P[i]? = some x → vs[i]? = some v → kindOf x = some .local →
    bindL kindOf (P.zip vs) m x = some v
  | [], _, _, _, _, h, _, _ => by simp at h
  | _ :: _, [], _, _, _, _, h, _ => by simp at h
  | p :: P, w :: vs, 0, m, nd, h1, h2, hk => by
    simp at h1 h2; subst h1; subst h2
    show bindL kindOf ((p, w) :: P.zip vs) m p = _
    unfold bindL
    rw [bindL_out fun v hv => (List.nodup_cons.mp nd).1 (List.of_mem_zip hv).1, if_pos hk]
    simp
  | p :: P, w :: vs, i + 1, m, nd, h1, h2, hk => by
    show bindL kindOf ((p, w) :: P.zip vs) m x = _
    unfold bindL
    exact bindL_get (i := i) (List.nodup_cons.mp nd).2 (by simpa using h1) (by simpa using h2) hk
theorem bindC_get {kindOf : Str → Option NameKind} {x : Str} {v : Value} : ∀ {P : List Str} {vs : List Value} {i : Nat} {m : Str → Option Value}, P.Nodup → P[i]? = some x → vs[i]? = some v → kindOf x ≠ some .local →
    bindC kindOf (P.zip vs) m x = some v
  | [], _, _, _, _, h, _, _ => by simp at h
  | _ :: _, [], _, _, _, _, h, _ => by simp at h
  | p :: P, w :: vs, 0, m, nd, h1, h2, hk => by
    simp at h1 h2; subst h1; subst h2
    show bindC kindOf ((p, w) :: P.zip vs) m p = _
    unfold bindC
    rw [bindC_out fun v hv => (List.nodup_cons.mp nd).1 (List.of_mem_zip hv).1, if_neg hk]
    simp
  | p :: P, w :: vs, i + 1, m, nd, h1, h2, hk => by
    show bindC kindOf ((p, w) :: P.zip vs) m x = _
    unfold bindC
    exact bindC_get (i := i) (List.nodup_cons.mp nd).2 (by simpa using h1) (by simpa using h2) hk
def start (N : List Str) (vs : List V) : St := vs.map some ++ List.replicate (N.length - vs.length) none
def cxOf (CX : CXT) (P : Program) (w : World) (K : PySem.W.Frag) (mg : Str → Option Value) (base : Heap) (N : List Str) (qual : Str) (scope : Scope) (f : Addr) (cd : Value) (A : Around) (outer : List Env) (s : Shared) (H : Hp) (E : XK) : Cx where
  prog := P
  w := w
  K := K
  mg := mg
  base := base
  A := A.deeper (envOfC qual scope s.heap.objs.size f cd)
  N := N
  s_0 := s
  H_0 := H
  env := envOfC qual scope s.heap.objs.size f cd
  outer := outer
  stack := envOfC qual scope s.heap.objs.size f cd :: outer
  ex := []
  calm := true
  fn := fun _ => true
  pn := []
  xe := fun e s' => wpAny (model P w) (A.deeper (envOfC qual scope s.heap.objs.size f cd)) (leaving (envOfC qual scope s.heap.objs.size f cd) e) (fun _ s'' => CX outer H s E e s'') (fun e' s'' => CX outer H s E e' s'') s'
theorem cell_has {sc : Scope} {n : Nat} {x : Str} (h : sc.names.lookup x = some .cell) : ∃ c, (cellsFrom n sc.names []).lookup x = some c := by
  have q := PySem.W.cellsFrom_some sc.names n [] (.inl h)
  exact Option.isSome_iff_exists.mp q
theorem inv_start {CX : CXT} {P : Program} {w : World} {K : PySem.W.Frag} {mg : Str → Option Value} {base : Heap} {N ps : List Str} {qual : Str} {scope : Scope} {f : Addr} {cd : Value} {A : Around} {outer : List Env} {s s1 : Shared} {H : Hp} {E : XK} {us : List Value} {vs : List V}
    (S : FnScope N ps scope) (hd : A.handled = none) (e0 : Env0 P w K mg base A outer s H) (hl : vs.length = ps.length) (r : Vals vs us)
    (x : InCallC s s.heap.objs.size (bindL (envOfC qual scope s.heap.objs.size f cd).kindOf (ps.zip us) fun _ => none) (cellsFrom (s.heap.objs.size + 1) scope.names []) (bindC (envOfC qual scope s.heap.objs.size f cd).kindOf (ps.zip us) fun _ => none) s1) :
    Inv (cxOf CX P w K mg base N qual scope f cd A outer s H E) [] (start N vs) H s1 := by
  have hpl : ps.length ≤ N.length := by have := congrArg List.length S.pre; rw [List.length_take] at this; omega
  obtain ⟨h1, tk, rfl, hk⟩ := x.done
  have noA : ∀ b : Addr, b ∉ (cxOf CX P w K mg base N qual scope f cd A outer s H E).ex := fun b z => absurd (show b ∈ ([] : List Addr) from z) (by simp)
  refine ⟨⟨e0.mod, S.kind, rfl, rfl, Nat.le_refl _, fun y z c h1 h2 => ?_, fun y hy => ?_, fun y c _ h => ?_, fun _ => hd, Around.frames_deeper e0.frames, .inr ⟨rfl, rfl⟩, fun b z => absurd z (noA b), e0.bs, e0.bsz, fun b _ _ => noA b, fun b z => absurd z (noA b), e0.funs, e0.frf⟩,
    rfl, e0.bare, Un.kept hk, ⟨_, x.toInCall.ns, fun i y v h1 h2 h3 => ?_⟩, fun y c h => ⟨_, x.cell y c h⟩, e0.hok.fresh (Nat.le_refl _), fun y c h => ?_, fun p hp => absurd (show p ∈ ([] : List (Addr × Obj)) from hp) (by simp), e0.hok.kept hk, ?_⟩
  · exact name_of_addr x.apart (PySem.mem_of_lookup h1) (PySem.mem_of_lookup h2)
  · have hy : scope.names.lookup y = some .cell ∨ scope.names.lookup y = some .free := hy
    rcases hy with hy | hy
    · exact cell_has hy
    · exact absurd rfl (S.nofree _ (PySem.mem_of_lookup hy))
  · exact Nat.le_of_lt (x.above y c (PySem.mem_of_lookup h))
  · have hi : i < vs.length := by
      unfold start at h2
      by_cases hi : i < vs.length
      · exact hi
      · rw [List.getElem?_append_right (by simpa using hi)] at h2
        rw [List.getElem?_replicate] at h2
        split at h2 <;> cases h2
    have ha : vs[i]? = some v := by
      unfold start at h2
      rw [List.getElem?_append_left (by simpa using hi), List.getElem?_map] at h2
      cases e : vs[i]? with
      | none => rw [e] at h2; cases h2
      | some a => rw [e] at h2; cases h2; rfl
    obtain ⟨u, hu, rv⟩ := r.get ha
    have hp : ps[i]? = some y := by
      rw [← S.pre, List.getElem?_take_of_lt (by omega)]; exact h1
    have ndP : ps.Nodup := by rw [← S.pre]; exact S.nd.sublist (List.take_sublist _ _)
    refine ⟨u, rv, ?_⟩
    rcases S.par y (List.mem_of_getElem? hp) with k | k
    · exact .inl ⟨k, bindL_get ndP hp hu k⟩
    · obtain ⟨c, e⟩ := cell_has (n := s.heap.objs.size + 1) k
      refine .inr ⟨.inl k, c, e, ?_⟩
      have q := x.cell y c e
      rw [bindC_get ndP hp hu (by show scope.names.lookup y ≠ _; rw [k]; decide)] at q
      exact q
  · exact e0.hok.fresh (Nat.le_of_lt (x.above y c (PySem.mem_of_lookup h)))
  · unfold start
    show _ = N.length
    rw [List.length_append, List.length_map, List.length_replicate]
    omega
theorem fn_of {CX : CXT} {P : Program} {w : World} {K : PySem.W.Frag} {mg : Str → Option Value} {base : Heap} {k : Nat} {f : Addr} {name qual : Str} {params : Arguments} {body : List Stmt} {scope : Scope} {dV kV doc pm cdv ct oc : Value} {an od : Option Addr}
    {osl : Array (Option Value)} {N ps : List Str} {sp : Sp} (lk : K.lookup f = some ⟨oc, od, .func (PySem.W.fnOf name qual params body scope dV kV doc pm an cdv ct), osl⟩) (hcd : PySem.W.codeIn K cdv qual = true) (S : FnScope N ps scope)
    (len : ∀ vs H Q E, sp vs H Q E → vs.length = ps.length)
    (hbody : ∀ (A : Around) (outer : List Env) (s : Shared) (H : Hp) (vs : List V) (Q : VK) (E : XK), Room k (A.deeper (envOfC qual scope s.heap.objs.size f cdv)) → sp vs H Q E →
      ∃ t, PSs (cxOf CX P w K mg base N qual scope f cdv A outer s H E) body t ∧ t { nx := fun _ H' => Q .non H', rt := Q } (start N vs) H) :
    FnOk P w K mg base CX (k + 1) f (PySem.W.fnOf name qual params body scope dV kV doc pm an cdv ct) ps sp := by
  refine ⟨len, fun A outer s H args us vs Q E hr e0 hb r hsp => ?_⟩
  have hl := len _ _ _ _ hsp
  have KX : K.In s.heap := e0.mod.kin.keeps fun b o e => (e0.bs b o e).1
  have lim : s.heap.NoLimit := e0.mod.nolimit.keeps fun b o e => (e0.bs b o e).1
  have hkind : ∀ y ∈ ps.zip us, scope.names.lookup y.1 = some .local ∨ (scope.names.lookup y.1 = some .cell ∧ ((cellsFrom (s.heap.objs.size + 1) scope.names []).lookup y.1).isSome = true) := fun ⟨n, v⟩ hy => by
    rcases S.par n (List.of_mem_zip hy).1 with q | q
    · exact .inl q
    · exact .inr ⟨q, PySem.W.cellsFrom_some _ _ _ (.inl q)⟩
  refine codeAny_call_function hr.depth (KX _ _ lk) rfl S.co S.gen rfl (PySem.W.codeRec_of KX hcd) (hb _ _ _ _ ?_)
  refine wpAny_newFunctionEnv_cells S.kind hkind fun env he s1 x => ?_
  subst he
  refine ⟨lim.keeps x.toInCall.keep, codeAny_func ?_⟩
  obtain ⟨t, ht, hq⟩ := hbody A outer s H vs Q E (hr.deeper _) hsp
  have I : Inv (cxOf CX P w K mg base N qual scope f cdv A outer s H E) [] (start N vs) H s1 := inv_start S hr.hd e0 hl r x
  refine wpAny_mono (ht [] s1 (start N vs) H _ I hq) (fun fl s' hs => ?_) fun e s' hs => hs
  have fin : ∀ {σ' : St} {H' : Hp} {v : V} {u : Value}, Inv (cxOf CX P w K mg base N qual scope f cdv A outer s H E) [] σ' H' s' → RelV v u → Q v H' → CE outer P w H s Q u s' :=
    fun {σ' H' v u} J rv q => ⟨v, H', J.os, J.bare, J.base, J.hok, rv, q⟩
  cases fl with
  | ret u =>
    obtain ⟨v, σ', H', J, rv, q⟩ := hs
    exact fin J rv q
  | next =>
    obtain ⟨σ', H', J, q⟩ := hs
    exact fin (v := V.non) (u := Value.none) J rfl q
  | brk =>
    obtain ⟨_, _, _, q⟩ := hs
    exact False.elim q
  | cont =>
    obtain ⟨_, _, _, q⟩ := hs
    exact False.elim q
end L2
namespace L2
open PySem PySem.Spec PyProof.Rows
section
variable {X : Cx} {x : Str} {p pos : Pos} {e : Expr} {es : List Expr} {t : TA} {id T : String} {r : List V → Hp → VK → Prop}
def tCB (r : List V → Hp → VK → Prop) (t : TA) : TE := fun σ H Q => t σ H fun vs H1 => r vs H1 Q
theorem pe_callB (hc : CallR X (.builtin id) r) (hg : Gl X x) (hm : X.mg x = none) (hv : bootBuiltins x = some (.builtin id)) (ha : PA X (e :: es) t) (hn : x ≠ "__name__" := by decide) (hdb : (x == ("__debug__" : Str)) = false := by decide)
    (he : starEach (e :: es) X.env = (false, eval e X.env) :: starEach es X.env := by rfl) (hpl : (backTo pos (starEach es X.env)).any (·.1) = false := by rfl) : PE X (.Call (.Name x p) (e :: es) [] pos) (tCB r t) := by
  intro pins s σ H Q I h
  refine wpAny_Call_Name_kw (ld_blt I hg hm hv ?_ hn hdb)
  exact PyProof.Rows.callWith_builtin1 (thn (ha pos pins s σ H _ I h) fun us s1 ⟨vs, H1, I1, r1, q1⟩ => hc pins s1 σ H1 vs us Q I1 r1 q1) he hpl
end
end L2
namespace HT
open PySem PyProof.Rows
section
open PySem.SeqAt
open PySem.AutoSeq1 (wpAny_loadPart')
open PySem.MeetsSeq PySem.MeetsSeq2 PySem.MeetsSeq3
end
section
variable {prog : Program} {w : World} {A : Around} {E : Value → Shared → Prop} {s : Shared}
def sIx (n d : Nat) : Option Int → Nat
  | none => d
  | some v => if v < 0 then (v + (n : Int)).toNat else min v.toNat n
theorem sIx_nat (n d k : Nat) : sIx n d (some (k : Int)) = min k n := by
  show (if (k : Int) < 0 then ((k : Int) + (n : Int)).toNat else min (k : Int).toNat n) = min k n
  rw [if_neg (by omega), Int.toNat_natCast]
end
end HT
namespace L2
open PySem PySem.Spec PyProof.Rows
abbrev TO := St → Hp → (Option Int → Hp → Prop) → Prop
def PO (X : Cx) (e : Option Expr) (t : TO) : Prop :=
  ∀ (pins : List (Addr × Obj)) (s : Shared) (σ : St) (H : Hp) (Q : Option Int → Hp → Prop), Inv X pins σ H s → t σ H Q →
    wpAny (model X.prog X.w) X.A (evalPart e X.env) (fun u s' => ∃ o H', Inv X pins σ H' s' ∧ IsPart u o ∧ Q o H') X.xe s
def tNoPart : TO := fun _ H Q => Q none H
def tPart (t : TE) : TO := fun σ H Q => t σ H fun x H1 => ∃ i, x = .int i ∧ Q (some i) H1
section
variable {X : Cx} {e : Expr} {te : TE} {lo hi : Option Expr} {tl th : TO} {pos p2 : Pos}
theorem po_none : PO X none tNoPart := by
  intro pins s σ H Q I h
  rw [evalPart_none]
  exact wpAny_pure ⟨none, H, I, .none, h⟩
theorem po_some (h : PE X e te) : PO X (some e) (tPart te) := by
  intro pins s σ H Q I hw
  rw [evalPart_some]
  refine thn (h pins s σ H _ I hw) fun u s1 ⟨x, H1, I1, r1, q1⟩ => ?_
  obtain ⟨i, rfl, q⟩ := q1
  obtain ⟨t, rfl⟩ := r1
  exact ⟨some i, H1, I1, .int i t, q⟩
def SlR (X : Cx) (r : V → Option Int → Option Int → Hp → VK → Prop) : Prop :=
  ∀ (pins : List (Addr × Obj)) (s : Shared) (σ : St) (H : Hp) (x : V) (v vl vu : Value) (lo hi : Option Int) (sl : Addr) (Q : VK), Inv X pins σ H s → RelV x v → s.heap.IsSliceOf sl vl vu .none → IsPart vl lo → IsPart vu hi → r x lo hi H Q →
    ∃ T id, typeLookup (.type T) "__getitem__" = pure (some (.builtin id)) ∧ s.TypeIs v T ∧ wpAny (model X.prog X.w) X.A (getItem v (.ref sl)) (EP X pins σ Q) X.xe s
def tSl (r : V → Option Int → Option Int → Hp → VK → Prop) (te : TE) (tl th : TO) : TE := fun σ H Q => te σ H fun x H1 => tl σ H1 fun l H2 => th σ H2 fun u H3 => r x l u H3 Q
theorem pe_slice {r : V → Option Int → Option Int → Hp → VK → Prop} (hr : SlR X r) (he : PE X e te) (hl : PO X lo tl) (hu : PO X hi th) : PE X (.Subscript e (.Slice lo hi none p2) pos) (tSl r te tl th) := by
  intro pins s σ H Q I h
  refine Subscript_ (thn (he pins s σ H _ I h) fun v s1 ⟨x, H1, I1, r1, q1⟩ => ?_)
  refine wpAny_Slice (thn (hl pins s1 σ H1 _ I1 q1) fun vl s2 ⟨l, H2, I2, pl, q2⟩ => thn (hu pins s2 σ H2 _ I2 q2) fun vu s3 ⟨u, H3, I3, pu, q3⟩ => ?_)
  rw [evalPart_none]
  refine wpAny_pure ?_
  have I4 : Inv X pins σ H3 { s3 with heap := s3.heap.push { cls := .type "slice", data := .fields #[vl, vu, .none] } } := I3.kept (t' := s3.toks) fun b ob q => Heap.get?_push_of_some _ q
  obtain ⟨T, id, hT, ht, hg⟩ := hr pins { s3 with heap := s3.heap.push { cls := .type "slice", data := .fields #[vl, vu, .none] } } σ H3 x v vl vu l u s3.heap.objs.size Q I4 r1 (Heap.IsSliceOf.new ..) pl pu q3
  show wpAny (model X.prog X.w) X.A (subscriptTail e (.Slice lo hi none p2) v (.ref s3.heap.objs.size)) (EP X pins σ Q) X.xe { s3 with heap := s3.heap.push { cls := .type "slice", data := .fields #[vl, vu, .none] } }
  exact tail_any (ops := [.ref s3.heap.objs.size, v]) ht hT hg (by with_unfolding_all rfl)
def cutV (xs : List V) (lo hi : Option Int) : List V := (xs.drop (HT.sIx xs.length 0 lo)).take (HT.sIx xs.length xs.length hi - HT.sIx xs.length 0 lo)
theorem cutV_length (xs : List V) (lo hi : Option Int) : (cutV xs lo hi).length ≤ xs.length := by
  unfold cutV
  rw [List.length_take, List.length_drop]
  omega
end
end L2
namespace L2
open PySem PySem.Spec PyProof.Rows
def ixN (n : Nat) (i : Int) : Option Nat := if 0 ≤ i then (if i < n then some i.toNat else none) else if -(n : Int) ≤ i then some (i + n).toNat else none
def atI {α : Type} (xs : List α) (i : Int) : Option α := (ixN xs.length i).bind fun j => xs[j]?
theorem ixN_seq {n : Nat} {i : Int} {j : Nat} (h : ixN n i = some j) : seqIndex? i n = some j ∧ j < n ∧ -(n : Int) ≤ i ∧ i < n := by
  unfold ixN at h
  by_cases h0 : 0 ≤ i
  · rw [if_pos h0] at h
    by_cases h1 : i < n
    · rw [if_pos h1] at h
      have e : i.toNat = j := Option.some.inj h
      exact ⟨by rw [seqIndex_of h0 h1, e], by omega, by omega, h1⟩
    · rw [if_neg h1] at h; cases h
  · rw [if_neg h0] at h
    by_cases h1 : -(n : Int) ≤ i
    · rw [if_pos h1] at h
      have e : (i + n).toNat = j := Option.some.inj h
      exact ⟨by rw [seqIndex_neg (by omega) h1, e], by omega, h1, by omega⟩
    · rw [if_neg h1] at h; cases h
theorem atI_get {α : Type} {xs : List α} {i : Int} {v : α} (h : atI xs i = some v) : ∃ j, seqIndex? i xs.length = some j ∧ xs[j]? = some v ∧ j < xs.length ∧ -(xs.length : Int) ≤ i ∧ i < xs.length := by
  unfold atI at h
  cases e : ixN xs.length i with
  | none => rw [e] at h; cases h
  | some j =>
    rw [e] at h
    obtain ⟨h1, h2, h3, h4⟩ := ixN_seq e
    exact ⟨j, h1, h, h2, h3, h4⟩
theorem atI_nat {α : Type} {xs : List α} {j : Nat} {v : α} (h : xs[j]? = some v) : atI xs (j : Int) = some v := by
  have hj : j < xs.length := (List.getElem?_eq_some_iff.mp h).1
  have e : ixN xs.length (j : Int) = some j := by
    unfold ixN
    rw [if_pos (by omega), if_pos (by omega)]; simp
  unfold atI; rw [e]; exact h
def PlainIx (b : Expr) : Prop := ∀ o i, subscripted b false o i = operate [o, i] (getItem o i)
def IxR (X : Cx) (r : R2) : Prop :=
  ∀ (value slice : Expr) (pins : List (Addr × Obj)) (s : Shared) (σ : St) (H : Hp) (x y : V) (v u : Value) (Q : VK), Inv X pins σ H s → RelV x v → RelV y u → r x y H Q →
    subscripted slice false v u = operate [v, u] (getItem v u) → wpAny (model X.prog X.w) X.A (subscriptTail value slice v u) (EP X pins σ Q) X.xe s
def MtR (X : Cx) (id : String) (r : V → List V → Hp → VK → Prop) : Prop :=
  ∀ (pins : List (Addr × Obj)) (s : Shared) (σ : St) (H : Hp) (x : V) (xs : List V) (v : Value) (us : List Value) (Q : VK), Inv X pins σ H s → RelV x v → Vals xs us → r x xs H Q →
    wpAny (model X.prog X.w) X.A (call (.builtin id) (v :: us)) (EP X pins σ Q) X.xe s
section
variable {X : Cx} {a b : Expr} {ta tb : TE} {pos : Pos}
theorem pe_ix {r : R2} (hr : IxR X r) (ha : PE X a ta) (hb : PE X b tb) (hs : PlainIx b) : PE X (.Subscript a b pos) (tOp r ta tb) := by
  intro pins s σ H Q I h
  exact Subscript_ (binT ha hb I h fun v u s2 x y H2 I2 rx ry q => hr a b pins s2 σ H2 x y v u Q I2 rx ry q (hs _ _))
def rIxL (K : PySem.W.Frag) : R2 := fun x y H Q => ∃ p xs i v, x = .ref p ∧ y = .int i ∧ SqL K H p xs ∧ atI xs i = some v ∧ Q v H
def rIxT (K : PySem.W.Frag) : R2 := fun x y H Q => ∃ p xs i v, x = .ref p ∧ y = .int i ∧ SqT K H p xs ∧ atI xs i = some v ∧ Q v H
theorem ix_list : IxR X (rIxL X.K) := by
  intro value slice pins s σ H x y v u Q I rx ry h hs
  obtain ⟨p, xs, i, z, rfl, rfl, hq, he, q⟩ := h
  cases rx
  obtain ⟨t, rfl⟩ := ry
  obtain ⟨its, r, pl, hz⟩ := I.list hq
  obtain ⟨j, h1, h2, h3, h4, h5⟩ := atI_get he
  obtain ⟨w, ew, rw'⟩ := r.get h2
  have hl := r.length
  have hn := line63
  have fin : EP X pins σ Q w s := ⟨z, H, I, rw', q⟩
  by_cases h0 : 0 ≤ i
  · have hj : i.toNat = j := by
      rw [seqIndex_of h0 h5] at h1
      exact Option.some.inj h1
    exact item_listR pl.isList h0 (by omega) (by rw [hj]; simpa using ew) fin hs
  · have hj : (i + (its.toArray.size : Int)).toNat = j := by
      rw [seqIndex_neg (by omega) h4] at h1
      rw [List.size_toArray, ← hl]
      exact Option.some.inj h1
    exact subscriptTail_builtinR (x := w) pl.isList.typeIs slot_list_getitem.lookup
      (wpAny_getItem_list_neg (Q := fun r s' => r = w ∧ EP X pins σ Q r s') pl.isList (by omega) (by rw [List.size_toArray] <;> omega) (by omega) (by rw [hj]; simpa using ew) ⟨rfl, fin⟩) hs
theorem ix_tup : IxR X (rIxT X.K) := by
  intro value slice pins s σ H x y v u Q I rx ry h hs
  obtain ⟨p, xs, i, z, rfl, rfl, hq, he, q⟩ := h
  cases rx
  obtain ⟨t, rfl⟩ := ry
  obtain ⟨its, r, pl, hz⟩ := I.tuple hq
  obtain ⟨j, h1, h2, h3, h4, h5⟩ := atI_get he
  obtain ⟨w, ew, rw'⟩ := r.get h2
  have hl := r.length
  have hn := line63
  have fin : EP X pins σ Q w s := ⟨z, H, I, rw', q⟩
  exact subscriptTail_builtinR (x := w) pl.typeIs slot_tuple_getitem.lookup
    (getItem_tuple (j := j) (Q := fun r s' => r = w ∧ EP X pins σ Q r s') pl (by omega) (by omega) (by rw [List.size_toArray, ← hl]; exact h1) (by simpa using ew) ⟨rfl, fin⟩) hs
theorem mapSeq_set (its : List Value) (n j : Nat) (u : Value) : Obj.mapSeq (·.setIfInBounds j u) { cls := .type "list", data := .seq its.toArray n } = { cls := .type "list", data := .seq (its.set j u).toArray n } := by
  simp [Obj.mapSeq]
theorem Inv.lst {pins : List (Addr × Obj)} {σ : St} {H : Hp} {s : Shared} {p : Addr} {xs : List V} (I : Inv X pins σ H s) (h : H p = some (.lst xs)) :
    ∃ (its : List Value) (n : Nat), Vals xs its ∧ s.heap.get? p = some { cls := .type "list", data := .seq its.toArray n } ∧ xs.length ≤ sizeLine := by
  obtain ⟨z, its, n, r, e⟩ := I.hok p _ h
  exact ⟨its, n, r, e, z⟩
theorem Inv.lstUpd {pins : List (Addr × Obj)} {σ : St} {H : Hp} {s : Shared} {p : Addr} {xs ys : List V} {its its' : List Value} {n n' : Nat} {f : Obj → Obj} (I : Inv X pins σ H s) (h : H p = some (.lst xs))
    (ho : s.heap.get? p = some { cls := .type "list", data := .seq its.toArray n }) (hf : f { cls := .type "list", data := .seq its.toArray n } = { cls := .type "list", data := .seq its'.toArray n' }) (r : Vals ys its') (hz : ys.length ≤ sizeLine) (t : Nat) :
    Inv X pins σ (upd H p (.lst ys)) { s with heap := s.heap.update p f, toks := t } := by
  have e : (s.heap.update p f).get? p = some { cls := .type "list", data := .seq its'.toArray n' } := by
    rw [Heap.get?_update_self f ho (by rw [hf] <;> rfl), hf]
  refine I.write (x := p) (e := p) (by rw [h]; trivial) (.inl rfl) (fun b u hb q => (Heap.get?_update_other _ _ (Ne.symm hb)).trans q) ⟨_, e⟩ ?_
  exact ⟨hz, its', n', r, e⟩
def rSetL : V → V → V → Hp → (Hp → Prop) → Prop := fun o i v H Q => ∃ p xs k j, o = .ref p ∧ i = .int k ∧ H p = some (.lst xs) ∧ ixN xs.length k = some j ∧ Q (upd H p (.lst (xs.set j v)))
theorem set_list : PSet X rSetL := by
  intro pins s σ H o i v ov iv u Q I ro ri rv h
  obtain ⟨p, xs, k, j, rfl, rfl, hp, hj, q⟩ := h
  cases ro
  obtain ⟨t, rfl⟩ := ri
  obtain ⟨its, n, r, ho, hz⟩ := I.lst hp
  obtain ⟨h1, h2, h3, h4⟩ := ixN_seq hj
  have hl := r.length
  have hn := line63
  have I' : Inv X pins σ (upd H p (.lst (xs.set j v))) { s with heap := s.heap.update p (Obj.mapSeq (·.setIfInBounds j u)) } :=
    I.lstUpd hp ho (mapSeq_set its n j u) (r.set rv j) (by rw [List.length_set]; exact hz) s.toks
  by_cases h0 : 0 ≤ k
  · have hk : k.toNat = j := by
      rw [seqIndex_of h0 h4] at h1
      exact Option.some.inj h1
    exact PySem.W.ki_setAt ho h0 (by omega) (by rw [List.size_toArray, ← hl]; exact h4) (by rw [hk]; exact ⟨_, I', q⟩)
  · have hk : (k + (its.toArray.size : Int)).toNat = j := by
      rw [seqIndex_neg (by omega) h3] at h1
      rw [List.size_toArray, ← hl]
      exact Option.some.inj h1
    exact PySem.W.ki_setBack ho (by omega) (by rw [List.size_toArray, ← hl]; exact h3) (by omega) (by rw [hk]; exact ⟨_, I', q⟩)
theorem slice_bounds (lo hi : Option Int) (n : Nat) : (sliceBounds lo hi none n).1 = ((HT.sIx n 0 lo : Nat) : Int) ∧ (sliceBounds lo hi none n).2.1 = ((HT.sIx n n hi : Nat) : Int) ∧ (sliceBounds lo hi none n).2.2 = 1 := by
  refine ⟨?_, ?_, rfl⟩
  · cases lo with
    | none => simp [sliceBounds, HT.sIx]
    | some i =>
      simp only [sliceBounds, HT.sIx, Option.getD_none, show (1 : Int) > 0 by decide, if_true]
      by_cases h : i < 0
      · simp only [h, if_true] <;> omega
      · simp only [h, if_false] <;> omega
  · cases hi with
    | none => simp [sliceBounds, HT.sIx]
    | some i =>
      simp only [sliceBounds, HT.sIx, Option.getD_none, show (1 : Int) > 0 by decide, if_true]
      by_cases h : i < 0
      · simp only [h, if_true] <;> omega
      · simp only [h, if_false] <;> omega
theorem slicePick_cut (its : List Value) (lo hi : Option Int) : slicePick its.toArray lo hi none = ((its.drop (HT.sIx its.length 0 lo)).take (HT.sIx its.length its.length hi - HT.sIx its.length 0 lo)).toArray := by
  obtain ⟨h1, h2, h3⟩ := slice_bounds lo hi its.toArray.size
  unfold slicePick
  rw [h1, h2, h3]
  simp only [sliceRange_one, pick_run, List.size_toArray] <;> rfl
def rSlL (K : PySem.W.Frag) : V → Option Int → Option Int → Hp → VK → Prop := fun x lo hi H Q => ∃ a xs, x = .ref a ∧ SqL K H a xs ∧ ∀ p, H p = none → Q (.ref p) (upd H p (.lst (cutV xs lo hi)))
theorem sl_list : SlR X (rSlL X.K) := by
  intro pins s σ H x v vl vu lo hi sl Q I rx hs pl pu h
  obtain ⟨a, xs, rfl, hx, q⟩ := h
  cases rx
  obtain ⟨its, r, ht, hz⟩ := I.list hx
  have hlen := r.length
  refine ⟨"list", _, slot_list_getitem.lookup, ht.isList.typeIs, ?_⟩
  refine wpAny_getItem_list_slice ht.isList hs pl pu .none (by simp) ?_ (by rw [List.size_toArray] <;> omega)
  rw [slicePick_cut, ← hlen]
  refine ⟨.ref s.heap.objs.size, _, I.laid (t' := s.toks) (o := .lst (cutV xs lo hi)) (fun b ob q => Heap.get?_push_of_some _ q) (Nat.le_refl _) ?_, rfl, q _ (I.hok.fresh (Nat.le_refl _))⟩
  exact ⟨Nat.le_trans (cutV_length xs lo hi) hz, _, 0, (r.drop (HT.sIx xs.length 0 lo)).take (HT.sIx xs.length xs.length hi - HT.sIx xs.length 0 lo), Heap.get?_push_size _ rfl⟩
def flatV : V → Bool
  | .non => true
  | .bl _ => true
  | .int _ => true
  | .str _ => true
  | _ => false
def eqV : V → V → Bool
  | .non, .non => true
  | .bl a, .bl b => a == b
  | .bl a, .int b => (if a then 1 else 0) == b
  | .int a, .bl b => a == (if b then 1 else 0)
  | .int a, .int b => a == b
  | .str a, .str b => a == b
  | _, _ => false
theorem eqAt_V {A : Around} {s : Shared} {y x : V} {u v : Value} (ry : RelV y u) (rx : RelV x v) (fy : flatV y = true) (fx : flatV x = true) : SeqAt.EqAt A s u v (eqV y x) := by
  cases y with
  | non =>
    cases ry
    cases x with
    | non => cases rx; exact SeqAt.EqAt.same _
    | bl b => cases rx; exact SeqAt.EqAt.none_bool b
    | int b => obtain ⟨t, rfl⟩ := rx; exact SeqAt.EqAt.none_int b t
    | str b => obtain ⟨t, rfl⟩ := rx; exact SeqAt.EqAt.none_str b t
    | _ => exact absurd (show false = true from fx) Bool.false_ne_true
  | bl a =>
    cases ry
    cases x with
    | non => cases rx; exact SeqAt.EqAt.bool_none a
    | bl b => cases rx; exact SeqAt.EqAt.bool_bool a b
    | int b => obtain ⟨t, rfl⟩ := rx; exact SeqAt.EqAt.bool_int a b t
    | str b => obtain ⟨t, rfl⟩ := rx; exact SeqAt.EqAt.bool_str a b t
    | _ => exact absurd (show false = true from fx) Bool.false_ne_true
  | int a =>
    obtain ⟨t', rfl⟩ := ry
    cases x with
    | non => cases rx; exact SeqAt.EqAt.int_none a t'
    | bl b => cases rx; exact SeqAt.EqAt.int_bool a t' b
    | int b => obtain ⟨t, rfl⟩ := rx; exact SeqAt.EqAt.int_int a t' b t
    | str b => obtain ⟨t, rfl⟩ := rx; exact SeqAt.EqAt.int_str a t' b t
    | _ => exact absurd (show false = true from fx) Bool.false_ne_true
  | str a =>
    obtain ⟨t', rfl⟩ := ry
    cases x with
    | non => cases rx; exact SeqAt.EqAt.str_none a t'
    | bl b => cases rx; exact SeqAt.EqAt.str_bool a t' b
    | int b => obtain ⟨t, rfl⟩ := rx; exact SeqAt.EqAt.str_int a t' b t
    | str b => obtain ⟨t, rfl⟩ := rx; exact SeqAt.EqAt.str_str a t' b t
    | _ => exact absurd (show false = true from fx) Bool.false_ne_true
  | _ => exact absurd (show false = true from fy) Bool.false_ne_true
def eqU (x : V) (u : Value) : Bool := match u with
  | .none => eqV .non x
  | .bool b => eqV (.bl b) x
  | .int i _ => eqV (.int i) x
  | .str z _ => eqV (.str z) x
  | _ => false
theorem eqU_of {x y : V} {u : Value} (r : RelV y u) (f : flatV y = true) : eqU x u = eqV y x := by
  cases y with
  | non => cases r; rfl
  | bl b => cases r; rfl
  | int i => obtain ⟨t, rfl⟩ := r; rfl
  | str z => obtain ⟨t, rfl⟩ := r; rfl
  | _ => exact absurd (show false = true from f) Bool.false_ne_true
theorem any_eqU {x : V} : ∀ {xs : List V} {us : List Value}, Vals xs us → xs.all flatV = true → us.any (eqU x) = xs.any fun y => eqV y x
  | _, _, .nil, _ => rfl
  | y :: xs, u :: us, .cons r t, f => by
    rw [List.all_cons, Bool.and_eq_true] at f
    rw [List.any_cons, List.any_cons, eqU_of r f.1, any_eqU t f.2]
theorem mem_eqAt {A : Around} {s : Shared} {x : V} {v : Value} (rx : RelV x v) (fx : flatV x = true) : ∀ {xs : List V} {us : List Value}, Vals xs us → xs.all flatV = true → ∀ u ∈ us, SeqAt.EqAt A s u v (eqU x u)
  | _, _, .nil, _ => fun u hu => by cases hu
  | y :: xs, u :: us, .cons r t, f => fun u' hu => by
    rw [List.all_cons, Bool.and_eq_true] at f
    rcases List.mem_cons.mp hu with rfl | hu
    · rw [eqU_of r f.1]; exact eqAt_V r rx f.1 fx
    · exact mem_eqAt rx fx t f.2 u' hu
def inV (x : V) (xs : List V) : Bool := xs.any fun y => eqV y x
def rIn (K : PySem.W.Frag) (neg : Bool) : R2 := fun x y H Q => ∃ p xs, y = .ref p ∧ (SqL K H p xs ∨ SqT K H p xs) ∧ flatV x = true ∧ xs.all flatV = true ∧ Q (.bl (if neg then !inV x xs else inV x xs)) H
theorem op_notIn_seq : OpR X (compareOp .NotIn) (rIn X.K true) := by
  intro pins s σ H x y v u Q I rx ry h
  obtain ⟨p, xs, rfl, hq, fx, fs, q⟩ := h
  cases ry
  rcases hq with hq | hq
  · obtain ⟨its, r, pl, hz⟩ := I.list hq
    refine SeqAt.notIn_listAt (eqU x) pl.isList (fun w hw => mem_eqAt rx fx r fs w (by simpa using hw)) ⟨.bl _, H, I, rfl, ?_⟩
    rw [show its.toArray.any (eqU x) = its.any (eqU x) by simp, any_eqU r fs]
    exact q
  · obtain ⟨its, r, pl, hz⟩ := I.tuple hq
    refine SeqAt.notIn_tupleAt (eqU x) pl (fun w hw => mem_eqAt rx fx r fs w (by simpa using hw)) ⟨.bl _, H, I, rfl, ?_⟩
    rw [show its.toArray.any (eqU x) = its.any (eqU x) by simp, any_eqU r fs]
    exact q
theorem call_len_seq : CallR X (.builtin "len") (fun xs H Q => ∃ p ys, xs = [.ref p] ∧ (SqL X.K H p ys ∨ SqT X.K H p ys) ∧ Q (.int ys.length) H) := by
  intro pins s σ H xs us Q I r h
  obtain ⟨p, ys, rfl, hq, q⟩ := h
  obtain ⟨u, rfl, rx⟩ := vals1 r
  cases rx
  have hn := line63
  rcases hq with hq | hq
  · obtain ⟨its, r', pl, hz⟩ := I.list hq
    have hlen := r'.length
    exact Calls.call_len_list pl.isList (by simp only [List.size_toArray] <;> omega) ⟨.int ys.length, H, I.tok _, ⟨s.toks + 1, by rw [List.size_toArray, hlen]⟩, q⟩
  · obtain ⟨its, r', pl, hz⟩ := I.tuple hq
    have hlen := r'.length
    exact len_tuple pl (by simp only [List.size_toArray] <;> omega) ⟨.int ys.length, H, I.tok _, ⟨s.toks + 1, by rw [List.size_toArray, hlen]⟩, q⟩
def tyV (K : PySem.W.Frag) (T : String) (x : V) (H : Hp) : Prop := match x with
  | .str _ => T = "str"
  | .int _ => T = "int"
  | .ref p => (T = "list" ∧ ∃ xs, SqL K H p xs) ∨ (T = "tuple" ∧ ∃ o, K.lookup p = some o ∧ o.cls = .type "tuple" ∧ o.dict = none) ∨
      (T = "dict" ∧ ((∃ kvs, H p = some (.dK kvs)) ∨ ∃ kvs, H p = some (.dT kvs))) ∨ (T = "set" ∧ ∃ S n, H p = some (.set S n))
  | _ => False
theorem tyV_is {pins : List (Addr × Obj)} {σ : St} {H : Hp} {s : Shared} {T : String} {x : V} {v : Value} (I : Inv X pins σ H s) (r : RelV x v) (ty : tyV X.K T x H) :
    s.TypeIs v T ∧ ∀ a, v = .ref a → ∃ ob, s.heap.get? a = some ob ∧ ob.dict = none := by
  cases x with
  | str z =>
    obtain ⟨t, rfl⟩ := r
    cases (show T = "str" from ty)
    exact ⟨typeIs_str s z t, fun _ e => nomatch e⟩
  | int i =>
    obtain ⟨t, rfl⟩ := r
    cases (show T = "int" from ty)
    exact ⟨typeIs_int s i t, fun _ e => nomatch e⟩
  | ref p =>
    cases r
    rcases ty with ⟨rfl, xs, hq⟩ | ⟨rfl, o, hk, hc, hd⟩ | ⟨rfl, hk⟩ | ⟨rfl, S, n, hk⟩
    · obtain ⟨its, _, pl, _⟩ := I.list hq
      refine ⟨pl.isList.typeIs, fun a e => ?_⟩
      cases e
      obtain ⟨o, n, e, c, hd, _⟩ := pl
      exact ⟨o, e, hd⟩
    · refine ⟨⟨o, I.kIn p o hk, hc⟩, fun a e => ?_⟩
      cases e
      exact ⟨o, I.kIn _ o hk, hd⟩
    · have z : ∃ o, s.heap.get? p = some o ∧ o.ExactDict := by
        rcases hk with ⟨kvs, hk⟩ | ⟨kvs, hk⟩
        · obtain ⟨_, _, _, _, o, _, _, e, ex, _⟩ := I.hok p _ hk
          exact ⟨o, e, ex⟩
        · obtain ⟨_, _, _, _, o, _, _, e, ex, _⟩ := I.hok p _ hk
          exact ⟨o, e, ex⟩
      obtain ⟨o, e, ex⟩ := z
      refine ⟨⟨o, e, ex.1⟩, fun a e2 => ?_⟩
      cases e2
      exact ⟨o, e, ex.2.1⟩
    · obtain ⟨o, _, _, _, e, ex, _⟩ := I.hok p _ hk
      refine ⟨⟨o, e, ex.1⟩, fun a e2 => ?_⟩
      cases e2
      exact ⟨o, e, ex.2.1⟩
  | _ => exact False.elim ty
def tBM (K : PySem.W.Frag) (T : String) (r : V → List V → Hp → VK → Prop) (to : TE) (t : TA) : TE := fun σ H Q => to σ H fun x H1 => tyV K T x H1 ∧ t σ H1 fun xs H2 => r x xs H2 Q
variable {o e : Expr} {es : List Expr} {to : TE} {t : TA} {name : Str} {apos cpos : Pos} {T id : String} {r : V → List V → Hp → VK → Prop}
theorem pe_bm (pa : PlainAttrs T) (slot : Slot T name id) (hty : typeOf (.builtin id) = pure (.type "method_descriptor")) (hm : MtR X id r) (ho : PE X o to) (ha : PA X (e :: es) t)
    (hbase : attributeBase o name X.env (eval o X.env) = eval o X.env := by rfl)
    (hfew : ((backTo cpos (starEach (e :: es) X.env)).all (fun x => !x.1) && (backToKw cpos (keywordEach [] X.env)).all (fun x => x.1.isSome)
      && decide ((e :: es).length + ([] : List Keyword).length + (if ([] : List Keyword).isEmpty then 0 else 1) < 30)) = true := by rfl)
    (hline : (apos.endLine == cpos.line) = true := by rfl) (hs : starEach (e :: es) X.env = (false, eval e X.env) :: starEach es X.env := by rfl) (hplain : (backTo cpos (starEach es X.env)).any (·.1) = false := by rfl) :
    PE X (.Call (.Attribute o name apos) (e :: es) [] cpos) (tBM X.K T r to t) := by
  intro pins s σ H Q I h
  refine wpAny_Call_method_late hbase hfew hline rfl (thn (ho pins s σ H _ I h) fun v s1 ⟨x, H1, I1, r1, ty, q1⟩ => ?_)
  obtain ⟨h1, h2⟩ := tyV_is I1 r1 ty
  refine ⟨T, id, pa, slot, hty, h1, h2, ?_⟩
  have hA := ha cpos pins s1 σ H1 _ I1 q1
  rw [hs] at hA ⊢
  refine Calls.callWith_builtin (by show (false || (backTo cpos (starEach es X.env)).any (·.1)) = false; rw [hplain] <;> rfl) (Calls.evalArgs_plain ?_)
  exact thn hA fun us s2 ⟨vs, H2, I2, r2, q2⟩ => hm pins s2 σ H2 x vs v us Q I2 r1 r2 q2
/- xs.append(e), list.index on a module's tuple .. are MtR facts of 06m -/
end
end L2
namespace L2
open PySem PySem.Spec PyProof.Rows
theorem Vals.one : ∀ {x : V} {us : List Value}, Vals [x] us → ∃ u, us = [u] ∧ RelV x u
  | _, _, .cons r .nil => ⟨_, rfl, r⟩
theorem Vals.zero : ∀ {us : List Value}, Vals [] us → us = []
  | _, .nil => rfl
theorem Vals.rep {xs : List V} {us : List Value} (h : Vals xs us) : ∀ k : Nat, Vals (List.replicate k xs).flatten (List.replicate k us).flatten
  | 0 => .nil
  | k + 1 => by
    rw [List.replicate_succ, List.replicate_succ, List.flatten_cons, List.flatten_cons]
    exact Vals.append h (Vals.rep h k)
theorem foldl_rep (its : List Value) : ∀ (k : Nat) (acc : List Value),
    List.foldl (fun x1 x2 => x1 ++ x2) acc.toArray (List.replicate k its.toArray) = (acc ++ (List.replicate k its).flatten).toArray
  | 0, acc => by simp
  | k + 1, acc => by
    have e : acc.toArray ++ its.toArray = (acc ++ its).toArray := by simp
    have e2 : (acc ++ its) ++ (List.replicate k its).flatten = acc ++ (List.replicate (k + 1) its).flatten := by
      rw [List.replicate_succ, List.flatten_cons, List.append_assoc]
    rw [← e2, ← foldl_rep its k (acc ++ its), ← e, List.replicate_succ, List.foldl_cons]
section
variable {X : Cx} {pins : List (Addr × Obj)} {σ : St} {H : Hp} {s : Shared} {l b : Addr} {xs ys zs : List V}
theorem Inv.lnew {its : List Value} {t' : Nat} (I : Inv X pins σ H s) (hv : Vals ys its) (hz : ys.length ≤ sizeLine) :
    Inv X pins σ (upd H s.heap.objs.size (.lst ys)) { s with heap := s.heap.push { cls := .type "list", data := .seq its.toArray }, toks := t' } :=
  I.laid (fun _ _ q => Heap.get?_push_of_some _ q) (Nat.le_refl _) ⟨hz, its, 0, hv, Heap.get?_push_size _ rfl⟩
theorem Inv.fresh (I : Inv X pins σ H s) : H s.heap.objs.size = none := I.hok.fresh (Nat.le_refl _)
theorem Inv.lstM (I : Inv X pins σ H s) (hH : H l = some (.lst xs)) : xs.length ≤ sizeLine ∧ ∃ (its : List Value) (n : Nat), Vals xs its ∧ xs.length = its.length ∧ s.heap.get? l = some { cls := .type "list", data := .seq its.toArray n } := by
  obtain ⟨z, its, n, r, e⟩ := I.hok l _ hH
  exact ⟨z, its, n, r, r.length, e⟩
theorem notLongL {n : Nat} (h : n ≤ sizeLine) : Builtin.List.listTooLong n = false := by
  unfold Builtin.List.listTooLong
  exact decide_eq_false (by omega)
end
section
variable {X : Cx}
def rCat : R2 := fun x y H Q => ∃ l b xs zs, x = .ref l ∧ y = .ref b ∧ H l = some (.lst xs) ∧ H b = some (.lst zs) ∧ xs.length + zs.length ≤ sizeLine ∧ ∀ p, H p = none → Q (.ref p) (upd H p (.lst (xs ++ zs)))
theorem op_cat : OpR X (binaryOp .Add) rCat := by
  intro pins s σ H x y v u Q I rx ry h
  obtain ⟨l, b, xs, zs, rfl, rfl, hH, hB, hz, q⟩ := h
  cases rx
  cases ry
  obtain ⟨z, its, n, r, hl, e⟩ := I.lstM hH
  obtain ⟨z2, its2, n2, r2, hl2, e2⟩ := I.lstM hB
  refine PySem.P.add_list e e2 ?_ (by rw [List.size_toArray, List.size_toArray]; omega)
  have ea : its.toArray ++ its2.toArray = (its ++ its2).toArray := by simp
  rw [ea]
  exact ⟨.ref _, _, I.lnew (t' := s.toks) (r.append r2) (by rw [List.length_append]; omega), rfl, q _ I.fresh⟩
def rRep : R2 := fun x y H Q => ∃ l k xs, x = .ref l ∧ y = .int k ∧ H l = some (.lst xs) ∧ -(2 ^ 63) ≤ k ∧ k < 2 ^ 63 ∧ xs.length * k.toNat ≤ sizeLine ∧
  ∀ p, H p = none → Q (.ref p) (upd H p (.lst (List.replicate k.toNat xs).flatten))
theorem len_rep {α : Type} (xs : List α) (k : Nat) : (List.replicate k xs).flatten.length = k * xs.length := by
  induction k with
  | zero => simp
  | succ k ih => rw [List.replicate_succ, List.flatten_cons, List.length_append, ih, Nat.succ_mul, Nat.add_comm]
theorem op_rep : OpR X (binaryOp .Mult) rRep := by
  intro pins s σ H x y v u Q I rx ry h
  obtain ⟨l, k, xs, rfl, rfl, hH, h1, h2, hz, q⟩ := h
  cases rx
  obtain ⟨t, rfl⟩ := ry
  obtain ⟨z, its, n, r, hl, e⟩ := I.lstM hH
  have hlen : its.toArray.size * k.toNat ≤ sizeLine := by rw [List.size_toArray, ← hl]; exact hz
  have hcap : ¬ its.toArray.size * k.toNat > (2 ^ 63 - 1) / 8 := by
    have : (sizeLine : Nat) ≤ (2 ^ 63 - 1) / 8 := by decide
    omega
  have hfit : ¬ (!Builtin.List.listFitsIndex k) = true := by
    rw [fitsIndex_both h1 h2]
    exact Bool.false_ne_true
  have hlong : ¬ Builtin.List.listTooLong (its.toArray.size * k.toNat) = true := by
    rw [notLongL hlen]
    exact Bool.false_ne_true
  have hnew : List.foldl (fun x1 x2 => x1 ++ x2) #[] (List.replicate (if its.toArray.isEmpty = true then 0 else k.toNat) its.toArray) = (List.replicate k.toNat its).flatten.toArray := by
    have f0 : ∀ m : Nat, List.foldl (fun x1 x2 => x1 ++ x2) #[] (List.replicate m its.toArray) = (List.replicate m its).flatten.toArray := fun m => by
      have := foldl_rep its m []
      rw [List.nil_append] at this
      exact this
    rw [f0]
    cases its with
    | nil => simp
    | cons a r' => rw [if_neg (by simp)]
  refine wpAny_binaryOp_repeat_ref (T := "list") (U := "int") (by decide) ⟨_, e, rfl⟩ (fun s' => typeIs_int s' k t) noFill_list_mul F.fills_int_mul F.slot_int_rmul repeat_list F.slot_int_index.lookup
    (call_meets F.slot_int_rmul (typeIs_int s k t) F.entry_int_rmul (F.args_int_rmul_2 _ _) (int___rmul___int_list k t l its.toArray n)
      ⟨e, rfl, ⟨_, e, rfl⟩, call_meets F.slot_list_mul ⟨_, e, rfl⟩ F.entry_list_mul (F.args_list_mul_2 _ _) (AutoListH.list___mul___list_int_3 l its.toArray n k t hfit hcap hlong) ⟨e, ?_⟩⟩)
  rw [hnew]
  exact ⟨.ref _, _, I.lnew (t' := s.toks) (r.rep k.toNat) (by rw [len_rep, Nat.mul_comm]; exact hz), rfl, q _ I.fresh⟩
end
section
variable {prog : Program} {w : World} {A : Around} {E : Value → Shared → Prop} {s : Shared}
end
section
variable {X : Cx}
end
end L2
namespace L2
open PySem PySem.Spec PyProof.Rows
theorem Vals.ints : ∀ {ns : List Int} {us : List Value}, Vals (ns.map V.int) us → IntsAre us ns
  | [], us, h => by
    rw [List.map_nil] at h
    cases h
    exact IntsAre.nil
  | n :: ns, us, h => by
    rw [List.map_cons] at h
    cases h with
    | cons r t =>
      obtain ⟨k, rfl⟩ := r
      exact IntsAre.cons n k (Vals.ints t)
theorem Vals.strs : ∀ {xs : List Str} {us : List Value}, Vals (xs.map V.str) us → StrsAre us xs
  | [], us, h => by
    rw [List.map_nil] at h
    cases h
    exact StrsAre.nil
  | x :: xs, us, h => by
    rw [List.map_cons] at h
    cases h with
    | cons r t =>
      obtain ⟨k, rfl⟩ := r
      exact StrsAre.cons x k (Vals.strs t)
theorem Vals.ref1 {a : Addr} {us : List Value} (r : Vals [V.ref a] us) : us = [Value.ref a] := by
  cases r with
  | cons r t =>
    cases t
    cases r
    rfl
section
variable {prog : Program} {w : World} {A : Around} {E : Value → Shared → Prop} {s : Shared} {l : Addr} {its : List Value} {ns : List Int} {Q : Value → Shared → Prop}
theorem sum_raw (hh : A.handled = none) (hl : s.heap.IsList l its.toArray) (hi : IntsAre its ns)
    (h : ∀ h' tk t', (∀ b o, s.heap.get? b = some o → h'.get? b = some o) → Q (.int ns.sum t') { s with heap := h', toks := tk }) : wpAny (model prog w) A (call (.builtin "sum") [.ref l]) Q E s := by
  obtain ⟨xs, e⟩ := hi.allInts.items
  have hn : numsOf (intItems xs).toList = ns := by rw [← e]; exact hi.numsOf
  rw [nums_intItems] at hn
  rw [e] at hl
  refine PySem.sum_intListG hh hl fun h' tk t' hk => ?_
  have := h h' tk t' hk
  rw [preSum_eq, List.take_of_length_le (by simp), hn]; exact this
end
section
variable {X : Cx}
def rSum (K : PySem.W.Frag) : List V → Hp → VK → Prop := fun vs H Q => ∃ (a : Addr) (ns : List Int), vs = [V.ref a] ∧ SqL K H a (ns.map V.int) ∧ Q (.int ns.sum) H
theorem cr_sum (hc : X.calm = true) : CallR X (.builtin "sum") (rSum X.K) := by
  intro pins s σ H vs us Q I r h
  obtain ⟨a, ns, rfl, hs, q⟩ := h
  obtain ⟨its, rv, hl, _⟩ := I.list hs
  rw [Vals.ref1 r]
  exact sum_raw (I.ok.hd hc) hl.isList rv.ints fun h' tk t' hk => ⟨.int _, H, I.kept hk, ⟨_, rfl⟩, q⟩
end
section
variable {X : Cx}
def rIndex (K : PySem.W.Frag) : V → List V → Hp → VK → Prop := fun x xs H Q => ∃ (a : Addr) (ys : List V) (y : V) (j : Nat) (z : V), x = V.ref a ∧ xs = [y] ∧ SqL K H a ys ∧ flatV y = true ∧ ys.all flatV = true ∧ ys[j]? = some z ∧ eqV z y = true ∧
  (∀ (m : Nat) (z' : V), m < j → ys[m]? = some z' → eqV z' y = false) ∧ Q (.int (j : Nat)) H
theorem flat_at {ys : List V} (f : ys.all flatV = true) {j : Nat} {z : V} (h : ys[j]? = some z) : flatV z = true := List.all_eq_true.mp f z (List.mem_of_getElem? h)
theorem mt_index : MtR X "list.index" (rIndex X.K) := by
  intro pins s σ H x xs v us Q I rx rxs h
  obtain ⟨a, ys, y, j, z, rfl, rfl, hs, fy, fys, hz, hzj, hno, q⟩ := h
  cases rx
  cases rxs with
  | cons ry rt =>
    rename_i uy ut
    cases rt
    obtain ⟨its, rv, ⟨⟨cls, dd, data, sl⟩, n, ho, hc, hdn, hd⟩, hlen⟩ := I.list hs
    simp only at hc hd
    subst hc hd
    obtain ⟨u, hu, ru⟩ := rv.get hz
    obtain ⟨hjl, hje⟩ := List.getElem?_eq_some_iff.mp hu
    have hvl := rv.length
    have hj : j < its.toArray.size := by simpa using hjl
    have hsl := sizeLine_eq
    refine call_meets PySem.F.slot_list_index ⟨_, ho, rfl⟩ PySem.F.entry_list_index (PySem.F.args_list_index_2 _ _)
      (SeqAt.list_indexAt a its.toArray n dd sl uy (eqU y) j hj (by omega) ?_ ?_) ⟨ho, fun u' hu' => mem_eqAt ry fy rv fys u' (by simpa using hu'), ?_⟩
    · have e1 : its.toArray[j] = u := by simpa using hje
      rw [e1, eqU_of ru (flat_at fys hz)]
      exact hzj
    · intro m hm hmj
      have hml : m < its.length := by simpa using hm
      have hmy : m < ys.length := by omega
      have hy' : ys[m]? = some ys[m] := List.getElem?_eq_getElem hmy
      obtain ⟨u2, hu2, ru2⟩ := rv.get hy'
      obtain ⟨_, hme⟩ := List.getElem?_eq_some_iff.mp hu2
      have e1 : its.toArray[m] = u2 := by simpa using hme
      rw [e1, eqU_of ru2 (flat_at fys hy')]
      exact hno m _ hmj hy'
    · exact ⟨.int (j : Nat), H, I.tok _, ⟨_, rfl⟩, q⟩
end
section
variable {X : Cx}
end
section
variable {X : Cx}
end
mutual
inductive Dp (K : PySem.W.Frag) (H : Hp) : V → PyData → Prop
  | non : Dp K H .non .none
  | bl (b : Bool) : Dp K H (.bl b) (.bool b)
  | int (i : Int) : Dp K H (.int i) (.int i)
  | str (x : Str) : Dp K H (.str x) (.str x)
  | lst {a : Addr} {xs : List V} {ds : List PyData} : SqL K H a xs → DpAll K H xs ds → Dp K H (.ref a) (.list ds)
  | tup {a : Addr} {xs : List V} {ds : List PyData} : SqT K H a xs → DpAll K H xs ds → Dp K H (.ref a) (.tuple ds)
inductive DpAll (K : PySem.W.Frag) (H : Hp) : List V → List PyData → Prop
  | nil : DpAll K H [] []
  | cons {v : V} {vs : List V} {d : PyData} {ds : List PyData} : Dp K H v d → DpAll K H vs ds → DpAll K H (v :: vs) (d :: ds)
end
section
variable {X : Cx} {pins : List (Addr × Obj)} {σ : St} {H : Hp} {s : Shared}
mutual
theorem Dp.reads (I : Inv X pins σ H s) : ∀ (d : PyData) (v : V) (u : Value), Dp X.K H v d → RelV v u → ∃ as, Reads s.heap u d as
  | .none, _, _, h, r => by
    cases h
    cases r
    exact ⟨_, Reads.none⟩
  | .bool b, _, _, h, r => by
    cases h
    cases r
    exact ⟨_, Reads.bool b⟩
  | .int i, _, _, h, r => by
    cases h
    obtain ⟨t, rfl⟩ := r
    exact ⟨_, Reads.int i t⟩
  | .str x, _, _, h, r => by
    cases h
    obtain ⟨t, rfl⟩ := r
    exact ⟨_, Reads.str x t⟩
  | .list ds, _, _, h, r => by
    cases h with
    | lst hs ha =>
      cases r
      obtain ⟨its, rv, ⟨o, n, ho, hc, _, hd⟩, _⟩ := I.list hs
      obtain ⟨as, hr⟩ := Dp.readsAll I ds _ its ha rv
      exact ⟨_, Reads.list ho hc hd hr⟩
  | .tuple ds, _, _, h, r => by
    cases h with
    | tup hs ha =>
      cases r
      obtain ⟨its, rv, ⟨o, ho, hc, n, hd⟩, _⟩ := I.tuple hs
      obtain ⟨as, hr⟩ := Dp.readsAll I ds _ its ha rv
      exact ⟨_, Reads.tuple ho hc hd hr⟩
  | .dict _, _, _, h, _ => by cases h
theorem Dp.readsAll (I : Inv X pins σ H s) : ∀ (ds : List PyData) (vs : List V) (us : List Value), DpAll X.K H vs ds → Vals vs us → ∃ as, ReadsAll s.heap us ds as
  | [], _, _, h, r => by
    cases h
    cases r
    exact ⟨_, ReadsAll.nil⟩
  | d :: ds, _, _, h, r => by
    cases h with
    | cons h1 h2 =>
      cases r with
      | cons r1 r2 =>
        obtain ⟨as, q1⟩ := Dp.reads I d _ _ h1 r1
        obtain ⟨bs, q2⟩ := Dp.readsAll I ds _ _ h2 r2
        exact ⟨_, ReadsAll.cons q1 q2⟩
end
end
section
variable {X : Cx}
end
end L2
namespace L2
open PySem PySem.Spec PyProof.Rows
abbrev CellAt (h : Heap) (c : Addr) (v : Option Value) : Prop := h.IsCell c v
def relS (scope sc : Scope) : Scope :=
  { scope with names := scope.names.map fun (n, k) => if (k == .free && sc.kind == .function && sc.names.lookup n == some .cell) then (n, .cell) else (n, k) }
def cloFrom (cells : List (Str × Addr)) : List (Str × NameKind) → List (Str × Addr) → List (Str × Addr)
  | [], acc => acc
  | (n, k) :: r, acc => if k == .free then cloFrom cells r ((n, (cells.lookup n).getD 0) :: acc) else cloFrom cells r acc
theorem closure_loop (env : Env) (f : Str × NameKind → List (Str × Addr) → Sem (ForInStep (List (Str × Addr))))
    (hf : ∀ n k c, f (n, k) c = if k == .free then (do let a ← cellOf env n; pure (.yield ((n, a) :: c))) else pure (.yield c)) :
    ∀ (names : List (Str × NameKind)) (acc : List (Str × Addr)), (∀ y ∈ names, y.2 = .free → ∃ c, env.cells.lookup y.1 = some c) → forIn names acc f = pure (cloFrom env.cells names acc)
  | [], acc, _ => by rw [List.forIn_nil]; rfl
  | (n, k) :: r, acc, h => by
    rw [List.forIn_cons, hf]
    have ih := fun acc => closure_loop env f hf r acc fun y hy => h y (List.mem_cons_of_mem _ hy)
    unfold cloFrom
    by_cases hk : (k == NameKind.free) = true
    · rw [if_pos hk, if_pos hk]
      obtain ⟨c, hc⟩ := h (n, k) List.mem_cons_self (by simpa using hk)
      have e : cellOf env n = pure c := by unfold cellOf; rw [hc]
      rw [e]
      have e2 : (env.cells.lookup n).getD 0 = c := by rw [hc]; rfl
      rw [e2]
      exact ih _
    · rw [if_neg hk, if_neg hk]
      exact ih _
theorem closure_ok {scope : Scope} {env : Env} (h : ∀ y ∈ scope.names, y.2 = .free → ∃ c, env.cells.lookup y.1 = some c) : closureFor scope env = pure (cloFrom env.cells scope.names []) := by
  simp only [closureFor]
  rw [closure_loop env _ (fun n k c => rfl) scope.names [] h]
  rfl
theorem mem_lookup {α : Type} : ∀ {l : List (Str × α)} {n : Str} {c : α}, (n, c) ∈ l → ∃ c', l.lookup n = some c'
  | (k, v) :: r, n, c, h => by
    rw [List.lookup_cons]
    cases hb : n == k with
    | true => exact ⟨_, rfl⟩
    | false =>
      rcases List.mem_cons.mp h with e | h
      · cases e; simp at hb
      · exact mem_lookup h
theorem cloFrom_mem {cells : List (Str × Addr)} : ∀ {names : List (Str × NameKind)} {acc : List (Str × Addr)} {n : Str} {c : Addr}, (n, c) ∈ cloFrom cells names acc → (n, c) ∈ acc ∨ ((n, .free) ∈ names ∧ c = (cells.lookup n).getD 0)
  | [], _, _, _, h => .inl h
  | (m, k) :: r, acc, n, c, h => by
    unfold cloFrom at h
    split at h
    · rename_i hk
      have hk : k = .free := by simpa using hk
      rcases cloFrom_mem h with h | ⟨h1, h2⟩
      · rcases List.mem_cons.mp h with e | h
        · cases e; exact .inr ⟨hk ▸ List.mem_cons_self, rfl⟩
        · exact .inl h
      · exact .inr ⟨List.mem_cons_of_mem _ h1, h2⟩
    · rcases cloFrom_mem h with h | ⟨h1, h2⟩
      · exact .inl h
      · exact .inr ⟨List.mem_cons_of_mem _ h1, h2⟩
theorem cloFrom_acc {cells : List (Str × Addr)} : ∀ {names : List (Str × NameKind)} {acc : List (Str × Addr)} {p : Str × Addr}, p ∈ acc → p ∈ cloFrom cells names acc
  | [], _, _, h => h
  | (m, k) :: r, acc, p, h => by
    unfold cloFrom
    split
    · exact cloFrom_acc (List.mem_cons_of_mem _ h)
    · exact cloFrom_acc h
theorem cloFrom_has {cells : List (Str × Addr)} : ∀ {names : List (Str × NameKind)} {acc : List (Str × Addr)} {n : Str}, (n, .free) ∈ names → (n, (cells.lookup n).getD 0) ∈ cloFrom cells names acc
  | (m, k) :: r, acc, n, h => by
    unfold cloFrom
    rcases List.mem_cons.mp h with e | h
    · cases e
      exact cloFrom_acc List.mem_cons_self
    · split
      · exact cloFrom_has h
      · exact cloFrom_has h
theorem cells_mem : ∀ {names : List (Str × NameKind)} {h : Heap} {acc : List (Str × Addr)} {x : Str} {c : Addr}, (x, c) ∈ cellsFrom h.objs.size names acc →
    (x, c) ∈ acc ∨ ((x, .cell) ∈ names ∧ h.objs.size ≤ c ∧ CellAt (pushCells h names) c none)
  | [], _, _, _, _, h => .inl h
  | (n, k) :: r, h, acc, x, c, hm => by
    unfold cellsFrom at hm
    unfold pushCells
    split at hm
    · rename_i hk
      rw [if_pos hk]
      have hk : k = .cell := by simpa using hk
      rw [← Heap.size_push h { cls := .type "cell", data := .cell none }] at hm
      rcases cells_mem hm with hm | ⟨h1, h2, h3⟩
      · rcases List.mem_cons.mp hm with e | hm
        · cases e
          exact .inr ⟨hk ▸ List.mem_cons_self, Nat.le_refl _, _, pushCells_keeps r _ _ _ (Heap.get?_push_size _ rfl), rfl⟩
        · exact .inl hm
      · rw [Heap.size_push] at h2
        exact .inr ⟨List.mem_cons_of_mem _ h1, Nat.le_of_succ_le h2, h3⟩
    · rename_i hk
      rw [if_neg hk]
      rcases cells_mem hm with hm | ⟨h1, h2, h3⟩
      · exact .inl hm
      · exact .inr ⟨List.mem_cons_of_mem _ h1, h2, h3⟩
theorem cells_acc : ∀ {names : List (Str × NameKind)} {n : Nat} {acc : List (Str × Addr)} {p : Str × Addr}, p ∈ acc → p ∈ cellsFrom n names acc
  | [], _, _, _, h => h
  | (m, k) :: r, n, acc, p, h => by
    unfold cellsFrom
    split
    · exact cells_acc (List.mem_cons_of_mem _ h)
    · exact cells_acc h
theorem cells_has : ∀ {names : List (Str × NameKind)} {n : Nat} {acc : List (Str × Addr)} {x : Str}, (x, .cell) ∈ names → ∃ c, (x, c) ∈ cellsFrom n names acc
  | (m, k) :: r, n, acc, x, h => by
    unfold cellsFrom
    rcases List.mem_cons.mp h with e | h
    · cases e
      exact ⟨n, cells_acc List.mem_cons_self⟩
    · split
      · exact cells_has h
      · exact cells_has h
theorem cells_inj : ∀ {names : List (Str × NameKind)} {h : Heap} {acc : List (Str × Addr)} {x y : Str} {c : Addr}, (∀ p ∈ acc, p.2 < h.objs.size) → (∀ x y c, (x, c) ∈ acc → (y, c) ∈ acc → x = y) →
    (x, c) ∈ cellsFrom h.objs.size names acc → (y, c) ∈ cellsFrom h.objs.size names acc → x = y
  | [], _, _, _, _, _, _, hi, h1, h2 => hi _ _ _ h1 h2
  | (n, k) :: r, h, acc, x, y, c, hl, hi, h1, h2 => by
    unfold cellsFrom at h1 h2
    split at h1
    · rename_i hk
      rw [if_pos hk] at h2
      rw [← Heap.size_push h { cls := .type "cell", data := .cell none }] at h1 h2
      refine cells_inj (h := h.push _) (fun p hp => ?_) (fun x y c a b => ?_) h1 h2
      · rw [Heap.size_push]
        rcases List.mem_cons.mp hp with rfl | hp
        · exact Nat.lt_succ_self _
        · exact Nat.lt_succ_of_lt (hl p hp)
      · rcases List.mem_cons.mp a with e | a <;> rcases List.mem_cons.mp b with e' | b
        · cases e; cases e'; rfl
        · cases e; exact absurd (hl _ b) (Nat.lt_irrefl _)
        · cases e'; exact absurd (hl _ a) (Nat.lt_irrefl _)
        · exact hi _ _ _ a b
    · rename_i hk
      rw [if_neg hk] at h2
      exact cells_inj hl hi h1 h2
theorem newEnv_comp {M : Model} {A : Around} {E : Value → Shared → Prop} {s : Shared} {scope : Scope} {globals : Addr} {closure : List (Str × Addr)} {qual : Str} {func : Option Addr} {code : Value} {around : Env} {builtins : Addr} {Q : Env → Shared → Prop}
    (h : Q (newEnv scope s.heap.objs.size globals (cellsFrom (s.heap.objs.size + 1) scope.names closure) qual func code (some around) builtins)
      { s with heap := pushCells (s.heap.push { cls := .type "dict", data := .dict #[] }) scope.names }) :
    wpAny M A (newFunctionEnv scope globals closure [] qual func code (some around) builtins) Q E s := by
  simp only [newFunctionEnv, Option.isSome_some, if_true]
  refine wpAny_bind (wpAny_alloc ?_)
  refine wpAny_bind (wpAny_layCells _ (fun n k c => rfl) scope.names closure _ _ ?_)
  rw [show ({ s with heap := s.heap.push { cls := .type "dict", data := .dict #[] } } : Shared).heap.objs.size = s.heap.objs.size + 1 from Heap.size_push ..]
  rw [List.forIn_nil]
  exact wpAny_bind (wpAny_pure (wpAny_pure h))
theorem lookup_relS {sc : Scope} : ∀ {names : List (Str × NameKind)} {x : Str} {k : NameKind},
    (names.map fun (n, k) => if (k == NameKind.free && sc.kind == .function && sc.names.lookup n == some .cell) then (n, NameKind.cell) else (n, k)).lookup x = some k →
    ∃ k', names.lookup x = some k' ∧ (k = k' ∨ (k' = .free ∧ k = .cell))
  | [], _, _, h => by simp at h
  | (n, k₀) :: r, x, k, h => by
    have ih := @lookup_relS sc r x k
    have h' : List.lookup x ((if (k₀ == NameKind.free && sc.kind == .function && sc.names.lookup n == some .cell) = true then (n, NameKind.cell) else (n, k₀)) :: (r.map _)) = some k := h
    cases hx : x == n with
    | true =>
      simp only [List.lookup_cons, hx]
      by_cases hc : (k₀ == NameKind.free && sc.kind == .function && sc.names.lookup n == some .cell) = true
      · rw [if_pos hc] at h'
        simp only [List.lookup_cons, hx] at h'
        cases h'
        simp only [Bool.and_eq_true, beq_iff_eq] at hc
        exact ⟨k₀, rfl, .inr ⟨hc.1.1, rfl⟩⟩
      · rw [if_neg hc] at h'
        simp only [List.lookup_cons, hx] at h'
        cases h'
        exact ⟨_, rfl, .inl rfl⟩
    | false =>
      simp only [List.lookup_cons, hx]
      by_cases hc : (k₀ == NameKind.free && sc.kind == .function && sc.names.lookup n == some .cell) = true
      · rw [if_pos hc] at h'
        simp only [List.lookup_cons, hx] at h'
        exact ih h'
      · rw [if_neg hc] at h'
        simp only [List.lookup_cons, hx] at h'
        exact ih h'
structure BlkOk (N : List Str) (sc scope : Scope) (own : List (Str × Nat)) : Prop where
  kind : scope.kind = .function
  uniq : ∀ y ∈ scope.names, scope.names.lookup y.1 = some y.2
  ix : ∀ p ∈ own, N[p.2]? = some p.1
  free : ∀ y ∈ scope.names, y.2 = .free → sc.names.lookup y.1 = some .cell ∨ sc.names.lookup y.1 = some .free
  own : ∀ y ∈ scope.names, y.2 = .local ∨ y.2 = .cell → y.1 ∈ own.map (·.1) ∨ y.1 ∉ N
def wipe (σ : St) : List Nat → St
  | [] => σ
  | v :: vs => (wipe σ vs).set v none
theorem wipe_length (σ : St) : ∀ vs : List Nat, (wipe σ vs).length = σ.length
  | [] => rfl
  | v :: vs => by unfold wipe; rw [List.length_set, wipe_length σ vs]
theorem wipe_some {σ : St} {i : Nat} {x : V} : ∀ {vs : List Nat}, (wipe σ vs)[i]? = some (some x) → σ[i]? = some (some x) ∧ i ∉ vs
  | [], h => ⟨h, by simp⟩
  | v :: vs, h => by
    unfold wipe at h
    by_cases hi : v = i
    · subst hi
      by_cases hv : v < (wipe σ vs).length
      · rw [List.getElem?_set_self hv] at h; cases h
      · rw [List.getElem?_eq_none (by simpa using hv)] at h; cases h
    · rw [List.getElem?_set_ne hi] at h
      obtain ⟨h1, h2⟩ := wipe_some h
      exact ⟨h1, by simp only [List.mem_cons, not_or]; exact ⟨fun e => hi e.symm, h2⟩⟩
abbrev Cx.blk (X : Cx) (s : Shared) (H : Hp) (scope : Scope) (cenv : Env) (fp : List Addr) : Cx := { X with s_0 := s, H_0 := H, env := cenv, outer := X.stack, ex := fp, fn := fun x => scope.names.lookup x == some .cell, pn := [], xe := fun _ _ => False }
section
variable {X : Cx} {pins : List (Addr × Obj)} {σ : St} {H : Hp} {s : Shared}
theorem block_start {scope : Scope} {own : List (Str × Nat)} {fp : List Addr} (I : Inv X pins σ H s) (ok : BlkOk X.N X.env.scope scope own) (hN : X.N.Nodup) (hfp : ∀ b ∈ fp, FpOk X pins H b ∧ b < s.heap.objs.size) :
    Inv (X.blk s H scope (compEnvC scope (cellsFrom (s.heap.objs.size + 1) scope.names (cloFrom X.env.cells scope.names [])) s.heap.objs.size X.env) fp) [] (wipe σ (own.map (·.2))) H { s with heap := pushCells (s.heap.push { cls := .type "dict", data := .dict #[] }) scope.names } := by
  have hfree : ∀ y ∈ scope.names, y.2 = .free → ∃ c, X.env.cells.lookup y.1 = some c := fun y hy e => by
    rcases ok.free y hy e with k | k
    · exact I.ok.has _ (.inl k)
    · exact I.ok.has _ (.inr k)
  generalize hcenv : compEnvC scope (cellsFrom (s.heap.objs.size + 1) scope.names (cloFrom X.env.cells scope.names [])) s.heap.objs.size X.env = cenv
  have kp : ∀ b o, s.heap.get? b = some o → (pushCells (s.heap.push { cls := .type "dict", data := .dict #[] }) scope.names).get? b = some o := fun b o e => pushCells_keeps _ _ _ _ (Heap.get?_push_of_some _ e)
  have hL : cenv.locals = s.heap.objs.size := by rw [← hcenv]; rfl
  have hcl : cenv.cells = cellsFrom (s.heap.objs.size + 1) scope.names (cloFrom X.env.cells scope.names []) := by rw [← hcenv]; rfl
  have hsc : cenv.scope = relS scope X.env.scope := by rw [← hcenv]; rfl
  rw [← Heap.size_push s.heap { cls := .type "dict", data := .dict #[] }] at hcl
  have cm : ∀ {y c}, (y, c) ∈ cloFrom X.env.cells scope.names [] → X.env.cells.lookup y = some c ∧ c < s.heap.objs.size := fun {y c} hm => by
    rcases cloFrom_mem hm with hm | ⟨h1, rfl⟩
    · cases hm
    · obtain ⟨c, hc⟩ := hfree _ h1 rfl
      rw [hc]
      obtain ⟨w, z⟩ := I.cell _ _ hc
      exact ⟨rfl, z.lt⟩
  have mem : ∀ {y c}, cenv.cells.lookup y = some c → (X.env.cells.lookup y = some c ∧ c < s.heap.objs.size) ∨ (s.heap.objs.size + 1 ≤ c ∧ CellAt (pushCells (s.heap.push { cls := .type "dict", data := .dict #[] }) scope.names) c none) := fun {y c} e => by
    rw [hcl] at e
    rcases cells_mem (PySem.mem_of_lookup e) with hm | ⟨_, h2, h3⟩
    · exact .inl (cm hm)
    · rw [Heap.size_push] at h2; exact .inr ⟨h2, h3⟩
  have look : ∀ {y}, scope.names.lookup y = some .free → ∃ c, cenv.cells.lookup y = some c ∧ X.env.cells.lookup y = some c := fun {y} hl => by
    have hy : (y, NameKind.free) ∈ scope.names := PySem.mem_of_lookup hl
    obtain ⟨c', e'⟩ := mem_lookup (cells_acc (names := scope.names) (n := (s.heap.push { cls := .type "dict", data := .dict #[] }).objs.size) (cloFrom_has (cells := X.env.cells) (acc := []) hy))
    rw [← hcl] at e'
    refine ⟨c', e', ?_⟩
    rw [hcl] at e'
    rcases cells_mem (PySem.mem_of_lookup e') with hm | ⟨h1, _, _⟩
    · exact (cm hm).1
    · have := ok.uniq _ h1
      rw [hl] at this; cases this
  have okB : (X.blk s H scope cenv fp).Ok := by
    refine ⟨I.ok.mod, by show cenv.scope.kind = _; rw [hsc]; exact ok.kind, by show cenv.globals = _; rw [← hcenv]; exact I.ok.glob, by show cenv.builtins = _; rw [← hcenv]; exact I.ok.blt, by show s.heap.objs.size ≤ cenv.locals; rw [hL]; exact Nat.le_refl _,
      fun y z c e1 e2 => ?_, fun y hy => ?_, fun y c z e => ?_, I.ok.hd, I.ok.frames, .inl rfl, fun b hb => ⟨?_, fun y c e z => ?_⟩, I.bs, Nat.le_trans I.ok.bsz I.sz, fun b o e hb => ?_, fun b hb z => ?_, I.stack, I.stkFree⟩
    · have e1 : cenv.cells.lookup y = some c := e1
      have e2 : cenv.cells.lookup z = some c := e2
      rw [hcl] at e1 e2
      refine cells_inj (fun p hp => ?_) (fun y z c a b => I.ok.inj y z c (cm a).1 (cm b).1) (PySem.mem_of_lookup e1) (PySem.mem_of_lookup e2)
      rw [Heap.size_push]
      exact Nat.lt_succ_of_lt (cm (y := p.1) (c := p.2) hp).2
    · show ∃ c, cenv.cells.lookup y = some c
      have key : ∀ k, cenv.kindOf y = some k → (k = .cell ∨ k = .free) → ∃ c, cenv.cells.lookup y = some c := fun k hk hk' => by
        unfold Env.kindOf at hk
        rw [hsc] at hk
        obtain ⟨k', e, r⟩ := lookup_relS hk
        have : k' = .cell ∨ k' = .free := by
          rcases r with rfl | ⟨rfl, _⟩
          · exact hk'
          · exact .inr rfl
        rcases this with rfl | rfl
        · obtain ⟨c, hm⟩ := cells_has (n := (s.heap.push { cls := .type "dict", data := .dict #[] }).objs.size) (acc := cloFrom X.env.cells scope.names []) (PySem.mem_of_lookup e)
          obtain ⟨c', e'⟩ := mem_lookup hm
          exact ⟨c', by rw [hcl]; exact e'⟩
        · obtain ⟨c, h1, _⟩ := look e
          exact ⟨c, h1⟩
      rcases hy with hy | hy
      · exact key _ hy (.inl rfl)
      · exact key _ hy (.inr rfl)
    · have z : (scope.names.lookup y == some NameKind.cell) = true := z
      have z : scope.names.lookup y = some .cell := by simpa using z
      have e : cenv.cells.lookup y = some c := e
      rw [hcl] at e
      rcases cells_mem (PySem.mem_of_lookup e) with hm | ⟨_, h2, _⟩
      · rcases cloFrom_mem hm with hm | ⟨h1, _⟩
        · cases hm
        · have q := ok.uniq _ h1
          rw [z] at q; cases q
      · rw [Heap.size_push] at h2
        exact Nat.le_of_succ_le h2
    · show b ≠ cenv.locals
      rw [hL]; exact Nat.ne_of_lt (hfp b hb).2
    · have e : cenv.cells.lookup y = some c := e
      rcases mem e with ⟨h1, _⟩ | ⟨h1, _⟩
      · exact (hfp b hb).1.2.2.2.2.1 y c h1 z
      · have h2 : s.heap.objs.size + 1 ≤ b := by rw [← z]; exact h1
        exact absurd (Nat.lt_of_lt_of_le (hfp b hb).2 (Nat.le_of_succ_le h2)) (Nat.lt_irrefl _)
    · rcases (hfp b hb).1.2.2.2.1 with z | z
      · exact I.ok.noex b o e z
      · exact absurd (Nat.lt_of_lt_of_le (Heap.lt_size e) (Nat.le_trans I.ok.bsz z)) (Nat.lt_irrefl _)
    · rcases List.mem_cons.mp (I.stkSub b z) with z | z
      · exact (hfp b hb).1.2.1 z
      · exact (hfp b hb).1.2.2.1 z
  refine ⟨okB, rfl, I.bare, Un.kept kp, ⟨fun _ => none, ?_, fun i y av e1 e2 e3 => ?_⟩, fun y c e => ?_, ?_, fun y c e => ?_, fun p hp => ?_, I.hok.kept kp, by rw [wipe_length]; exact I.len⟩
  · show Heap.Ns _ cenv.locals _
    rw [hL]
    exact Heap.Ns.keeps (Heap.Ns.new ..) fun b o e => pushCells_keeps _ _ _ _ e
  · obtain ⟨e2, hne⟩ := wipe_some e2
    have hfr : scope.names.lookup y = some .free ∧ (cenv.kindOf y = some .cell ∨ cenv.kindOf y = some .free) := by
      have key : ∀ k, cenv.scope.names.lookup y = some k → k = .local ∨ k = .cell ∨ k = .free → scope.names.lookup y = some .free ∧ (cenv.kindOf y = some .cell ∨ cenv.kindOf y = some .free) := fun k hk hk' => by
        have hk0 := hk
        rw [hsc] at hk
        obtain ⟨k', e, r⟩ := lookup_relS hk
        have no : ¬ (k' = .local ∨ k' = .cell) := fun hh => by
          rcases ok.own _ (PySem.mem_of_lookup e) hh with e' | e'
          · obtain ⟨p, hp, hpy⟩ := List.mem_map.mp e'
            have e3 := ok.ix p hp
            have : p.1 = y := hpy
            rw [this] at e3
            exact hne (List.mem_map.mpr ⟨p, hp, nodup_ix hN e3 e1⟩)
          · exact e' (List.mem_of_getElem? e1)
        rcases r with rfl | ⟨rfl, rfl⟩
        · rcases hk' with rfl | rfl | rfl
          · exact absurd (.inl rfl) no
          · exact absurd (.inr rfl) no
          · exact ⟨e, .inr hk0⟩
        · exact ⟨e, .inl hk0⟩
      have e3 : Vis cenv.scope y := e3
      rcases e3 with e3 | e3 | e3
      · exact key _ e3 (.inl rfl)
      · exact key _ e3 (.inr (.inl rfl))
      · exact key _ e3 (.inr (.inr rfl))
    obtain ⟨m, hn, hl⟩ := I.loc
    have hvis : Vis X.env.scope y := (ok.free _ (PySem.mem_of_lookup hfr.1) rfl).elim (fun k => .inr (.inl k)) (fun k => .inr (.inr k))
    obtain ⟨w, r, q⟩ := hl i y av e1 e2 hvis
    refine ⟨w, r, .inr ⟨hfr.2, ?_⟩⟩
    obtain ⟨c, h1, h2⟩ := look hfr.1
    rcases q with ⟨k, _⟩ | ⟨_, c', e', z⟩
    · have k : X.env.scope.names.lookup y = some .local := k
      rcases ok.free _ (PySem.mem_of_lookup hfr.1) rfl with k' | k' <;> rw [show X.env.scope.names.lookup y = _ from k'] at k <;> cases k
    · rw [h2] at e'; cases e'
      exact ⟨c, h1, z.keeps kp⟩
  · have e : cenv.cells.lookup y = some c := e
    rcases mem e with ⟨h1, _⟩ | ⟨_, z⟩
    · obtain ⟨w, z⟩ := I.cell y c h1
      exact ⟨w, z.keeps kp⟩
    · exact ⟨_, z⟩
  · show H cenv.locals = none
    rw [hL]; exact I.hok.fresh (Nat.le_refl _)
  · have e : cenv.cells.lookup y = some c := e
    rcases mem e with ⟨h1, _⟩ | ⟨h1, _⟩
    · exact I.freeC y c h1
    · exact I.hok.fresh (Nat.le_of_succ_le h1)
  · exact absurd (show p ∈ ([] : List (Addr × Obj)) ++ [] from hp) (by simp)
theorem app_ok {E : Value → Shared → Prop} {D : Addr} {xs : List V} {y : V} {v : Value} {Q : Value → Shared → Prop} (I : Inv X pins σ H s) (hD : H D = some (.lst xs)) (hz : xs.length < sizeLine) (r : RelV y v)
    (h : ∀ s', Inv X pins σ (upd H D (.lst (xs ++ [y]))) s' → Q .none s') : wpAny (model X.prog X.w) X.A (call (.builtin "list.append") [.ref D, v]) Q E s := by
  obtain ⟨hz', its, n, ri, e⟩ := I.hok D _ hD
  have hl := ri.length
  refine append_at (hsz := by rw [List.size_toArray]; omega) e fun h' sb ho' => ?_
  refine h { s with heap := h' } (I.write (t' := s.toks) (by rw [hD]; trivial) (.inl rfl) (fun b u hb q => (sb.2 b hb).trans q) ⟨_, ho'⟩ ⟨by rw [List.length_append]; exact hz, its ++ [v], n + 1, ri.append (.cons r .nil), ?_⟩)
  rw [ho']
  simp
def PTs (X : Cx) (ifs : List Expr) (t : TT) : Prop :=
  ∀ (pins : List (Addr × Obj)) (s : Shared) (σ : St) (H : Hp) (Q : Bool → Hp → Prop), Inv X pins σ H s → t σ H Q →
    wpAny (model X.prog X.w) X.A (forIn ifs true fun c r => if r = true then do let ok ← isTrue c X.env (eval c X.env); pure (ForInStep.yield ok) else pure (ForInStep.yield r)) (TP X pins σ Q) X.xe s
def tYes : TT := fun _ H Q => Q true H
theorem pts_nil : PTs X [] tYes := fun _ _ _ H _ I h => wpAny_tests_nil ⟨H, I, h⟩
theorem pts_one {c : Expr} {t : TT} (h : PT X c t) : PTs X [c] t := fun pins s σ H Q I hw => wpAny_tests_one (h pins s σ H Q I hw)
end
theorem thnF {α : Type} {t : Sem α} {Q Q' : α → Shared → Prop} {M : Model} {A : Around} {E : Value → Shared → Prop} {s : Shared} (h : wpAny M A t Q (fun _ _ => False) s) (hQ : ∀ a s, Q a s → Q' a s) : wpAny M A t Q' E s := wpAny_mono h hQ fun _ _ z => False.elim z
theorem compLoop_any {prog : Program} {w : World} {A : Around} {R : Result → Shared → Prop} {s : Shared} {elt target iter : Expr} {ifs : List Expr} {scope : Scope} {pos : Pos} {it acc : Value} {env : Env} (I : Nat → Shared → Prop)
    (turn : ∀ n s, I n s → wpAny (model prog w) A (pyNext it) (fun r s₁ => match r with
      | none => R (.ok .next) s₁
      | some v => wpAny (model prog w) A (letOwnedTupleGo target it v) (fun _ s₁' => wpAny (model prog w) A (assign target env v) (fun _ s₂ =>
          wpAny (model prog w) A (forIn ifs true fun c r => if r = true then do let ok ← isTrue c env (eval c env); pure (ForInStep.yield ok) else pure (ForInStep.yield r)) (fun ok s₃ =>
            if ok = true then wpAny (model prog w) A (eval elt env) (fun x s₄ =>
              wpAny (model prog w) A (call (.builtin "list.append") [acc, x]) (fun _ s₅ => ∃ m, m < n ∧ I m s₅) (notedBy (model prog w) A env fun e s' => R (.error e) s') s₄) (notedBy (model prog w) A env fun e s' => R (.error e) s') s₃
            else ∃ m, m < n ∧ I m s₃) (notedBy (model prog w) A env fun e s' => R (.error e) s') s₂) (notedBy (model prog w) A env fun e s' => R (.error e) s') s₁') (notedBy (model prog w) A env fun e s' => R (.error e) s') s₁) (notedBy (model prog w) A env fun e s' => R (.error e) s') s)
    (n : Nat) (h : I n s) :
    codeAny (model prog w) A (.compLoop (.ListComp elt [⟨target, iter, ifs, 0⟩] scope pos) 0 it acc env) R s := by
  refine codeAny_loop rfl I (fun n s hI => ?_) n h
  show wpAny _ A ((compTurn (.ListComp elt [⟨target, iter, ifs, 0⟩] scope pos) 0 it acc env).onRaise (fun x => do noteFrame x env; theTreesLotGoes x)) _ _ s
  refine wpAny_noted ?_
  rw [compTurn_list]
  refine wpAny_bind (wpAny_standAt (wpAny_bind (wpAny_mono (turn n s hI) (fun r s₁ h₁ => ?_) fun _ _ h' => h')))
  cases r with
  | none => exact wpAny_pure h₁
  | some v =>
    refine wpAny_bind (wpAny_mono h₁ (fun _ s₁' h₁' => ?_) fun _ _ h' => h')
    refine wpAny_bind (wpAny_mono h₁' (fun _ s₂ h₂ => wpAny_bind (wpAny_mono h₂ (fun ok s₃ h₃ => ?_) fun _ _ h' => h')) fun _ _ h' => h')
    cases ok with
    | false => exact wpAny_pure ⟨rfl, h₃⟩
    | true =>
      exact wpAny_bind (wpAny_bind (wpAny_mono h₃ (fun x s₄ h₄ => wpAny_bind (wpAny_mono h₄ (fun _ s₅ h₅ => wpAny_pure (wpAny_pure ⟨rfl, h₅⟩)) fun _ _ h' => h')) fun _ _ h' => h'))
section
variable {X : Cx}
def tLc (wi : TI) (g : TG) (tt : TT) (te : TE) (vs : List Nat) : TE := fun σ H Q => wi σ H fun J H1 => ∀ D, H1 D = none → ∃ W : Nat → Nat → Hp → Prop, (∃ m, W 0 m (upd H1 D (.lst []))) ∧ ∀ i m H, W i m H →
  (J.stop i H ∧ Q (.ref D) H) ∨ (J.go i H ∧ ∃ Nx : Hp → Prop, (∀ H', Nx H' → ∃ m', m' < m ∧ W (i + 1) m' H') ∧ ∀ x H', J.yld i H x H' → g x (wipe σ vs) H' fun σ2 H2 => wipe σ2 vs = wipe σ vs ∧ tt σ2 H2 fun b H3 =>
    if b = true then te σ2 H3 fun y H4 => ∃ acc, H4 D = some (.lst acc) ∧ acc.length < sizeLine ∧ Nx (upd H4 D (.lst (acc ++ [y]))) else Nx H3)
theorem lc_core {pins : List (Addr × Obj)} {s : Shared} {σ : St} {H : Hp} {Q : VK} {elt tg iter : Expr} {ifs : List Expr} {scope : Scope} {own : List (Str × Nat)} {pos pos' : Pos} {wi : TI} {g : TG} {tt : TT} {te : TE} {use : Option (Value → Sem Unit)} {Qf : Value → Shared → Prop}
    (hc : X.calm = true) (hN : X.N.Nodup) (I : Inv X pins σ H s) (hi : PI X tg iter wi) (ok : BlkOk X.N X.env.scope scope own)
    (hg : ∀ (s : Shared) (H : Hp) (C : Addr) (cl : List (Str × Addr)) (fp : List Addr), PG (X.blk s H scope (compEnvC scope cl C X.env) fp) tg g) (ht : ∀ (s : Shared) (H : Hp) (C : Addr) (cl : List (Str × Addr)) (fp : List Addr), PTs (X.blk s H scope (compEnvC scope cl C X.env) fp) ifs tt)
    (he : ∀ (s : Shared) (H : Hp) (C : Addr) (cl : List (Str × Addr)) (fp : List Addr), PE (X.blk s H scope (compEnvC scope cl C X.env) fp) elt te) (hs : ∀ x, foldedSetIterable iter X.env x = pure x)
    (h : tLc wi g tt te (own.map (·.2)) σ H Q)
    (hRR : ∀ D C s' m H', Inv X pins σ H' s' → Q (.ref D) H' → s'.heap.Ns C m → FpOk X pins H' C → compPost (model X.prog X.w) X.A X.xe use Qf (.ref D) C (.ok .next) s') :
    wpAny (model X.prog X.w) X.A (comprehension (.ListComp elt [⟨tg, iter, ifs, 0⟩] scope pos) scope X.env pos' (newList []) false (eval iter X.env) use) Qf X.xe s := by
  have hfree : ∀ y ∈ scope.names, y.2 = .free → ∃ c, X.env.cells.lookup y.1 = some c := fun y hy e => by
    rcases ok.free y hy e with k | k
    · exact I.ok.has _ (.inl k)
    · exact I.ok.has _ (.inr k)
  refine wpAny_comprehension_free (use := use) rfl hs (closure_ok hfree) ok.kind (fun y hy e => by rw [ok.uniq y hy, e])
    (thn (hi pins s σ H _ I h) fun xv s1 hx => thn hx fun itv s2 h2 => ?_)
  obtain ⟨it, fp, tn, J, H2, e, I2, T, st2, f2, q⟩ := h2
  subst e
  refine wpAny_newObj_type (newEnv_comp ?_) (by show 0 ≤ sizeLine; decide)
  generalize hD : s2.heap.objs.size = D
  have hDn : H2 D = none := I2.hok.fresh (Nat.le_of_eq hD)
  obtain ⟨W, ⟨m0, w0⟩, turn⟩ := q D hDn
  -- the new list
  generalize hs3 : ({ s2 with heap := s2.heap.push { cls := .type "list", data := .seq ([] : List Value).toArray } } : Shared) = s3
  have I3 : Inv X pins σ (upd H2 D (.lst [])) s3 := by
    rw [← hs3]
    refine I2.laid (t' := s2.toks) (fun b o e => Heap.get?_push_of_some _ e) (Nat.le_of_eq hD) ⟨Nat.zero_le _, [], 0, .nil, ?_⟩
    rw [← hD]
    exact Heap.get?_push_size _ rfl
  have h3 : s3.heap = s2.heap.push { cls := .type "list", data := .seq ([] : List Value).toArray } := by rw [← hs3]
  have sz : ∀ b ∈ fp, b < s2.heap.objs.size := fun b hb => by
    obtain ⟨o, e, _⟩ := T.obj _ _ st2 b hb
    exact Heap.lt_size e
  have f3 : ∀ b ∈ fp, FpOk X pins (upd H2 D (.lst [])) b ∧ b < s3.heap.objs.size := fun b hb => by
    have hlt := sz b hb
    refine ⟨⟨?_, (f2 b hb).2⟩, by rw [h3, Heap.size_push]; exact Nat.lt_succ_of_lt hlt⟩
    rw [upd_ne (by rw [← hD]; exact Nat.ne_of_lt hlt)]
    exact (f2 b hb).1
  have st3 : tn 0 s3.heap := T.keep _ _ _ st2 fun b _ o e => by rw [h3]; exact Heap.get?_push_of_some _ e
  have I4 := block_start I3 ok hN f3
  have pg := hg s3 (upd H2 D (.lst [])) s3.heap.objs.size (cellsFrom (s3.heap.objs.size + 1) scope.names (cloFrom X.env.cells scope.names [])) fp
  have pt := ht s3 (upd H2 D (.lst [])) s3.heap.objs.size (cellsFrom (s3.heap.objs.size + 1) scope.names (cloFrom X.env.cells scope.names [])) fp
  have pe := he s3 (upd H2 D (.lst [])) s3.heap.objs.size (cellsFrom (s3.heap.objs.size + 1) scope.names (cloFrom X.env.cells scope.names [])) fp
  show codeAny _ _ (.compStart (.ListComp elt [⟨tg, iter, ifs, 0⟩] scope pos) 0 (.ref it) (.ref D) (compEnvC scope (cellsFrom (s3.heap.objs.size + 1) scope.names (cloFrom X.env.cells scope.names [])) s3.heap.objs.size X.env)) (compPost (model X.prog X.w) X.A X.xe use Qf (.ref D) s3.heap.objs.size) { s3 with heap := pushCells (s3.heap.push { cls := .type "dict", data := .dict #[] }) scope.names }
  have nfp : ∀ b ∈ fp, (upd H2 D (.lst [])) b = none := fun b hb => (f3 b hb).1.1
  generalize hce : compEnvC scope (cellsFrom (s3.heap.objs.size + 1) scope.names (cloFrom X.env.cells scope.names [])) s3.heap.objs.size X.env = ce at I4 pg pt pe ⊢
  have cL : ce.locals = s3.heap.objs.size := by subst hce; rfl
  generalize hH3 : upd H2 D (.lst []) = H3 at I3 I4 pg pt pe w0 nfp f3
  generalize hs4 : ({ s3 with heap := pushCells (s3.heap.push { cls := .type "dict", data := .dict #[] }) scope.names } : Shared) = s4 at I4 ⊢
  have st4 : tn 0 s4.heap := T.keep _ _ _ st3 fun b _ o e => by rw [← hs4]; exact pushCells_keeps _ _ _ _ (Heap.get?_push_of_some _ e)
  have stat : ∀ {σ' : St} {H' : Hp} {s' : Shared}, Inv (X.blk s3 H3 scope ce fp) [] σ' H' s' → (∀ b ∈ fp, H' b = none) → ∀ b ∈ fp, FpOk (X.blk s3 H3 scope ce fp) [] H' b := fun {σ' H' s'} I' hn b hb =>
    ⟨hn b hb, (I'.ok.exf b hb).1, I'.ok.exfs b hb, .inl hb, fun x c e => (I'.ok.exf b hb).2 x c e, fun p hp => absurd (show p ∈ ([] : List (Addr × Obj)) ++ [] from hp) (by simp)⟩
  have loop : codeAny (model X.prog X.w) X.A (.compLoop (.ListComp elt [⟨tg, iter, ifs, 0⟩] scope pos) 0 (.ref it) (.ref D) ce) (compPost (model X.prog X.w) X.A X.xe use Qf (.ref D) s3.heap.objs.size) s4 := by
    refine compLoop_any (fun n s' => ∃ i H', Inv (X.blk s3 H3 scope ce fp) [] (wipe σ (own.map (·.2))) H' s' ∧ tn i s'.heap ∧ (∀ b ∈ fp, H' b = none) ∧ W i n H') ?_ m0 ⟨0, H3, I4, st4, nfp, w0⟩
    rintro n s5 ⟨i, H5, I5, st5, n5, w5⟩
    rcases turn i n H5 w5 with ⟨stop, qq⟩ | ⟨go, Nx, hNx, step⟩
    · have td := T.done (X.blk s3 H3 scope ce fp) rfl rfl rfl hc i [] s5 _ H5 (fun _ _ => False) I5 (stat I5 n5) st5 stop
      refine thnF td fun r s6 ⟨hr, I6⟩ => ?_
      subst hr
      -- back in the def's context
      have I7 : Inv X pins σ H5 s6 := I3.call' (ch := fp) I6.os I6.base I6.hok I6.bare fun b hb => ⟨(f3 b hb).1.2.2.2.1, (f3 b hb).1.2.1, (f3 b hb).1.2.2.2.2.1, (f3 b hb).1.2.2.2.2.2⟩
      have nC : H5 s3.heap.objs.size = none := by
        have z : H5 ce.locals = none := I6.free
        rw [cL] at z
        exact z
      obtain ⟨m, hn, _⟩ := I6.loc
      have hn : s6.heap.Ns ce.locals m := hn
      rw [cL] at hn
      exact hRR D s3.heap.objs.size s6 m H5 I7 qq hn (I3.fpOk (Nat.le_refl _) nC)
    · have ti := T.item (X.blk s3 H3 scope ce fp) rfl rfl rfl hc i [] s5 _ H5 (fun _ _ => False) I5 (stat I5 n5) st5 go
      refine thnF ti fun r s6 ⟨u, hr, h6⟩ => ?_
      subst hr
      refine thnF h6 fun _ s7 ⟨x, H7, I7, r7, y7, st7, n7⟩ => ?_
      have I7' := I7.pinned (stat I7 n7) (T.obj _ _ st7)
      refine thnF (pg _ s7 _ H7 x u _ I7' r7 (step x H7 y7)) fun _ s8 ⟨σ8, H8, I8, hw8, q8⟩ => ?_
      refine thnF (pt _ s8 σ8 H8 _ I8 q8) fun b s9 ⟨H9, I9, q9⟩ => ?_
      -- the turn's end
      have fin : ∀ {s' : Shared} {H' : Hp}, Inv (X.blk s3 H3 scope ce fp) ([] ++ pinsAt fp s7.heap) σ8 H' s' → Nx H' → ∃ m, m < n ∧ ∃ i H', Inv (X.blk s3 H3 scope ce fp) [] (wipe σ (own.map (·.2))) H' s' ∧ tn i s'.heap ∧ (∀ b ∈ fp, H' b = none) ∧ W i m H' := fun {s' H'} I' nx => by
        obtain ⟨m', hm, w'⟩ := hNx H' nx
        have pin' : ∀ b ∈ fp, ∀ o, s7.heap.get? b = some o → s'.heap.get? b = some o ∧ H' b = none := fun b hb o e =>
          let z := I'.pin (b, o) (List.mem_append_right _ (List.mem_append_right _ (mem_pinsAt hb e)))
          ⟨z.1, z.2.1⟩
        have hl : (wipe σ (own.map (·.2))).length = σ8.length := by rw [← hw8, wipe_length]
        refine ⟨m', hm, i + 1, H', (I'.unpinned (pins := [])).weak hl (fun j v e => ?_), T.keep _ _ _ st7 fun b hb o e => (pin' b hb o e).1, fun b hb => ?_, w'⟩
        · rw [← hw8] at e
          exact (wipe_some e).1
        · obtain ⟨o, e, _⟩ := T.obj _ _ st7 b hb
          exact (pin' b hb o e).2
      cases b with
      | false =>
        simp only [Bool.false_eq_true, if_false] at q9 ⊢
        exact fin I9 q9
      | true =>
        simp only [if_true] at q9 ⊢
        refine thnF (pe _ s9 σ8 H9 _ I9 q9) fun z s10 ⟨yv, H10, I10, r10, acc, hD10, hz10, nx⟩ => ?_
        exact app_ok (X := X.blk s3 H3 scope ce fp) I10 hD10 hz10 r10 fun s11 I11 => fin I11 nx
  exact codeAny_compStart_list loop (T.self X.A 0 _ _ _ st4 loop)
theorem pe_lc {elt tg iter : Expr} {ifs : List Expr} {scope : Scope} {own : List (Str × Nat)} {pos : Pos} {wi : TI} {g : TG} {tt : TT} {te : TE} (hc : X.calm = true) (hN : X.N.Nodup) (hi : PI X tg iter wi) (ok : BlkOk X.N X.env.scope scope own)
    (hg : ∀ (s : Shared) (H : Hp) (C : Addr) (cl : List (Str × Addr)) (fp : List Addr), PG (X.blk s H scope (compEnvC scope cl C X.env) fp) tg g) (ht : ∀ (s : Shared) (H : Hp) (C : Addr) (cl : List (Str × Addr)) (fp : List Addr), PTs (X.blk s H scope (compEnvC scope cl C X.env) fp) ifs tt)
    (he : ∀ (s : Shared) (H : Hp) (C : Addr) (cl : List (Str × Addr)) (fp : List Addr), PE (X.blk s H scope (compEnvC scope cl C X.env) fp) elt te) (hs : ∀ x, foldedSetIterable iter X.env x = pure x := by intro _; rfl) :
    PE X (.ListComp elt [⟨tg, iter, ifs, 0⟩] scope pos) (tLc wi g tt te (own.map (·.2))) := by
  intro pins s σ H Q I h
  rw [eval_ListComp]
  refine lc_core hc hN I hi ok hg ht he hs h fun D C s' m H' I' q hn f => ⟨m, hn, fun h'' sb => ?_⟩
  obtain ⟨f0, f1, f2, f3, f4, f5⟩ := f
  exact ⟨.ref D, H', I'.turned (t' := s'.toks) (fun b o hb e => (sb.2 b hb).trans e) f0 f1 f3 f4 f5, rfl, q⟩
theorem ps_setLc {i : Nat} {y : Str} {py : Pos} {elt tg iter : Expr} {ifs : List Expr} {scope : Scope} {own : List (Str × Nat)} {pos spos : Pos} {wi : TI} {g : TG} {tt : TT} {te : TE} (hc : X.calm = true) (hN : X.N.Nodup) (hy : X.N[i]? = some y) (hyl : X.env.scope.names.lookup y = some .local)
    (hsw : swapsWith (.ListComp elt [⟨tg, iter, ifs, 0⟩] scope pos) (some (.Name y py)) spos.line X.env = pure true) (hi : PI X tg iter wi) (ok : BlkOk X.N X.env.scope scope own)
    (hg : ∀ (s : Shared) (H : Hp) (C : Addr) (cl : List (Str × Addr)) (fp : List Addr), PG (X.blk s H scope (compEnvC scope cl C X.env) fp) tg g) (ht : ∀ (s : Shared) (H : Hp) (C : Addr) (cl : List (Str × Addr)) (fp : List Addr), PTs (X.blk s H scope (compEnvC scope cl C X.env) fp) ifs tt)
    (he : ∀ (s : Shared) (H : Hp) (C : Addr) (cl : List (Str × Addr)) (fp : List Addr), PE (X.blk s H scope (compEnvC scope cl C X.env) fp) elt te) (hs : ∀ x, foldedSetIterable iter X.env x = pure x := by intro _; rfl) :
    PS X (.Assign [.Name y py] (.ListComp elt [⟨tg, iter, ifs, 0⟩] scope pos) spos) (tAsg (tLc wi g tt te (own.map (·.2))) (gName i)) := by
  intro pins s σ H D I h
  rw [exec_Assign_Name_used _ _ _ _ hsw]
  refine wpAny_bind (wpAny_standAt (wpAny_bind ?_))
  show wpAny _ X.A (do let _ ← comprehension (.ListComp elt [⟨tg, iter, ifs, 0⟩] scope pos) scope X.env (firstIterPos [⟨tg, iter, ifs, 0⟩] pos) (newList []) false (eval iter X.env) (some (assign (.Name y py) X.env))) _ _ s
  have h : tLc wi g tt te (own.map (·.2)) σ H (fun x H1 => gName i x σ H1 D.nx) := h
  refine wpAny_bind (thn (lc_core (Qf := fun _ s' => SP X pins D .next s') hc hN I hi ok hg ht he hs h fun L C s' m H' I' q hn f => ?_) fun _ s' hq => wpAny_pure (wpAny_pure hq))
  show wpAny _ _ (assign (.Name y py) X.env (.ref L)) _ _ _
  refine wpAny_assign_Name (store_ok2 (v := V.ref L) I' hN hy (.inl hyl) rfl (fun s2 I2 ⟨a, sb, ha⟩ => ?_) (.inr hyl))
  obtain ⟨f0, f1, f2, f3, f4, f5⟩ := f
  have haC : C ≠ a := by
    rcases ha with z | z
    · rw [z]; exact f1
    · exact fun e => f4 y a z e.symm
  refine ⟨m, hn.sameBut sb haC, fun h3 sb3 => ?_⟩
  exact ⟨_, H', I2.turned (t' := s2.toks) (fun b o hb e => (sb3.2 b hb).trans e) f0 f1 f3 f4 f5, q⟩
theorem sw_true {elt : Expr} {gs : List Comprehension} {scope : Scope} {pos py : Pos} {y : Str} {l : Nat} {env : Env} (hk : env.scope.kind = .function) (hy : env.scope.names.lookup y = some .local) (hl : (py.line == pos.line) = true)
    (ha : (scope.names.any fun (n, k) => n == y && (k == .local || k == .cell)) = false) : swapsWith (.ListComp elt gs scope pos) (some (.Name y py)) l env = pure true := by
  have ky : env.kindOf y = some .local := hy
  have hb : env.blockKind = .function := by unfold Env.blockKind; rw [hk]; rfl
  unfold swapsWith
  simp only [hb, ky, ha, Expr.pos, hl]
  rfl
end
theorem lc_range {lo : Int} {n : Nat} {g : TG} {tt : TT} {te : TE} {vs : List Nat} {σ : St} {H1 : Hp} {D : Addr} {Qd : Hp → Prop} (Pv : Nat → Hp → Prop) (h0 : Pv 0 (upd H1 D (.lst [])))
    (hs : ∀ i H, i < n → Pv i H → g (.int (lo + i)) (wipe σ vs) H fun σ2 H2 => wipe σ2 vs = wipe σ vs ∧ tt σ2 H2 fun b H3 =>
      if b = true then te σ2 H3 fun y H4 => ∃ acc, H4 D = some (.lst acc) ∧ acc.length < sizeLine ∧ Pv (i + 1) (upd H4 D (.lst (acc ++ [y]))) else Pv (i + 1) H3) (hd : ∀ H, Pv n H → Qd H) :
    ∃ W : Nat → Nat → Hp → Prop, (∃ m, W 0 m (upd H1 D (.lst []))) ∧ ∀ i m H, W i m H →
      ((Itr lo n).stop i H ∧ Qd H) ∨ ((Itr lo n).go i H ∧ ∃ Nx : Hp → Prop, (∀ H', Nx H' → ∃ m', m' < m ∧ W (i + 1) m' H') ∧ ∀ x H', (Itr lo n).yld i H x H' → g x (wipe σ vs) H' fun σ2 H2 => wipe σ2 vs = wipe σ vs ∧ tt σ2 H2 fun b H3 =>
        if b = true then te σ2 H3 fun y H4 => ∃ acc, H4 D = some (.lst acc) ∧ acc.length < sizeLine ∧ Nx (upd H4 D (.lst (acc ++ [y]))) else Nx H3) := by
  refine ⟨fun i m H => m = n - i ∧ i ≤ n ∧ Pv i H, ⟨n, by simp, Nat.zero_le _, h0⟩, ?_⟩
  rintro i m H ⟨rfl, hi, p⟩
  by_cases hlt : i < n
  · refine .inr ⟨hlt, Pv (i + 1), fun H' p' => ⟨n - (i + 1), by omega, rfl, hlt, p'⟩, fun x H' y => ?_⟩
    obtain ⟨e, y⟩ := y
    subst e y
    exact hs i _ hlt p
  · have e : i = n := by omega
    subst e
    exact .inl ⟨Nat.le_refl _, hd H p⟩
theorem lc_list {K : PySem.W.Frag} {a : Addr} {xs : List V} {g : TG} {tt : TT} {te : TE} {vs : List Nat} {σ : St} {H1 : Hp} {D : Addr} {Qd : Hp → Prop} (Pv : Nat → Hp → Prop) (h0 : Pv 0 (upd H1 D (.lst []))) (hl : ∀ i H, i ≤ xs.length → Pv i H → SqL K H a xs)
    (hs : ∀ i x H, xs[i]? = some x → Pv i H → g x (wipe σ vs) H fun σ2 H2 => wipe σ2 vs = wipe σ vs ∧ tt σ2 H2 fun b H3 =>
      if b = true then te σ2 H3 fun y H4 => ∃ acc, H4 D = some (.lst acc) ∧ acc.length < sizeLine ∧ Pv (i + 1) (upd H4 D (.lst (acc ++ [y]))) else Pv (i + 1) H3) (hd : ∀ H, Pv xs.length H → Qd H) :
    ∃ W : Nat → Nat → Hp → Prop, (∃ m, W 0 m (upd H1 D (.lst []))) ∧ ∀ i m H, W i m H →
      ((Itl K a).stop i H ∧ Qd H) ∨ ((Itl K a).go i H ∧ ∃ Nx : Hp → Prop, (∀ H', Nx H' → ∃ m', m' < m ∧ W (i + 1) m' H') ∧ ∀ x H', (Itl K a).yld i H x H' → g x (wipe σ vs) H' fun σ2 H2 => wipe σ2 vs = wipe σ vs ∧ tt σ2 H2 fun b H3 =>
        if b = true then te σ2 H3 fun y H4 => ∃ acc, H4 D = some (.lst acc) ∧ acc.length < sizeLine ∧ Nx (upd H4 D (.lst (acc ++ [y]))) else Nx H3) := by
  refine ⟨fun i m H => m = xs.length - i ∧ i ≤ xs.length ∧ Pv i H, ⟨xs.length, by simp, Nat.zero_le _, h0⟩, ?_⟩
  rintro i m H ⟨rfl, hi, p⟩
  have q := hl i H hi p
  by_cases hlt : i < xs.length
  · refine .inr ⟨⟨xs, xs[i], q, by simp [hlt]⟩, Pv (i + 1), fun H' p' => ⟨xs.length - (i + 1), by omega, rfl, hlt, p'⟩, fun x H' y => ?_⟩
    obtain ⟨e, y⟩ := y
    subst e
    exact hs i x _ (y xs q) p
  · have e : i = xs.length := by omega
    subst e
    exact .inl ⟨⟨xs, q, Nat.le_refl _⟩, hd H p⟩
def blkC (N : List Str) (sc scope : Scope) (own : List (Str × Nat)) : Bool :=
  (match scope.kind with | .function => true | _ => false) && (scope.names.all fun y => decide (scope.names.lookup y.1 = some y.2)) && (own.all fun p => decide (N[p.2]? = some p.1)) &&
    (scope.names.all fun y => match y.2 with
      | .free => (match sc.names.lookup y.1 with | some .cell => true | some .free => true | _ => false)
      | .local => decide (y.1 ∈ own.map (·.1)) || decide (y.1 ∉ N)
      | .cell => decide (y.1 ∈ own.map (·.1)) || decide (y.1 ∉ N)
      | _ => true)
theorem blkOk_by {N : List Str} {sc scope : Scope} {own : List (Str × Nat)} (h : blkC N sc scope own = true) : BlkOk N sc scope own := by
  unfold blkC at h
  simp only [Bool.and_eq_true, List.all_eq_true, decide_eq_true_eq] at h
  obtain ⟨⟨⟨h1, h2⟩, h3⟩, h4⟩ := h
  refine ⟨?_, h2, h3, fun y hy e => ?_, fun y hy e => ?_⟩
  · split at h1
    · assumption
    · cases h1
  · have q := h4 y hy
    simp only [e] at q
    split at q <;> first | exact .inl (by assumption) | exact .inr (by assumption) | cases q
  · have q := h4 y hy
    rcases e with e | e <;> (simp only [e, Bool.or_eq_true, decide_eq_true_eq] at q; exact q)
end L2
namespace L2
open PySem PySem.Spec PyProof.Rows
section
variable {prog : Program} {w : World} {A : Around} {R : Result → Shared → Prop} {s : Shared} {elt t0 i0 t1 i1 : Expr} {ifs0 ifs1 : List Expr} {scope : Scope} {pos : Pos} {it acc : Value} {env : Env}
end
section
variable {X : Cx}
end
end L2
namespace L2
open PySem PySem.Spec PyProof.Rows
section
variable {κ : Type} [DecidableEq κ]
def valV (kvs : List (κ × V)) (k : κ) : Option V := (kvs.find? fun kv => decide (kv.1 = k)).map (·.2)
def putK (kvs : List (κ × V)) (k : κ) (v : V) : List (κ × V) :=
  if (kvs.any fun kv => decide (kv.1 = k)) = true then kvs.map (fun kv => if kv.1 = k then (kv.1, v) else kv) else kvs ++ [(k, v)]
def dropK (kvs : List (κ × V)) (k : κ) : List (κ × V) := kvs.filter fun kv => decide (kv.1 ≠ k)
theorem valV_pos {p : κ × V} {r : List (κ × V)} {k : κ} (e : p.1 = k) : valV (p :: r) k = some p.2 := by simp [valV, List.find?_cons, e]
theorem valV_neg {p : κ × V} {r : List (κ × V)} {k : κ} (e : ¬ p.1 = k) : valV (p :: r) k = valV r k := by simp [valV, List.find?_cons, e]
theorem RelO.getD {o : Option V} {u : Option Value} {d : V} {d' : Value} (r : RelO o u) (rd : RelV d d') : RelV (o.getD d) (u.getD d') := by
  cases o with
  | none => cases u with
    | none => exact rd
    | some _ => exact (show False from r).elim
  | some _ => cases u with
    | none => exact (show False from r).elim
    | some _ => exact r
theorem KV.val {kvs : List (κ × V)} {vs : List (κ × Value)} (r : KV kvs vs) (k : κ) : RelO (valV kvs k) (valueAt vs k) := by
  unfold KV at r
  induction r with
  | nil => exact True.intro
  | @cons p q ps qs h t ih =>
    obtain ⟨h1, h2⟩ := h
    by_cases e : p.1 = k
    · have e' : q.1 = k := h1.symm.trans e
      have b : valueAt (q :: qs) k = some q.2 := by simp [valueAt, List.find?_cons, e']
      rw [valV_pos e, b]; exact h2
    · have e' : ¬ q.1 = k := fun z => e (h1.trans z)
      have b : valueAt (q :: qs) k = valueAt qs k := by simp [valueAt, List.find?_cons, e']
      rw [valV_neg e, b]; exact ih
theorem KV.any {kvs : List (κ × V)} {vs : List (κ × Value)} (r : KV kvs vs) (k : κ) : (kvs.any fun kv => decide (kv.1 = k)) = vs.any fun kv => decide (kv.1 = k) := by
  unfold KV at r
  induction r with
  | nil => rfl
  | cons h t ih => rw [List.any_cons, List.any_cons, ih, h.1]
theorem KV.drop {kvs : List (κ × V)} {vs : List (κ × Value)} (r : KV kvs vs) (k : κ) : KV (dropK kvs k) (without vs k) := by
  unfold KV at r ⊢
  unfold dropK without
  induction r with
  | nil => exact .nil
  | @cons p q ps qs h t ih =>
    obtain ⟨h1, h2⟩ := h
    rw [List.filter_cons, List.filter_cons]
    by_cases e : p.1 = k
    · have a : ¬ decide (p.1 ≠ k) = true := by simp [e]
      have b : ¬ decide (q.1 ≠ k) = true := by simp [h1.symm.trans e]
      rw [if_neg a, if_neg b]; exact ih
    · have e' : ¬ q.1 = k := fun z => e (h1.trans z)
      have a : decide (p.1 ≠ k) = true := by simp [e]
      have b : decide (q.1 ≠ k) = true := by simp [e']
      rw [if_pos a, if_pos b]; exact .cons ⟨h1, h2⟩ ih
theorem KV.length {kvs : List (κ × V)} {vs : List (κ × Value)} (r : KV kvs vs) : kvs.length = vs.length := Paired.length r
end
abbrev KT (H : Hp) : List (List Key × V) → List (List Key × Addr × Value) → Prop := Paired fun p q => p.1 = q.1 ∧ H q.2.1 = some (.tup (p.1.map kV)) ∧ RelV p.2 q.2.2
theorem KT.val {H : Hp} {kvs : List (List Key × V)} {xs : List (List Key × Addr × Value)} (r : KT H kvs xs) (k : List Key) : RelO (valV kvs k) ((atKey xs k).map (·.2)) := by
  induction r with
  | nil => exact True.intro
  | @cons p q ps qs h t ih =>
    obtain ⟨h1, _, h2⟩ := h
    by_cases e : p.1 = k
    · have e' : q.1 = k := h1.symm.trans e
      have b : atKey (q :: qs) k = some q.2 := by simp [atKey, List.find?_cons, e']
      rw [valV_pos e, b]; exact h2
    · have e' : ¬ q.1 = k := fun z => e (h1.trans z)
      have b : atKey (q :: qs) k = atKey qs k := by simp [atKey, List.find?_cons, e']
      rw [valV_neg e, b]; exact ih
theorem KT.keeps {H H' : Hp} {kvs : List (List Key × V)} {xs : List (List Key × Addr × Value)} (r : KT H kvs xs) (ht : ∀ b ys, H b = some (.tup ys) → H' b = some (.tup ys)) : KT H' kvs xs :=
  Paired.mapP r fun _ _ z => ⟨z.1, ht _ _ z.2.1, z.2.2⟩
section
variable {P : Program} {w : World} {H : Hp} {h : Heap} {a : Addr}
end
def DGet (H : Hp) (a : Addr) (y : V) (r : Option V) : Prop :=
  (∃ kvs k, Rd H a (.dK kvs) ∧ y = kV k ∧ r = valV kvs k) ∨ ∃ kvs k b, Rd H a (.dT kvs) ∧ y = .ref b ∧ H b = some (.tup (k.map kV)) ∧ r = valV kvs k
def DPut (H : Hp) (a : Addr) (y v : V) (H' : Hp) : Prop :=
  (∃ kvs k, H a = some (.dK kvs) ∧ y = kV k ∧ kvs.length < sizeLine ∧ H' = upd H a (.dK (putK kvs k v))) ∨
  ∃ kvs k b, H a = some (.dT kvs) ∧ y = .ref b ∧ H b = some (.tup (k.map kV)) ∧ kvs.length < sizeLine ∧ H' = upd H a (.dT (putK kvs k v))
theorem DGet.k {H : Hp} {a : Addr} {kvs : List (Key × V)} {k : Key} (e : H a = some (.dK kvs)) : DGet H a (kV k) (valV kvs k) := .inl ⟨kvs, k, .inl e, rfl, rfl⟩
theorem DGet.t {H : Hp} {a b : Addr} {kvs : List (List Key × V)} {k : List Key} (e : H a = some (.dT kvs)) (eb : H b = some (.tup (k.map kV))) : DGet H a (.ref b) (valV kvs k) := .inr ⟨kvs, k, b, .inl e, rfl, eb, rfl⟩
theorem DPut.k {H : Hp} {a : Addr} {kvs : List (Key × V)} {k : Key} {v : V} (e : H a = some (.dK kvs)) (hl : kvs.length < sizeLine) : DPut H a (kV k) v (upd H a (.dK (putK kvs k v))) := .inl ⟨kvs, k, e, rfl, hl, rfl⟩
theorem DPut.t {H : Hp} {a b : Addr} {kvs : List (List Key × V)} {k : List Key} {v : V} (e : H a = some (.dT kvs)) (eb : H b = some (.tup (k.map kV))) (hl : kvs.length < sizeLine) :
    DPut H a (.ref b) v (upd H a (.dT (putK kvs k v))) := .inr ⟨kvs, k, b, e, rfl, eb, hl, rfl⟩
section
variable {X : Cx} {pins : List (Addr × Obj)} {σ : St} {H : Hp} {s : Shared} {a : Addr} {y v : V} {u r : Value} {o : Option V} {A : Around} {E : Value → Shared → Prop}
theorem Inv.big (I : Inv X pins σ H s) : sysModules < s.heap.objs.size := by
  have h : mainGlobals < s.heap.objs.size := (I.mod.glob.keeps I.bk).lt
  exact Nat.lt_trans (by decide) h
end
section
variable {X : Cx} {pins : List (Addr × Obj)} {σ : St} {H : Hp} {s : Shared} {a : Addr} {kvs : List (Key × V)} {k : Key} {u : Value} {A : Around} {E : Value → Shared → Prop}
end
section
variable {X : Cx} {o i e value : Expr} {pos pos' tpos : Pos} {td ty tv : TE}
end
section
variable {X : Cx} {pos : Pos}
end
section
variable {X : Cx} {pins : List (Addr × Obj)} {σ : St} {H : Hp} {s : Shared} {a : Addr} {y d : V} {u r : Value} {o : Option V} {A : Around} {E : Value → Shared → Prop}
end
section
variable {X : Cx} {o e f : Expr} {apos cpos : Pos} {td ty tx : TE}
end
section
variable {X : Cx} {pins : List (Addr × Obj)} {σ : St} {H : Hp} {s : Shared} {a : Addr} {kvs : List (Key × V)} {A : Around} {E : Value → Shared → Prop}
end
section
variable {X : Cx} {pins : List (Addr × Obj)} {σ : St} {H : Hp} {s : Shared} {a : Addr} {y : V} {u : Value} {A : Around} {E : Value → Shared → Prop}
end
end L2
namespace L2
open PySem PySem.Spec PyProof.Rows
section
variable {prog : Program} {w : World} {A : Around} {E : Value → Shared → Prop}
end
section
variable {X : Cx}
end
end L2
namespace L2
open PySem PySem.Spec PyProof.Rows
section
variable {X : Cx} {pins : List (Addr × Obj)} {σ : St} {H : Hp} {s : Shared} {h' : Heap}
theorem Inv.turnedNew {t' : Nat} {ch : List Addr} {T : Addr} {ob : HO} (I : Inv X pins σ H s) (k : ∀ b o, b ∉ ch → s.heap.get? b = some o → h'.get? b = some o) (hf : ∀ b ∈ ch, FpOk X pins H b) (hT : s.heap.objs.size ≤ T)
    (new : ObjOk X.prog X.w (upd H T ob) h' T ob) : Inv X pins σ (upd H T ob) { s with heap := h', toks := t' } := by
  have hn : H T = none := I.hok.fresh hT
  have nit : ∀ b u, H b = some u → b ∉ ch := fun b u e z => by
    have q := (hf b z).1
    rw [q] at e; cases e
  refine I.step (g' := s.gens) (d' := s.drawn) (ch := ch) (fun b hb => ⟨(hf b hb).2.2.2.1, (hf b hb).2.1, (hf b hb).2.2.2.2.1, (hf b hb).2.2.2.2.2⟩) (fun b o _ _ hc e _ => k b o hc e) (fun b o _ _ hc e _ => ⟨o.slots, k b o hc e⟩)
    (fun b o _ e n => ?_) (fun b o hc e => ⟨o, k b o hc e⟩) (fun b xs e => ?_) (fun b o u e => ?_) (fun b ps e => ⟨#[], ?_⟩) (fun m hm => ?_) (fun b u e => ?_) I.bare
  · rw [upd_ne (Nat.ne_of_lt (Nat.lt_of_lt_of_le (Heap.lt_size e) hT))]; exact n
  · rw [upd_ne (ne_of_none e hn)]; exact e
  · rw [upd_ne (ne_of_none e hn)]; exact e
  · rw [upd_ne (ne_of_none e hn), e]; simp
  · obtain ⟨o, es, ep, ho, r⟩ := hm
    exact ⟨o, es, ep, k _ o (fun z => (hf _ z).2.1 rfl) ho, r⟩
  · by_cases hb : b = T
    · subst hb
      rw [upd_same] at e
      cases e
      exact new
    · rw [upd_ne hb] at e
      refine (I.hok b u e).stay (fun c v hc q => k c v ?_ q) (fun c q => by rw [upd_ne (ne_of_none q hn)]; exact q) fun c xs q => by rw [upd_ne (ne_of_none q hn)]; exact q
      rcases hc with z | z
      · rw [z]; exact nit b u e
      · exact nit c _ z
end
section
variable {X : Cx}
end
def RgC (i j c : Int) (n : Nat) : Prop := c ≠ 0 ∧ c.natAbs < 1073741824 ∧ Builtin.Range.small i j c = true ∧ Builtin.Range.rangeSize i j c = n
theorem RgC.neg {i j : Int} (ha : -(2 ^ 62) ≤ i) (ha' : i < 2 ^ 62) (hb : -(2 ^ 62) ≤ j) (hb' : j < 2 ^ 62) : RgC i j (-1) (i - j).toNat :=
  ⟨by decide, by decide, PySem.W.small_down ha ha' hb hb', PySem.W.rangeSize_downNat i j⟩
section
variable {X : Cx} {tg : Expr}
end
section
variable {X : Cx} {tg : Expr}
end
section
variable {prog : Program} {w : World} {A : Around} {E : Value → Shared → Prop} {s : Shared}
end
section
variable {X : Cx} {pins : List (Addr × Obj)} {σ : St} {H : Hp} {s : Shared} {d : Addr} {o : Obj}
end
section
variable {P : Program} {w : World} {K : PySem.W.Frag} {tg : Expr} {d : Addr} {o : Obj} {es : Array DictEntry} {ep : Nat}
end
section
variable {X : Cx} {tg e : Expr} {td : TE} {apos cpos : Pos}
end
def Ite (K : PySem.W.Frag) (a : Addr) : It :=
  ⟨fun i H => ∃ (xs : List V) (x : V), SqL K H a xs ∧ xs[i]? = some x, fun i H v H' => ∃ T x, v = .ref T ∧ H T = none ∧ H' = upd H T (.tup [.int (i : Nat), x]) ∧ ∀ xs, SqL K H a xs → xs[i]? = some x, fun i H => ∃ xs : List V, SqL K H a xs ∧ xs.length ≤ i⟩
theorem turn_enum {P : Program} {w : World} {K : PySem.W.Frag} {elts : List Expr} {kk : Nat} {tpos : Pos} (a e it : Addr) :
    Turn P w K (.Tuple elts kk tpos) (Ite K a) [e, it] e (fun i h => (∃ old, IsEnum h e it ((i : Nat) : Int) old) ∧ h.IsListIter it a i ∧ e ≠ it) where
  mem := by simp
  obj := fun i h st b hb => by
    obtain ⟨⟨old, he⟩, ⟨o, ho, hc, hd⟩, _⟩ := st
    have e' : b = e ∨ b = it := by simpa using hb
    rcases e' with z | z
    · rw [z]; exact ⟨_, he, fun v q => nomatch q⟩
    · rw [z]; exact ⟨o, ho, fun v q => by rw [hd] at q; cases q⟩
  keep := fun i h h' st k => let ⟨⟨old, he⟩, hi, hne⟩ := st; ⟨⟨old, k e (by simp) _ he⟩, hi.at fun o q => k it (by simp) o q, hne⟩
  item := by
    intro X hP hw hK hc i pins s σ H E I hf st hg
    subst hP hw hK
    obtain ⟨⟨old, he⟩, hit, hne⟩ := st
    obtain ⟨xs, x, hq, hx⟩ := hg
    obtain ⟨its, rv, p, hz⟩ := I.list hq
    obtain ⟨u, hu, ru⟩ := rv.get hx
    have hel : e < s.heap.objs.size := Heap.lt_size he
    have hil : it < s.heap.objs.size := by obtain ⟨_, q, _⟩ := hit; exact Heap.lt_size q
    refine wpAny_pyNext_enum_item he hit p.isList (x := u) (by simpa using hu) hne fun h' ho hit' hT hsz hk => ?_
    refine ⟨_, rfl, wpAny_letOwnedTupleGo_enum (s := { s with heap := h', toks := s.toks + 1 }) ho fun h'' he' sb => ?_⟩
    have hT2 : h''.get? s.heap.objs.size = some { cls := .type "tuple", data := .seq #[.int i s.toks, u] } := (sb.2 _ (Nat.ne_of_gt hel)).trans hT
    have new : ObjOk X.prog X.w (upd H s.heap.objs.size (.tup [.int (i : Nat), x])) h'' s.heap.objs.size (.tup [.int (i : Nat), x]) :=
      ⟨by show 2 ≤ sizeLine; decide, [.int i s.toks, u], .cons ⟨_, rfl⟩ (.cons ru .nil), ⟨_, hT2, rfl, _, rfl⟩⟩
    have I1 : Inv X pins σ (upd H s.heap.objs.size (.tup [.int (i : Nat), x])) { s with heap := h'', toks := s.toks + 1 } :=
      I.turnedNew (ch := [e, it]) (fun b ob hb q => (sb.2 b (fun z => hb (by simp [z]))).trans (hk b ob (fun z => hb (by simp [z])) (fun z => hb (by simp [z])) q)) hf (Nat.le_refl _) new
    refine ⟨.ref s.heap.objs.size, _, I1, rfl, ⟨_, x, rfl, I.hok.fresh (Nat.le_refl _), rfl, fun ys hy => by rw [I.list_inj hy hq]; exact hx⟩, ⟨⟨u, ?_⟩, hit'.at fun o q => (sb.2 it (Ne.symm hne)).trans q, hne⟩, fun b hb => ?_⟩
    · have e1 : ((i + 1 : Nat) : Int) = (i : Int) + 1 := by omega
      rw [e1]; exact he'
    · have hb' : b < s.heap.objs.size := by
        have e' : b = e ∨ b = it := by simpa using hb
        rcases e' with z | z
        · rw [z]; exact hel
        · rw [z]; exact hil
      rw [upd_ne (Nat.ne_of_lt hb')]
      exact (hf b hb).1
  done := by
    intro X hP hw hK hc i pins s σ H E I hf st hg
    subst hP hw hK
    obtain ⟨⟨old, he⟩, hit, hne⟩ := st
    obtain ⟨xs, hq, hx⟩ := hg
    obtain ⟨its, rv, p, hz⟩ := I.list hq
    obtain ⟨f0, f1, f2, f3, f4, f5⟩ := hf it (by simp)
    have hl := rv.length
    exact wpAny_pyNext_enum_end (I.ok.hd hc) he hit p.isList (by simp; omega) fun h' eb => ⟨rfl, I.turned (t' := s.toks) (fun b o hb q => eb b o hb q) f0 f1 f3 f4 f5⟩
  self := fun A i s Q E st h => let ⟨⟨_, he⟩, _⟩ := st; wpAny_pyIter_enum he h
def iEnum (K : PySem.W.Frag) (ta : TA) : TI := fun σ H R => ta σ H fun vs H1 => ∃ a xs, vs = [.ref a] ∧ SqL K H1 a xs ∧ R (Ite K a) H1
theorem pi_enum {X : Cx} {e : Expr} {ta : TA} {p pos tpos : Pos} {elts : List Expr} {kk : Nat} (hg : Gl X "enumerate") (hm : X.mg "enumerate" = none) (ha : PA X [e] ta) (hs : starEach [e] X.env = [(false, eval e X.env)] := by rfl) :
    PI X (.Tuple elts kk tpos) (.Call (.Name "enumerate" p) [e] [] pos) (iEnum X.K ta) := by
  intro pins s σ H R I h
  refine Call_ (ld_blt I hg hm boot_enumerate (PyProof.Rows.callWith_type1 (thn (ha pos pins s σ H _ I h) fun us s1 ⟨vs, H1, I1, r1, q1⟩ => ?_) hs rfl))
  obtain ⟨a, xs, ex, hq, q⟩ := q1
  subst ex
  cases r1 with
  | cons r rr =>
    cases rr
    cases r
    obtain ⟨its, rv, p', hz⟩ := I1.list hq
    refine call_enumerate_list p'.isList fun h' he hit hsz hk => wpAny_pyIter_enum he ?_
    have I2 : Inv X pins σ H1 { s1 with heap := h' } := I1.kept (t' := s1.toks) hk
    refine ⟨s1.heap.objs.size + 1, [s1.heap.objs.size + 1, s1.heap.objs.size], _, _, H1, rfl, I2, turn_enum a (s1.heap.objs.size + 1) s1.heap.objs.size, ⟨⟨.none, he⟩, hit, Nat.succ_ne_self _⟩, fun b hb => ?_, q⟩
    have e' : b = s1.heap.objs.size + 1 ∨ b = s1.heap.objs.size := by simpa using hb
    have hle : s1.heap.objs.size ≤ b := by
      rcases e' with z | z
      · rw [z]; exact Nat.le_add_right _ _
      · rw [z]; exact Nat.le_refl _
    exact I1.fpOk hle (I1.hok.fresh hle)
end L2
section 
namespace Bits
open PySem PyProof.Rows
end Bits
end 
section 
namespace TL
open PySem PySem.Builtin PySem.Builtin.Str PySem.StrLaws
abbrev tl (x : Str) : List Nat := x.cps.toList
def pre (S l : List Nat) : Bool := l.take S.length == S
def par (S : List Nat) : List Nat → List Nat → Option (List Nat × List Nat)
  | _, [] => none
  | acc, c :: r => if pre S (c :: r) = true then some (acc, (c :: r).drop S.length) else par S (acc ++ [c]) r
end TL
end 
namespace L2
open PySem PySem.Spec PyProof.Rows
section
variable {X : Cx} {pins : List (Addr × Obj)} {σ : St} {H : Hp} {s : Shared} {Q : VK}
end
section
variable {X : Cx}
end
section
variable {X : Cx} {o e : Expr} {to te : TE}
end
end L2
namespace L2
open PySem PySem.Spec PyProof.Rows
section
variable {X : Cx}
end
end L2
namespace Att
open PySem PySem.W PySem.Calls PyProof.Rows
section
variable {prog : Program} {w : World} {A : Around} {E : Value → Shared → Prop} {s : Shared} {K : Frag}
end
end Att
namespace L2
open PySem PySem.Spec PyProof.Rows
end L2
namespace L2
open PySem PySem.Spec PyProof.Rows
end L2
/- THE LAST THEOREM (shape; LID, My.* are yours):
   My.Adr: a structure of the addresses that your layer names (classes, functions); My.Txt K t: a structure (Prop) of the equations over K;
   My.txt_mk : {K} {implicit addresses ..} (e1 : nsIn K mainGlobals "law" = some (some (.ref f))) (e2 : K.lookup f = some ⟨oc, od, .func (fnOf "law" "law" params body scope dV kV doc pm an cdv ct), sl⟩) (e3 : codeIn K cdv "law" = true) .. : ∃ t, My.Txt K t
set_option maxRecDepth 100000 in
set_option maxHeartbeats 0 in
(the tactic k_is has no namespace: write k_is) -/
namespace L2
open PySem PySem.Spec PyProof.Rows
def defArgs (s : Stmt) : Arguments := match s with
  | .FunctionDef _ a _ _ _ _ _ _ _ _ => a
  | _ => { posonlyargs := [], args := [], vararg := none, kwonlyargs := [], kw_defaults := [], kwarg := none, defaults := [] }
def defBody (s : Stmt) : List Stmt := match s with
  | .FunctionDef _ _ b _ _ _ _ _ _ _ => b
  | _ => []
def defScope (s : Stmt) : Scope := match s with
  | .FunctionDef _ _ _ _ _ _ sc _ _ _ => sc
  | _ => { kind := .function, names := [], isGenerator := false, isCoroutine := false }
abbrev CX0 : CXT := fun _ _ _ _ _ _ => False
abbrev E0 : XK := fun _ _ _ => False
theorem pass0 {X : Cx} : Passes CX0 X E0 := fun _ _ _ _ _ _ _ h => h.elim
structure Fun (K : PySem.W.Frag) (x qual : Str) (st : Stmt) (f : Addr) (fd : FuncData) : Prop where
  ex : ∃ (oc : Value) (od : Option Addr) (kV doc pm : Value) (an : Option Addr) (cdv ct : Value) (osl : Array (Option Value)),
    fd = PySem.W.fnOf x qual (defArgs st) (defBody st) (defScope st) .none kV doc pm an cdv ct ∧ K.lookup f = some ⟨oc, od, .func fd, osl⟩ ∧ PySem.W.codeIn K cdv qual = true
  kp : PySem.W.keepIn K (.ref f) = true
section
variable {P : Program} {w : World} {K : PySem.W.Frag} {mg : Str → Option Value} {base : Heap}
theorem Fun.ok {x qual : Str} {st : Stmt} {f : Addr} {fd : FuncData} {N ps : List Str} {k : Nat} {sp : Sp} (F : Fun K x qual st f fd) (S : FnScope N ps (defScope st)) (len : ∀ vs H Q E, sp vs H Q E → vs.length = ps.length)
    (hbody : ∀ (cdv : Value) (A : Around) (outer : List Env) (s : Shared) (H : Hp) (vs : List V) (Q : VK) (E : XK), Room k (A.deeper (envOfC qual (defScope st) s.heap.objs.size f cdv)) → sp vs H Q E →
      ∃ t, PSs (cxOf CX0 P w K mg base N qual (defScope st) f cdv A outer s H E).nox (defBody st) t ∧ t { nx := fun _ H' => Q .non H', rt := Q } (start N vs) H) : FnOk P w K mg base CX0 (k + 1) f fd ps sp := by
  obtain ⟨oc, od, kV, doc, pm, an, cdv, ct, osl, rfl, lk, hcd⟩ := F.ex
  refine fn_of lk hcd S len fun A outer s H vs Q E hr hsp => ?_
  obtain ⟨t, h, q⟩ := hbody cdv A outer s H vs Q E hr hsp
  exact ⟨t, h.nox, q⟩
theorem Fun.binds {x qual : Str} {st : Stmt} {f : Addr} {fd : FuncData} {ps : List Str} (F : Fun K x qual st f fd)
    (h : ∀ (kV doc pm : Value) (an : Option Addr) (cdv ct : Value) (us : List Value), us.length = ps.length → bindArgs (PySem.W.fnOf x qual (defArgs st) (defBody st) (defScope st) .none kV doc pm an cdv ct) ⟨us, []⟩ = pure (ps.zip us)) : Binds K fd ps [] := by
  obtain ⟨oc, od, kV, doc, pm, an, cdv, ct, osl, rfl, lk, hcd⟩ := F.ex
  exact .all (h kV doc pm an cdv ct)
theorem fun_mk {x qual : Str} {st : Stmt} {f : Addr} {oc : Value} {od an : Option Addr} {osl : Array (Option Value)} {kV doc pm cdv ct : Value} (l : K.lookup f = some ⟨oc, od, .func (PySem.W.fnOf x qual (defArgs st) (defBody st) (defScope st) .none kV doc pm an cdv ct), osl⟩)
    (c : PySem.W.codeIn K cdv qual = true) (k : PySem.W.keepIn K (.ref f) = true) : Fun K x qual st f (PySem.W.fnOf x qual (defArgs st) (defBody st) (defScope st) .none kV doc pm an cdv ct) := ⟨⟨oc, od, kV, doc, pm, an, cdv, ct, osl, rfl, l, c⟩, k⟩
end
section
variable {X : Cx}
theorem pv (i : Nat) {x : Str} {pos : Pos} (hN : X.N[i]? = some x := by rfl) (hv : Vis X.env.scope x := by first | exact Or.inl rfl | exact Or.inr (Or.inl rfl) | exact Or.inr (Or.inr rfl)) (hd : (x == ("__debug__" : Str)) = false := by decide)
    (hcd : (x == ("__classdict__" : Str)) = false := by decide) : PE X (.Name x pos) (tVar i) := pe_var hN hv hd hcd
end
theorem iteF {A B : Prop} (h : B) : if false = true then A else B := by
  rw [if_neg Bool.false_ne_true]
  exact h
theorem ite2 {c A B : Prop} [Decidable c] (h1 : c → A) (h2 : ¬ c → B) : if c then A else B := by
  by_cases h : c
  · rw [if_pos h]
    exact h1 h
  · rw [if_neg h]
    exact h2 h
theorem iteNS {c A B : Prop} [Decidable c] (hc : c) (h : B) : if (!decide c) = true then A else B := by
  rw [decide_eq_true hc]
  exact iteF h
def Same (H H' : Hp) : Prop := ∀ b o, H b = some o → H' b = some o
theorem Same.refl (H : Hp) : Same H H := fun _ _ h => h
theorem Same.trans {H H1 H2 : Hp} (a : Same H H1) (b : Same H1 H2) : Same H H2 := fun c o h => b c o (a c o h)
theorem Same.free {H H' : Hp} (e : Same H H') {l : Addr} (h : H' l = Option.none) : H l = Option.none := by
  cases q : H l with
  | none => rfl
  | some o =>
    rw [e l o q] at h
    cases h
theorem Same.seq {K : PySem.W.Frag} {H H' : Hp} {a : Addr} {xs : List V} (e : Same H H') (h : SqL K H a xs) : SqL K H' a xs := by
  rcases h with (h | ⟨o, h⟩) | h
  · exact .inl (.inl (e _ _ h))
  · exact .inl (.inr ⟨o, e _ _ h⟩)
  · exact .inr h
section
variable {κ : Type} [DecidableEq κ]
end
theorem at_of {xs : List V} {z : Int} {j : Nat} {v : V} (e : z = (j : Int)) (h : xs[j]? = some v) : atI xs z = some v := by
  rw [e]
  exact atI_nat h
end L2
section
set_option Elab.async false
set_option linter.all false
set_option maxRecDepth 100000
set_option maxHeartbeats 2000000
namespace L2
open PySem PySem.Spec PyProof.Rows
open PySem.W (WData Codec OpenSpec Well WellAll ReadsW ReadsAllW)
mutual
inductive Dw (K : PySem.W.Frag) (H : Hp) : V → WData → Prop
  | non : Dw K H .non .none
  | bl (b : Bool) : Dw K H (.bl b) (.bool b)
  | int (i : Int) : Dw K H (.int i) (.int i)
  | str (x : Str) : Dw K H (.str x) (.str x)
  | byt (b : Array UInt8) : Dw K H (.byt b) (.bytes b.toList)
  | lst {a : Addr} {xs : List V} {ds : List WData} : SqL K H a xs → DwAll K H xs ds → Dw K H (.ref a) (.list ds)
  | tup {a : Addr} {xs : List V} {ds : List WData} : SqT K H a xs → DwAll K H xs ds → Dw K H (.ref a) (.tuple ds)
inductive DwAll (K : PySem.W.Frag) (H : Hp) : List V → List WData → Prop
  | nil : DwAll K H [] []
  | cons {v : V} {vs : List V} {d : WData} {ds : List WData} : Dw K H v d → DwAll K H vs ds → DwAll K H (v :: vs) (d :: ds)
end
theorem dw_ints {K : PySem.W.Frag} {H : Hp} : ∀ ns : List Int, DwAll K H (ns.map V.int) (ns.map WData.int)
  | [] => .nil
  | n :: r => .cons (.int n) (dw_ints r)
theorem ints_dw {K : PySem.W.Frag} {H : Hp} : ∀ (ns : List Int) (xs : List V), DwAll K H xs (ns.map WData.int) → xs = ns.map V.int
  | [], xs, h => by
    cases h
    rfl
  | n :: r, xs, h => by
    cases h with
    | cons h1 h2 =>
      cases h1
      rw [ints_dw r _ h2] <;> rfl
section
variable {P : Program} {w : World} {K : PySem.W.Frag} {H : Hp} {h : Heap} {R : PySem.W.WRecords} {cl : Str → Option Addr}
theorem sqL_at {a : Addr} {xs : List V} (hok : HOk P w H h) (KX : K.In h) (q : SqL K H a xs) : ∃ (its : List Value) (o : Obj) (n : Nat), Vals xs its ∧ h.get? a = some o ∧ o.cls = .type "list" ∧ o.data = .seq its.toArray n := by
  rcases q with q | ⟨o, its, n, e, hc, _, hd, _, hv⟩
  · obtain ⟨_, its, n, hv, e⟩ := (show ObjOk P w H h a (.lst xs) from q.ok hok)
    exact ⟨its, _, n, hv, e, rfl, rfl⟩
  · exact ⟨its.toList, o, n, hv, KX _ _ e, hc, by simp [hd]⟩
theorem sqT_at {a : Addr} {xs : List V} (hok : HOk P w H h) (KX : K.In h) (q : SqT K H a xs) : ∃ (its : List Value) (o : Obj) (n : Nat), Vals xs its ∧ h.get? a = some o ∧ o.cls = .type "tuple" ∧ o.data = .seq its.toArray n := by
  rcases q with q | ⟨o, its, n, e, hc, hd, _, hv⟩
  · obtain ⟨_, its, hv, o, e, hc, n, hd⟩ := (show ObjOk P w H h a (.tup xs) from q.ok hok)
    exact ⟨its, o, n, hv, e, hc, hd⟩
  · exact ⟨its.toList, o, n, hv, KX _ _ e, hc, by simp [hd]⟩
mutual
theorem Dw.reads (hok : HOk P w H h) (KX : K.In h) : ∀ (d : WData) (v : V) (u : Value), Dw K H v d → RelV v u → ∃ as, ReadsW R cl h u d as
  | .none, _, _, x, r => by
    cases x
    cases r
    exact ⟨_, ReadsW.none⟩
  | .bool b, _, _, x, r => by
    cases x
    cases r
    exact ⟨_, ReadsW.bool b⟩
  | .int i, _, _, x, r => by
    cases x
    obtain ⟨t, rfl⟩ := r
    exact ⟨_, ReadsW.int i t⟩
  | .str s, _, _, x, r => by
    cases x
    obtain ⟨t, rfl⟩ := r
    exact ⟨_, ReadsW.str s t⟩
  | .bytes b, _, _, x, r => by
    cases x
    obtain ⟨t, rfl⟩ := r
    exact ⟨_, ReadsW.bytes _ t⟩
  | .list ds, _, _, x, r => by
    cases x with
    | lst hs ha =>
      cases r
      obtain ⟨its, o, n, rv, ho, hc, hd⟩ := sqL_at hok KX hs
      obtain ⟨as, hr⟩ := Dw.readsAll hok KX ds _ its ha rv
      exact ⟨_, ReadsW.list ho hc hd hr⟩
  | .tuple ds, _, _, x, r => by
    cases x with
    | tup hs ha =>
      cases r
      obtain ⟨its, o, n, rv, ho, hc, hd⟩ := sqT_at hok KX hs
      obtain ⟨as, hr⟩ := Dw.readsAll hok KX ds _ its ha rv
      exact ⟨_, ReadsW.tuple ho hc hd hr⟩
  | .float _, _, _, x, _ => by cases x
  | .dict _, _, _, x, _ => by cases x
  | .bytearray _, _, _, x, _ => by cases x
  | .set _, _, _, x, _ => by cases x
  | .frozenset _, _, _, x, _ => by cases x
  | .obj _ _, _, _, x, _ => by cases x
theorem Dw.readsAll (hok : HOk P w H h) (KX : K.In h) : ∀ (ds : List WData) (vs : List V) (us : List Value), DwAll K H vs ds → Vals vs us → ∃ as, ReadsAllW R cl h us ds as
  | [], _, _, x, r => by
    cases x
    cases r
    exact ⟨_, ReadsAllW.nil⟩
  | d :: ds, _, _, x, r => by
    cases x with
    | cons h1 h2 =>
      cases r with
      | cons r1 r2 =>
        obtain ⟨as, q1⟩ := Dw.reads hok KX d _ _ h1 r1
        obtain ⟨bs, q2⟩ := Dw.readsAll hok KX ds _ _ h2 r2
        exact ⟨_, ReadsAllW.cons q1 q2⟩
end
end
mutual
def plW : WData → Bool
  | .none => true
  | .bool _ => true
  | .int _ => true
  | .str _ => true
  | .bytes _ => true
  | .list xs => plWs xs
  | .tuple xs => plWs xs
  | _ => false
def plWs : List WData → Bool
  | [] => true
  | x :: r => plW x && plWs r
end
theorem plWs_map {α : Type} {f : α → WData} (h : ∀ a, plW (f a) = true) : ∀ l : List α, plWs (l.map f) = true
  | [] => rfl
  | x :: r => by
    show (plW (f x) && plWs (r.map f)) = true
    rw [h x, plWs_map h r] <;> rfl
theorem pl_enc : ∀ (c : Codec) (a : c.denote), plW (c.enc a) = true
  | .unit, _ => rfl
  | .bool, _ => rfl
  | .int _ _, _ => rfl
  | .nat _ _, _ => rfl
  | .u8, _ => rfl
  | .bytes _ _, _ => rfl
  | .text _ _ _ _, _ => rfl
  | .list _ _ c, a => plWs_map (fun x => pl_enc c x) a
  | .pair c d, a => by
    show (plW (c.enc a.1) && (plW (d.enc a.2) && true)) = true
    rw [pl_enc c a.1, pl_enc d a.2] <;> rfl
  | .triple c d e, a => by
    show (plW (c.enc a.1) && (plW (d.enc a.2.1) && (plW (e.enc a.2.2) && true))) = true
    rw [pl_enc c a.1, pl_enc d a.2.1, pl_enc e a.2.2] <;> rfl
  | .option c, none => rfl
  | .option c, some x => pl_enc c x
theorem pl_encAll : ∀ (cs : List Codec) (a : Codec.denoteAll cs), plWs (Codec.encAll cs a) = true
  | [], _ => rfl
  | c :: cs, a => by
    show (plW (c.enc a.1) && plWs (Codec.encAll cs a.2)) = true
    rw [pl_enc c a.1, pl_encAll cs a.2] <;> rfl
theorem weight_mem : ∀ {xs : List WData} {d : WData}, d ∈ xs → d.weight ≤ WData.weightAll xs
  | [], d, h => absurd h (by simp)
  | x :: r, d, h => by
    show d.weight ≤ x.weight + 1 + WData.weightAll r
    rcases List.mem_cons.mp h with e | m
    · rw [e]
      omega
    · have z := weight_mem m
      omega
def toV : Value → V
  | .none => .non
  | .bool b => .bl b
  | .int i _ => .int i
  | .str x _ => .str x
  | .bytes b _ => .byt b
  | .ref a => .ref a
  | _ => .non
def OkU (A : List Addr) : Value → Prop
  | .none => True
  | .bool _ => True
  | .int _ _ => True
  | .str _ _ => True
  | .bytes _ _ => True
  | .ref a => a ∈ A
  | _ => False
theorem OkU.mono {A B : List Addr} (h : ∀ a ∈ A, a ∈ B) : ∀ {u : Value}, OkU A u → OkU B u := fun {u} x => by
  cases u with
  | ref a => exact h a x
  | none => trivial
  | bool b => trivial
  | int i t => trivial
  | str s t => trivial
  | bytes b t => trivial
  | _ => exact False.elim x
theorem relV_toV {A : List Addr} {u : Value} (x : OkU A u) : RelV (toV u) u := by
  cases u with
  | ref a => rfl
  | none => rfl
  | bool b => rfl
  | int i t => exact ⟨t, rfl⟩
  | str s t => exact ⟨t, rfl⟩
  | bytes b t => exact ⟨t, rfl⟩
  | _ => exact False.elim x
theorem vals_toV {A : List Addr} : ∀ {vs : List Value}, (∀ u ∈ vs, OkU A u) → Vals (vs.map toV) vs
  | [], _ => .nil
  | u :: r, h => .cons (relV_toV (h u (List.mem_cons_self ..))) (vals_toV fun x hx => h x (List.mem_cons_of_mem _ hx))
def ArgOb (h : Heap) (A : List Addr) (a : Addr) : Prop := ∃ vs : List Value, vs.length ≤ sizeLine ∧ (∀ u ∈ vs, OkU A u) ∧
  (h.get? a = some { cls := .type "list", data := .seq vs.toArray } ∨ h.get? a = some { cls := .type "tuple", data := .seq vs.toArray })
theorem ArgOb.mono {h : Heap} {A B : List Addr} {a : Addr} (k : ∀ a ∈ A, a ∈ B) (x : ArgOb h A a) : ArgOb h B a := by
  obtain ⟨vs, h1, h2, h3⟩ := x
  exact ⟨vs, h1, fun u hu => (h2 u hu).mono k, h3⟩
theorem wellAll_len {P : Params} {h : Heap} : ∀ {vs : List Value} {ds : List WData}, WellAll P h vs ds → vs.length = ds.length
  | _, _, .nil => rfl
  | _, _, .cons _ b => by
    show _ + 1 = _ + 1
    rw [wellAll_len b]
theorem well_list {P : Params} {h : Heap} {v : Value} {ds : List WData} (x : Well P h v (.list ds)) : ∃ (a : Addr) (vs : List Value), v = .ref a ∧ h.get? a = some { cls := .type "list", data := .seq vs.toArray } ∧ WellAll P h vs ds := by
  cases x with
  | list ho hall => exact ⟨_, _, rfl, ho, hall⟩
theorem well_tuple {P : Params} {h : Heap} {v : Value} {ds : List WData} (x : Well P h v (.tuple ds)) : ∃ (a : Addr) (vs : List Value), v = .ref a ∧ h.get? a = some { cls := .type "tuple", data := .seq vs.toArray } ∧ WellAll P h vs ds := by
  cases x with
  | tuple ho hall => exact ⟨_, _, rfl, ho, hall⟩
theorem well_cons {P : Params} {h : Heap} {us : List Value} {d : WData} {ds : List WData} (x : WellAll P h us (d :: ds)) : ∃ (v : Value) (vs : List Value), us = v :: vs ∧ Well P h v d ∧ WellAll P h vs ds := by
  cases x with
  | cons a b => exact ⟨_, _, rfl, a, b⟩
theorem line_of {n : Nat} (h : n ≤ 1048576) : n ≤ sizeLine := Nat.le_trans h (by decide)
section
variable {P : Params} {h : Heap}
mutual
theorem area_one : ∀ (d : WData) (v : Value), Well P h v d → plW d = true → d.weight ≤ 1048576 → ∃ A : List Addr, OkU A v ∧ ∀ a ∈ A, ArgOb h A a
  | .none, _, x, _, _ => by
    cases x
    exact ⟨[], trivial, fun a m => absurd m (by simp)⟩
  | .bool b, _, x, _, _ => by
    cases x
    exact ⟨[], trivial, fun a m => absurd m (by simp)⟩
  | .int i, _, x, _, _ => by
    cases x
    exact ⟨[], trivial, fun a m => absurd m (by simp)⟩
  | .str s, _, x, _, _ => by
    cases x
    exact ⟨[], trivial, fun a m => absurd m (by simp)⟩
  | .bytes b, _, x, _, _ => by
    cases x
    exact ⟨[], trivial, fun a m => absurd m (by simp)⟩
  | .list ds, _, x, p, z => by
    obtain ⟨a, vs, rfl, ho, hall⟩ := well_list x
    have z2 : WData.weightAll ds ≤ 1048576 := z
    obtain ⟨A, h1, h2⟩ := area_all ds _ hall p fun d hd => Nat.le_trans (weight_mem hd) z2
    have k : ∀ b ∈ A, b ∈ a :: A := fun b hb => List.mem_cons_of_mem _ hb
    refine ⟨a :: A, List.mem_cons_self .., fun b hb => ?_⟩
    rcases List.mem_cons.mp hb with e | m
    · rw [e]
      exact ⟨vs, line_of (by rw [wellAll_len hall]; exact Nat.le_trans (PySem.W.length_le_weightAllW ds) z2), fun u hu => (h1 u hu).mono k, .inl ho⟩
    · exact (h2 b m).mono k
  | .tuple ds, _, x, p, z => by
    obtain ⟨a, vs, rfl, ho, hall⟩ := well_tuple x
    have z2 : WData.weightAll ds ≤ 1048576 := z
    obtain ⟨A, h1, h2⟩ := area_all ds _ hall p fun d hd => Nat.le_trans (weight_mem hd) z2
    have k : ∀ b ∈ A, b ∈ a :: A := fun b hb => List.mem_cons_of_mem _ hb
    refine ⟨a :: A, List.mem_cons_self .., fun b hb => ?_⟩
    rcases List.mem_cons.mp hb with e | m
    · rw [e]
      exact ⟨vs, line_of (by rw [wellAll_len hall]; exact Nat.le_trans (PySem.W.length_le_weightAllW ds) z2), fun u hu => (h1 u hu).mono k, .inr ho⟩
    · exact (h2 b m).mono k
  | .float _, _, _, p, _ => Bool.noConfusion (show false = true from p)
  | .dict _, _, _, p, _ => Bool.noConfusion (show false = true from p)
  | .bytearray _, _, _, p, _ => Bool.noConfusion (show false = true from p)
  | .set _, _, _, p, _ => Bool.noConfusion (show false = true from p)
  | .frozenset _, _, _, p, _ => Bool.noConfusion (show false = true from p)
  | .obj _ _, _, _, p, _ => Bool.noConfusion (show false = true from p)
theorem area_all : ∀ (ds : List WData) (vs : List Value), WellAll P h vs ds → plWs ds = true → (∀ d ∈ ds, d.weight ≤ 1048576) → ∃ A : List Addr, (∀ u ∈ vs, OkU A u) ∧ ∀ a ∈ A, ArgOb h A a
  | [], _, x, _, _ => by
    cases x
    exact ⟨[], fun u m => absurd m (by simp), fun a m => absurd m (by simp)⟩
  | d :: ds, _, x, p, z => by
    obtain ⟨v, vs, rfl, x1, x2⟩ := well_cons x
    have q : plW d = true ∧ plWs ds = true := Bool.and_eq_true_iff.mp p
    obtain ⟨A, a1, a2⟩ := area_one d v x1 q.1 (z d (List.mem_cons_self ..))
    obtain ⟨B, b1, b2⟩ := area_all ds vs x2 q.2 fun e he => z e (List.mem_cons_of_mem _ he)
    have kA : ∀ b ∈ A, b ∈ A ++ B := fun b hb => List.mem_append.mpr (.inl hb)
    have kB : ∀ b ∈ B, b ∈ A ++ B := fun b hb => List.mem_append.mpr (.inr hb)
    refine ⟨A ++ B, fun u hu => ?_, fun b hb => ?_⟩
    · rcases List.mem_cons.mp hu with e | m
      · rw [e]
        exact a1.mono kA
      · exact (b1 u m).mono kB
    · rcases List.mem_append.mp hb with m | m
      · exact (a2 b m).mono kA
      · exact (b2 b m).mono kB
end
end
def hoOf (o : Obj) : Option HO := match o.data with
  | .seq vs _ => if (o.cls == Value.type "list") = true then some (.frz o (.lst (vs.toList.map toV))) else some (.frz o (.tup (vs.toList.map toV)))
  | _ => none
def argH (K : PySem.W.Frag) (h : Heap) (A : List Addr) : Hp := fun b => if b ∈ A then (if (K.lookup b).isNone = true then (h.get? b).bind hoOf else none) else none
def OnlyF (H : Hp) : Prop := ∀ b, H b = none ∨ ∃ o u, H b = some (.frz o u)
theorem hoOf_lst (vs : List Value) : hoOf { cls := .type "list", data := .seq vs.toArray } = some (.frz { cls := .type "list", data := .seq vs.toArray } (.lst (vs.map toV))) := by
  show (if (Value.type "list" == Value.type "list") = true then some (HO.frz { cls := .type "list", data := .seq vs.toArray } (.lst (vs.toArray.toList.map toV))) else some (HO.frz { cls := .type "list", data := .seq vs.toArray } (.tup (vs.toArray.toList.map toV)))) = _
  rw [if_pos (beq_self_eq_true _)]
theorem hoOf_tup (vs : List Value) : hoOf { cls := .type "tuple", data := .seq vs.toArray } = some (.frz { cls := .type "tuple", data := .seq vs.toArray } (.tup (vs.map toV))) := by
  show (if (Value.type "tuple" == Value.type "list") = true then some (HO.frz { cls := .type "tuple", data := .seq vs.toArray } (.lst (vs.toArray.toList.map toV))) else some (HO.frz { cls := .type "tuple", data := .seq vs.toArray } (.tup (vs.toArray.toList.map toV)))) = _
  rw [if_neg (by decide)]
section
variable {P : Program} {w : World} {K : PySem.W.Frag} {h : Heap} {A : List Addr}
theorem argH_at {b : Addr} {o : Obj} (hb : b ∈ A) (hk : K.lookup b = none) (e : h.get? b = some o) : argH K h A b = hoOf o := by
  unfold argH
  rw [if_pos hb, hk, if_pos (show (none : Option Obj).isNone = true from rfl), e] <;> rfl
theorem of_argH {b : Addr} {u : HO} (q : argH K h A b = some u) : b ∈ A ∧ K.lookup b = none := by
  unfold argH at q
  by_cases hb : b ∈ A
  · rw [if_pos hb] at q
    cases hk : K.lookup b with
    | none => exact ⟨hb, rfl⟩
    | some o =>
      rw [hk, if_neg (by simp)] at q
      cases q
  · rw [if_neg hb] at q
    cases q
theorem argH_is (ar : ∀ a ∈ A, ArgOb h A a) {b : Addr} {u : HO} (q : argH K h A b = some u) : K.lookup b = none ∧ ∃ vs : List Value, vs.length ≤ sizeLine ∧ (∀ u ∈ vs, OkU A u) ∧
    ((h.get? b = some { cls := .type "list", data := .seq vs.toArray } ∧ u = .frz { cls := .type "list", data := .seq vs.toArray } (.lst (vs.map toV))) ∨
     (h.get? b = some { cls := .type "tuple", data := .seq vs.toArray } ∧ u = .frz { cls := .type "tuple", data := .seq vs.toArray } (.tup (vs.map toV)))) := by
  obtain ⟨hb, hk⟩ := of_argH q
  obtain ⟨vs, h1, h2, h3⟩ := ar b hb
  refine ⟨hk, vs, h1, h2, ?_⟩
  rcases h3 with e | e
  · rw [argH_at hb hk e, hoOf_lst] at q
    exact .inl ⟨e, (Option.some.inj q).symm⟩
  · rw [argH_at hb hk e, hoOf_tup] at q
    exact .inr ⟨e, (Option.some.inj q).symm⟩
theorem argH_only (ar : ∀ a ∈ A, ArgOb h A a) : OnlyF (argH K h A) := fun b => by
  cases q : argH K h A b with
  | none => exact .inl rfl
  | some u =>
    obtain ⟨_, vs, _, _, ⟨_, e⟩ | ⟨_, e⟩⟩ := argH_is ar q
    · exact .inr ⟨_, _, by rw [e]⟩
    · exact .inr ⟨_, _, by rw [e]⟩
theorem argH_ok (ar : ∀ a ∈ A, ArgOb h A a) : HOk P w (argH K h A) h := fun b u q => by
  obtain ⟨_, vs, h1, h2, ⟨e, rfl⟩ | ⟨e, rfl⟩⟩ := argH_is ar q
  · exact ⟨e, by rw [List.length_map]; exact h1, vs, _, vals_toV h2, e⟩
  · exact ⟨e, by rw [List.length_map]; exact h1, vs, vals_toV h2, _, e, rfl, _, rfl⟩
theorem seq_inj {c c' : Value} {vs us : List Value} (e : (some { cls := c, data := .seq vs.toArray } : Option Obj) = some { cls := c', data := .seq us.toArray }) : c = c' ∧ vs = us := by
  have e1 := Option.some.inj e
  have e2 : c = c' := congrArg Obj.cls e1
  have e3 : Data.seq vs.toArray = Data.seq us.toArray := congrArg Obj.data e1
  injection e3 with e4
  refine ⟨e2, ?_⟩
  have e5 := congrArg Array.toList e4
  simpa using e5
theorem argL (KX : K.In h) (ar : ∀ a ∈ A, ArgOb h A a) {a : Addr} {vs : List Value} (ha : a ∈ A) (e : h.get? a = some { cls := .type "list", data := .seq vs.toArray }) : (∀ u ∈ vs, OkU A u) ∧ SqL K (argH K h A) a (vs.map toV) := by
  obtain ⟨us, h1, h2, h3⟩ := ar a ha
  have hu : us = vs := by
    rcases h3 with q | q
    · rw [e] at q
      exact (seq_inj q).2.symm
    · rw [e] at q
      exact absurd (Value.type.inj (seq_inj q).1) (by decide)
  subst hu
  refine ⟨h2, ?_⟩
  cases hk : K.lookup a with
  | none => exact .inl (.inr ⟨_, by rw [argH_at ha hk e, hoOf_lst]⟩)
  | some o =>
    have e2 := KX a o hk
    rw [e] at e2
    obtain rfl := Option.some.inj e2
    exact .inr ⟨_, us.toArray, _, hk, rfl, rfl, rfl, by rw [List.size_toArray]; exact h1, by simpa using vals_toV h2⟩
theorem argT (KX : K.In h) (ar : ∀ a ∈ A, ArgOb h A a) {a : Addr} {vs : List Value} (ha : a ∈ A) (e : h.get? a = some { cls := .type "tuple", data := .seq vs.toArray }) : (∀ u ∈ vs, OkU A u) ∧ SqT K (argH K h A) a (vs.map toV) := by
  obtain ⟨us, h1, h2, h3⟩ := ar a ha
  have hu : us = vs := by
    rcases h3 with q | q
    · rw [e] at q
      exact absurd (Value.type.inj (seq_inj q).1) (by decide)
    · rw [e] at q
      exact (seq_inj q).2.symm
  subst hu
  refine ⟨h2, ?_⟩
  cases hk : K.lookup a with
  | none => exact .inl (.inr ⟨_, by rw [argH_at ha hk e, hoOf_tup]⟩)
  | some o =>
    have e2 := KX a o hk
    rw [e] at e2
    obtain rfl := Option.some.inj e2
    exact .inr ⟨_, us.toArray, _, hk, rfl, rfl, by rw [List.size_toArray]; exact h1, by simpa using vals_toV h2⟩
mutual
theorem dw_one {Pm : Params} (KX : K.In h) (ar : ∀ a ∈ A, ArgOb h A a) : ∀ (d : WData) (v : Value), Well Pm h v d → plW d = true → OkU A v → Dw K (argH K h A) (toV v) d
  | .none, _, x, _, _ => by
    cases x
    exact .non
  | .bool b, _, x, _, _ => by
    cases x
    exact .bl b
  | .int i, _, x, _, _ => by
    cases x
    exact .int i
  | .str s, _, x, _, _ => by
    cases x
    exact .str s
  | .bytes b, _, x, _, _ => by
    cases x
    have z := Dw.byt (K := K) (H := argH K h A) b.toArray
    exact z
  | .list ds, _, x, p, hu => by
    obtain ⟨a, vs, rfl, ho, hall⟩ := well_list x
    obtain ⟨h2, hs⟩ := argL KX ar hu ho
    exact .lst hs (dw_all KX ar ds _ hall p h2)
  | .tuple ds, _, x, p, hu => by
    obtain ⟨a, vs, rfl, ho, hall⟩ := well_tuple x
    obtain ⟨h2, hs⟩ := argT KX ar hu ho
    exact .tup hs (dw_all KX ar ds _ hall p h2)
  | .float _, _, _, p, _ => Bool.noConfusion (show false = true from p)
  | .dict _, _, _, p, _ => Bool.noConfusion (show false = true from p)
  | .bytearray _, _, _, p, _ => Bool.noConfusion (show false = true from p)
  | .set _, _, _, p, _ => Bool.noConfusion (show false = true from p)
  | .frozenset _, _, _, p, _ => Bool.noConfusion (show false = true from p)
  | .obj _ _, _, _, p, _ => Bool.noConfusion (show false = true from p)
theorem dw_all {Pm : Params} (KX : K.In h) (ar : ∀ a ∈ A, ArgOb h A a) : ∀ (ds : List WData) (vs : List Value), WellAll Pm h vs ds → plWs ds = true → (∀ u ∈ vs, OkU A u) → DwAll K (argH K h A) (vs.map toV) ds
  | [], _, x, _, _ => by
    cases x
    exact .nil
  | d :: ds, _, x, p, hu => by
    obtain ⟨v, vs, rfl, x1, x2⟩ := well_cons x
    have q : plW d = true ∧ plWs ds = true := Bool.and_eq_true_iff.mp p
    exact .cons (dw_one KX ar d v x1 q.1 (hu _ (List.mem_cons_self ..))) (dw_all KX ar ds vs x2 q.2 fun u m => hu u (List.mem_cons_of_mem _ m))
end
end
theorem spec_call {P : Program} {w : World} {K : PySem.W.Frag} {mg mb : Str → Option Value} {CX : CXT} {k : Nat} {fa : Addr} {fd : FuncData} {ps : List Str} {sp : Sp} {s₁ : Shared} {vals : List Value} {ds : List WData} {R : PySem.W.WRecords} {cl : Str → Option Addr} {d0 : WData}
    (KX : K.In s₁.heap) (hns : s₁.heap.Ns mainGlobals mg) (hb : s₁.heap.Ns builtinsNs mb) (hbb : ∀ x : Str, x ≠ "__name__" → mb x = bootBuiltins x) (hlim : s₁.heap.NoLimit) (hg : s₁.gens = #[])
    (hwl : WellAll w.params s₁.heap vals ds) (hpl : plWs ds = true) (hwt : ∀ d ∈ ds, d.weight ≤ 1048576) (hr : Room k callerA)
    (F : ∀ base : Heap, K.In base → base.Ns mainGlobals mg → FnOk P w K mg base CX k fa fd ps sp) (hbind : ∀ (s : Shared) (us : List Value), us.length = ps.length → BindsTo s fd ⟨us, []⟩ (ps.zip us)) (hlen : ds.length = ps.length)
    (hsp : ∀ (H : Hp) (xs : List V), OnlyF H → DwAll K H xs ds → sp xs H (fun v H' => Dw K H' v d0) fun _ _ _ => False)
    (hCX : ∀ H e s', CX [] H s₁ (fun _ _ _ => False) e s' → False) :
    codeAny (model P w) callerA (.call (.ref fa) ⟨vals, []⟩) (fun r s' => ∃ u as, r = .ok (.ret u) ∧ ReadsW R cl s'.heap u d0 as ∧ OldK s₁.heap s'.heap ∧ s'.os = s₁.os ∧ AllBare s'.gens) s₁ := by
  obtain ⟨A, ho, ar⟩ := area_all ds vals hwl hpl hwt
  have hO : OnlyF (argH K s₁.heap A) := argH_only ar
  have hok : HOk P w (argH K s₁.heap A) s₁.heap := argH_ok ar
  have hS := dw_all KX ar ds vals hwl hpl ho
  have hV := vals_toV ho
  have hK : ∀ b u, argH K s₁.heap A b = some u → K.lookup b = none := fun b u q => (argH_is ar q).1
  have noA : ∀ {b : Addr} {o : Obj} {es : Array DictEntry} {ep : Nat}, s₁.heap.get? b = some o → o.data = .dict es ep → argH K s₁.heap A b = none := fun {b o es ep} e d => by
    cases q : argH K s₁.heap A b with
    | none => rfl
    | some u =>
      obtain ⟨_, vs, _, _, ⟨e2, _⟩ | ⟨e2, _⟩⟩ := argH_is ar q
      · rw [e2] at e
        cases e
        have d' : Data.seq vs.toArray _ = Data.dict es ep := d
        cases d'
      · rw [e2] at e
        cases e
        have d' : Data.seq vs.toArray _ = Data.dict es ep := d
        cases d'
  generalize argH K s₁.heap A = H at hO hok hS hK noA
  have base_of : ∀ {b : Addr} {o : Obj}, s₁.heap.get? b = some o → H b = none → (hidT s₁.heap H).get? b = some o := fun e n => hidT_get e n
  have nsK : ∀ {b : Addr} {m : Str → Option Value}, s₁.heap.Ns b m → (hidT s₁.heap H).Ns b m := fun {b m} ⟨o, es, ep, e, d, r⟩ => ⟨o, es, ep, base_of e (noA e d), d, r⟩
  have nK : ∀ b o, K.lookup b = some o → H b = none := fun b o e => by
    cases q : H b with
    | none => rfl
    | some u =>
      rw [hK b u q] at e
      cases e
  have hKb : K.In (hidT s₁.heap H) := fun b o e => base_of (KX b o e) (nK b o e)
  have hM : Mod K mg (hidT s₁.heap H) := ⟨hKb, nsK hns, ⟨mb, nsK hb, hbb⟩, let ⟨mc, h1, h2⟩ := hlim; ⟨mc, nsK h1, h2⟩⟩
  have e0 : Env0 P w K mg (hidT s₁.heap H) callerA [] s₁ H := ⟨rfl, hM, fun b o e => of_hidT e, Nat.le_of_eq (hidT_size _ _), trivial, fun b hb => absurd (show b ∈ ([] : List Addr) from hb) (by simp), hok, .of_eq hg⟩
  have hl : vals.length = ps.length := by rw [wellAll_len hwl]; exact hlen
  refine codeAny_mono ((F _ hKb (nsK hns)).run callerA [] s₁ H ⟨vals, []⟩ vals (vals.map toV) _ _ hr e0 (hbind s₁ vals hl) hV (hsp H _ hO hS)) fun r s' x => ?_
  cases r with
  | error e => exact (hCX H e s' x).elim
  | ok fl =>
    cases fl with
    | next => exact False.elim x
    | brk => exact False.elim x
    | cont => exact False.elim x
    | ret u =>
      obtain ⟨v, H', os, bare, un, hok', r', q⟩ := x
      have kept : ∀ b o, s₁.heap.get? b = some o → s'.heap.get? b = some o := fun b o e => by
        cases q2 : H b with
        | none => exact un.keep b o e q2 (by intro z; exact absurd (show b ∈ ([] : List Addr) from z) (by simp)) (by simp)
        | some u2 =>
          rcases hO b with z | ⟨ob, u3, z⟩
          · rw [q2] at z
            cases z
          · have z2 := un.frzs b ob _ z
            obtain ⟨e1, _⟩ := hok b _ z
            obtain ⟨e2, _⟩ := hok' b _ z2
            rw [e] at e1
            cases e1
            exact e2
      have KX' : K.In s'.heap := fun b o e => kept b o (KX b o e)
      obtain ⟨as, hrd⟩ := Dw.reads (R := R) (cl := cl) hok' KX' d0 v u q r'
      exact ⟨u, as, rfl, hrd, OldK.of_keep kept, os, bare⟩
theorem layable_weight {ds : List WData} (h : WData.layableAll ds = true) : ∀ d ∈ ds, d.weight ≤ 1048576 := fun d hd =>
  (PySem.W.layableW_iff.mp (List.all_eq_true.mp h d hd)).2.2
theorem encAll_len : ∀ (cs : List Codec) (a : Codec.denoteAll cs), (Codec.encAll cs a).length = cs.length
  | [], _ => rfl
  | c :: cs, a => by
    show (Codec.encAll cs a.2).length + 1 = cs.length + 1
    rw [encAll_len cs a.2]
theorem walk_spec {r : OpenSpec} {k : Nat} {q : Program} {loose : List Str} {XP : (Str → Option Value) → Heap → Prop} {YP : World → Heap → Prop} {d : DefRec} {K : Params → PySem.W.Frag} {CX : World → CXT} {ps : List Str} {sp : World → Sp}
    (hwell : r.wellSaid = true) (hdf : d.params.defaults = []) (hlen : r.args.length = ps.length) (hr : Room k callerA)
    (hY : ∀ (w : World) (h : Heap), YP w h → (K w.params).In h)
    (F : ∀ (w : World) (mg : Str → Option Value) (fa : Addr) (h : Heap), YP w h → (K w.params).In h → h.Ns mainGlobals mg → mg d.name = some (.ref fa) →
      ∃ fd : FuncData, (∀ (s : Shared) (us : List Value), us.length = ps.length → BindsTo s fd ⟨us, []⟩ (ps.zip us)) ∧
        ∀ base : Heap, (K w.params).In base → base.Ns mainGlobals mg → FnOk r.prog w (K w.params) mg base (CX w) k fa fd ps (sp w))
    (hsp : ∀ (w : World) (H : Hp) (xs : List V) (a : Codec.denoteAll r.args), OnlyF H → Codec.withinAll r.args a = true → Codec.app r.args r.asked a = true → DwAll (K w.params) H xs (Codec.encAll r.args a) →
      sp w xs H (fun v H' => Dw (K w.params) H' v (r.ret.enc (Codec.app r.args r.f a))) fun _ _ _ => False)
    (hCX : ∀ (w : World) (H : Hp) (s : Shared) (e : Value) (s' : Shared), CX w [] H s (fun _ _ _ => False) e s' → False) :
    PySem.W.WalkOS q loose XP YP r d [] (fun f vs => PySem.call f vs) := by
  intro w s_0 s₁ mg mb G Y fa o pm cd doc dV kV ho hd hcd hD hmg hg args vals as hpre hlay hrd hwl hlo
  obtain ⟨a, e1, e2⟩ := PySem.W.os_pre_some hpre
  obtain ⟨e3, hwi⟩ := Codec.encAll_of_decAll r.args args a e1
  subst e3
  have KX := hY w _ Y
  obtain ⟨fd, hb, hF⟩ := F w mg fa _ Y KX G.T.g hmg
  refine PySem.W.enter_call (codeAny_mono (spec_call (R := []) (cl := classAt s_0.heap) (d0 := r.ret.enc (Codec.app r.args r.f a)) KX G.T.g G.T.b G.T.builtins G.T.nolimit hg hwl (pl_encAll _ _) (layable_weight hlay) hr hF hb (by rw [encAll_len]; exact hlen)
    (fun H xs hO hS => hsp w H xs a hO hwi e2 hS) fun H e s' => hCX w H s₁ e s') fun r' s' hq => ?_)
  obtain ⟨u, as', rfl, h1, h2, h3, h4⟩ := hq
  exact ⟨.inl ⟨u, _, as', rfl, fun _ => rfl, h1, (OpenSpec.post_iff hwell hwi _ _).mpr rfl, fun z => Bool.noConfusion (show false = true from z)⟩, h2, h3, h4⟩
theorem walk_specK {r : OpenSpec} {k : Nat} {q : Program} {loose : List Str} {XP : (Str → Option Value) → Heap → Prop} {YP : World → Heap → Prop} {d : DefRec} {K : Params → PySem.W.Frag} {CX : CXT} {ps : List Str} {sp : PySem.W.Frag → Sp}
    (hwell : r.wellSaid = true) (hdf : d.params.defaults = []) (hlen : r.args.length = ps.length) (hr : Room k callerA)
    (hY : ∀ (w : World) (h : Heap), YP w h → (K w.params).In h)
    (F : ∀ (w : World) (mg : Str → Option Value) (fa : Addr) (h : Heap), YP w h → (K w.params).In h → h.Ns mainGlobals mg → mg d.name = some (.ref fa) →
      ∃ fd : FuncData, (∀ (s : Shared) (us : List Value), us.length = ps.length → BindsTo s fd ⟨us, []⟩ (ps.zip us)) ∧
        ∀ base : Heap, (K w.params).In base → base.Ns mainGlobals mg → FnOk r.prog w (K w.params) mg base CX k fa fd ps (sp (K w.params)))
    (hsp : ∀ (K : PySem.W.Frag) (H : Hp) (xs : List V) (a : Codec.denoteAll r.args), OnlyF H → Codec.withinAll r.args a = true → Codec.app r.args r.asked a = true → DwAll K H xs (Codec.encAll r.args a) →
      sp K xs H (fun v H' => Dw K H' v (r.ret.enc (Codec.app r.args r.f a))) fun _ _ _ => False)
    (hCX : ∀ (H : Hp) (s : Shared) (e : Value) (s' : Shared), CX [] H s (fun _ _ _ => False) e s' → False) :
    PySem.W.WalkOS q loose XP YP r d [] (fun f vs => PySem.call f vs) :=
  walk_spec (K := K) (CX := fun _ => CX) (sp := fun w => sp (K w.params)) hwell hdf hlen hr hY F (fun w H xs a h1 h2 h3 h4 => hsp (K w.params) H xs a h1 h2 h3 h4) fun _ H s e s' => hCX H s e s'
end L2
end
namespace My
/-- the sum of f below n -/
def tot : Nat → (Nat → Rat) → Rat
  | 0, _ => 0
  | n + 1, f => tot n f + f n
theorem sum_eq (n : Nat) (f : Nat → Rat) : Sf71.sum n f = tot n f := by
  unfold Sf71.sum
  induction n with
  | zero => rfl
  | succ n ih =>
    rw [List.range_succ, List.map_append, List.foldl_append, ih]
    rfl
theorem tot_congr {f g : Nat → Rat} : ∀ {n : Nat}, (∀ i, i < n → f i = g i) → tot n f = tot n g
  | 0, _ => rfl
  | n + 1, h => by
    show tot n f + f n = tot n g + g n
    rw [tot_congr (fun i hi => h i (by omega)), h n (by omega)]
theorem tot_zero : ∀ {n : Nat} {f : Nat → Rat}, (∀ i, i < n → f i = 0) → tot n f = 0
  | 0, _, _ => rfl
  | n + 1, f, h => by
    show tot n f + f n = 0
    rw [tot_zero (fun i hi => h i (by omega)), h n (by omega)]
    grind
theorem tot_add (f g : Nat → Rat) : ∀ n : Nat, tot n (fun i => f i + g i) = tot n f + tot n g
  | 0 => by simp only [tot]; grind
  | n + 1 => by
    simp only [tot]
    rw [tot_add f g n]
    grind
theorem tot_sub (f g : Nat → Rat) : ∀ n : Nat, tot n (fun i => f i - g i) = tot n f - tot n g
  | 0 => by simp only [tot]; grind
  | n + 1 => by
    simp only [tot]
    rw [tot_sub f g n]
    grind
theorem tot_mul (c : Rat) (f : Nat → Rat) : ∀ n : Nat, tot n (fun i => c * f i) = c * tot n f
  | 0 => by simp only [tot]; grind
  | n + 1 => by
    simp only [tot]
    rw [tot_mul c f n]
    grind
theorem tot_mul_right (c : Rat) (f : Nat → Rat) (n : Nat) : tot n (fun i => f i * c) = tot n f * c := by
  have h := tot_mul c f n
  have e : (fun i => f i * c) = fun i => c * f i := by funext i; grind
  rw [e, h]; grind
theorem tot_single (f : Nat → Rat) (k : Nat) : ∀ n : Nat, tot n (fun i => if i = k then f i else 0) = if k < n then f k else 0
  | 0 => by simp [tot]
  | n + 1 => by
    simp only [tot]
    rw [tot_single f k n]
    by_cases h : n = k
    · subst h; simp; grind
    · by_cases h2 : k < n
      · rw [if_pos h2, if_neg h, if_pos (by omega)]; grind
      · rw [if_neg h2, if_neg h, if_neg (by omega)]; grind
theorem tot_le {f g : Nat → Rat} : ∀ {n : Nat}, (∀ i, i < n → f i ≤ g i) → tot n f ≤ tot n g
  | 0, _ => by simp only [tot]; grind
  | n + 1, h => by
    have h1 := tot_le (n := n) (fun i hi => h i (by omega))
    have h2 := h n (by omega)
    show tot n f + f n ≤ tot n g + g n
    grind
theorem tot_nonneg {f : Nat → Rat} {n : Nat} (h : ∀ i, i < n → 0 ≤ f i) : 0 ≤ tot n f := by
  have := tot_le (f := fun _ => 0) (g := f) (n := n) h
  rwa [tot_zero (fun _ _ => rfl)] at this
theorem tot_nonpos {f : Nat → Rat} {n : Nat} (h : ∀ i, i < n → f i ≤ 0) : tot n f ≤ 0 := by
  have := tot_le (f := f) (g := fun _ => 0) (n := n) h
  rwa [tot_zero (f := fun _ => (0 : Rat)) (fun _ _ => rfl)] at this
/-- one is taken out -/
theorem tot_out (f : Nat → Rat) {k n : Nat} (h : k < n) : tot n f = f k + tot n (fun i => if i = k then 0 else f i) := by
  have e : f = fun i => (if i = k then f i else 0) + (if i = k then 0 else f i) := by
    funext i
    by_cases q : i = k
    · simp only [q, if_true]; grind
    · simp only [q, if_false]; grind
  have e2 := tot_add (fun i => if i = k then f i else 0) (fun i => if i = k then 0 else f i) n
  rw [tot_single, if_pos h] at e2
  rw [← e2]
  exact congrArg (tot n) e
theorem tot_ge_one {f : Nat → Rat} {k n : Nat} (h : k < n) (h0 : ∀ i, i < n → 0 ≤ f i) : f k ≤ tot n f := by
  rw [tot_out f h]
  have : 0 ≤ tot n (fun i => if i = k then 0 else f i) := tot_nonneg fun i hi => by
    show 0 ≤ if i = k then 0 else f i
    split
    · grind
    · exact h0 i hi
  grind
theorem tot_swap (f : Nat → Nat → Rat) (m : Nat) : ∀ n : Nat, tot n (fun i => tot m (fun j => f i j)) = tot m (fun j => tot n (fun i => f i j))
  | 0 => by simp only [tot]; exact (tot_zero fun _ _ => rfl).symm
  | n + 1 => by
    simp only [tot]
    rw [tot_swap f m n, ← tot_add]
theorem tot_succ_first (f : Nat → Rat) : ∀ n : Nat, tot (n + 1) f = f 0 + tot n (fun i => f (i + 1))
  | 0 => by simp only [tot]; grind
  | n + 1 => by
    have h := tot_succ_first f n
    show tot (n + 1) f + f (n + 1) = _
    rw [h]
    simp only [tot]; grind
end My
namespace My
/-- a fraction's millionths, downwards, by whole numbers -/
theorem floor_frac {c f : Int} {x : Rat} (hf : 0 < f) (h : ((c : Int) : Rat) = ((f : Int) : Rat) * x) : (c * 1000000).fdiv f = (x * 1000000).floor := by
  have hf' : (0 : Rat) < ((f : Int) : Rat) := by exact_mod_cast hf
  rw [Int.fdiv_eq_ediv_of_nonneg _ (by omega)]
  have e1 := Int.mul_ediv_self_le (x := c * 1000000) (k := f) (by omega)
  have e2 := Int.lt_mul_ediv_self_add (x := c * 1000000) (k := f) hf
  generalize c * 1000000 / f = q at *
  have r1 : ((f : Int) : Rat) * ((q : Int) : Rat) ≤ ((f : Int) : Rat) * (x * 1000000) := by
    have := Rat.intCast_le_intCast.mpr e1
    rw [Rat.intCast_mul, Rat.intCast_mul, h] at this
    have e : ((1000000 : Int) : Rat) = 1000000 := rfl
    rw [e] at this
    grind
  have r2 : ((f : Int) : Rat) * (x * 1000000) < ((f : Int) : Rat) * (((q + 1 : Int)) : Rat) := by
    have e3 : c * 1000000 < f * (q + 1) := by rw [Int.mul_add, Int.mul_one]; exact e2
    have := Rat.intCast_lt_intCast.mpr e3
    rw [Rat.intCast_mul, Rat.intCast_mul, h] at this
    have e : ((1000000 : Int) : Rat) = 1000000 := rfl
    rw [e] at this
    grind
  have h1 : ((q : Int) : Rat) ≤ x * 1000000 := by
    rcases Classical.em (((q : Int) : Rat) ≤ x * 1000000) with z | z
    · exact z
    · have := Rat.mul_pos hf' (show 0 < ((q : Int) : Rat) - x * 1000000 by grind)
      grind
  have h2 : x * 1000000 < ((q + 1 : Int) : Rat) := by
    rcases Classical.em (x * 1000000 < ((q + 1 : Int) : Rat)) with z | z
    · exact z
    · have := Rat.mul_nonneg (Rat.le_of_lt hf') (show 0 ≤ x * 1000000 - ((q + 1 : Int) : Rat) by grind)
      grind
  have g1 := Rat.le_floor_iff.mpr h1
  have g2 := Rat.floor_lt_iff.mpr h2
  omega
end My
namespace My
open Sf96
/-- the number at a place of a table -/
def at2 (rows : List (List Rat)) (i j : Nat) : Rat := (rows.getD i []).getD j 0
structure Shape (n : Nat) (rows : List (List Rat)) : Prop where
  len : rows.length = n
  each : ∀ r ∈ rows, r.length = n + 1
theorem Shape.row {n : Nat} {rows : List (List Rat)} (h : Shape n rows) {i : Nat} (hi : i < n) : (rows.getD i []).length = n + 1 := by
  have hl : i < rows.length := by rw [h.len]; exact hi
  rw [List.getD_eq_getElem?_getD, List.getElem?_eq_getElem hl]
  exact h.each _ (List.getElem_mem hl)
theorem find_zip {α : Type} (p : α × Nat → Bool) (l : List α) (k : Nat) (hk : k < l.length) (hp : p (l[k], k) = true) (hn : ∀ i (hi : i < l.length), i < k → p (l[i], i) = false) :
    l.zipIdx.find? p = some (l[k], k) := by
  rw [List.find?_eq_some_iff_getElem]
  refine ⟨hp, k, by simpa using hk, by simp, ?_⟩
  intro j hj
  have := hn j (by omega) hj
  simp [this]
theorem without_eq {n : Nat} {rows : List (List Rat)} (h : Shape n rows) {k : Nat} (hk : k < n) (hp : at2 rows k k ≠ 0) :
    without rows k = (List.range n).map fun i => if i = k then (rows.getD k []).map (fun x => x / at2 rows k k) else
      List.zipWith (fun (x y : Rat) => x - at2 rows i k * y) (rows.getD i []) ((rows.getD k []).map fun x => x / at2 rows k k) := by
  have hl : k < rows.length := by rw [h.len]; exact hk
  have hget : ∀ i (hi : i < rows.length), rows.getD i [] = rows[i] := fun i hi => by
    rw [List.getD_eq_getElem?_getD, List.getElem?_eq_getElem hi]; rfl
  have hf : (rows.zipIdx.find? fun (r : List Rat × Nat) => decide (k ≤ r.2) && r.1.getD k 0 != 0) = some (rows[k], k) := by
    apply find_zip _ _ _ hl
    · have : rows[k].getD k 0 ≠ 0 := by
        have := hp
        unfold at2 at this
        rwa [hget k hl] at this
      show (decide (k ≤ k) && rows[k].getD k 0 != 0) = true
      rw [decide_eq_true (Nat.le_refl k), Bool.true_and]
      exact bne_iff_ne.mpr this
    · intro i hi hik
      have : ¬ k ≤ i := by omega
      show (decide (k ≤ i) && rows[i].getD k 0 != 0) = false
      rw [decide_eq_false this, Bool.false_and]
  unfold without
  rw [hf]
  dsimp only
  have e0 : rows.set k (rows.getD k []) = rows := by
    rw [hget k hl]; exact List.set_getElem_self hl
  rw [e0]
  have ek : rows[k].getD k 0 = at2 rows k k := by unfold at2; rw [hget k hl]
  rw [ek]
  apply List.ext_getElem
  · simp [h.len]
  · intro i h1 h2
    have hi : i < rows.length := by simp at h1; exact h1
    rw [List.getElem_map, List.getElem_map, List.getElem_zipIdx, List.getElem_range]
    simp only [Nat.zero_add]
    by_cases e : i = k
    · rw [if_pos e, if_pos e, hget k hl]
    · rw [if_neg e, if_neg e, hget k hl, hget i hi]
      have e3 : (rows.set k (List.map (fun x => x / at2 rows k k) rows[k]))[i]'(by simpa using hi) = rows[i] := List.getElem_set_ne (by omega) _
      rw [e3]
      have e4 : rows[i].getD k 0 = at2 rows i k := by unfold at2; rw [hget i hi]
      rw [e4]
theorem without_shape {n : Nat} {rows : List (List Rat)} (h : Shape n rows) {k : Nat} (hk : k < n) (hp : at2 rows k k ≠ 0) : Shape n (without rows k) := by
  rw [without_eq h hk hp]
  refine ⟨by simp, ?_⟩
  intro r hr
  obtain ⟨i, hi, rfl⟩ := List.mem_map.mp hr
  have hi' : i < n := List.mem_range.mp hi
  have l1 := h.row hk
  have l2 := h.row hi'
  split
  · simpa using l1
  · simp only [List.length_zipWith, List.length_map]; omega
theorem without_at {n : Nat} {rows : List (List Rat)} (h : Shape n rows) {k : Nat} (hk : k < n) (hp : at2 rows k k ≠ 0) {i j : Nat} (hi : i < n) (hj : j < n + 1) :
    at2 (without rows k) i j = if i = k then at2 rows k j / at2 rows k k else at2 rows i j - at2 rows i k * (at2 rows k j / at2 rows k k) := by
  have l1 := h.row hk
  have l2 := h.row hi
  have g1 : ∀ (l : List Rat) (hl : l.length = n + 1), l.getD j 0 = l[j]'(by omega) := fun l hl => by
    rw [List.getD_eq_getElem?_getD, List.getElem?_eq_getElem (by omega)]; rfl
  have e0 : at2 (without rows k) i j = ((without rows k).getD i []).getD j 0 := rfl
  rw [e0, without_eq h hk hp]
  have e1 : ∀ f : Nat → List Rat, ((List.range n).map f).getD i [] = f i := fun f => by
    rw [List.getD_eq_getElem?_getD, List.getElem?_map, List.getElem?_range hi]; rfl
  rw [e1]
  have e2 : at2 rows k j = (rows.getD k [])[j]'(by omega) := g1 _ l1
  have e3 : at2 rows i j = (rows.getD i [])[j]'(by omega) := g1 _ l2
  by_cases e : i = k
  · rw [if_pos e, if_pos e, g1 _ (by simpa using l1), List.getElem_map, e2]
  · rw [if_neg e, if_neg e, g1 _ (by simp only [List.length_zipWith, List.length_map]; omega), List.getElem_zipWith, List.getElem_map, e2, e3]
/-- what the elimination keeps: the first k unknowns are out, the factors beside the diagonal are not above 0, some positive numbers make all equations' left sides positive -/
structure Good (n k : Nat) (A : Nat → Nat → Rat) (u : Nat → Rat) : Prop where
  one : ∀ i j, i < n → j < k → A i j = if i = j then 1 else 0
  neg : ∀ i j, i < n → k ≤ j → j < n → i ≠ j → A i j ≤ 0
  pos : ∀ i, i < n → 0 < u i
  sup : ∀ i, i < n → 0 < tot n fun j => A i j * u j
theorem rat_mul_nonneg {x y : Rat} (h1 : 0 ≤ x) (h2 : 0 ≤ y) : 0 ≤ x * y := Rat.mul_nonneg h1 h2
theorem rat_np_nonneg {x y : Rat} (h1 : x ≤ 0) (h2 : 0 ≤ y) : x * y ≤ 0 := by
  have := Rat.mul_nonneg (show 0 ≤ -x by grind) h2
  grind
theorem rat_np_np {x y : Rat} (h1 : x ≤ 0) (h2 : y ≤ 0) : 0 ≤ x * y := by
  have := Rat.mul_nonneg (show 0 ≤ -x by grind) (show 0 ≤ -y by grind)
  grind
theorem Good.pivot {n k : Nat} {A : Nat → Nat → Rat} {u : Nat → Rat} (g : Good n k A u) (hk : k < n) : 0 < A k k := by
  have h1 := g.sup k hk
  rw [tot_out _ hk] at h1
  have h2 : tot n (fun i => if i = k then 0 else A k i * u i) ≤ 0 := tot_nonpos fun i hi => by
    show (if i = k then 0 else A k i * u i) ≤ 0
    by_cases e : i = k
    · rw [if_pos e]; grind
    · rw [if_neg e]
      by_cases e2 : i < k
      · rw [g.one k i hk e2, if_neg (by omega)]; grind
      · exact rat_np_nonneg (g.neg k i hk (by omega) hi (by omega)) (by have := g.pos i hi; grind)
  have h3 : 0 < A k k * u k := by grind
  have h4 := g.pos k hk
  rcases Classical.em (0 < A k k) with h | h
  · exact h
  · have := rat_np_nonneg (show A k k ≤ 0 by grind) (show 0 ≤ u k by grind)
    grind
def stepA (k : Nat) (A : Nat → Nat → Rat) (i j : Nat) : Rat := if i = k then A k j / A k k else A i j - A i k * (A k j / A k k)
theorem rat_div_nonpos {x y : Rat} (h1 : x ≤ 0) (h2 : 0 < y) : x / y ≤ 0 := by
  rw [Rat.div_def]
  exact rat_np_nonneg h1 (by have := Rat.inv_pos.mpr h2; grind)
theorem rat_div_self {x : Rat} (h : x ≠ 0) : x / x = 1 := by grind
theorem Good.step {n k : Nat} {A : Nat → Nat → Rat} {u : Nat → Rat} (g : Good n k A u) (hk : k < n) : Good n (k + 1) (stepA k A) u := by
  have hp := g.pivot hk
  have hp0 : A k k ≠ 0 := by grind
  refine ⟨?_, ?_, g.pos, ?_⟩
  · intro i j hi hj
    unfold stepA
    by_cases e : j = k
    · subst e
      by_cases e2 : i = j
      · rw [if_pos e2, if_pos e2]; exact rat_div_self hp0
      · rw [if_neg e2, if_neg e2, rat_div_self hp0]; grind
    · have hj' : j < k := by omega
      rw [g.one k j hk hj', if_neg (by omega : ¬ k = j)]
      by_cases e2 : i = k
      · rw [if_pos e2, if_neg (by omega)]; grind
      · rw [if_neg e2, g.one i j hi hj']; grind
  · intro i j hi hj hjn hij
    unfold stepA
    have q := rat_div_nonpos (g.neg k j hk (by omega) hjn (by omega)) hp
    by_cases e2 : i = k
    · rw [if_pos e2]; exact q
    · rw [if_neg e2]
      have h1 := g.neg i j hi (by omega) hjn hij
      have h2 := g.neg i k hi (by omega) hk e2
      have h3 := rat_np_np h2 q
      grind
  · intro i hi
    have hs := g.sup k hk
    have e1 : (tot n fun j => A k j / A k k * u j) = (A k k)⁻¹ * tot n fun j => A k j * u j := by
      rw [← tot_mul]
      exact tot_congr fun j _ => by rw [Rat.div_def]; grind
    have hq : 0 < tot n fun j => A k j / A k k * u j := by
      rw [e1]; exact Rat.mul_pos (Rat.inv_pos.mpr hp) hs
    by_cases e2 : i = k
    · have : (tot n fun j => stepA k A i j * u j) = tot n fun j => A k j / A k k * u j := tot_congr fun j _ => by
        unfold stepA; rw [if_pos e2]
      rw [this]; exact hq
    · have : (tot n fun j => stepA k A i j * u j) = (tot n fun j => A i j * u j) - A i k * tot n fun j => A k j / A k k * u j := by
        rw [← tot_mul, ← tot_sub]
        exact tot_congr fun j _ => by unfold stepA; rw [if_neg e2]; grind
      rw [this]
      have h1 := g.sup i hi
      have h2 := rat_np_nonneg (g.neg i k hi (by omega) hk e2) (show (0 : Rat) ≤ _ by exact Rat.le_of_lt hq)
      grind
/-- what solves the equations -/
def Sol (n : Nat) (A : Nat → Nat → Rat) (x : Nat → Rat) : Prop := ∀ i, i < n → (tot n fun j => A i j * x j) = A i n
theorem Sol.back {n k : Nat} {A : Nat → Nat → Rat} {x : Nat → Rat} (hk : k < n) (hp : A k k ≠ 0) (s : Sol n (stepA k A) x) : Sol n A x := by
  have hkk : (tot n fun j => A k j * x j) = A k n := by
    have h := s k hk
    have e : (tot n fun j => stepA k A k j * x j) = (A k k)⁻¹ * tot n fun j => A k j * x j := by
      rw [← tot_mul]
      exact tot_congr fun j _ => by unfold stepA; rw [if_pos rfl, Rat.div_def]; grind
    rw [e] at h
    unfold stepA at h
    rw [if_pos rfl] at h
    grind
  intro i hi
  by_cases e2 : i = k
  · subst e2; exact hkk
  · have h := s i hi
    have e : (tot n fun j => stepA k A i j * x j) = (tot n fun j => A i j * x j) - (A i k * (A k k)⁻¹) * tot n fun j => A k j * x j := by
      rw [← tot_mul, ← tot_sub]
      exact tot_congr fun j _ => by unfold stepA; rw [if_neg e2, Rat.div_def]; grind
    rw [e, hkk] at h
    unfold stepA at h
    rw [if_neg e2] at h
    grind
theorem Good.congr {n k : Nat} {A B : Nat → Nat → Rat} {u : Nat → Rat} (g : Good n k A u) (h : ∀ i j, i < n → j < n + 1 → B i j = A i j) (hk : k ≤ n) : Good n k B u :=
  ⟨fun i j hi hj => by rw [h i j hi (by omega)]; exact g.one i j hi hj, fun i j hi hj hn q => by rw [h i j hi (by omega)]; exact g.neg i j hi hj hn q, g.pos,
   fun i hi => by
    have e : (tot n fun j => B i j * u j) = tot n fun j => A i j * u j := tot_congr fun j hj => by rw [h i j hi (by omega)]
    rw [e]; exact g.sup i hi⟩
theorem Sol.congr {n : Nat} {A B : Nat → Nat → Rat} {x : Nat → Rat} (s : Sol n A x) (h : ∀ i j, i < n → j < n + 1 → B i j = A i j) : Sol n B x := fun i hi => by
  have e : (tot n fun j => B i j * x j) = tot n fun j => A i j * x j := tot_congr fun j hj => by rw [h i j hi (by omega)]
  rw [e, h i n hi (by omega)]; exact s i hi
theorem fold_good {n : Nat} {u : Nat → Rat} {rows : List (List Rat)} (h : Shape n rows) (g : Good n 0 (at2 rows) u) : ∀ k, k ≤ n →
    Shape n ((List.range k).foldl without rows) ∧ Good n k (at2 ((List.range k).foldl without rows)) u ∧ ∀ x, Sol n (at2 ((List.range k).foldl without rows)) x → Sol n (at2 rows) x
  | 0, _ => ⟨h, g, fun _ s => s⟩
  | k + 1, hk => by
    obtain ⟨h1, h2, h3⟩ := fold_good h g k (by omega)
    rw [List.range_succ, List.foldl_append]
    show Shape n (without _ k) ∧ Good n (k + 1) (at2 (without _ k)) u ∧ ∀ x, Sol n (at2 (without _ k)) x → _
    have hp := h2.pivot (by omega : k < n)
    have hp0 : at2 ((List.range k).foldl without rows) k k ≠ 0 := by grind
    have e : ∀ i j, i < n → j < n + 1 → at2 (without ((List.range k).foldl without rows) k) i j = stepA k (at2 ((List.range k).foldl without rows)) i j :=
      fun i j hi hj => without_at h1 (by omega) hp0 hi hj
    refine ⟨without_shape h1 (by omega) hp0, (h2.step (by omega)).congr e hk, fun x s => h3 x ?_⟩
    exact (s.congr fun i j hi hj => (e i j hi hj).symm).back (by omega) hp0
/-- **the specification's solution solves** -/
theorem solved_sol {n : Nat} {u : Nat → Rat} {rows : List (List Rat)} (h : Shape n rows) (g : Good n 0 (at2 rows) u) : Sol n (at2 rows) fun i => (solved n rows).getD i 0 := by
  obtain ⟨h1, h2, h3⟩ := fold_good h g n (Nat.le_refl n)
  apply h3
  intro i hi
  have e : ∀ j, j < n → (solved n rows).getD j 0 = at2 ((List.range n).foldl without rows) j n := fun j hj => by
    unfold solved at2
    have hl : j < ((List.range n).foldl without rows).length := by rw [h1.len]; exact hj
    have g2 : ((List.range n).foldl without rows).getD j [] = ((List.range n).foldl without rows)[j] := by
      rw [List.getD_eq_getElem?_getD, List.getElem?_eq_getElem hl]; rfl
    rw [g2, List.getD_eq_getElem?_getD, List.getElem?_map, List.getElem?_eq_getElem hl]
    rfl
  have e2 : (tot n fun j => at2 ((List.range n).foldl without rows) i j * (solved n rows).getD j 0) = tot n fun j => if j = i then (solved n rows).getD j 0 else 0 := tot_congr fun j hj => by
    rw [h2.one i j hi hj]
    by_cases q : i = j
    · rw [if_pos q, if_pos q.symm]; grind
    · rw [if_neg q, if_neg (fun z => q z.symm)]; grind
  rw [e2, tot_single, if_pos hi, e i hi]
end My
namespace My
open Sf71 Sf96
theorem tot_ints (f : Nat → Int) : ∀ n : Nat, ((((List.range n).map f).sum : Int) : Rat) = tot n fun j => ((f j : Int) : Rat)
  | 0 => by simp [tot]
  | n + 1 => by
    rw [List.range_succ, List.map_append, List.sum_append]
    simp only [tot, List.map_cons, List.map_nil, List.sum_cons, List.sum_nil]
    rw [← tot_ints f n, Int.add_zero, Rat.intCast_add]
/-- the whole set -/
def fl (N : Net) : Nat := 2 ^ N.n - 1
/-- what is asked of the places and the strengths -/
structure Fine (N : Net) (a b : Nat) : Prop where
  n2 : 2 ≤ N.n
  n5 : N.n ≤ 5
  w : ∀ i j, i < N.n → j < N.n → 0 ≤ N.weight i j ∧ N.weight i j ≤ 100
  row : ∀ i, i < N.n → 0 < N.row i
  a1 : 1 ≤ a ∧ a ≤ 100
  b1 : 1 ≤ b ∧ b ≤ 100
/-- out of each set of places that is neither empty nor whole a way leads -/
def Out (N : Net) : Prop := ∀ s, 0 < s → s < fl N → ∃ i j, i < N.n ∧ j < N.n ∧ s.testBit i = true ∧ s.testBit j = false ∧ 0 < N.weight i j
theorem after_eq (N : Net) (a b : Nat) (x : Nat → Rat) (s : Nat) :
    after N a b x s = (tot N.n fun i => fit a b s i * tot N.n fun j => N.chance i j * x (copy s i j)) / tot N.n fun i => fit a b s i := by
  unfold after
  rw [sum_eq, sum_eq]
  congr 1
  exact tot_congr fun i _ => by rw [sum_eq]
theorem after_add (N : Net) (a b : Nat) (x y : Nat → Rat) (s : Nat) : after N a b (fun t => x t + y t) s = after N a b x s + after N a b y s := by
  rw [after_eq, after_eq, after_eq]
  have e : (tot N.n fun i => fit a b s i * tot N.n fun j => N.chance i j * (x (copy s i j) + y (copy s i j))) =
      (tot N.n fun i => fit a b s i * tot N.n fun j => N.chance i j * x (copy s i j)) + tot N.n fun i => fit a b s i * tot N.n fun j => N.chance i j * y (copy s i j) := by
    rw [← tot_add]
    refine tot_congr fun i _ => ?_
    have : (tot N.n fun j => N.chance i j * (x (copy s i j) + y (copy s i j))) = (tot N.n fun j => N.chance i j * x (copy s i j)) + tot N.n fun j => N.chance i j * y (copy s i j) := by
      rw [← tot_add]
      exact tot_congr fun j _ => by grind
    rw [this]; grind
  rw [e, Rat.div_def, Rat.div_def, Rat.div_def]; grind
theorem after_mul (N : Net) (a b : Nat) (c : Rat) (x : Nat → Rat) (s : Nat) : after N a b (fun t => x t * c) s = after N a b x s * c := by
  rw [after_eq, after_eq]
  have e : (tot N.n fun i => fit a b s i * tot N.n fun j => N.chance i j * (x (copy s i j) * c)) =
      (tot N.n fun i => fit a b s i * tot N.n fun j => N.chance i j * x (copy s i j)) * c := by
    rw [← tot_mul_right]
    refine tot_congr fun i _ => ?_
    have : (tot N.n fun j => N.chance i j * (x (copy s i j) * c)) = (tot N.n fun j => N.chance i j * x (copy s i j)) * c := by
      rw [← tot_mul_right]
      exact tot_congr fun j _ => by grind
    rw [this]; grind
  rw [e, Rat.div_def, Rat.div_def]; grind
theorem after_zero (N : Net) (a b : Nat) (s : Nat) : after N a b (fun _ => 0) s = 0 := by
  have h := after_mul N a b 0 (fun _ => 0) s
  simp only [Rat.mul_zero] at h
  exact h
theorem after_congr (N : Net) (a b : Nat) {x y : Nat → Rat} {s : Nat} (h : ∀ i j, i < N.n → j < N.n → x (copy s i j) = y (copy s i j)) : after N a b x s = after N a b y s := by
  rw [after_eq, after_eq]
  congr 1
  refine tot_congr fun i hi => ?_
  congr 1
  exact tot_congr fun j hj => by rw [h i j hi hj]
theorem copy_lt {n s i j : Nat} (hs : s < 2 ^ n) (hj : j < n) : copy s i j < 2 ^ n := by
  have h : s ||| 2 ^ j < 2 ^ n := Nat.or_lt_two_pow hs (Nat.pow_lt_pow_right (by omega) hj)
  unfold copy
  split
  · exact h
  · exact Nat.lt_of_le_of_lt (Nat.sub_le _ _) h
theorem tot_pick (x : Nat → Rat) (m v : Nat) (hv : v < m) : (tot m fun t => (if v = t then 1 else 0) * x t) = x v := by
  have e : (tot m fun t => (if v = t then 1 else 0) * x t) = tot m fun t => if t = v then x t else 0 := tot_congr fun t _ => by
    by_cases q : v = t
    · rw [if_pos q, if_pos q.symm]; grind
    · rw [if_neg q, if_neg fun z => q z.symm]; grind
  rw [e, tot_single, if_pos hv]
theorem after_tot (N : Net) (a b : Nat) (x : Nat → Rat) (s : Nat) : ∀ m, after N a b (fun v => tot m fun t => (if v = t then 1 else 0) * x t) s = tot m fun t => goesTo N a b s t * x t
  | 0 => after_zero N a b s
  | m + 1 => by
    simp only [tot]
    rw [after_add, after_tot N a b x s m, after_mul]
    rfl
/-- **a step, by the chances of each state** -/
theorem after_goes (N : Net) (a b : Nat) (x : Nat → Rat) {s : Nat} (hs : s < 2 ^ N.n) : after N a b x s = tot (2 ^ N.n) fun t => goesTo N a b s t * x t := by
  rw [← after_tot]
  exact after_congr N a b fun i j _ hj => (tot_pick x _ _ (copy_lt hs hj)).symm
section
variable {N : Net} {a b : Nat} (F : Fine N a b)
include F
theorem fit_ge (s i : Nat) : 1 ≤ fit a b s i := by
  unfold fit frac
  have h1 := F.a1.1
  have h2 := F.b1.1
  split
  · exact_mod_cast h1
  · exact_mod_cast h2
theorem fit_le (s i : Nat) : fit a b s i ≤ 100 := by
  unfold fit frac
  have h1 := F.a1.2
  have h2 := F.b1.2
  split
  · exact_mod_cast h1
  · exact_mod_cast h2
theorem fits_pos (s : Nat) : 0 < tot N.n fun i => fit a b s i := by
  have h := tot_ge_one (f := fun i => fit a b s i) (k := 0) (n := N.n) (by have := F.n2; omega) fun i _ => by have := fit_ge F s i; grind
  have := fit_ge F s 0
  grind
theorem fits_le (s : Nat) : (tot N.n fun i => fit a b s i) ≤ 500 := by
  have h := tot_le (f := fun i => fit a b s i) (g := fun _ => 100) (n := N.n) fun i _ => fit_le F s i
  have : ∀ n, n ≤ 5 → (tot n fun _ => (100 : Rat)) ≤ 500 := fun n hn => by
    have : n = 0 ∨ n = 1 ∨ n = 2 ∨ n = 3 ∨ n = 4 ∨ n = 5 := by omega
    rcases this with rfl | rfl | rfl | rfl | rfl | rfl <;> simp only [tot] <;> grind
  have := this N.n F.n5
  grind
omit F in
theorem row_tot (i : Nat) : ((N.row i : Int) : Rat) = tot N.n fun j => ((N.weight i j : Int) : Rat) := by
  unfold Net.row; exact tot_ints _ _
theorem row_pos {i : Nat} (hi : i < N.n) : (0 : Rat) < ((N.row i : Int) : Rat) := by
  have := F.row i hi
  exact_mod_cast this
theorem row_le {i : Nat} (hi : i < N.n) : ((N.row i : Int) : Rat) ≤ 500 := by
  rw [row_tot]
  have h := tot_le (f := fun j => ((N.weight i j : Int) : Rat)) (g := fun _ => 100) (n := N.n) fun j hj => by
    have := (F.w i j hi hj).2
    show ((N.weight i j : Int) : Rat) ≤ 100
    exact_mod_cast this
  have : ∀ n, n ≤ 5 → (tot n fun _ => (100 : Rat)) ≤ 500 := fun n hn => by
    have : n = 0 ∨ n = 1 ∨ n = 2 ∨ n = 3 ∨ n = 4 ∨ n = 5 := by omega
    rcases this with rfl | rfl | rfl | rfl | rfl | rfl <;> simp only [tot] <;> grind
  have := this N.n F.n5
  grind
theorem chance_nonneg {i j : Nat} (hi : i < N.n) (hj : j < N.n) : 0 ≤ N.chance i j := by
  unfold Net.chance
  rw [Rat.div_def]
  refine Rat.mul_nonneg ?_ (Rat.le_of_lt (Rat.inv_pos.mpr (row_pos F hi)))
  have := (F.w i j hi hj).1
  exact_mod_cast this
theorem chance_one {i : Nat} (hi : i < N.n) : (tot N.n fun j => N.chance i j) = 1 := by
  have h := row_pos F hi
  have e : (tot N.n fun j => N.chance i j) = ((N.row i : Int) : Rat)⁻¹ * tot N.n fun j => ((N.weight i j : Int) : Rat) := by
    rw [← tot_mul]
    exact tot_congr fun j _ => by unfold Net.chance; rw [Rat.div_def]; grind
  rw [e, ← row_tot]
  grind
theorem chance_ge {i j : Nat} (hi : i < N.n) (hw : 0 < N.weight i j) : 1 ≤ 500 * N.chance i j := by
  have h := row_pos F hi
  have h2 := row_le F hi
  have hw' : (1 : Rat) ≤ ((N.weight i j : Int) : Rat) := by
    have : 1 ≤ N.weight i j := by omega
    exact_mod_cast this
  have e : ((N.row i : Int) : Rat) * N.chance i j = ((N.weight i j : Int) : Rat) := by
    unfold Net.chance; grind
  have hc : 0 < N.chance i j := by
    unfold Net.chance; rw [Rat.div_def]
    exact Rat.mul_pos (by grind) (Rat.inv_pos.mpr h)
  have : 0 ≤ (500 - ((N.row i : Int) : Rat)) * N.chance i j := Rat.mul_nonneg (by grind) (Rat.le_of_lt hc)
  grind
theorem after_nonneg {x : Nat → Rat} {s : Nat} (h : ∀ i j, i < N.n → j < N.n → 0 ≤ x (copy s i j)) : 0 ≤ after N a b x s := by
  rw [after_eq, Rat.div_def]
  refine Rat.mul_nonneg (tot_nonneg fun i hi => Rat.mul_nonneg ?_ (tot_nonneg fun j hj => Rat.mul_nonneg (chance_nonneg F hi hj) (h i j hi hj))) (Rat.le_of_lt (Rat.inv_pos.mpr (fits_pos F s)))
  have := fit_ge F s i
  grind
theorem goes_nonneg (s t : Nat) : 0 ≤ goesTo N a b s t := after_nonneg F fun i j _ _ => by
  show (0 : Rat) ≤ if _ then 1 else 0
  split <;> grind
theorem after_const (c : Rat) (s : Nat) : after N a b (fun _ => c) s = c := by
  rw [after_eq]
  have h := fits_pos F s
  have e : (tot N.n fun i => fit a b s i * tot N.n fun j => N.chance i j * c) = (tot N.n fun i => fit a b s i) * c := by
    rw [← tot_mul_right]
    refine tot_congr fun i hi => ?_
    rw [tot_mul_right, chance_one F hi]; grind
  rw [e]; grind
/-- the powers of a million -/
def pw : Nat → Rat
  | 0 => 1
  | n + 1 => 1000000 * pw n
omit F in
theorem pw_pos : ∀ n, 1 ≤ pw n
  | 0 => by show (1 : Rat) ≤ 1; grind
  | n + 1 => by
    have := pw_pos n
    show 1 ≤ 1000000 * pw n
    grind
omit F in
theorem pw_add (s : Nat) : ∀ d, 1000000 * pw s ≤ pw (s + 1 + d)
  | 0 => by show 1000000 * pw s ≤ 1000000 * pw s; grind
  | d + 1 => by
    have := pw_add s d
    have h := pw_pos (s + 1 + d)
    show 1000000 * pw s ≤ 1000000 * pw (s + 1 + d)
    grind
omit F in
theorem pw_lt {s t : Nat} (h : s < t) : 1000000 * pw s ≤ pw t := by
  obtain ⟨d, rfl⟩ : ∃ d, t = s + 1 + d := ⟨t - (s + 1), by omega⟩
  exact pw_add s d
/-- **the powers grow by a step** -/
theorem after_pw (O : Out N) {s : Nat} (h0 : 0 < s) (h1 : s < fl N) : pw s < after N a b pw s := by
  obtain ⟨i, j, hi, hj, hsi, hsj, hw⟩ := O s h0 h1
  have hf := fits_pos F s
  have hf5 := fits_le F s
  have hc : copy s i j = s ||| 2 ^ j := by unfold copy; rw [if_pos hsi]
  have hlt : s < s ||| 2 ^ j := by
    have h1 : s ≤ s ||| 2 ^ j := Nat.left_le_or
    rcases Nat.lt_or_eq_of_le h1 with h | h
    · exact h
    · exfalso
      have e : (s ||| 2 ^ j).testBit j = true := by rw [Nat.testBit_or, Nat.testBit_two_pow_self]; simp
      rw [← h, hsj] at e; cases e
  have hp := pw_lt hlt
  have hps := pw_pos s
  have k1 : N.chance i j * pw (copy s i j) ≤ tot N.n fun j => N.chance i j * pw (copy s i j) :=
    tot_ge_one (f := fun j => N.chance i j * pw (copy s i j)) hj fun j hj => Rat.mul_nonneg (chance_nonneg F hi hj) (by have := pw_pos (copy s i j); grind)
  have k2 : fit a b s i * (tot N.n fun j => N.chance i j * pw (copy s i j)) ≤ tot N.n fun i => fit a b s i * tot N.n fun j => N.chance i j * pw (copy s i j) :=
    tot_ge_one (f := fun i => fit a b s i * tot N.n fun j => N.chance i j * pw (copy s i j)) hi fun i hi =>
      Rat.mul_nonneg (by have := fit_ge F s i; grind) (tot_nonneg fun j hj => Rat.mul_nonneg (chance_nonneg F hi hj) (by have := pw_pos (copy s i j); grind))
  have hcg := chance_ge F hi hw
  have k3 : 2000 * pw s ≤ N.chance i j * pw (copy s i j) := by
    rw [hc]
    have q1 : 0 ≤ N.chance i j * (pw (s ||| 2 ^ j) - 1000000 * pw s) := Rat.mul_nonneg (chance_nonneg F hi hj) (by grind)
    have q2 : 0 ≤ (500 * N.chance i j - 1) * pw s := Rat.mul_nonneg (by grind) (by grind)
    grind
  have k4 : 2000 * pw s ≤ fit a b s i * (tot N.n fun j => N.chance i j * pw (copy s i j)) := by
    have q0 : 2000 * pw s ≤ tot N.n fun j => N.chance i j * pw (copy s i j) := by grind
    have q1 : 0 ≤ (fit a b s i - 1) * (tot N.n fun j => N.chance i j * pw (copy s i j)) := Rat.mul_nonneg (by have := fit_ge F s i; grind) (by grind)
    grind
  rw [after_eq]
  have k5 : 2000 * pw s ≤ tot N.n fun i => fit a b s i * tot N.n fun j => N.chance i j * pw (copy s i j) := by grind
  generalize (tot N.n fun i => fit a b s i * tot N.n fun j => N.chance i j * pw (copy s i j)) = X at *
  generalize (tot N.n fun i => fit a b s i) = T at *
  rw [Rat.lt_div_iff hf]
  have q3 : 0 ≤ (500 - T) * pw s := Rat.mul_nonneg (by grind) (by grind)
  grind
omit F in
theorem full_succ : fl N + 1 = 2 ^ N.n := by
  unfold fl
  have : 0 < 2 ^ N.n := Nat.two_pow_pos _
  omega
theorem full_ge : 3 ≤ fl N := by
  have h := full_succ (N := N)
  have : 2 ^ 2 ≤ 2 ^ N.n := Nat.pow_le_pow_right (by omega) F.n2
  omega
omit F in
theorem tot_states (f : Nat → Rat) (h : 1 ≤ fl N) : tot (2 ^ N.n) f = f 0 + (tot (fl N - 1) fun j => f (j + 1)) + f (fl N) := by
  rw [← full_succ]
  show tot (fl N) f + f (fl N) = _
  obtain ⟨m, hm⟩ : ∃ m, fl N = m + 1 := ⟨fl N - 1, by omega⟩
  rw [hm, tot_succ_first]
  rfl
/-- the numbers that make the left sides positive -/
def lift (N : Net) (t : Nat) : Rat := pw (fl N) - pw t
def eqs (N : Net) (a b : Nat) (e atEnd : Rat) : List (List Rat) := (List.range (fl N - 1)).map fun (i : Nat) => equation N a b e atEnd (i + 1)
omit F in
theorem eqs_shape (e atEnd : Rat) : Shape (fl N - 1) (eqs N a b e atEnd) := by
  refine ⟨by simp [eqs], ?_⟩
  intro r hr
  obtain ⟨i, _, rfl⟩ := List.mem_map.mp hr
  simp [equation]
  rfl
omit F in
theorem eqs_row (e atEnd : Rat) {i : Nat} (hi : i < fl N - 1) : (eqs N a b e atEnd).getD i [] = equation N a b e atEnd (i + 1) := by
  unfold eqs
  rw [List.getD_eq_getElem?_getD, List.getElem?_map, List.getElem?_range hi]; rfl
omit F in
theorem eqs_at (e atEnd : Rat) {i j : Nat} (hi : i < fl N - 1) (hj : j < fl N - 1) : at2 (eqs N a b e atEnd) i j = (if j = i then 1 else 0) - goesTo N a b (i + 1) (j + 1) := by
  unfold at2
  rw [eqs_row e atEnd hi]
  unfold equation
  change (List.map (fun i_1 => (if i_1 + 1 = i + 1 then (1 : Rat) else 0) - goesTo N a b (i + 1) (i_1 + 1)) (List.range (fl N - 1)) ++ [e + atEnd * goesTo N a b (i + 1) (fl N)]).getD j 0 = _
  rw [List.getD_eq_getElem?_getD, List.getElem?_append_left (by simpa using hj), List.getElem?_map, List.getElem?_range hj]
  show (if j + 1 = i + 1 then (1 : Rat) else 0) - _ = _
  by_cases q : j = i
  · rw [if_pos q, if_pos (by omega)]
  · rw [if_neg q, if_neg (by omega)]
omit F in
theorem eqs_last (e atEnd : Rat) {i : Nat} (hi : i < fl N - 1) : at2 (eqs N a b e atEnd) i (fl N - 1) = e + atEnd * goesTo N a b (i + 1) (fl N) := by
  unfold at2
  rw [eqs_row e atEnd hi]
  unfold equation
  change (List.map (fun i_1 => (if i_1 + 1 = i + 1 then (1 : Rat) else 0) - goesTo N a b (i + 1) (i_1 + 1)) (List.range (fl N - 1)) ++ [e + atEnd * goesTo N a b (i + 1) (fl N)]).getD (fl N - 1) 0 = _
  rw [List.getD_eq_getElem?_getD, List.getElem?_append_right (by simp)]
  simp
theorem eqs_good (O : Out N) (e atEnd : Rat) : Good (fl N - 1) 0 (at2 (eqs N a b e atEnd)) fun j => lift N (j + 1) := by
  have hf3 := full_ge F
  refine ⟨fun i j _ hj => by omega, ?_, ?_, ?_⟩
  · intro i j hi _ hj hij
    rw [eqs_at e atEnd hi hj, if_neg (by omega)]
    have := goes_nonneg F (i + 1) (j + 1)
    grind
  · intro i hi
    show 0 < pw (fl N) - pw (i + 1)
    have h1 := pw_lt (show i + 1 < fl N by omega)
    have h2 := pw_pos (i + 1)
    grind
  · intro i hi
    have hs : i + 1 < 2 ^ N.n := by have := full_succ (N := N); omega
    have e1 : (tot (fl N - 1) fun j => at2 (eqs N a b e atEnd) i j * lift N (j + 1)) = lift N (i + 1) - tot (fl N - 1) fun j => goesTo N a b (i + 1) (j + 1) * lift N (j + 1) := by
      have q : (tot (fl N - 1) fun j => if j = i then lift N (j + 1) else 0) = lift N (i + 1) := by rw [tot_single (fun j => lift N (j + 1)), if_pos hi]
      rw [← q, ← tot_sub]
      refine tot_congr fun j hj => ?_
      rw [eqs_at e atEnd hi hj]
      by_cases q : j = i
      · rw [if_pos q, if_pos q]; grind
      · rw [if_neg q, if_neg q]; grind
    rw [e1]
    have e2 := after_goes N a b (lift N) hs
    rw [tot_states _ (by omega)] at e2
    have e3 : lift N (fl N) = 0 := by unfold lift; grind
    have e4 : after N a b (lift N) (i + 1) = pw (fl N) - after N a b pw (i + 1) := by
      have h1 := after_add N a b (fun _ => pw (fl N)) (fun t => pw t * (-1)) (i + 1)
      rw [after_mul, after_const F] at h1
      have h2 : (fun t => pw (fl N) + pw t * (-1)) = lift N := by funext t; unfold lift; grind
      rw [h2] at h1
      grind
    have h5 := after_pw F O (show 0 < i + 1 by omega) (show i + 1 < fl N by omega)
    have h6 : 0 ≤ goesTo N a b (i + 1) 0 * lift N 0 := Rat.mul_nonneg (goes_nonneg F _ _) (by
      have h1 := pw_lt (show 0 < fl N by omega)
      have h2 := pw_pos 0
      unfold lift; grind)
    unfold lift at e2 e3 e4 h6 ⊢
    grind
/-- the specification's numbers by states: at the ends 0 and atEnd -/
def told (N : Net) (a b : Nat) (e atEnd : Rat) (s : Nat) : Rat := if s = 0 then 0 else if s = fl N then atEnd else (solvedFor N a b e atEnd).getD (s - 1) 0
/-- **the specification's numbers are what the document says** -/
theorem told_step (O : Out N) (e atEnd : Rat) {s : Nat} (h0 : 0 < s) (h1 : s < fl N) : told N a b e atEnd s = e + after N a b (told N a b e atEnd) s := by
  have hf3 := full_ge F
  have hsol := solved_sol (eqs_shape (N := N) (a := a) (b := b) e atEnd) (eqs_good F O e atEnd)
  obtain ⟨i, rfl⟩ : ∃ i, s = i + 1 := ⟨s - 1, by omega⟩
  have hi : i < fl N - 1 := by omega
  have h := hsol i hi
  rw [eqs_last e atEnd hi] at h
  have hl : ∀ j, j < fl N - 1 → (solved (fl N - 1) (eqs N a b e atEnd)).getD j 0 = told N a b e atEnd (j + 1) := fun j hj => by
    unfold told
    rw [if_neg (by omega), if_neg (by omega)]
    rfl
  have e1 : (tot (fl N - 1) fun j => at2 (eqs N a b e atEnd) i j * (solved (fl N - 1) (eqs N a b e atEnd)).getD j 0) =
      told N a b e atEnd (i + 1) - tot (fl N - 1) fun j => goesTo N a b (i + 1) (j + 1) * told N a b e atEnd (j + 1) := by
    have q : (tot (fl N - 1) fun j => if j = i then told N a b e atEnd (j + 1) else 0) = told N a b e atEnd (i + 1) := by rw [tot_single (fun j => told N a b e atEnd (j + 1)), if_pos hi]
    rw [← q, ← tot_sub]
    refine tot_congr fun j hj => ?_
    rw [eqs_at e atEnd hi hj, hl j hj]
    by_cases q : j = i
    · rw [if_pos q, if_pos q]; grind
    · rw [if_neg q, if_neg q]; grind
  rw [e1] at h
  have e2 := after_goes N a b (told N a b e atEnd) (s := i + 1) (by have := full_succ (N := N); omega)
  rw [tot_states _ (by omega)] at e2
  have e3 : told N a b e atEnd 0 = 0 := by unfold told; rw [if_pos rfl]
  have e4 : told N a b e atEnd (fl N) = atEnd := by unfold told; rw [if_neg (by omega), if_pos rfl]
  rw [e3, e4] at e2
  grind
/-- **the chances** -/
theorem chances_takes (O : Out N) : Takes N a b (chances N a b) := by
  have hf3 := full_ge F
  have e : chances N a b = told N a b 0 1 := rfl
  rw [e]
  refine ⟨by unfold told; rw [if_pos rfl], by show told N a b 0 1 (fl N) = 1; unfold told; rw [if_neg (by omega), if_pos rfl], fun s h0 h1 => ?_⟩
  have := told_step F O 0 1 h0 h1
  grind
/-- **the times** -/
theorem times_lasts (O : Out N) : Lasts N a b (times N a b) := by
  have hf3 := full_ge F
  have e : times N a b = told N a b 1 0 := by
    funext s; rfl
  rw [e]
  exact ⟨by unfold told; rw [if_pos rfl], by show told N a b 1 0 (fl N) = 0; unfold told; rw [if_neg (by omega), if_pos rfl], fun s h0 h1 => told_step F O 1 0 h0 h1⟩
end
end My
namespace My
open Sf71 Sf96
/-- one step of the places reached -/
def rstep (N : Net) (l : List Nat) : List Nat := (List.range N.n).filter fun (j : Nat) => l.contains j || l.any fun (i : Nat) => decide (0 < N.weight i j)
theorem reached_front (N : Net) (k : Nat) (l : List Nat) : reached N (k + 1) l = reached N k (rstep N l) := rfl
theorem reached_back (N : Net) : ∀ (k : Nat) (l : List Nat), reached N (k + 1) l = rstep N (reached N k l)
  | 0, _ => rfl
  | k + 1, l => by rw [reached_front, reached_back N k (rstep N l), ← reached_front]
theorem mem_rstep {N : Net} {l : List Nat} {j : Nat} : j ∈ rstep N l ↔ j < N.n ∧ (j ∈ l ∨ ∃ i, i ∈ l ∧ 0 < N.weight i j) := by
  unfold rstep
  rw [List.mem_filter, List.mem_range, Bool.or_eq_true, List.contains_iff_mem, List.any_eq_true]
  simp only [decide_eq_true_eq]
/-- a set of places out of which no way leads -/
def Shut (N : Net) (P : Nat → Prop) : Prop := ∀ i j, i < N.n → j < N.n → P i → 0 < N.weight i j → P j
theorem reached_in {N : Net} {P : Nat → Prop} (h : Shut N P) {s : Nat} (hs : s < N.n) (ps : P s) : ∀ k, ∀ x ∈ reached N k [s], x < N.n ∧ P x
  | 0, x, hx => by
    have : x = s := by simpa [reached] using hx
    subst this; exact ⟨hs, ps⟩
  | k + 1, x, hx => by
    rw [reached_back, mem_rstep] at hx
    obtain ⟨hn, hx⟩ := hx
    rcases hx with hx | ⟨i, hi, hw⟩
    · exact reached_in h hs ps k x hx
    · have := reached_in h hs ps k i hi
      exact ⟨hn, h i x this.1 hn this.2 hw⟩
theorem length_all {N : Net} {l : List Nat} (h : (rstep N l).length = N.n) : ∀ j, j < N.n → j ∈ rstep N l := by
  intro j hj
  have e : (rstep N l).length = (List.range N.n).length := by simpa using h
  have := List.length_filter_eq_length_iff.mp e j (List.mem_range.mpr hj)
  exact List.mem_filter.mpr ⟨List.mem_range.mpr hj, this⟩
theorem all_length {N : Net} {l : List Nat} (h : ∀ j, j < N.n → j ∈ rstep N l) : (rstep N l).length = N.n := by
  have : (rstep N l).length = (List.range N.n).length := List.length_filter_eq_length_iff.mpr fun j hj => (List.mem_filter.mp (h j (List.mem_range.mp hj))).2
  simpa using this
theorem joined_iff (N : Net) (h0 : 0 < N.n) : joined N = true ↔ ∀ s, s < N.n → ∀ j, j < N.n → j ∈ reached N N.n [s] := by
  obtain ⟨m, hm⟩ : ∃ m, N.n = m + 1 := ⟨N.n - 1, by omega⟩
  have er : ∀ s, reached N N.n [s] = rstep N (reached N m [s]) := fun s => by rw [hm, reached_back]
  unfold joined
  rw [List.all_eq_true]
  constructor
  · intro h s hs j hj
    have := h s (List.mem_range.mpr hs)
    rw [er] at this ⊢
    exact length_all (by simpa using this) j hj
  · intro h s hs
    rw [er]
    have := all_length (l := reached N m [s]) fun j hj => by rw [← er]; exact h s (List.mem_range.mp hs) j hj
    simpa using this
/-- **joined places have a way out of each set** -/
theorem joined_out {N : Net} (h0 : 0 < N.n) (h : joined N = true) : Out N := by
  intro s hs hf
  have hn : s < 2 ^ N.n := by have := full_succ (N := N); omega
  obtain ⟨i, hi⟩ : ∃ i, s.testBit i = true := by
    rcases Classical.em (∃ i, s.testBit i = true) with h | h
    · exact h
    · exfalso
      have : s = 0 := Nat.eq_of_testBit_eq fun i => by
        rw [Nat.zero_testBit]
        cases e : s.testBit i with
        | false => rfl
        | true => exact absurd ⟨i, e⟩ h
      omega
  have hin : i < N.n := by
    rcases Nat.lt_or_ge i N.n with q | q
    · exact q
    · have := Nat.testBit_lt_two_pow (Nat.lt_of_lt_of_le hn (Nat.pow_le_pow_right (by omega) q))
      rw [this] at hi; cases hi
  rcases Classical.em (∃ i j, i < N.n ∧ j < N.n ∧ s.testBit i = true ∧ s.testBit j = false ∧ 0 < N.weight i j) with q | q
  · exact q
  · exfalso
    have sh : Shut N fun i => s.testBit i = true := fun i j hi hj hp hw => by
      cases e : s.testBit j with
      | true => exact e
      | false => exact absurd ⟨i, j, hi, hj, hp, e, hw⟩ q
    have all := (joined_iff N h0).mp h i hin
    have : s = fl N := Nat.eq_of_testBit_eq fun j => by
      unfold fl
      rw [Nat.testBit_two_pow_sub_one]
      rcases Nat.lt_or_ge j N.n with z | z
      · rw [decide_eq_true z]; exact (reached_in sh hin hi N.n j (all j z)).2
      · rw [decide_eq_false (by omega)]
        exact Nat.testBit_lt_two_pow (Nat.lt_of_lt_of_le hn (Nat.pow_le_pow_right (by omega) z))
    omega
/-! ### the places reached are shut in -/
theorem countP_lt {p q : Nat → Bool} : ∀ {l : List Nat}, (∀ x ∈ l, p x = true → q x = true) → (∃ x ∈ l, p x = false ∧ q x = true) → l.countP p < l.countP q
  | [], _, ⟨x, hx, _⟩ => absurd hx (by simp)
  | y :: l, h, ⟨x, hx, hp, hq⟩ => by
    have hle : l.countP p ≤ l.countP q := List.countP_mono_left fun z hz => h z (List.mem_cons_of_mem _ hz)
    rw [List.countP_cons, List.countP_cons]
    rcases List.mem_cons.mp hx with e | e
    · subst e; rw [hp, hq]; simp; omega
    · have := countP_lt (l := l) (fun z hz => h z (List.mem_cons_of_mem _ hz)) ⟨x, e, hp, hq⟩
      have h1 := h y (List.mem_cons_self ..)
      cases e1 : p y <;> cases e2 : q y <;> simp_all <;> omega
theorem reached_lt {N : Net} {s : Nat} (hs : s < N.n) (k : Nat) {x : Nat} (hx : x ∈ reached N k [s]) : x < N.n :=
  (reached_in (P := fun _ => True) (fun _ _ _ _ _ _ => trivial) hs trivial k x hx).1
theorem reached_more {N : Net} {s : Nat} (hs : s < N.n) (k : Nat) {x : Nat} (hx : x ∈ reached N k [s]) : x ∈ reached N (k + 1) [s] := by
  rw [reached_back, mem_rstep]
  exact ⟨reached_lt hs k hx, .inl hx⟩
theorem reached_grows {N : Net} {s : Nat} (hs : s < N.n) : ∀ k, Shut N (fun x => x ∈ reached N k [s]) ∨ k + 1 ≤ (List.range N.n).countP fun x => decide (x ∈ reached N k [s])
  | 0 => by
    right
    have : 0 < (List.range N.n).countP fun x => decide (x ∈ reached N 0 [s]) := List.countP_pos_iff.mpr ⟨s, List.mem_range.mpr hs, by simp [reached]⟩
    omega
  | k + 1 => by
    rcases Classical.em (Shut N (fun x => x ∈ reached N k [s])) with hk | hk
    · left
      intro i j hi hj hp hw
      rw [reached_back, mem_rstep] at hp
      have hi' : i ∈ reached N k [s] := by
        rcases hp.2 with q | ⟨i', hi', hw'⟩
        · exact q
        · exact hk i' i (reached_lt hs k hi') hi hi' hw'
      exact reached_more hs k (hk i j hi hj hi' hw)
    · rcases reached_grows hs k with q | q
      · exact absurd q hk
      · right
        have : ∃ i j, i < N.n ∧ j < N.n ∧ i ∈ reached N k [s] ∧ 0 < N.weight i j ∧ j ∉ reached N k [s] := by
          rcases Classical.em (∃ i j, i < N.n ∧ j < N.n ∧ i ∈ reached N k [s] ∧ 0 < N.weight i j ∧ j ∉ reached N k [s]) with z | z
          · exact z
          · exfalso
            apply hk
            intro i j hi hj hp hw
            rcases Classical.em (j ∈ reached N k [s]) with y | y
            · exact y
            · exact absurd ⟨i, j, hi, hj, hp, hw, y⟩ z
        obtain ⟨i, j, hi, hj, hp, hw, hn⟩ := this
        have := countP_lt (p := fun x => decide (x ∈ reached N k [s])) (q := fun x => decide (x ∈ reached N (k + 1) [s])) (l := List.range N.n)
          (fun x _ hx => by
            have := reached_more hs k (of_decide_eq_true hx)
            exact decide_eq_true this)
          ⟨j, List.mem_range.mpr hj, by simp [hn], by
            have : j ∈ reached N (k + 1) [s] := by rw [reached_back, mem_rstep]; exact ⟨hj, .inr ⟨i, hp, hw⟩⟩
            simp [this]⟩
        omega
theorem reached_shut {N : Net} {s : Nat} (hs : s < N.n) : Shut N fun x => x ∈ reached N N.n [s] := by
  rcases reached_grows hs N.n with q | q
  · exact q
  · have : (List.range N.n).countP (fun x => decide (x ∈ reached N N.n [s])) ≤ (List.range N.n).length := List.countP_le_length
    rw [List.length_range] at this
    omega
theorem reached_self {N : Net} {s : Nat} (hs : s < N.n) : ∀ k, s ∈ reached N k [s]
  | 0 => by simp [reached]
  | k + 1 => reached_more hs k (reached_self hs k)
/-- **a search that is right**: it finds all that some steps reach, and stays in each set that is shut -/
theorem joined_of_search {N : Net} (h0 : 0 < N.n) (R : Nat → Nat → Prop)
    (big : ∀ s, s < N.n → ∀ j, j ∈ reached N N.n [s] → R s j)
    (small : ∀ s, s < N.n → ∀ P : Nat → Prop, Shut N P → P s → ∀ j, j < N.n → R s j → P j) :
    joined N = true ↔ ∀ s, s < N.n → ∀ j, j < N.n → R s j := by
  rw [joined_iff N h0]
  constructor
  · intro h s hs j hj
    exact big s hs j (h s hs j hj)
  · intro h s hs j hj
    exact small s hs _ (reached_shut hs) (reached_self hs _) j hj (h s hs j hj)
end My
namespace My
/-! ### signed sums over the columns: one row is laid into what the rows before gave -/
def ext (r : Nat → Rat) (f : List Nat → Rat) : List Nat → Rat
  | [] => 0
  | c :: cs => r c * f cs - ext r (fun l => f (c :: l)) cs
theorem ext_row (r e : Nat → Rat) (q : Rat) : ∀ (cs : List Nat) (f : List Nat → Rat), ext (fun c => r c - q * e c) f cs = ext r f cs - q * ext e f cs
  | [], _ => by simp only [ext]; grind
  | c :: cs, f => by
    simp only [ext]
    rw [ext_row r e q cs]
    grind
theorem ext_fun (r : Nat → Rat) (q : Rat) : ∀ (cs : List Nat) (f g : List Nat → Rat), ext r (fun l => q * f l - g l) cs = q * ext r f cs - ext r g cs
  | [], _, _ => by simp only [ext]; grind
  | c :: cs, f, g => by
    simp only [ext]
    rw [ext_fun r q cs (fun l => f (c :: l)) (fun l => g (c :: l))]
    grind
theorem ext_anti (x y : Nat → Rat) : ∀ (cs : List Nat) (f : List Nat → Rat), ext x (ext y f) cs = - ext y (ext x f) cs
  | [], _ => by simp only [ext]; grind
  | c :: cs, f => by
    have h1 : ext x (ext y f) (c :: cs) = x c * ext y f cs - (y c * ext x f cs - ext x (ext y fun l => f (c :: l)) cs) := by
      show x c * ext y f cs - ext x (fun l => ext y f (c :: l)) cs = _
      have : (fun l => ext y f (c :: l)) = fun l => y c * f l - ext y (fun l => f (c :: l)) l := rfl
      rw [this, ext_fun x (y c) cs f (ext y fun l => f (c :: l))]
    have h2 : ext y (ext x f) (c :: cs) = y c * ext x f cs - (x c * ext y f cs - ext y (ext x fun l => f (c :: l)) cs) := by
      show y c * ext x f cs - ext y (fun l => ext x f (c :: l)) cs = _
      have : (fun l => ext x f (c :: l)) = fun l => x c * f l - ext x (fun l => f (c :: l)) l := rfl
      rw [this, ext_fun y (x c) cs f (ext x fun l => f (c :: l))]
    rw [h1, h2, ext_anti x y cs fun l => f (c :: l)]
    grind
theorem ext_self (x : Nat → Rat) (cs : List Nat) (f : List Nat → Rat) : ext x (ext x f) cs = 0 := by
  have := ext_anti x x cs f
  grind
def sgn : Nat → Rat
  | 0 => 1
  | n + 1 => - sgn n
theorem sgn_cases : ∀ n, sgn n = 1 ∨ sgn n = -1
  | 0 => .inl rfl
  | n + 1 => by
    show - sgn n = 1 ∨ - sgn n = -1
    rcases sgn_cases n with h | h <;> rw [h]
    · exact .inr rfl
    · left; grind
theorem ext_vanish (r : Nat → Rat) (k : Nat) : ∀ (C : List Nat) (f : List Nat → Rat), (∀ c ∈ C, r c = 0) → ext r f (C ++ [k]) = sgn C.length * (r k * f C)
  | [], f, _ => by
    show r k * f [] - 0 = 1 * (r k * f [])
    grind
  | c :: C, f, h => by
    show r c * f (C ++ [k]) - ext r (fun l => f (c :: l)) (C ++ [k]) = - sgn C.length * (r k * f (c :: C))
    rw [ext_vanish r k C (fun l => f (c :: l)) fun d hd => h d (List.mem_cons_of_mem _ hd), h c (List.mem_cons_self ..)]
    grind
def IsI (q : Rat) : Prop := ∃ z : Int, ((z : Int) : Rat) = q
theorem IsI.sub {p q : Rat} : IsI p → IsI q → IsI (p - q)
  | ⟨x, hx⟩, ⟨y, hy⟩ => ⟨x - y, by rw [Rat.intCast_sub, hx, hy]⟩
theorem IsI.mul {p q : Rat} : IsI p → IsI q → IsI (p * q)
  | ⟨x, hx⟩, ⟨y, hy⟩ => ⟨x * y, by rw [Rat.intCast_mul, hx, hy]⟩
theorem IsI.neg {p : Rat} : IsI p → IsI (-p)
  | ⟨x, hx⟩ => ⟨-x, by rw [Rat.intCast_neg, hx]⟩
theorem ext_isI {r : Nat → Rat} (hr : ∀ c, IsI (r c)) : ∀ (cs : List Nat) (f : List Nat → Rat), (∀ l, IsI (f l)) → IsI (ext r f cs)
  | [], _, _ => ⟨0, rfl⟩
  | c :: cs, f, hf => ((hr c).mul (hf cs)).sub (ext_isI hr cs _ fun l => hf (c :: l))
/-! ### sizes -/
def Ab (q M : Rat) : Prop := -M ≤ q ∧ q ≤ M
theorem Ab.mul {x y p q : Rat} (h1 : Ab x p) (h2 : Ab y q) : Ab (x * y) (p * q) := by
  obtain ⟨a1, a2⟩ := h1
  obtain ⟨b1, b2⟩ := h2
  have k1 := Rat.mul_nonneg (show 0 ≤ p - x by grind) (show 0 ≤ q - y by grind)
  have k2 := Rat.mul_nonneg (show 0 ≤ p + x by grind) (show 0 ≤ q + y by grind)
  have k3 := Rat.mul_nonneg (show 0 ≤ p - x by grind) (show 0 ≤ q + y by grind)
  have k4 := Rat.mul_nonneg (show 0 ≤ p + x by grind) (show 0 ≤ q - y by grind)
  constructor <;> grind
theorem Ab.sub {x y p q : Rat} (h1 : Ab x p) (h2 : Ab y q) : Ab (x - y) (p + q) := by
  obtain ⟨a1, a2⟩ := h1
  obtain ⟨b1, b2⟩ := h2
  constructor <;> grind
theorem ext_ab {r : Nat → Rat} {ρ M : Rat} (hr : ∀ c, Ab (r c) ρ) : ∀ (cs : List Nat) (f : List Nat → Rat), (∀ l : List Nat, l.length + 1 = cs.length → Ab (f l) M) → Ab (ext r f cs) ((cs.length : Nat) * (ρ * M))
  | [], _, _ => by
    show Ab 0 (((0 : Nat) : Rat) * (ρ * M))
    have : ((0 : Nat) : Rat) = 0 := rfl
    rw [this]
    constructor <;> grind
  | c :: cs, f, hf => by
    have h1 := (hr c).mul (hf cs rfl)
    have h2 := ext_ab hr cs (fun l => f (c :: l)) fun l hl => hf (c :: l) (by simp only [List.length_cons]; omega)
    have h3 := h1.sub h2
    have e : (((c :: cs).length : Nat) : Rat) = ((cs.length : Nat) : Rat) + 1 := by
      rw [List.length_cons]; exact_mod_cast rfl
    rw [e]
    show Ab (r c * f cs - ext r (fun l => f (c :: l)) cs) _
    have e2 : (((cs.length : Nat) : Rat) + 1) * (ρ * M) = ρ * M + ((cs.length : Nat) : Rat) * (ρ * M) := by grind
    rw [e2]; exact h3
def pwr (κ : Rat) : Nat → Rat
  | 0 => 1
  | k + 1 => κ * pwr κ k
theorem pwr_nn {κ : Rat} (h : 0 ≤ κ) : ∀ k, 0 ≤ pwr κ k
  | 0 => by show (0 : Rat) ≤ 1; grind
  | k + 1 => Rat.mul_nonneg h (pwr_nn h k)
theorem pwr_one {κ : Rat} (h : 1 ≤ κ) : ∀ k, 1 ≤ pwr κ k
  | 0 => by show (1 : Rat) ≤ 1; grind
  | k + 1 => by
    have := pwr_one h k
    have := Rat.mul_nonneg (show 0 ≤ κ - 1 by grind) (show 0 ≤ pwr κ k by grind)
    show 1 ≤ κ * pwr κ k
    grind
theorem pwr_mono {κ : Rat} (h : 1 ≤ κ) (k : Nat) : ∀ d, pwr κ k ≤ pwr κ (k + d)
  | 0 => by show pwr κ k ≤ pwr κ k; grind
  | d + 1 => by
    have h1 := pwr_mono h k d
    have h2 := pwr_one h (k + d)
    have := Rat.mul_nonneg (show 0 ≤ κ - 1 by grind) (show 0 ≤ pwr κ (k + d) by grind)
    show pwr κ k ≤ κ * pwr κ (k + d)
    grind
/-- the sizes: T unknowns at first, numbers of at most ρ; T times ρ is at most κ -/
structure Szs (T : Nat) (ρ κ : Rat) : Prop where
  nn : 0 ≤ ρ
  one : 1 ≤ κ
  le : ((T : Nat) : Rat) * ρ ≤ κ
theorem Szs.le' {T : Nat} {ρ κ : Rat} (z : Szs T ρ κ) {k : Nat} (h : k ≤ T) : ((k : Nat) : Rat) * ρ ≤ κ := by
  have h1 := z.le
  have h2 : ((k : Nat) : Rat) ≤ ((T : Nat) : Rat) := by exact_mod_cast h
  have := Rat.mul_nonneg (show 0 ≤ ((T : Nat) : Rat) - ((k : Nat) : Rat) by grind) z.nn
  grind
theorem ext_ab' {T : Nat} {ρ κ : Rat} (z : Szs T ρ κ) {r : Nat → Rat} (hr : ∀ c, Ab (r c) ρ) {f : List Nat → Rat} {k : Nat} (hk : k + 1 ≤ T) (hf : ∀ l : List Nat, l.length = k → Ab (f l) (pwr κ k)) {cs : List Nat} (hc : cs.length = k + 1) :
    Ab (ext r f cs) (pwr κ (k + 1)) := by
  have h := ext_ab hr cs f fun l hl => hf l (by omega)
  rw [hc] at h
  have h1 := z.le' hk
  have h2 := pwr_nn (κ := κ) (by have := z.one; grind) k
  have h3 := Rat.mul_nonneg (show 0 ≤ κ - ((k + 1 : Nat) : Rat) * ρ by grind) h2
  have h4 : ((k + 1 : Nat) : Rat) * (ρ * pwr κ k) ≤ pwr κ (k + 1) := by
    show _ ≤ κ * pwr κ k
    grind
  exact ⟨by have := h.1; grind, by have := h.2; grind⟩
/-- a row of the table behind the factors that were used: its first form, and its form without the unknowns that are out -/
structure RowOk (m : Nat) (ρ d : Rat) (G : List Nat → Rat) (C : List Nat) (b : Nat → Int) (R r : Nat → Rat) : Prop where
  isI : ∀ c, IsI (R c)
  ab : ∀ c, Ab (R c) ρ
  same : ∀ l, ext r G l = ext R G l
  out : ∀ c ∈ C, r c = 0
  val : ∀ j, j ≤ m → ((b j : Int) : Rat) = d * r j
/-- what the elimination keeps: m rows, their numbers at 0 the right sides, at 1 to m the factors -/
structure Inv (T : Nat) (ρ κ : Rat) (m : Nat) (B : Nat → Nat → Int) (d : Int) (x u : Nat → Rat) : Prop where
  d0 : 0 < d
  sz : Szs T ρ κ
  rows : ∃ (G : List Nat → Rat) (C : List Nat) (σ : Rat), (∀ l, IsI (G l)) ∧ (σ = 1 ∨ σ = -1) ∧ G C = σ * ((d : Int) : Rat) ∧ (C.length + m = T ∧ ∀ l : List Nat, l.length = C.length → Ab (G l) (pwr κ C.length)) ∧ ∀ i, i < m → ∃ R r, RowOk m ρ ((d : Int) : Rat) G C (B i) R r
  neg : ∀ i j, i < m → j < m → j ≠ i → B i (j + 1) ≤ 0
  pos : ∀ j, j < m → 0 < u j
  sup : ∀ i, i < m → 0 < tot m fun j => ((B i (j + 1) : Int) : Rat) * u j
  sol : ∀ i, i < m → (tot m fun j => ((B i (j + 1) : Int) : Rat) * x j) = ((B i 0 : Int) : Rat)
theorem np_nn {x y : Rat} (h1 : x ≤ 0) (h2 : 0 ≤ y) : x * y ≤ 0 := by
  have := Rat.mul_nonneg (show 0 ≤ -x by grind) h2
  grind
theorem Inv.diag {m : Nat} {B : Nat → Nat → Int} {d : Int} {x u : Nat → Rat} {T : Nat} {ρ κ : Rat} (v : Inv T ρ κ m B d x u) {i : Nat} (hi : i < m) : 0 < B i (i + 1) := by
  have h1 := v.sup i hi
  rw [tot_out _ hi] at h1
  have h2 : (tot m fun j => if j = i then 0 else ((B i (j + 1) : Int) : Rat) * u j) ≤ 0 := tot_nonpos fun j hj => by
    show (if j = i then 0 else ((B i (j + 1) : Int) : Rat) * u j) ≤ 0
    by_cases e : j = i
    · rw [if_pos e]; grind
    · rw [if_neg e]
      refine np_nn ?_ (by have := v.pos j hj; grind)
      have := v.neg i j hi hj e
      exact_mod_cast this
  have h3 : 0 < ((B i (i + 1) : Int) : Rat) * u i := by grind
  rcases (by omega : 0 < B i (i + 1) ∨ B i (i + 1) ≤ 0) with h | h
  · exact h
  · have h' : ((B i (i + 1) : Int) : Rat) ≤ 0 := by exact_mod_cast h
    have := np_nn h' (show 0 ≤ u i by have := v.pos i hi; grind)
    grind
/-- one unknown, the last, is put out -/
def stepB (m : Nat) (B : Nat → Nat → Int) (d : Int) (i k : Nat) : Int := (B i k * B m (m + 1) - B i (m + 1) * B m k).fdiv d
theorem Inv.exact {m : Nat} {B : Nat → Nat → Int} {d : Int} {x u : Nat → Rat} {T : Nat} {ρ κ : Rat} (v : Inv T ρ κ (m + 1) B d x u) :
    (∀ i k, i < m → k ≤ m → d * stepB m B d i k = B i k * B m (m + 1) - B i (m + 1) * B m k) ∧
    ∃ (G : List Nat → Rat) (C : List Nat) (σ : Rat), (∀ l, IsI (G l)) ∧ (σ = 1 ∨ σ = -1) ∧ G C = σ * ((B m (m + 1) : Int) : Rat) ∧ (C.length + m = T ∧ ∀ l : List Nat, l.length = C.length → Ab (G l) (pwr κ C.length)) ∧ ∀ i, i < m → ∃ R r, RowOk m ρ ((B m (m + 1) : Int) : Rat) G C (stepB m B d i) R r := by
  obtain ⟨G, C, σ, hG, hσ, hC, ⟨hT, hab⟩, hrows⟩ := v.rows
  have hd := v.d0
  have hd' : ((d : Int) : Rat) ≠ 0 := by
    have : (0 : Rat) < ((d : Int) : Rat) := by exact_mod_cast hd
    grind
  have hp := v.diag (show m < m + 1 by omega)
  have hp' : (0 : Rat) < ((B m (m + 1) : Int) : Rat) := by exact_mod_cast hp
  obtain ⟨Re, e, he⟩ := hrows m (by omega)
  have hpe := he.val (m + 1) (by omega)
  have hem : e (m + 1) ≠ 0 := by
    intro z; rw [z] at hpe; grind
  have hG' : ext Re G = ext e G := by funext l; exact (he.same l).symm
  have hGi : ∀ l, IsI (ext e G l) := fun l => by rw [← hG']; exact ext_isI he.isI l G hG
  have hGC : ext e G (C ++ [m + 1]) = (sgn C.length * σ) * ((B m (m + 1) : Int) : Rat) := by
    rw [ext_vanish e (m + 1) C G he.out, hC, hpe]; grind
  have hs2 : sgn C.length * σ = 1 ∨ sgn C.length * σ = -1 := by
    rcases sgn_cases C.length with h | h <;> rcases hσ with h' | h' <;> rw [h, h'] <;> grind
  have key : ∀ i, i < m → ∃ R r, ((∀ c, IsI (R c)) ∧ ∀ c, Ab (R c) ρ) ∧ (∀ l, ext r (ext e G) l = ext R (ext e G) l) ∧ (∀ c ∈ C ++ [m + 1], r c = 0) ∧
      (∀ k, k ≤ m → ((B i k * B m (m + 1) - B i (m + 1) * B m k : Int) : Rat) = ((d : Int) : Rat) * (((B m (m + 1) : Int) : Rat) * r k)) := by
    intro i hi
    obtain ⟨R, r, h⟩ := hrows i (by omega)
    refine ⟨R, fun c => r c - (r (m + 1) / e (m + 1)) * e c, ⟨h.isI, h.ab⟩, ?_, ?_, ?_⟩
    · intro l
      rw [ext_row, ext_self, ext_anti r e]
      have e1 : ext r G = ext R G := by funext l; exact h.same l
      rw [e1, ext_anti e R]; grind
    · intro c hc
      rcases List.mem_append.mp hc with hc | hc
      · show r c - _ * e c = 0
        rw [h.out c hc, he.out c hc]; grind
      · have : c = m + 1 := by simpa using hc
        subst this
        show r (m + 1) - (r (m + 1) / e (m + 1)) * e (m + 1) = 0
        grind
    · intro k hk
      rw [Rat.intCast_sub, Rat.intCast_mul, Rat.intCast_mul, h.val k (by omega), h.val (m + 1) (by omega), he.val k (by omega), hpe]
      grind
  have key2 : ∀ i, i < m → ∃ R r, ((∀ c, IsI (R c)) ∧ ∀ c, Ab (R c) ρ) ∧ (∀ l, ext r (ext e G) l = ext R (ext e G) l) ∧ (∀ c ∈ C ++ [m + 1], r c = 0) ∧
      ∀ k, k ≤ m → d * stepB m B d i k = B i k * B m (m + 1) - B i (m + 1) * B m k ∧ ((stepB m B d i k : Int) : Rat) = ((B m (m + 1) : Int) : Rat) * r k := by
    intro i hi
    obtain ⟨R, r, h1, h2, h3, h4⟩ := key i hi
    refine ⟨R, r, h1, h2, h3, fun k hk => ?_⟩
    have hz : IsI (((B m (m + 1) : Int) : Rat) * r k) := by
      have q1 := ext_vanish r k (C ++ [m + 1]) (ext e G) h3
      have q2 : IsI (ext r (ext e G) (C ++ [m + 1] ++ [k])) := by rw [h2]; exact ext_isI h1.1 _ _ hGi
      rw [q1, hGC] at q2
      have ht := sgn_cases (C ++ [m + 1]).length
      generalize sgn (C ++ [m + 1]).length = t at *
      generalize sgn C.length * σ = w at *
      rcases ht with ht | ht <;> rcases hs2 with hw | hw <;> rw [ht, hw] at q2
      · have : (1 : Rat) * (r k * (1 * ((B m (m + 1) : Int) : Rat))) = ((B m (m + 1) : Int) : Rat) * r k := by grind
        rwa [this] at q2
      · have q3 := q2.neg
        have : -((1 : Rat) * (r k * (-1 * ((B m (m + 1) : Int) : Rat)))) = ((B m (m + 1) : Int) : Rat) * r k := by grind
        rwa [this] at q3
      · have q3 := q2.neg
        have : -((-1 : Rat) * (r k * (1 * ((B m (m + 1) : Int) : Rat)))) = ((B m (m + 1) : Int) : Rat) * r k := by grind
        rwa [this] at q3
      · have : (-1 : Rat) * (r k * (-1 * ((B m (m + 1) : Int) : Rat))) = ((B m (m + 1) : Int) : Rat) * r k := by grind
        rwa [this] at q2
    obtain ⟨z, hz⟩ := hz
    have e1 := h4 k hk
    rw [← hz, ← Rat.intCast_mul] at e1
    have e2 : B i k * B m (m + 1) - B i (m + 1) * B m k = d * z := by exact_mod_cast e1
    have e3 : stepB m B d i k = z := by
      unfold stepB
      rw [e2]
      exact Int.mul_fdiv_cancel_left z (by omega)
    rw [e3]
    exact ⟨e2.symm, hz⟩
  refine ⟨?_, ext e G, C ++ [m + 1], sgn C.length * σ, hGi, hs2, hGC, ⟨by rw [List.length_append]; simp only [List.length_cons, List.length_nil]; omega, fun l hl => ?_⟩, ?_⟩
  · intro i k hi hk
    obtain ⟨R, r, _, _, _, h⟩ := key2 i hi
    exact (h k hk).1
  · have hl' : l.length = C.length + 1 := by rw [hl, List.length_append]; rfl
    have : (C ++ [m + 1]).length = C.length + 1 := by rw [List.length_append]; rfl
    rw [this, ← hG']
    exact ext_ab' v.sz he.ab (by omega) hab hl'
  · intro i hi
    obtain ⟨R, r, h1, h2, h3, h4⟩ := key2 i hi
    exact ⟨R, r, h1.1, h1.2, h2, h3, fun k hk => (h4 k hk).2⟩
theorem Inv.step {m : Nat} {B : Nat → Nat → Int} {d : Int} {x u : Nat → Rat} {T : Nat} {ρ κ : Rat} (v : Inv T ρ κ (m + 1) B d x u) : Inv T ρ κ m (stepB m B d) (B m (m + 1)) x u := by
  have hp := v.diag (show m < m + 1 by omega)
  obtain ⟨ex, rows⟩ := v.exact
  have hd := v.d0
  have hd' : (0 : Rat) < ((d : Int) : Rat) := by exact_mod_cast hd
  have hp' : (0 : Rat) < ((B m (m + 1) : Int) : Rat) := by exact_mod_cast hp
  have exq : ∀ i k, i < m → k ≤ m → ((d : Int) : Rat) * ((stepB m B d i k : Int) : Rat) = ((B i k : Int) : Rat) * ((B m (m + 1) : Int) : Rat) - ((B i (m + 1) : Int) : Rat) * ((B m k : Int) : Rat) := fun i k hi hk => by
    have := ex i k hi hk
    rw [← Rat.intCast_mul, this, Rat.intCast_sub, Rat.intCast_mul, Rat.intCast_mul]
  have hneg : ∀ i, i < m → ((B i (m + 1) : Int) : Rat) ≤ 0 := fun i hi => by
    have := v.neg i m (by omega) (by omega) (by omega)
    exact_mod_cast this
  have lin : ∀ (y : Nat → Rat) i, i < m → ((d : Int) : Rat) * (tot m fun j => ((stepB m B d i (j + 1) : Int) : Rat) * y j) =
      ((B m (m + 1) : Int) : Rat) * (tot (m + 1) fun j => ((B i (j + 1) : Int) : Rat) * y j) - ((B i (m + 1) : Int) : Rat) * (tot (m + 1) fun j => ((B m (j + 1) : Int) : Rat) * y j) := by
    intro y i hi
    simp only [tot]
    have : ((d : Int) : Rat) * (tot m fun j => ((stepB m B d i (j + 1) : Int) : Rat) * y j) =
        ((B m (m + 1) : Int) : Rat) * (tot m fun j => ((B i (j + 1) : Int) : Rat) * y j) - ((B i (m + 1) : Int) : Rat) * (tot m fun j => ((B m (j + 1) : Int) : Rat) * y j) := by
      rw [← tot_mul, ← tot_mul, ← tot_mul, ← tot_sub]
      refine tot_congr fun j hj => ?_
      have := exq i (j + 1) hi (by omega)
      grind
    rw [this]; grind
  refine ⟨hp, v.sz, rows, ?_, fun j hj => v.pos j (by omega), ?_, ?_⟩
  · intro i j hi hj hij
    have h1 := exq i (j + 1) hi (by omega)
    have h2 : ((B i (j + 1) : Int) : Rat) ≤ 0 := by
      have := v.neg i j (by omega) (by omega) hij
      exact_mod_cast this
    have h3 : ((B m (j + 1) : Int) : Rat) ≤ 0 := by
      have := v.neg m j (by omega) (by omega) (by omega)
      exact_mod_cast this
    have h4 := hneg i hi
    have q1 := np_nn h2 (show 0 ≤ ((B m (m + 1) : Int) : Rat) by grind)
    have q2 : 0 ≤ ((B i (m + 1) : Int) : Rat) * ((B m (j + 1) : Int) : Rat) := by
      have := Rat.mul_nonneg (show 0 ≤ -((B i (m + 1) : Int) : Rat) by grind) (show 0 ≤ -((B m (j + 1) : Int) : Rat) by grind)
      grind
    have q3 : ((d : Int) : Rat) * ((stepB m B d i (j + 1) : Int) : Rat) ≤ 0 := by grind
    rcases (by omega : 0 < stepB m B d i (j + 1) ∨ stepB m B d i (j + 1) ≤ 0) with h | h
    · exfalso
      have h' : (0 : Rat) < ((stepB m B d i (j + 1) : Int) : Rat) := by exact_mod_cast h
      have := Rat.mul_pos hd' h'
      grind
    · exact h
  · intro i hi
    have h := lin u i hi
    have s1 := v.sup i (by omega)
    have s2 := v.sup m (by omega)
    have q1 := Rat.mul_pos hp' s1
    have q2 := np_nn (hneg i hi) (Rat.le_of_lt s2)
    have q3 : 0 < ((d : Int) : Rat) * (tot m fun j => ((stepB m B d i (j + 1) : Int) : Rat) * u j) := by rw [h]; grind
    rcases Classical.em (0 < tot m fun j => ((stepB m B d i (j + 1) : Int) : Rat) * u j) with z | z
    · exact z
    · exfalso
      have := np_nn (show (tot m fun j => ((stepB m B d i (j + 1) : Int) : Rat) * u j) ≤ 0 by grind) (Rat.le_of_lt hd')
      grind
  · intro i hi
    have h := lin x i hi
    rw [v.sol i (by omega), v.sol m (by omega)] at h
    have h0 := exq i 0 hi (by omega)
    have : ((d : Int) : Rat) * ((tot m fun j => ((stepB m B d i (j + 1) : Int) : Rat) * x j) - ((stepB m B d i 0 : Int) : Rat)) = 0 := by grind
    rcases Rat.mul_eq_zero.mp this with z | z
    · grind
    · grind
theorem Inv.start {m : Nat} {B : Nat → Nat → Int} {x u : Nat → Rat} {ρ κ : Rat} (sz : Szs m ρ κ) (ab : ∀ i j, i < m → j ≤ m → Ab ((B i j : Int) : Rat) ρ) (neg : ∀ i j, i < m → j < m → j ≠ i → B i (j + 1) ≤ 0) (pos : ∀ j, j < m → 0 < u j)
    (sup : ∀ i, i < m → 0 < tot m fun j => ((B i (j + 1) : Int) : Rat) * u j) (sol : ∀ i, i < m → (tot m fun j => ((B i (j + 1) : Int) : Rat) * x j) = ((B i 0 : Int) : Rat)) : Inv m ρ κ m B 1 x u := by
  refine ⟨by decide, sz, ⟨fun _ => 1, [], 1, fun _ => ⟨1, rfl⟩, .inl rfl, by grind, ⟨by simp, fun l _ => ?_⟩, fun i hi => ?_⟩, neg, pos, sup, sol⟩
  · show Ab 1 1
    constructor <;> grind
  · refine ⟨fun j => if j ≤ m then ((B i j : Int) : Rat) else 0, fun j => if j ≤ m then ((B i j : Int) : Rat) else 0, fun c => ?_, fun c => ?_, fun _ => rfl, fun _ h => absurd h (by simp), fun j hj => ?_⟩
    · show IsI (if c ≤ m then ((B i c : Int) : Rat) else 0)
      split
      · exact ⟨B i c, rfl⟩
      · exact ⟨0, rfl⟩
    · show Ab (if c ≤ m then ((B i c : Int) : Rat) else 0) ρ
      split
      · rename_i h; exact ab i c hi h
      · have := sz.nn
        constructor <;> grind
    · show ((B i j : Int) : Rat) = ((1 : Int) : Rat) * (if j ≤ m then ((B i j : Int) : Rat) else 0)
      rw [if_pos hj]
      grind
theorem Inv.congr {m : Nat} {B B' : Nat → Nat → Int} {d : Int} {x u : Nat → Rat} {T : Nat} {ρ κ : Rat} (v : Inv T ρ κ m B d x u) (h : ∀ i j, i < m → j ≤ m → B' i j = B i j) : Inv T ρ κ m B' d x u := by
  obtain ⟨G, C, σ, hG, hσ, hC, hT, hrows⟩ := v.rows
  refine ⟨v.d0, v.sz, ⟨G, C, σ, hG, hσ, hC, hT, fun i hi => ?_⟩, fun i j hi hj q => by rw [h i (j + 1) hi (by omega)]; exact v.neg i j hi hj q, v.pos, fun i hi => ?_, fun i hi => ?_⟩
  · obtain ⟨R, r, q⟩ := hrows i hi
    exact ⟨R, r, q.isI, q.ab, q.same, q.out, fun j hj => by rw [h i j hi hj]; exact q.val j hj⟩
  · have e : (tot m fun j => ((B' i (j + 1) : Int) : Rat) * u j) = tot m fun j => ((B i (j + 1) : Int) : Rat) * u j := tot_congr fun j hj => by rw [h i (j + 1) hi (by omega)]
    rw [e]; exact v.sup i hi
  · have e : (tot m fun j => ((B' i (j + 1) : Int) : Rat) * x j) = tot m fun j => ((B i (j + 1) : Int) : Rat) * x j := tot_congr fun j hj => by rw [h i (j + 1) hi (by omega)]
    rw [e, h i 0 hi (by omega)]; exact v.sol i hi
theorem pwr_two (e : Nat) : ∀ T, pwr (((2 ^ e : Nat) : Nat) : Rat) T = ((2 ^ (e * T) : Nat) : Rat)
  | 0 => by
    show (1 : Rat) = ((2 ^ (e * 0) : Nat) : Rat)
    rw [Nat.mul_zero]; rfl
  | T + 1 => by
    show ((2 ^ e : Nat) : Rat) * pwr ((2 ^ e : Nat) : Rat) T = _
    rw [pwr_two e T, Nat.mul_succ, Nat.add_comm, Nat.pow_add]
    exact_mod_cast rfl
theorem ab_log {z : Int} {e : Nat} (h : Ab ((z : Int) : Rat) ((2 ^ e : Nat) : Rat)) : z.natAbs.log2 ≤ e := by
  obtain ⟨h1, h2⟩ := h
  have h0 : 0 ≤ ((2 ^ e : Nat) : Rat) + ((z : Int) : Rat) := by grind
  have h0' : (0 : Int) ≤ ((2 ^ e : Nat) : Int) + z := by
    rw [← Rat.intCast_le_intCast, Rat.intCast_add]
    exact_mod_cast h0
  have h1' : -((2 ^ e : Nat) : Int) ≤ z := by omega
  have h2' : z ≤ ((2 ^ e : Nat) : Int) := by exact_mod_cast h2
  have h3 : z.natAbs ≤ 2 ^ e := by omega
  rcases Nat.eq_zero_or_pos z.natAbs with h0 | h0
  · rw [h0]; exact Nat.zero_le _
  · have h4 : z.natAbs < 2 ^ (e + 1) := Nat.lt_of_le_of_lt h3 (Nat.pow_lt_pow_right (by omega) (by omega))
    have := (Nat.log2_lt (Nat.ne_of_gt h0)).mpr h4
    omega
/-- **the numbers stay small** -/
theorem Inv.small {m : Nat} {B : Nat → Nat → Int} {d : Int} {x u : Nat → Rat} {T : Nat} {ρ κ : Rat} (v : Inv T ρ κ m B d x u) {i j : Nat} (hi : i < m) (hj : j ≤ m) : Ab ((B i j : Int) : Rat) (pwr κ T) := by
  obtain ⟨G, C, σ, hG, hσ, hC, ⟨hT, hab⟩, hrows⟩ := v.rows
  obtain ⟨R, r, h⟩ := hrows i hi
  have h1 := ext_ab' v.sz h.ab (k := C.length) (by omega) hab (cs := C ++ [j]) (by rw [List.length_append]; rfl)
  rw [← h.same, ext_vanish r j C G h.out, hC] at h1
  have h2 := h.val j hj
  have h3 : Ab ((B i j : Int) : Rat) (pwr κ (C.length + 1)) := by
    rw [h2]
    rcases sgn_cases C.length with e | e <;> rcases hσ with e' | e' <;> rw [e, e'] at h1 <;> exact ⟨by have := h1.1; have := h1.2; grind, by have := h1.1; have := h1.2; grind⟩
  have h4 := pwr_mono v.sz.one (C.length + 1) (m - 1)
  have e : C.length + 1 + (m - 1) = T := by omega
  rw [e] at h4
  exact ⟨by have := h3.1; grind, by have := h3.2; grind⟩
theorem Inv.smallD {m : Nat} {B : Nat → Nat → Int} {d : Int} {x u : Nat → Rat} {T : Nat} {ρ κ : Rat} (v : Inv T ρ κ m B d x u) : Ab ((d : Int) : Rat) (pwr κ T) := by
  obtain ⟨G, C, σ, hG, hσ, hC, ⟨hT, hab⟩, hrows⟩ := v.rows
  have h1 := hab C rfl
  rw [hC] at h1
  have h4 := pwr_mono v.sz.one C.length m
  rw [hT] at h4
  rcases hσ with e | e <;> rw [e] at h1 <;> exact ⟨by have := h1.1; have := h1.2; grind, by have := h1.1; have := h1.2; grind⟩
theorem Inv.last {B : Nat → Nat → Int} {d : Int} {x u : Nat → Rat} {T : Nat} {ρ κ : Rat} (v : Inv T ρ κ 1 B d x u) : 0 < B 0 1 ∧ ((B 0 0 : Int) : Rat) = ((B 0 1 : Int) : Rat) * x 0 := by
  refine ⟨v.diag (by omega), ?_⟩
  have h := v.sol 0 (by omega)
  simp only [tot] at h
  grind
end My
set_option Elab.async false
set_option linter.all false
set_option maxRecDepth 100000
set_option maxHeartbeats 2000000
namespace Tk
open PySem PySem.Spec PyProof.Rows L2
open PySem.W (Codec)
def top (i : Nat) : Stmt := PySem.Challenge.pw_takeover_s05_best.main.body.getD i (.Pass ⟨0, 0, 0, 0⟩)
/-- a def that may be called -/
structure Cal (P : Program) (w : World) (K : PySem.W.Frag) (mg : Str → Option Value) (base : Heap) (x : Str) (ps : List Str) (k : Nat) (sp : Sp) : Prop where
  ex : ∃ (f : Addr) (fd : FuncData), mg x = some (.ref f) ∧ PySem.W.keepIn K (.ref f) = true ∧ Binds K fd ps [] ∧ FnOk P w K mg base CX0 k f fd ps sp
theorem pe_cal {X : Cx} {x : Str} {ps : List Str} {k : Nat} {sp : Sp} {p pos : Pos} {e : Expr} {es : List Expr} {t : TA} (C : Cal X.prog X.w X.K X.mg X.base x ps k sp) (hr : Room k X.A) (hg : Gl X x) (ha : PA X (e :: es) t)
    (hdb : (x == ("__debug__" : Str)) = false := by decide) (he : starEach (e :: es) X.env = (false, eval e X.env) :: starEach es X.env := by rfl) (hpl : (backTo pos (starEach es X.env)).any (·.1) = false := by rfl) :
    PE X (.Call (.Name x p) (e :: es) [] pos) (tCall sp [] E0 t) := by
  obtain ⟨f, fd, h1, h2, h3, h4⟩ := C.ex
  exact pe_call h4 hr hg h1 h2 h3 .nil pass0 ha hdb he hpl
/-- the built-in names that the text uses -/
structure Blt (mg : Str → Option Value) : Prop where
  range : mg "range" = none
  len : mg "len" = none
  sum : mg "sum" = none
  enum : mg "enumerate" = none
/-- a value by its turns -/
def upTo {α : Type} (f : Nat → α → α) (x : α) : Nat → α
  | 0 => x
  | k + 1 => f k (upTo f x k)
/-! ### bits -/
theorem shl_one (n : Nat) : (1 : Int) * 2 ^ ((n : Int)).toNat = ((2 ^ n : Nat) : Int) := by
  rw [Int.toNat_natCast, Int.one_mul, ← two_pow_cast]
theorem shr_bit (s i : Nat) : Builtin.bitAnd ((s : Int) / 2 ^ ((i : Int)).toNat) 1 = if s.testBit i = true then 1 else 0 := by
  rw [PyProof.Rows.bitAnd_m1, Int.toNat_natCast]
  have e : ((s : Int) / 2 ^ i) % 2 = ((s / 2 ^ i % 2 : Nat) : Int) := by
    rw [two_pow_cast]; omega
  rw [e, Nat.testBit_eq_decide_div_mod_eq]
  rcases Nat.mod_two_eq_zero_or_one (s / 2 ^ i) with h | h <;> rw [h] <;> rfl
theorem bor_nat (x y : Nat) : Builtin.bitOr (x : Int) (y : Int) = ((x ||| y : Nat) : Int) := by
  have h1 : decide (0 ≤ -(x : Int) - 1) = false := decide_eq_false (by omega)
  have h2 : decide (0 ≤ -(y : Int) - 1) = false := decide_eq_false (by omega)
  have e1 : (-(-(x : Int) - 1) - 1).toNat = x := by omega
  have e2 : (-(-(y : Int) - 1) - 1).toNat = y := by omega
  unfold Builtin.bitOr Builtin.bitAnd Builtin.bitNot
  simp only [h1, h2, e1, e2]
  omega
theorem iteTrue {b : Bool} {A B : Prop} (hb : b = true) (h : A) : if b = true then A else B := by
  rw [if_pos hb]; exact h
theorem iteFalse {b : Bool} {A B : Prop} (hb : b = false) (h : B) : if b = true then A else B := by
  rw [if_neg (by rw [hb]; decide)]; exact h
theorem yes_in {σ : L2.St} {H : Hp} {A B : Hp → Prop} (h : A H) : tYes σ H (fun b H3 => if b = true then A H3 else B H3) := by
  show (if true = true then A H else B H)
  rw [if_pos rfl]; exact h
theorem at_int {ws : List Int} {k : Nat} (h : k < ws.length) : (ws.map V.int)[k]? = some (V.int (ws.getD k 0)) := by
  rw [List.getElem?_map, List.getElem?_eq_getElem h, List.getD_eq_getElem?_getD, List.getElem?_eq_getElem h]; rfl
theorem ix_lt {n i j : Nat} (hi : i < n) (hj : j < n) : i * n + j < n * n := by
  have h1 : i * n + n ≤ n * n := by
    have : (i + 1) * n ≤ n * n := Nat.mul_le_mul_right n hi
    rw [Nat.succ_mul] at this; exact this
  omega
theorem pow_le {n : Nat} (h : n ≤ 5) : 1 ≤ 2 ^ n ∧ 2 ^ n ≤ 32 := ⟨Nat.one_le_two_pow, Nat.pow_le_pow_right (by omega) h⟩
/-! ### sizes of whole numbers -/
/-- a whole number below 2 to the k -/
def Sz (k : Nat) (z : Int) : Prop := z.natAbs < 2 ^ k
theorem Sz.mono {k l : Nat} {z : Int} (h : Sz k z) (hl : k ≤ l) : Sz l z := Nat.lt_of_lt_of_le h (Nat.pow_le_pow_right (by decide) hl)
theorem Sz.mul {k l : Nat} {x y : Int} (h1 : Sz k x) (h2 : Sz l y) : Sz (k + l) (x * y) := by
  unfold Sz at *
  rw [Int.natAbs_mul, Nat.pow_add]
  exact Nat.mul_lt_mul'' h1 h2
theorem Sz.add {k : Nat} {x y : Int} (h1 : Sz k x) (h2 : Sz k y) : Sz (k + 1) (x + y) := by
  unfold Sz at *
  rw [Nat.pow_succ]
  have := Int.natAbs_add_le x y
  omega
theorem Sz.log {k : Nat} {z : Int} (h : Sz (k + 1) z) : z.natAbs.log2 ≤ k := by
  by_cases h0 : z.natAbs = 0
  · rw [h0]; exact Nat.zero_le _
  · exact Nat.le_of_lt_succ ((Nat.log2_lt h0).mpr h)
theorem Sz.of_log {k : Nat} {z : Int} (h : z.natAbs.log2 ≤ k) : Sz (k + 1) z := by
  unfold Sz
  by_cases h0 : z.natAbs = 0
  · rw [h0]; exact Nat.pow_pos (by decide)
  · exact (Nat.log2_lt h0).mp (Nat.lt_succ_of_le h)
theorem Sz.bits {k : Nat} {z : Int} (h : Sz (k + 1) z) (hk : k ≤ 100000) : Builtin.Int.intBits z ≤ 2 ^ 20 := by
  have hl := h.log
  unfold Builtin.Int.intBits
  have e : (2 : Nat) ^ 20 = 1048576 := by decide
  rw [e]
  split <;> omega
theorem Sz.le {k : Nat} {x y : Int} (h : Sz k y) (hl : x.natAbs ≤ y.natAbs) : Sz k x := Nat.lt_of_le_of_lt hl h
/-- a quotient that isn't great needs no long division -/
theorem noPy_diff {x y : Int} (h : x.natAbs.log2 ≤ y.natAbs.log2 + 3000) (hy : y ≠ 0) : Builtin.divisionGoesByPylong x y = false := by
  have hy' : (y == 0) = false := by simpa using hy
  have key : (if x == 0 then 0 else x.natAbs.log2 / 30 + 1) ≤ (if y == 0 then 0 else y.natAbs.log2 / 30 + 1) + 150 := by
    rw [hy']
    simp only [Bool.false_eq_true, if_false]
    split <;> omega
  unfold Builtin.divisionGoesByPylong
  simp only [Bool.and_eq_false_iff, decide_eq_false_iff_not]
  right
  omega
theorem op_fdivP {X : Cx} : OpR X (binaryOp .FloorDiv) (rI (fun i j => j ≠ 0 ∧ Builtin.divisionGoesByPylong i j = false) fun i j => .int (i.fdiv j)) := opI fun i j _ _ _ _ _ hc q => floordiv_int hc.1 q (.inl hc.2)
theorem op_mulP {X : Cx} : OpR X (binaryOp .Mult) (rI (fun i j => Builtin.Int.intBits i ≤ 2 ^ 20 ∧ Builtin.Int.intBits j ≤ 2 ^ 20) fun i j => .int (i * j)) := opI fun _ _ _ _ _ _ _ hc q => mul_int q (IntMulOk.of_bits hc.1 hc.2)
end Tk
set_option Elab.async false
set_option linter.all false
set_option maxRecDepth 100000
set_option maxHeartbeats 2000000
namespace Tk
open PySem PySem.Spec PyProof.Rows L2
open PySem.W (Codec)
abbrev dSums : Stmt := top 8
abbrev dFit : Stmt := top 6
section
variable {P : Program} {w : World} {K : PySem.W.Frag} {mg : Str → Option Value} {base : Heap}
/-! ### row_sums -/
def rowS (n : Nat) (ws : List Int) (i : Nat) : Int := ((ws.drop (i * n)).take n).sum
def spSums (K : PySem.W.Frag) : Sp := fun vs H Q _ => ∃ (n : Nat) (wa : Addr) (ws : List Int), vs = [.int n, .ref wa] ∧ SqL K H wa (ws.map V.int) ∧ n ≤ 5 ∧ ws.length = n * n ∧
  ∀ (H' : Hp) (p : Addr), Same H H' → H p = none → H' p = some (.lst (((List.range n).map (rowS n ws)).map V.int)) → Q (.ref p) H'
theorem scSums : FnScope ["n", "weights", "i"] ["n", "weights"] (defScope dSums) := ⟨rfl, rfl, rfl, by decide +kernel, rfl, by decide +kernel, by decide +kernel⟩
theorem cut_row {n : Nat} {ws : List Int} {i : Nat} (hl : ws.length = n * n) (hi : i < n) : cutV (ws.map V.int) (some ((i : Int) * (n : Int))) (some ((i : Int) * (n : Int) + (n : Int))) = ((ws.drop (i * n)).take n).map V.int := by
  have h1 : i * n + n ≤ n * n := by
    have : (i + 1) * n ≤ n * n := Nat.mul_le_mul_right n hi
    rw [Nat.succ_mul] at this; exact this
  have e1 : (i : Int) * (n : Int) = ((i * n : Nat) : Int) := by rw [Int.natCast_mul]
  have e2 : (i : Int) * (n : Int) + (n : Int) = ((i * n + n : Nat) : Int) := by rw [Int.natCast_add, Int.natCast_mul]
  unfold cutV
  rw [e2, e1, HT.sIx_nat, HT.sIx_nat, List.length_map, hl, Nat.min_eq_left (a := i * n + n) h1, Nat.min_eq_left (a := i * n) (by omega), Nat.add_sub_cancel_left, List.map_take, List.map_drop]
theorem ok_sums {f : Addr} {fd : FuncData} (F : Fun K "row_sums" "row_sums" dSums f fd) (B : Blt mg) : FnOk P w K mg base CX0 1 f fd ["n", "weights"] (spSums K) := by
  refine F.ok scSums (fun vs H Q E h => ?_) (fun cdv A outer s H vs Q E hr h => ?_)
  · obtain ⟨n, wa, ws, rfl, _⟩ := h
    rfl
  · obtain ⟨n, wa, ws, rfl, hS, hn, hl, k⟩ := h
    refine ⟨_, pss_one (ps_ret (pe_lc (own := [("i", 2)]) rfl scSums.nd (pi_range1 rfl B.range (pa_cons (pv 0) pa_nil)) (blkOk_by (N := ["n", "weights", "i"]) (sc := defScope dSums) (by decide +kernel)) (fun s H C cl fp => pg_name (i := 2) scSums.nd rfl (Or.inl rfl)) (fun s H C cl fp => pts_nil)
      (fun s H C cl fp => pe_callB (r := rSum K) (cr_sum rfl) rfl B.sum boot_sum (pa_cons (pe_slice (r := rSlL K) sl_list (pv 1) (po_some (pe_op op_mul (pv 2) (pv 0))) (po_some (pe_op op_add (pe_op op_mul (pv 2) (pv 0)) (pv 0)))) pa_nil)))), ?_⟩
    refine ⟨_, rfl, _, rfl, by omega, by omega, fun D hD => ?_⟩
    rw [Int.toNat_natCast]
    have sD : Same H (upd H D (.lst [])) := fun b o e => by rw [upd_ne (ne_of_none e hD)]; exact e
    refine lc_range (n := n) (fun i H' => Same H H' ∧ H' D = some (.lst (((List.range i).map (rowS n ws)).map V.int))) ⟨sD, upd_same⟩ ?_ ?_
    · rintro i H' hi ⟨sm, hd⟩
      have e0 : (0 : Int) + (i : Int) = (i : Int) := Int.zero_add _
      rw [e0]
      refine ⟨rfl, yes_in ?_⟩
      refine ⟨_, rfl, ?_⟩
      refine ⟨_, rfl, _, rfl, _, _, rfl, rfl, .inl (by omega), _, rfl, ?_⟩
      refine ⟨_, rfl, _, rfl, _, _, rfl, rfl, .inl (by omega), _, rfl, _, _, rfl, rfl, _, rfl, ?_⟩
      refine ⟨wa, _, rfl, sm.seq hS, fun p hp => ?_⟩
      rw [cut_row hl hi]
      refine ⟨p, _, rfl, SqL.of upd_same, _, (upd_ne (ne_of_none hd hp)).trans hd, ?_, fun b o e => ?_, ?_⟩
      · rw [List.length_map, List.length_map, List.length_range]
        rw [sizeLine_eq]; omega
      · have hbD : b ≠ D := ne_of_none e hD
        rw [upd_ne hbD, upd_ne (ne_of_none (sm b o e) hp)]
        exact sm b o e
      · rw [upd_same, List.range_succ, List.map_append, List.map_append]
        rfl
    · rintro H' ⟨sm, hd⟩
      exact k H' D sm hD hd
end
theorem take_row {n : Nat} {ws : List Int} {i : Nat} (hl : ws.length = n * n) (hi : i < n) : (ws.drop (i * n)).take n = (List.range n).map fun j => ws.getD (n * i + j) 0 := by
  have h1 : i * n + n ≤ n * n := by
    have : (i + 1) * n ≤ n * n := Nat.mul_le_mul_right n hi
    rw [Nat.succ_mul] at this; exact this
  apply List.ext_getElem
  · rw [List.length_take, List.length_drop, List.length_map, List.length_range]; omega
  · intro j h2 h3
    rw [List.length_map, List.length_range] at h3
    rw [List.getElem_take, List.getElem_drop, List.getElem_map, List.getElem_range, List.getD_eq_getElem?_getD, List.getElem?_eq_getElem (by rw [Nat.mul_comm]; omega)]
    simp only [Option.getD_some, Nat.mul_comm]
theorem rowS_row {n : Nat} {ws : List Int} {i : Nat} (hl : ws.length = n * n) (hi : i < n) : rowS n ws i = Sf71.Net.row ⟨n, ws⟩ i := by
  unfold rowS Sf71.Net.row
  rw [take_row hl hi]; rfl
theorem fit_iff {n : Int} {ws : List Int} : Sf96.netOk n ws = true ↔ 2 ≤ n ∧ n ≤ 5 ∧ ws.length = n.toNat * n.toNat ∧ (∀ z ∈ ws, 0 ≤ z ∧ z ≤ 100) ∧ ∀ i, i < n.toNat → 0 < Sf71.Net.row ⟨n.toNat, ws⟩ i := by
  unfold Sf96.netOk Sf71.okNet Sf71.within Sf71.net
  simp only [Bool.and_eq_true, decide_eq_true_eq, List.all_eq_true, List.mem_range, beq_iff_eq]
  constructor
  · rintro ⟨⟨h1, h2⟩, _, h3, h4, h5⟩
    have h2' : n ≤ (5 : Int) := h2
    exact ⟨h1, h2', h3, fun z hz => ⟨(h4 z hz).1, (h4 z hz).2⟩, h5⟩
  · rintro ⟨h1, h2, h3, h4, h5⟩
    refine ⟨⟨h1, h2⟩, ⟨h1, ?_⟩, h3, fun z hz => ⟨(h4 z hz).1, (h4 z hz).2⟩, h5⟩
    show n ≤ (8 : Int)
    omega
theorem sum_nonneg : ∀ {l : List Int}, (∀ z ∈ l, 0 ≤ z) → 0 ≤ l.sum
  | [], _ => by simp
  | a :: l, h => by
    have h1 := h a (List.mem_cons_self ..)
    have h2 := sum_nonneg (l := l) fun z hz => h z (List.mem_cons_of_mem _ hz)
    rw [List.sum_cons]; omega
theorem rowS_nonneg {n : Nat} {ws : List Int} (h : ∀ z ∈ ws, 0 ≤ z ∧ z ≤ 100) (i : Nat) : 0 ≤ rowS n ws i :=
  sum_nonneg fun z hz => (h z (List.mem_of_mem_drop (List.mem_of_mem_take hz))).1
theorem zero_in (l : List Int) : inV (V.int 0) (l.map V.int) = true ↔ 0 ∈ l := by
  unfold inV
  rw [List.any_map, List.any_eq_true]
  constructor
  · rintro ⟨x, hx, h⟩
    have h : eqV (V.int x) (V.int 0) = true := h
    have : x = 0 := by
      unfold eqV at h
      simpa using h
    subst this; exact hx
  · intro h
    refine ⟨0, h, ?_⟩
    show eqV (V.int 0) (V.int 0) = true
    unfold eqV
    simp
theorem flat_ints (l : List Int) : (l.map V.int).all flatV = true := by
  rw [List.all_eq_true]
  intro x hx
  obtain ⟨z, _, rfl⟩ := List.mem_map.mp hx
  rfl
section
variable {P : Program} {w : World} {K : PySem.W.Frag} {mg : Str → Option Value} {base : Heap}
/-! ### weights_fit -/
def spFit (K : PySem.W.Frag) : Sp := fun vs H Q _ => ∃ (n : Int) (wa : Addr) (ws : List Int), vs = [.int n, .ref wa] ∧ SqL K H wa (ws.map V.int) ∧ ∀ H' : Hp, Same H H' → Q (.bl (Sf96.netOk n ws)) H'
theorem scFit : FnScope ["n", "weights", "weight"] ["n", "weights"] (defScope dFit) := ⟨rfl, rfl, rfl, by decide +kernel, rfl, by decide +kernel, by decide +kernel⟩
theorem fit_false {n : Int} {ws : List Int} (h : ¬ (2 ≤ n ∧ n ≤ 5 ∧ ws.length = n.toNat * n.toNat ∧ (∀ z ∈ ws, 0 ≤ z ∧ z ≤ 100) ∧ ∀ i, i < n.toNat → 0 < Sf71.Net.row ⟨n.toNat, ws⟩ i)) : Sf96.netOk n ws = false := by
  cases e : Sf96.netOk n ws with
  | false => rfl
  | true => exact absurd (fit_iff.mp e) h
theorem ok_fit {f : Addr} {fd : FuncData} (F : Fun K "weights_fit" "weights_fit" dFit f fd) (B : Blt mg) (Cs : Cal P w K mg base "row_sums" ["n", "weights"] 1 (spSums K)) : FnOk P w K mg base CX0 2 f fd ["n", "weights"] (spFit K) := by
  refine F.ok scFit (fun vs H Q E h => ?_) (fun cdv A outer s H vs Q E hr h => ?_)
  · obtain ⟨n, wa, ws, rfl, _⟩ := h
    rfl
  · obtain ⟨n, wa, ws, rfl, hS, k⟩ := h
    refine ⟨_, pss_cons (ps_if ((pw_or (pt_cmpR op_lt (pv 0) pe_int (nomark _)) (pw_or (pt_cmpR op_gt (pv 0) pe_int (nomark _)) (pw_or1 (pt_cmpR op_ne (pe_callB call_len_seq (by rfl) B.len PySem.boot_len (pa_cons (pv 1) pa_nil)) (pe_op op_mul (pv 0) (pv 0)) (nomark _))))).pt) (pss_one (ps_ret pe_bl)) pss_nil)
      (pss_cons (ps_for PassesOwn.never rfl (pi_list (pv 1)) (pg_name (i := 2) scFit.nd rfl (Or.inl rfl))
        (pss_one (ps_if ((pw_or (pt_cmpR op_lt (pv 2) pe_int (nomark _)) (pw_or1 (pt_cmpR op_gt (pv 2) pe_int (nomark _)))).pt) (pss_one (ps_ret pe_bl)) pss_nil)))
      (pss_one (ps_ret (pe_cmpR op_notIn_seq pe_int (pe_cal Cs hr rfl (pa_cons (pv 0) (pa_cons (pv 1) pa_nil))) (by with_unfolding_all rfl))))), ?_⟩
    have sm0 : Same H H := fun _ _ e => e
    refine ⟨_, rfl, _, _, rfl, rfl, _, rfl, ?_⟩
    refine ite2 (fun h => ?_) (fun h => ?_)
    · have h' : n < 2 := of_decide_eq_true h
      refine iteTrue rfl ?_
      have := k H sm0
      rw [fit_false (by omega)] at this
      exact this
    have h2 : 2 ≤ n := by
      have : ¬ n < 2 := fun z => h (decide_eq_true z)
      omega
    refine ⟨_, rfl, _, _, rfl, rfl, _, rfl, ?_⟩
    refine ite2 (fun h => ?_) (fun h => ?_)
    · have h' : 5 < n := of_decide_eq_true h
      refine iteTrue rfl ?_
      have := k H sm0
      rw [fit_false (by omega)] at this
      exact this
    have h5 : n ≤ 5 := by
      have : ¬ 5 < n := fun z => h (decide_eq_true z)
      omega
    obtain ⟨m, rfl⟩ : ∃ m : Nat, n = (m : Int) := ⟨n.toNat, by omega⟩
    refine ⟨_, rfl, wa, _, rfl, .inl hS, _, rfl, _, rfl, _, _, rfl, rfl, .inl (by omega), rfl, _, rfl, ?_⟩
    by_cases hl : ws.length = m * m
    case neg =>
      have e' : ¬ V.int (((ws.map V.int).length : Nat) : Int) = V.int ((m : Int) * (m : Int)) := fun z => by
        injection z with z
        rw [List.length_map, ← Int.natCast_mul] at z
        exact hl (by exact_mod_cast z)
      refine iteTrue (by rw [decide_eq_false e']; rfl) ?_
      have := k H sm0
      rw [fit_false (fun z => hl (by have := z.2.2.1; simpa using this))] at this
      exact this
    have e' : V.int (((ws.map V.int).length : Nat) : Int) = V.int ((m : Int) * (m : Int)) := by
      rw [List.length_map, hl, Int.natCast_mul]
    refine iteFalse (by rw [decide_eq_true e']; rfl) ?_
    refine ⟨_, rfl, wa, rfl, ⟨_, hS⟩, for_list (K := K) (a := wa) (xs := ws.map V.int) (fun i σ H' => H' = H ∧ (∀ z ∈ ws.take i, 0 ≤ z ∧ z ≤ 100) ∧ ∃ v : Option V, σ = [some (.int m), some (.ref wa), v]) ⟨rfl, by simp, none, rfl⟩ (fun i σ H' _ ⟨e, _⟩ => by rw [e]; exact hS) ?_ ?_⟩
    · rintro i y σ H' hi ⟨rfl, hall, v, rfl⟩
      obtain ⟨z, hz, rfl⟩ : ∃ z, ws[i]? = some z ∧ y = V.int z := by
        rw [List.getElem?_map] at hi
        cases e : ws[i]? with
        | none => rw [e] at hi; cases hi
        | some z => rw [e] at hi; exact ⟨z, rfl, (Option.some.inj hi).symm⟩
      have hm : z ∈ ws := List.mem_of_getElem? hz
      refine ⟨_, rfl, _, _, rfl, rfl, _, rfl, ?_⟩
      refine ite2 (fun h => ?_) (fun h => ?_)
      · have h' : z < 0 := of_decide_eq_true h
        refine iteTrue rfl ?_
        have := k H' sm0
        rw [fit_false (fun q => by have := q.2.2.2.1 z hm; omega)] at this
        exact this
      have h0 : 0 ≤ z := by
        have : ¬ z < 0 := fun z => h (decide_eq_true z)
        omega
      refine ⟨_, rfl, _, _, rfl, rfl, _, rfl, ?_⟩
      by_cases h1 : 100 < z
      · refine iteTrue (decide_eq_true h1) ?_
        have := k H' sm0
        rw [fit_false (fun q => by have := q.2.2.2.1 z hm; omega)] at this
        exact this
      · refine iteFalse (decide_eq_false h1) ?_
        refine ⟨rfl, fun q hq => ?_, some (.int z), rfl⟩
        rw [List.take_add_one, hz] at hq
        rcases List.mem_append.mp hq with hq | hq
        · exact hall q hq
        · have : q = z := by simpa using hq
          subst this; omega
    · rintro σ H' ⟨rfl, hall, v, rfl⟩
      rw [List.length_map, List.take_length] at hall
      refine ⟨_, rfl, _, rfl, m, wa, ws, rfl, hS, by omega, hl, fun H2 p sm hp hq => ?_⟩
      refine ⟨p, _, rfl, .inl (SqL.of hq), rfl, flat_ints _, ?_⟩
      have := k H2 sm
      have e : Sf96.netOk (m : Int) ws = !inV (V.int 0) (((List.range m).map (rowS m ws)).map V.int) := by
        rw [Bool.eq_iff_iff, fit_iff, Bool.not_eq_true', ← Bool.not_eq_true, zero_in, Int.toNat_natCast]
        constructor
        · rintro ⟨_, _, _, _, h5⟩ hz
          obtain ⟨i, hi, e⟩ := List.mem_map.mp hz
          have hi := List.mem_range.mp hi
          have := h5 i hi
          rw [← rowS_row hl hi, e] at this
          omega
        · intro hz
          refine ⟨h2, h5, hl, hall, fun i hi => ?_⟩
          rw [← rowS_row hl hi]
          have h1 := rowS_nonneg (n := m) hall i
          have h3 : rowS m ws i ≠ 0 := fun z => hz (List.mem_map.mpr ⟨i, List.mem_range.mpr hi, z⟩)
          omega
      rw [e] at this
      exact this
end
end Tk
set_option Elab.async false
set_option linter.all false
set_option maxRecDepth 100000
set_option maxHeartbeats 2000000
namespace Tk
open PySem PySem.Spec PyProof.Rows L2
open PySem.W (Codec)
abbrev dSpreads : Stmt := top 14
/-! ### walks by enumerate -/
theorem lc_enum {K : PySem.W.Frag} {a : Addr} {xs : List V} {g : TG} {tt : TT} {te : TE} {vs : List Nat} {σ : L2.St} {H1 : Hp} {D : Addr} {Qd : Hp → Prop} (Pv : Nat → Hp → Prop) (h0 : Pv 0 (upd H1 D (.lst []))) (hl : ∀ i H, i ≤ xs.length → Pv i H → SqL K H a xs)
    (hs : ∀ i x H T, xs[i]? = some x → H T = none → Pv i H → g (.ref T) (wipe σ vs) (upd H T (.tup [.int (i : Nat), x])) fun σ2 H2 => wipe σ2 vs = wipe σ vs ∧ tt σ2 H2 fun b H3 =>
      if b = true then te σ2 H3 fun y H4 => ∃ acc, H4 D = some (.lst acc) ∧ acc.length < sizeLine ∧ Pv (i + 1) (upd H4 D (.lst (acc ++ [y]))) else Pv (i + 1) H3) (hd : ∀ H, Pv xs.length H → Qd H) :
    ∃ W : Nat → Nat → Hp → Prop, (∃ m, W 0 m (upd H1 D (.lst []))) ∧ ∀ i m H, W i m H →
      ((Ite K a).stop i H ∧ Qd H) ∨ ((Ite K a).go i H ∧ ∃ Nx : Hp → Prop, (∀ H', Nx H' → ∃ m', m' < m ∧ W (i + 1) m' H') ∧ ∀ x H', (Ite K a).yld i H x H' → g x (wipe σ vs) H' fun σ2 H2 => wipe σ2 vs = wipe σ vs ∧ tt σ2 H2 fun b H3 =>
        if b = true then te σ2 H3 fun y H4 => ∃ acc, H4 D = some (.lst acc) ∧ acc.length < sizeLine ∧ Nx (upd H4 D (.lst (acc ++ [y]))) else Nx H3) := by
  refine ⟨fun i m H => m = xs.length - i ∧ i ≤ xs.length ∧ Pv i H, ⟨xs.length, by simp, Nat.zero_le _, h0⟩, ?_⟩
  rintro i m H ⟨rfl, hi, p⟩
  have q := hl i H hi p
  by_cases hlt : i < xs.length
  · refine .inr ⟨⟨xs, xs[i], q, by simp [hlt]⟩, Pv (i + 1), fun H' p' => ⟨xs.length - (i + 1), by omega, rfl, hlt, p'⟩, fun x H' y => ?_⟩
    obtain ⟨T, x', e1, hT, e2, y⟩ := y
    subst e1 e2
    exact hs i x' H T (y xs q) hT p
  · have e : i = xs.length := by omega
    subst e
    exact .inl ⟨⟨xs, q, Nat.le_refl _⟩, hd H p⟩
theorem for_enum {K : PySem.W.Frag} {a : Addr} {xs : List V} {g : TG} {tb : TS} {D : Ends} {σ : L2.St} {H : Hp} (Pv : Nat → L2.St → Hp → Prop) (h0 : Pv 0 σ H) (hl : ∀ i σ H, i ≤ xs.length → Pv i σ H → SqL K H a xs)
    (hs : ∀ i x σ H T, xs[i]? = some x → H T = none → Pv i σ H → g (.ref T) σ (upd H T (.tup [.int (i : Nat), x])) fun σ2 H2 => tb { D with nx := Pv (i + 1), ct := Pv (i + 1), bk := D.nx } σ2 H2) (hd : ∀ σ H, Pv xs.length σ H → D.nx σ H) :
    ∃ W : Nat → Nat → L2.St → Hp → Prop, (∃ m, W 0 m σ H) ∧ ∀ i m σ H, W i m σ H →
      ((Ite K a).stop i H ∧ D.nx σ H) ∨ ((Ite K a).go i H ∧ ∃ N : L2.St → Hp → Prop, (∀ σ' H', N σ' H' → ∃ m', m' < m ∧ W (i + 1) m' σ' H') ∧ ∀ x H', (Ite K a).yld i H x H' → g x σ H' fun σ2 H2 => tb { D with nx := N, ct := N, bk := D.nx } σ2 H2) := by
  refine ⟨fun i m σ H => m = xs.length - i ∧ i ≤ xs.length ∧ Pv i σ H, ⟨xs.length, by simp, Nat.zero_le _, h0⟩, ?_⟩
  rintro i m σ H ⟨rfl, hi, p⟩
  have q := hl i σ H hi p
  by_cases hlt : i < xs.length
  · refine .inr ⟨⟨xs, xs[i], q, by simp [hlt]⟩, Pv (i + 1), fun σ' H' p' => ⟨xs.length - (i + 1), by omega, rfl, hlt, p'⟩, fun x H' y => ?_⟩
    obtain ⟨T, x', e1, hT, e2, y⟩ := y
    subst e1 e2
    exact hs i x' σ H T (y xs q) hT p
  · have e : i = xs.length := by omega
    subst e
    exact .inl ⟨⟨xs, q, Nat.le_refl _⟩, hd σ H p⟩
/-! ### spreads -/
def com (n : Nat) (ws : List Int) : Nat → Int := upTo (fun i c => c * rowS n ws i) 1
def sprd (n : Nat) (ws : List Int) (k : Nat) : Int := ws.getD k 0 * (com n ws n / rowS n ws (k / n))
def sprs (n : Nat) (ws : List Int) (m : Nat) : List Int := (List.range m).map (sprd n ws)
/-- what is asked of the weights -/
structure WsOk (n : Nat) (ws : List Int) : Prop where
  n2 : 2 ≤ n
  n5 : n ≤ 5
  len : ws.length = n * n
  w : ∀ z ∈ ws, 0 ≤ z ∧ z ≤ 100
  row : ∀ i, i < n → 0 < rowS n ws i ∧ rowS n ws i ≤ 500
theorem sum_le {M : Int} : ∀ {l : List Int}, (∀ z ∈ l, z ≤ M) → l.sum ≤ (l.length : Nat) * M
  | [], _ => by simp
  | a :: l, h => by
    have h1 := h a (List.mem_cons_self ..)
    have h2 := sum_le (l := l) fun z hz => h z (List.mem_cons_of_mem _ hz)
    rw [List.sum_cons, List.length_cons, Int.natCast_succ, Int.add_mul]
    omega
theorem WsOk.of {n : Nat} {ws : List Int} (h : Sf96.netOk (n : Int) ws = true) : WsOk n ws := by
  obtain ⟨h1, h2, h3, h4, h5⟩ := fit_iff.mp h
  rw [Int.toNat_natCast] at h3 h5
  refine ⟨by omega, by omega, h3, h4, fun i hi => ⟨by rw [rowS_row h3 hi]; exact h5 i hi, ?_⟩⟩
  have h6 : ((ws.drop (i * n)).take n).sum ≤ _ := sum_le (M := 100) fun z hz => (h4 z (List.mem_of_mem_drop (List.mem_of_mem_take hz))).2
  have h7 : ((ws.drop (i * n)).take n).length ≤ n := by rw [List.length_take]; omega
  unfold rowS
  omega
theorem WsOk.get {n : Nat} {ws : List Int} (O : WsOk n ws) (k : Nat) : 0 ≤ ws.getD k 0 ∧ ws.getD k 0 ≤ 100 := by
  rw [List.getD_eq_getElem?_getD]
  cases e : ws[k]? with
  | none => exact ⟨by decide, by decide⟩
  | some z => exact O.w z (List.mem_of_getElem? e)
section
variable {P : Program} {w : World} {K : PySem.W.Frag} {mg : Str → Option Value} {base : Heap}
def spSpreads (K : PySem.W.Frag) : Sp := fun vs H Q _ => ∃ (n : Nat) (wa : Addr) (ws : List Int), vs = [.int n, .ref wa] ∧ SqL K H wa (ws.map V.int) ∧ WsOk n ws ∧
  ∀ (H' : Hp) (p : Addr), Same H H' → H p = none → H' p = some (.lst ((sprs n ws (n * n)).map V.int)) → Q (.ref p) H'
theorem scSpreads : FnScope ["n", "weights", "sums", "common", "row_sum", "k", "weight"] ["n", "weights"] (defScope dSpreads) := ⟨rfl, rfl, rfl, by decide +kernel, rfl, by decide +kernel, by decide +kernel⟩
theorem ok_spreads {f : Addr} {fd : FuncData} (F : Fun K "spreads" "spreads" dSpreads f fd) (B : Blt mg) (Cs : Cal P w K mg base "row_sums" ["n", "weights"] 1 (spSums K)) : FnOk P w K mg base CX0 2 f fd ["n", "weights"] (spSpreads K) := by
  refine F.ok scSpreads (fun vs H Q E h => ?_) (fun cdv A outer s H vs Q E hr h => ?_)
  · obtain ⟨n, wa, ws, rfl, _⟩ := h
    rfl
  · obtain ⟨n, wa, ws, rfl, hS, O, k⟩ := h
    refine ⟨_, pss_cons (ps_set (i := 2) scSpreads.nd rfl (Or.inr rfl) (pe_cal Cs hr rfl (pa_cons (pv 0) (pa_cons (pv 1) pa_nil))))
      (pss_cons (ps_set (i := 3) scSpreads.nd rfl (Or.inr rfl) pe_int)
      (pss_cons (ps_for PassesOwn.never rfl (pi_list (pv 2)) (pg_name (i := 4) scSpreads.nd rfl (Or.inl rfl)) (pss_one (ps_set (i := 3) scSpreads.nd rfl (Or.inr rfl) (pe_op op_mul (pv 3) (pv 4)))))
      (pss_one (ps_ret (pe_lc (own := [("k", 5), ("weight", 6)]) (g := gTup K 2 (gCons (gName 5) (gCons (gName 6) gNil))) rfl scSpreads.nd (pi_enum rfl B.enum (pa_cons (pv 1) pa_nil))
        (blkOk_by (N := ["n", "weights", "sums", "common", "row_sum", "k", "weight"]) (sc := defScope dSpreads) (by decide +kernel))
        (fun s H C cl fp => pg_tup rfl (pgs_cons (pg_name (i := 5) scSpreads.nd rfl (Or.inl rfl)) (pgs_cons (pg_name (i := 6) scSpreads.nd rfl (Or.inl rfl)) pgs_nil))) (fun s H C cl fp => pts_nil)
        (fun s H C cl fp => pe_op op_mul (pv 6) (pe_op op_fdiv (pv 3) (pe_ix (r := rIxL K) ix_list (pv 2) (pe_op op_fdiv (pv 5) (pv 0)) (fun _ _ => rfl))))))))), ?_⟩
    refine ⟨_, rfl, _, rfl, n, wa, ws, rfl, hS, O.n5, O.len, fun H1 p sm hp hq => ?_⟩
    refine ⟨_, rfl, p, rfl, ⟨_, SqL.of hq⟩, for_list (K := K) (a := p) (xs := ((List.range n).map (rowS n ws)).map V.int) (fun i σ H' => H' = H1 ∧ ∃ v : Option V, σ = [some (.int n), some (.ref wa), some (.ref p), some (.int (com n ws i)), v, none, none]) ⟨rfl, none, rfl⟩ (fun i σ H' _ ⟨e, _⟩ => by rw [e]; exact SqL.of hq) ?_ ?_⟩
    · rintro i y σ H' hi ⟨rfl, v, rfl⟩
      have hin : i < n := by
        have := (List.getElem?_eq_some_iff.mp hi).1
        simpa using this
      obtain rfl : y = V.int (rowS n ws i) := by
        rw [List.getElem?_map, List.getElem?_map, List.getElem?_range hin] at hi
        exact (Option.some.inj hi).symm
      have hrow := O.row i hin
      exact ⟨_, rfl, _, rfl, _, _, rfl, rfl, .inr (by omega), rfl, some (.int (rowS n ws i)), rfl⟩
    · rintro σ H' ⟨rfl, v, rfl⟩
      rw [List.length_map, List.length_map, List.length_range]
      refine ⟨_, rfl, wa, _, rfl, sm.seq hS, fun D hD => ?_⟩
      have sD : Same H (upd H' D (.lst [])) := fun b o e => by rw [upd_ne (ne_of_none (sm b o e) hD)]; exact sm b o e
      refine lc_enum (K := K) (a := wa) (xs := ws.map V.int) (fun i H2 => Same H H2 ∧ H2 p = some (.lst (((List.range n).map (rowS n ws)).map V.int)) ∧ H2 D = some (.lst ((sprs n ws i).map V.int))) ⟨sD, by rw [upd_ne (ne_of_none hq hD)]; exact hq, upd_same⟩ (fun i H2 _ ⟨s2, _⟩ => s2.seq hS) ?_ ?_
      · rintro i y H2 T hi hT ⟨s2, hp2, hd2⟩
        have hil : i < ws.length := by
          have := (List.getElem?_eq_some_iff.mp hi).1
          simpa using this
        obtain rfl : y = V.int (ws.getD i 0) := by
          rw [at_int hil] at hi
          exact (Option.some.inj hi).symm
        have hkn : i / n < n := Nat.div_lt_of_lt_mul (by rw [← O.len]; exact hil)
        have hn0 : 0 < n := by have := O.n2; omega
        have hw := O.get i
        have hrow := O.row _ hkn
        have h5 := O.n5
        refine ⟨T, _, rfl, SqT.of upd_same, rfl, _, _, rfl, _, _, rfl, rfl, rfl, yes_in ?_⟩
        refine ⟨_, rfl, _, rfl, _, rfl, _, rfl, _, rfl, _, _, rfl, rfl, ⟨by show (0 : Int) < (n : Int); omega, by show (n : Int) < 1073741824; omega⟩, p, _, _, _, rfl, rfl,
          SqL.of ((upd_ne (ne_of_none hp2 hT)).trans hp2), at_of (j := i / n) (v := V.int (rowS n ws (i / n))) (by show (i : Int) / (n : Int) = ((i / n : Nat) : Int); rw [Int.natCast_ediv]) (by rw [List.getElem?_map, List.getElem?_map, List.getElem?_range hkn]; rfl),
          _, _, rfl, rfl, ⟨hrow.1, by have := hrow.2; omega⟩, _, _, rfl, rfl, .inl (by omega), _, (upd_ne (ne_of_none hd2 hT)).trans hd2, ?_, ?_, ?_, ?_⟩
        · unfold sprs
          rw [List.length_map, List.length_map, List.length_range, sizeLine_eq]
          have : ws.length ≤ 25 := by rw [O.len]; exact Nat.mul_le_mul h5 h5
          omega
        · intro b o e
          rw [upd_ne (ne_of_none (sm b o e) hD), upd_ne (ne_of_none (s2 b o e) hT)]
          exact s2 b o e
        · rw [upd_ne (ne_of_none hq hD), upd_ne (ne_of_none hp2 hT)]; exact hp2
        · rw [upd_same]
          unfold sprs
          rw [List.range_succ, List.map_append, List.map_append]
          rfl
      · rintro H2 ⟨s2, hp2, hd2⟩
        rw [List.length_map, O.len] at hd2
        exact k H2 D s2 (sm.free hD) hd2
end
open My (tot)
/-! ### the program's rates are the specification's step -/
theorem upTo_tot (f : Nat → Int) : ∀ n : Nat, ((upTo (fun i r => r + f i) 0 n : Int) : Rat) = tot n fun i => ((f i : Int) : Rat)
  | 0 => rfl
  | n + 1 => by
    show ((upTo (fun i r => r + f i) 0 n + f n : Int) : Rat) = tot n (fun i => ((f i : Int) : Rat)) + ((f n : Int) : Rat)
    rw [Rat.intCast_add, upTo_tot f n]
theorem com_pos {n : Nat} {ws : List Int} (O : WsOk n ws) : ∀ k, k ≤ n → 0 < com n ws k ∧ com n ws k ≤ 500 ^ k
  | 0, _ => ⟨by show (0 : Int) < 1; decide, by show (1 : Int) ≤ 500 ^ 0; decide⟩
  | k + 1, hk => by
    have ih := com_pos O k (by omega)
    have hr := O.row k (by omega)
    show 0 < com n ws k * rowS n ws k ∧ com n ws k * rowS n ws k ≤ 500 ^ (k + 1)
    refine ⟨Int.mul_pos ih.1 hr.1, ?_⟩
    rw [Int.pow_succ]
    exact Int.mul_le_mul ih.2 hr.2 (by omega) (by have := ih.1; have := ih.2; omega)
theorem com_dvd {n : Nat} {ws : List Int} {i : Nat} : ∀ k, i < k → rowS n ws i ∣ com n ws k
  | 0, h => by omega
  | k + 1, h => by
    show rowS n ws i ∣ com n ws k * rowS n ws k
    by_cases e : i = k
    · subst e; exact Int.dvd_mul_left _ _
    · exact Int.dvd_trans (com_dvd k (by omega)) (Int.dvd_mul_right _ _)
theorem com_max {n : Nat} {ws : List Int} (O : WsOk n ws) : com n ws n ≤ 31250000000000 := by
  have h := (com_pos O n (Nat.le_refl n)).2
  have h5 := O.n5
  have : n = 0 ∨ n = 1 ∨ n = 2 ∨ n = 3 ∨ n = 4 ∨ n = 5 := by omega
  rcases this with e | e | e | e | e | e <;> rw [e] at h ⊢ <;> omega
theorem sprs_get {n : Nat} {ws : List Int} {k : Nat} (h : k < n * n) : (sprs n ws (n * n)).getD k 0 = sprd n ws k := by
  unfold sprs
  rw [List.getD_eq_getElem?_getD, List.getElem?_map, List.getElem?_range h]; rfl
theorem div_ix {n i j : Nat} (hj : j < n) : (i * n + j) / n = i := by
  rw [Nat.mul_comm, Nat.mul_add_div (by omega), Nat.div_eq_of_lt hj, Nat.add_zero]
theorem sprd_le {n : Nat} {ws : List Int} (O : WsOk n ws) {i j : Nat} (hi : i < n) (hj : j < n) : 0 ≤ sprd n ws (i * n + j) ∧ sprd n ws (i * n + j) ≤ 3125000000000000 := by
  unfold sprd
  rw [div_ix hj]
  have h1 := O.get (i * n + j)
  have h2 := O.row i hi
  have h3 := com_pos O n (Nat.le_refl n)
  have h4 := com_max O
  have h5 : 0 ≤ com n ws n / rowS n ws i := Int.ediv_nonneg (by omega) (by omega)
  have h6 : com n ws n / rowS n ws i ≤ com n ws n := Int.ediv_le_self _ (by omega)
  refine ⟨Int.mul_nonneg h1.1 h5, ?_⟩
  have := Int.mul_le_mul h1.2 (show com n ws n / rowS n ws i ≤ 31250000000000 by omega) h5 (by decide)
  omega
theorem sprd_chance {n : Nat} {ws : List Int} (O : WsOk n ws) {i j : Nat} (hi : i < n) (hj : j < n) : ((sprd n ws (i * n + j) : Int) : Rat) = ((com n ws n : Int) : Rat) * Sf71.Net.chance ⟨n, ws⟩ i j := by
  unfold sprd
  rw [div_ix hj]
  have h2 := O.row i hi
  obtain ⟨q, hq⟩ := com_dvd (n := n) (ws := ws) n hi
  have e : com n ws n / rowS n ws i = q := by rw [hq]; exact Int.mul_ediv_cancel_left q (by omega)
  rw [e, hq]
  unfold Sf71.Net.chance
  rw [← rowS_row O.len hi]
  have ew : Sf71.Net.weight ⟨n, ws⟩ i j = ws.getD (i * n + j) 0 := by
    show ws.getD (n * i + j) 0 = _
    rw [Nat.mul_comm]
  rw [ew, Rat.intCast_mul, Rat.intCast_mul]
  have h3 : ((rowS n ws i : Int) : Rat) ≠ 0 := by
    have : (0 : Rat) < ((rowS n ws i : Int) : Rat) := by exact_mod_cast h2.1
    grind
  generalize ((rowS n ws i : Int) : Rat) = R at *
  grind
theorem sum_mul (q : Int) (f : Nat → Int) : ∀ l : List Nat, (l.map fun j => f j * q).sum = (l.map f).sum * q
  | [] => by simp
  | a :: l => by rw [List.map_cons, List.sum_cons, sum_mul q f l, List.map_cons, List.sum_cons, Int.add_mul]
theorem row_com {n : Nat} {ws : List Int} (O : WsOk n ws) {i : Nat} (hi : i < n) : (((sprs n ws (n * n)).drop (i * n)).take n).sum = com n ws n := by
  have hl : (sprs n ws (n * n)).length = n * n := by unfold sprs; rw [List.length_map, List.length_range]
  rw [take_row hl hi]
  have e : ((List.range n).map fun j => (sprs n ws (n * n)).getD (n * i + j) 0) = (List.range n).map fun j => ws.getD (n * i + j) 0 * (com n ws n / rowS n ws i) := List.map_congr_left fun j hj => by
    have hj := List.mem_range.mp hj
    rw [Nat.mul_comm n i, sprs_get (ix_lt hi hj)]
    unfold sprd
    rw [div_ix hj]
  rw [e, sum_mul, ← take_row O.len hi]
  exact Int.mul_ediv_cancel' (com_dvd n hi)
end Tk
set_option Elab.async false
set_option linter.all false
set_option maxRecDepth 100000
set_option maxHeartbeats 2000000
namespace Tk
open PySem PySem.Spec PyProof.Rows L2
open PySem.W (Codec)
abbrev dWhole : Stmt := top 9
abbrev dHolds : Stmt := top 10
abbrev dStrength : Stmt := top 7
abbrev dTargets : Stmt := top 13
abbrev dReached : Stmt := top 12
abbrev dJoined : Stmt := top 11
abbrev dRefusal : Stmt := top 4
section
variable {P : Program} {w : World} {K : PySem.W.Frag} {mg : Str → Option Value} {base : Heap}
/-! ### whole_set -/
def spWhole : Sp := fun vs H Q _ => ∃ n : Nat, vs = [.int n] ∧ n ≤ 5 ∧ Q (.int ((2 ^ n - 1 : Nat) : Int)) H
theorem scWhole : FnScope ["n"] ["n"] (defScope dWhole) := ⟨rfl, rfl, rfl, by decide +kernel, rfl, by decide +kernel, by decide +kernel⟩
theorem ok_whole {f : Addr} {fd : FuncData} (F : Fun K "whole_set" "whole_set" dWhole f fd) : FnOk P w K mg base CX0 1 f fd ["n"] spWhole := by
  refine F.ok scWhole (fun vs H Q E h => ?_) (fun cdv A outer s H vs Q E hr h => ?_)
  · obtain ⟨n, rfl, _⟩ := h
    rfl
  · obtain ⟨n, rfl, hn, k⟩ := h
    refine ⟨_, pss_one (ps_ret (pe_op op_sub (pe_op op_shl pe_int (pv 0)) pe_int)), ?_⟩
    refine ⟨_, rfl, _, _, rfl, rfl, ⟨by omega, by omega, by decide⟩, _, _, rfl, rfl, ?_⟩
    show Q (.int ((1 : Int) * 2 ^ ((n : Int)).toNat - 1)) H
    rw [shl_one]
    have := (pow_le hn).1
    have e : ((2 ^ n : Nat) : Int) - 1 = ((2 ^ n - 1 : Nat) : Int) := by omega
    rw [e]; exact k
/-! ### holds -/
def bit (s i : Nat) : Int := if s.testBit i = true then 1 else 0
def spHolds : Sp := fun vs H Q _ => ∃ s i : Nat, vs = [.int s, .int i] ∧ Q (.int (bit s i)) H
theorem scHolds : FnScope ["places", "i"] ["places", "i"] (defScope dHolds) := ⟨rfl, rfl, rfl, by decide +kernel, rfl, by decide +kernel, by decide +kernel⟩
theorem ok_holds {f : Addr} {fd : FuncData} (F : Fun K "holds" "holds" dHolds f fd) : FnOk P w K mg base CX0 1 f fd ["places", "i"] spHolds := by
  refine F.ok scHolds (fun vs H Q E h => ?_) (fun cdv A outer s H vs Q E hr h => ?_)
  · obtain ⟨n, i, rfl, _⟩ := h
    rfl
  · obtain ⟨n, i, rfl, k⟩ := h
    refine ⟨_, pss_one (ps_ret (pe_op op_and (pe_op op_shr (pv 0) (pv 1)) pe_int)), ?_⟩
    refine ⟨_, rfl, _, rfl, _, _, rfl, rfl, (by show (0 : Int) ≤ (i : Int); omega), _, _, rfl, rfl, ?_⟩
    show Q (.int (Builtin.bitAnd ((n : Int) / 2 ^ ((i : Int)).toNat) 1)) H
    rw [shr_bit]; exact k
/-! ### is_strength -/
def spStrength : Sp := fun vs H Q _ => ∃ x : Int, vs = [.int x] ∧ Q (.bl (Sf71.within x 1 100)) H
theorem scStrength : FnScope ["number"] ["number"] (defScope dStrength) := ⟨rfl, rfl, rfl, by decide +kernel, rfl, by decide +kernel, by decide +kernel⟩
theorem ok_strength {f : Addr} {fd : FuncData} (F : Fun K "is_strength" "is_strength" dStrength f fd) : FnOk P w K mg base CX0 1 f fd ["number"] spStrength := by
  refine F.ok scStrength (fun vs H Q E h => ?_) (fun cdv A outer s H vs Q E hr h => ?_)
  · obtain ⟨x, rfl, _⟩ := h
    rfl
  · obtain ⟨x, rfl, k⟩ := h
    refine ⟨_, pss_one (ps_ret (pe_and (pe_cmpR op_ge (pv 0) pe_int (nomark _)) (pe_one (pe_cmpR op_le (pv 0) pe_int (nomark _))))), ?_⟩
    refine ⟨_, rfl, _, _, rfl, rfl, _, rfl, ?_⟩
    unfold Sf71.within at k
    by_cases h : (1 : Int) ≤ x
    · rw [if_pos (by simpa using h)]
      refine ⟨_, rfl, _, _, rfl, rfl, ?_⟩
      have e : decide (((1 : Nat) : Int) ≤ x) = true := decide_eq_true h
      rw [e, Bool.true_and] at k
      exact k
    · rw [if_neg (by simpa using h)]
      have e : decide (((1 : Nat) : Int) ≤ x) = false := decide_eq_false h
      rw [e, Bool.false_and] at k
      exact k
/-! ### row_targets -/
def tgt (n : Nat) (ws : List Int) (i : Nat) : Nat → Nat := upTo (fun j t => if 0 < ws.getD (i * n + j) 0 then t ||| 2 ^ j else t) 0
def spTargets (K : PySem.W.Frag) : Sp := fun vs H Q _ => ∃ (n : Nat) (wa : Addr) (ws : List Int) (i : Nat), vs = [.int n, .ref wa, .int i] ∧ SqL K H wa (ws.map V.int) ∧ n ≤ 5 ∧ ws.length = n * n ∧ i < n ∧ Q (.int (tgt n ws i n : Nat)) H
theorem scTargets : FnScope ["n", "weights", "i", "targets", "j"] ["n", "weights", "i"] (defScope dTargets) := ⟨rfl, rfl, rfl, by decide +kernel, rfl, by decide +kernel, by decide +kernel⟩
theorem mul_small {i n : Nat} (hi : i < 5) : (-(2 ^ 64) < (i : Int) ∧ (i : Int) < 2 ^ 64) := by omega
theorem ok_targets {f : Addr} {fd : FuncData} (F : Fun K "row_targets" "row_targets" dTargets f fd) (B : Blt mg) : FnOk P w K mg base CX0 1 f fd ["n", "weights", "i"] (spTargets K) := by
  refine F.ok scTargets (fun vs H Q E h => ?_) (fun cdv A outer s H vs Q E hr h => ?_)
  · obtain ⟨n, wa, ws, i, rfl, _⟩ := h
    rfl
  · obtain ⟨n, wa, ws, i, rfl, hS, hn, hl, hi, k⟩ := h
    refine ⟨_, pss_cons (ps_set (i := 3) scTargets.nd rfl (Or.inl rfl) pe_int)
      (pss_cons (ps_for PassesOwn.never rfl (pi_range1 rfl B.range (pa_cons (pv 0) pa_nil)) (pg_name (i := 4) scTargets.nd rfl (Or.inl rfl))
        (pss_one (ps_if (pt_cmpR op_gt (pe_ix ix_list (pv 1) (pe_op op_add (pe_op op_mul (pv 2) (pv 0)) (pv 4)) (fun _ _ => rfl)) pe_int (nomark _))
          (pss_one (ps_set (i := 3) scTargets.nd rfl (Or.inl rfl) (pe_op op_or (pv 3) (pe_op op_shl pe_int (pv 4))))) pss_nil)))
      (pss_one (ps_ret (pv 3)))), ?_⟩
    refine ⟨_, rfl, _, rfl, by omega, by omega, ?_⟩
    rw [Int.toNat_natCast]
    refine for_range (n := n) (fun k σ H' => H' = H ∧ ∃ v, σ = [some (.int n), some (.ref wa), some (.int i), some (.int (tgt n ws i k : Nat)), v]) ⟨rfl, none, rfl⟩ ?_ ?_
    · rintro j σ H' hj ⟨rfl, v, rfl⟩
      have e0 : (0 : Int) + (j : Int) = (j : Int) := Int.zero_add _
      rw [e0]
      refine ⟨_, rfl, _, rfl, _, rfl, _, _, rfl, rfl, .inl (by omega), _, rfl, _, _, rfl, rfl, wa, _, _, _, rfl, rfl, hS, at_of (j := i * n + j) (v := V.int (ws.getD (i * n + j) 0)) (by
        show (i : Int) * (n : Int) + (j : Int) = ((i * n + j : Nat) : Int)
        rw [Int.natCast_add, Int.natCast_mul]) (at_int (by rw [hl]; exact ix_lt hi hj)), _, _, rfl, rfl, _, rfl, ?_⟩
      refine ite2 (fun h => ?_) (fun h => ?_)
      · have h' : 0 < ws.getD (i * n + j) 0 := of_decide_eq_true h
        refine ⟨_, rfl, _, rfl, _, _, rfl, rfl, ⟨by omega, by omega, by decide⟩, _, _, rfl, rfl, rfl, some (.int j), ?_⟩
        show [some (V.int n), some (.ref wa), some (.int i), some (V.int (Builtin.bitOr (tgt n ws i j : Nat) ((1 : Int) * 2 ^ ((j : Int)).toNat))), some (.int j)] = _
        rw [shl_one, bor_nat]
        have e : tgt n ws i (j + 1) = tgt n ws i j ||| 2 ^ j := by
          show (if 0 < ws.getD (i * n + j) 0 then _ else _) = _
          rw [if_pos h']; rfl
        rw [e]
      · have h' : ¬ 0 < ws.getD (i * n + j) 0 := fun z => h (decide_eq_true z)
        refine ⟨rfl, some (.int j), ?_⟩
        show [some (V.int n), some (.ref wa), some (.int i), some (V.int (tgt n ws i j : Nat)), some (.int j)] = _
        have e : tgt n ws i (j + 1) = tgt n ws i j := by
          show (if 0 < ws.getD (i * n + j) 0 then _ else _) = _
          rw [if_neg h']; rfl
        rw [e]
    · rintro σ H' ⟨rfl, v, rfl⟩
      exact ⟨_, rfl, k⟩
end
/-! ### the mathematics of the search -/
theorem tgt_bit (n : Nat) (ws : List Int) (i j : Nat) : ∀ k, (tgt n ws i k).testBit j = (decide (j < k) && decide (0 < ws.getD (i * n + j) 0))
  | 0 => by
    show (0 : Nat).testBit j = _
    rw [Nat.zero_testBit, decide_eq_false (by omega)]; rfl
  | k + 1 => by
    have ih := tgt_bit n ws i j k
    show (if 0 < ws.getD (i * n + k) 0 then tgt n ws i k ||| 2 ^ k else tgt n ws i k).testBit j = _
    by_cases h : 0 < ws.getD (i * n + k) 0
    · rw [if_pos h, Nat.testBit_or, ih, Nat.testBit_two_pow]
      by_cases e : k = j
      · subst e
        have : decide (k < k + 1) = true := decide_eq_true (by omega)
        rw [this, decide_eq_true h]; simp
      · have e1 : decide (j < k + 1) = decide (j < k) := by
          by_cases q : j < k
          · rw [decide_eq_true q, decide_eq_true (by omega)]
          · rw [decide_eq_false q, decide_eq_false (by omega)]
        rw [e1, decide_eq_false e, Bool.or_false]
    · rw [if_neg h, ih]
      by_cases e : k = j
      · subst e
        rw [decide_eq_false h]; simp
      · have e1 : decide (j < k + 1) = decide (j < k) := by
          by_cases q : j < k
          · rw [decide_eq_true q, decide_eq_true (by omega)]
          · rw [decide_eq_false q, decide_eq_false (by omega)]
        rw [e1]
def rin (n : Nat) (ws : List Int) (i R : Nat) : Nat := if R.testBit i = true then R ||| tgt n ws i n else R
def rnd (n : Nat) (ws : List Int) (R : Nat) : Nat → Nat := upTo (rin n ws) R
def rch (n : Nat) (ws : List Int) (s : Nat) : Nat → Nat := upTo (fun _ R => rnd n ws R n) (2 ^ s)
theorem rin_mono {n : Nat} {ws : List Int} {i R j : Nat} (h : R.testBit j = true) : (rin n ws i R).testBit j = true := by
  unfold rin
  split
  · rw [Nat.testBit_or, h]; rfl
  · exact h
theorem rnd_mono {n : Nat} {ws : List Int} {R j : Nat} (h : R.testBit j = true) : ∀ k, (rnd n ws R k).testBit j = true
  | 0 => h
  | k + 1 => rin_mono (rnd_mono h k)
theorem rnd_new {n : Nat} {ws : List Int} {R i j : Nat} (h : R.testBit i = true) (hj : j < n) (hw : 0 < ws.getD (i * n + j) 0) : ∀ k, i < k → (rnd n ws R k).testBit j = true
  | 0, hk => by omega
  | k + 1, hk => by
    by_cases e : k = i
    · subst e
      show (rin n ws k (rnd n ws R k)).testBit j = true
      unfold rin
      rw [if_pos (rnd_mono h k), Nat.testBit_or, tgt_bit, decide_eq_true hj, decide_eq_true hw]; simp
    · exact rin_mono (rnd_new h hj hw k (by omega))
theorem rin_in {n : Nat} {ws : List Int} {P : Nat → Prop} (hP : My.Shut ⟨n, ws⟩ P) {i R : Nat} (hi : i < n) (h : ∀ j, R.testBit j = true → j < n ∧ P j) : ∀ j, (rin n ws i R).testBit j = true → j < n ∧ P j := by
  intro j hj
  unfold rin at hj
  by_cases e : R.testBit i = true
  · rw [if_pos e, Nat.testBit_or, Bool.or_eq_true] at hj
    rcases hj with hj | hj
    · exact h j hj
    · rw [tgt_bit, Bool.and_eq_true, decide_eq_true_eq, decide_eq_true_eq] at hj
      refine ⟨hj.1, hP i j hi hj.1 (h i e).2 ?_⟩
      show 0 < ws.getD (n * i + j) 0
      rw [Nat.mul_comm]; exact hj.2
  · rw [if_neg e] at hj
    exact h j hj
theorem rnd_in {n : Nat} {ws : List Int} {P : Nat → Prop} (hP : My.Shut ⟨n, ws⟩ P) {R : Nat} (h : ∀ j, R.testBit j = true → j < n ∧ P j) : ∀ k, k ≤ n → ∀ j, (rnd n ws R k).testBit j = true → j < n ∧ P j
  | 0, _ => h
  | k + 1, hk => rin_in hP (by omega) (rnd_in hP h k (by omega))
theorem rch_in {n : Nat} {ws : List Int} {P : Nat → Prop} (hP : My.Shut ⟨n, ws⟩ P) {s : Nat} (hs : s < n) (ps : P s) : ∀ k, ∀ j, (rch n ws s k).testBit j = true → j < n ∧ P j
  | 0, j, hj => by
    have e : s = j := by
      have hj : (2 ^ s).testBit j = true := hj
      rw [Nat.testBit_two_pow] at hj
      exact of_decide_eq_true hj
    subst e; exact ⟨hs, ps⟩
  | k + 1, j, hj => rnd_in hP (rch_in hP hs ps k) n (Nat.le_refl n) j hj
theorem rch_big {n : Nat} {ws : List Int} {s : Nat} (hs : s < n) : ∀ k, ∀ j, j ∈ Sf96.reached ⟨n, ws⟩ k [s] → (rch n ws s k).testBit j = true
  | 0, j, hj => by
    have e : j = s := by simpa [Sf96.reached] using hj
    subst e
    show (2 ^ j).testBit j = true
    rw [Nat.testBit_two_pow]; simp
  | k + 1, j, hj => by
    rw [My.reached_back, My.mem_rstep] at hj
    obtain ⟨hn, hj⟩ := hj
    rcases hj with hj | ⟨i, hi, hw⟩
    · exact rnd_mono (rch_big hs k j hj) n
    · have hin : i < n := My.reached_lt (N := ⟨n, ws⟩) hs k hi
      refine rnd_new (rch_big hs k i hi) hn ?_ n hin
      have hw : 0 < ws.getD (n * i + j) 0 := hw
      rw [Nat.mul_comm]; exact hw
theorem rch_full {n : Nat} {ws : List Int} {s : Nat} (hs : s < n) : rch n ws s n = 2 ^ n - 1 ↔ ∀ j, j < n → (rch n ws s n).testBit j = true := by
  have hin := rch_in (n := n) (ws := ws) (P := fun _ => True) (fun _ _ _ _ _ _ => trivial) hs trivial n
  constructor
  · intro h j hj
    rw [h, Nat.testBit_two_pow_sub_one, decide_eq_true hj]
  · intro h
    refine Nat.eq_of_testBit_eq fun j => ?_
    rw [Nat.testBit_two_pow_sub_one]
    by_cases hj : j < n
    · rw [h j hj, decide_eq_true hj]
    · rw [decide_eq_false hj]
      cases e : (rch n ws s n).testBit j with
      | false => rfl
      | true => exact absurd (hin j e).1 hj
theorem joined_rch {n : Nat} {ws : List Int} (h0 : 0 < n) : Sf96.joined ⟨n, ws⟩ = true ↔ ∀ s, s < n → rch n ws s n = 2 ^ n - 1 := by
  rw [My.joined_of_search (N := ⟨n, ws⟩) h0 (fun s j => (rch n ws s n).testBit j = true) (fun s hs j hj => rch_big hs n j hj) (fun s hs P hP ps j _ hj => (rch_in hP hs ps n j hj).2)]
  exact ⟨fun h s hs => (rch_full hs).mpr (h s hs), fun h s hs => (rch_full hs).mp (h s hs)⟩
section
variable {P : Program} {w : World} {K : PySem.W.Frag} {mg : Str → Option Value} {base : Heap}
/-! ### reached_from -/
def spReached (K : PySem.W.Frag) : Sp := fun vs H Q _ => ∃ (n : Nat) (wa : Addr) (ws : List Int) (s : Nat), vs = [.int n, .ref wa, .int s] ∧ SqL K H wa (ws.map V.int) ∧ n ≤ 5 ∧ ws.length = n * n ∧ s < n ∧ Q (.int (rch n ws s n : Nat)) H
theorem scReached : FnScope ["n", "weights", "start", "reached", "length", "i"] ["n", "weights", "start"] (defScope dReached) := ⟨rfl, rfl, rfl, by decide +kernel, rfl, by decide +kernel, by decide +kernel⟩
theorem ok_reached {f : Addr} {fd : FuncData} (F : Fun K "reached_from" "reached_from" dReached f fd) (B : Blt mg) (Ch : Cal P w K mg base "holds" ["places", "i"] 1 spHolds) (Ct : Cal P w K mg base "row_targets" ["n", "weights", "i"] 1 (spTargets K)) :
    FnOk P w K mg base CX0 2 f fd ["n", "weights", "start"] (spReached K) := by
  refine F.ok scReached (fun vs H Q E h => ?_) (fun cdv A outer s H vs Q E hr h => ?_)
  · obtain ⟨n, wa, ws, i, rfl, _⟩ := h
    rfl
  · obtain ⟨n, wa, ws, st, rfl, hS, hn, hl, hst, k⟩ := h
    refine ⟨_, pss_cons (ps_set (i := 3) scReached.nd rfl (Or.inl rfl) (pe_op op_shl pe_int (pv 2)))
      (pss_cons (ps_for PassesOwn.never rfl (pi_range1 rfl B.range (pa_cons (pv 0) pa_nil)) (pg_name (i := 4) scReached.nd rfl (Or.inl rfl))
        (pss_one (ps_for PassesOwn.never rfl (pi_range1 rfl B.range (pa_cons (pv 0) pa_nil)) (pg_name (i := 5) scReached.nd rfl (Or.inl rfl))
          (pss_one (ps_if (pt_cmpR op_eq (pe_cal Ch hr rfl (pa_cons (pv 3) (pa_cons (pv 5) pa_nil))) pe_int (nomark _))
            (pss_one (ps_set (i := 3) scReached.nd rfl (Or.inl rfl) (pe_op op_or (pv 3) (pe_cal Ct hr rfl (pa_cons (pv 0) (pa_cons (pv 1) (pa_cons (pv 5) pa_nil))))))) pss_nil)))))
      (pss_one (ps_ret (pv 3)))), ?_⟩
    refine ⟨_, rfl, _, _, rfl, rfl, ⟨by omega, by omega, by decide⟩, _, rfl, _, rfl, by omega, by omega, ?_⟩
    rw [Int.toNat_natCast]
    refine for_range (n := n) (fun k σ H' => H' = H ∧ ∃ v v', σ = [some (.int n), some (.ref wa), some (.int st), some (.int (rch n ws st k : Nat)), v, v']) ⟨rfl, none, none, ?_⟩ ?_ ?_
    · show [some (V.int n), some (.ref wa), some (.int st), some (V.int ((1 : Int) * 2 ^ ((st : Int)).toNat)), none, none] = _
      rw [shl_one]; rfl
    · rintro L σ H' hL ⟨rfl, v, v', rfl⟩
      refine ⟨_, rfl, _, rfl, by omega, by omega, ?_⟩
      rw [Int.toNat_natCast]
      refine for_range (n := n) (fun k σ H'' => H'' = H' ∧ ∃ v v', σ = [some (.int n), some (.ref wa), some (.int st), some (.int (rnd n ws (rch n ws st L) k : Nat)), v, v']) ⟨rfl, _, _, rfl⟩ ?_ ?_
      · rintro i σ H'' hi ⟨rfl, v, v', rfl⟩
        have e0 : (0 : Int) + (i : Int) = (i : Int) := Int.zero_add _
        rw [e0]
        refine ⟨_, rfl, _, rfl, _, i, rfl, rfl, _, rfl, ?_⟩
        have eb : ∀ R : Nat, (V.int (bit R i) = V.int 1) ↔ R.testBit i = true := fun R => by
          unfold bit
          by_cases q : R.testBit i = true
          · rw [if_pos q]; exact ⟨fun _ => q, fun _ => rfl⟩
          · rw [if_neg q]
            exact ⟨fun z => absurd (V.int.inj z) (by decide), fun z => absurd z q⟩
        refine ite2 (fun h => ?_) (fun h => ?_)
        · have h' := (eb _).mp (of_decide_eq_true h)
          refine ⟨_, rfl, _, rfl, _, rfl, _, rfl, n, wa, ws, i, rfl, hS, hn, hl, hi, _, _, rfl, rfl, rfl, v, some (.int i), ?_⟩
          show [some (V.int n), some (.ref wa), some (.int st), some (V.int (Builtin.bitOr (rnd n ws (rch n ws st L) i : Nat) (tgt n ws i n : Nat))), v, some (.int i)] = _
          rw [bor_nat]
          have e : rnd n ws (rch n ws st L) (i + 1) = rnd n ws (rch n ws st L) i ||| tgt n ws i n := by
            exact if_pos h'
          rw [e]
        · have h' : ¬ (rnd n ws (rch n ws st L) i).testBit i = true := fun z => h (decide_eq_true ((eb _).mpr z))
          refine ⟨rfl, v, some (.int i), ?_⟩
          show [some (V.int n), some (.ref wa), some (.int st), some (V.int (rnd n ws (rch n ws st L) i : Nat)), v, some (.int i)] = _
          have e : rnd n ws (rch n ws st L) (i + 1) = rnd n ws (rch n ws st L) i := by
            exact if_neg h'
          rw [e]
      · rintro σ H'' ⟨rfl, v, v', rfl⟩
        exact ⟨rfl, v, v', rfl⟩
    · rintro σ H' ⟨rfl, v, v', rfl⟩
      exact ⟨_, rfl, k⟩
/-! ### are_joined -/
def spJoined (K : PySem.W.Frag) : Sp := fun vs H Q _ => ∃ (n : Nat) (wa : Addr) (ws : List Int), vs = [.int n, .ref wa] ∧ SqL K H wa (ws.map V.int) ∧ 0 < n ∧ n ≤ 5 ∧ ws.length = n * n ∧ Q (.bl (Sf96.joined ⟨n, ws⟩)) H
theorem scJoined : FnScope ["n", "weights", "start"] ["n", "weights"] (defScope dJoined) := ⟨rfl, rfl, rfl, by decide +kernel, rfl, by decide +kernel, by decide +kernel⟩
theorem ok_joined {f : Addr} {fd : FuncData} (F : Fun K "are_joined" "are_joined" dJoined f fd) (B : Blt mg) (Cr : Cal P w K mg base "reached_from" ["n", "weights", "start"] 2 (spReached K)) (Cw : Cal P w K mg base "whole_set" ["n"] 1 spWhole) :
    FnOk P w K mg base CX0 3 f fd ["n", "weights"] (spJoined K) := by
  refine F.ok scJoined (fun vs H Q E h => ?_) (fun cdv A outer s H vs Q E hr h => ?_)
  · obtain ⟨n, wa, ws, rfl, _⟩ := h
    rfl
  · obtain ⟨n, wa, ws, rfl, hS, h0, hn, hl, k⟩ := h
    refine ⟨_, pss_cons (ps_for PassesOwn.never rfl (pi_range1 rfl B.range (pa_cons (pv 0) pa_nil)) (pg_name (i := 2) scJoined.nd rfl (Or.inl rfl))
        (pss_one (ps_if (pt_cmpR op_ne (pe_cal Cr hr rfl (pa_cons (pv 0) (pa_cons (pv 1) (pa_cons (pv 2) pa_nil)))) (pe_cal Cw (hr.mono (by decide)) rfl (pa_cons (pv 0) pa_nil)) (nomark _))
          (pss_one (ps_ret pe_bl)) pss_nil)))
      (pss_one (ps_ret pe_bl)), ?_⟩
    refine ⟨_, rfl, _, rfl, by omega, by omega, ?_⟩
    rw [Int.toNat_natCast]
    refine for_range (n := n) (fun k σ H' => H' = H ∧ (∀ s, s < k → rch n ws s n = 2 ^ n - 1) ∧ ∃ v, σ = [some (.int n), some (.ref wa), v]) ⟨rfl, fun s hs => by omega, none, rfl⟩ ?_ ?_
    · rintro st σ H' hst ⟨rfl, hall, v, rfl⟩
      have e0 : (0 : Int) + (st : Int) = (st : Int) := Int.zero_add _
      rw [e0]
      refine ⟨_, rfl, _, rfl, _, rfl, n, wa, ws, st, rfl, hS, hn, hl, hst, _, rfl, n, rfl, hn, rfl, _, rfl, ?_⟩
      by_cases e : rch n ws st n = 2 ^ n - 1
      · rw [e]
        refine iteNS rfl ?_
        refine ⟨rfl, fun s hs => ?_, some (.int st), rfl⟩
        by_cases q : s = st
        · subst q; exact e
        · exact hall s (by omega)
      · have e' : ¬ V.int ((rch n ws st n : Nat) : Int) = V.int ((2 ^ n - 1 : Nat) : Int) := fun z => by
          injection z with z
          exact e (by exact_mod_cast z)
        refine iteTrue (by rw [decide_eq_false e']; rfl) ?_
        have ej : Sf96.joined ⟨n, ws⟩ = false := by
          cases q : Sf96.joined ⟨n, ws⟩ with
          | false => rfl
          | true => exact absurd ((joined_rch h0).mp q st hst) e
        rw [ej] at k
        exact k
    · rintro σ H' ⟨rfl, hall, v, rfl⟩
      have ej : Sf96.joined ⟨n, ws⟩ = true := (joined_rch h0).mpr hall
      rw [ej] at k
      exact k
/-! ### refusal_of -/
def refOf (n a b s : Int) (ws : List Int) : Int := if (Sf96.bothOk n a b ws && Sf71.inside n s) = false then -1 else if Sf96.joined (Sf71.net n ws) = false then -2 else 0
def spRefusal (K : PySem.W.Frag) : Sp := fun vs H Q _ => ∃ (n a b s : Int) (wa : Addr) (ws : List Int), vs = [.int n, .int a, .int b, .int s, .ref wa] ∧ SqL K H wa (ws.map V.int) ∧ ∀ H' : Hp, Same H H' → Q (.int (refOf n a b s ws)) H'
theorem scRefusal : FnScope ["n", "a", "b", "s", "weights"] ["n", "a", "b", "s", "weights"] (defScope dRefusal) := ⟨rfl, rfl, rfl, by decide +kernel, rfl, by decide +kernel, by decide +kernel⟩
theorem ok_refusal {f : Addr} {fd : FuncData} (F : Fun K "refusal_of" "refusal_of" dRefusal f fd) (Cf : Cal P w K mg base "weights_fit" ["n", "weights"] 2 (spFit K)) (Cg : Cal P w K mg base "is_strength" ["number"] 1 spStrength)
    (Cw : Cal P w K mg base "whole_set" ["n"] 1 spWhole) (Cj : Cal P w K mg base "are_joined" ["n", "weights"] 3 (spJoined K)) : FnOk P w K mg base CX0 4 f fd ["n", "a", "b", "s", "weights"] (spRefusal K) := by
  refine F.ok scRefusal (fun vs H Q E h => ?_) (fun cdv A outer s H vs Q E hr h => ?_)
  · obtain ⟨n, a, b, s, wa, ws, rfl, _⟩ := h
    rfl
  · obtain ⟨n, a, b, s, wa, ws, rfl, hS, k⟩ := h
    refine ⟨_, pss_cons (ps_if (PW.pt (pw_or (pt_not (pt_val (pe_cal Cf (hr.mono (by decide)) rfl (pa_cons (pv 0) (pa_cons (pv 4) pa_nil))))) (pw_or (pt_not (pt_val (pe_cal Cg (hr.mono (by decide)) rfl (pa_cons (pv 1) pa_nil)))) (pw_or1 (pt_not (pt_val (pe_cal Cg (hr.mono (by decide)) rfl (pa_cons (pv 2) pa_nil))))))))
        (pss_one (ps_ret (pe_un un_neg pe_int))) pss_nil)
      (pss_cons (ps_if (PW.pt (pw_or (pt_cmpR op_lt (pv 3) pe_int (nomark _)) (pw_or1 (pt_cmpR op_gt (pv 3) (pe_cal Cw (hr.mono (by decide)) rfl (pa_cons (pv 0) pa_nil)) (nomark _))))) (pss_one (ps_ret (pe_un un_neg pe_int))) pss_nil)
      (pss_cons (ps_if (pt_not (pt_val (pe_cal Cj hr rfl (pa_cons (pv 0) (pa_cons (pv 4) pa_nil))))) (pss_one (ps_ret (pe_un un_neg pe_int))) pss_nil)
      (pss_one (ps_ret pe_int)))), ?_⟩
    refine ⟨_, rfl, _, rfl, n, wa, ws, rfl, hS, fun H1 sm => ?_⟩
    have k1 := k H1 sm
    unfold refOf at k1
    unfold Sf96.bothOk at k1
    refine ⟨_, rfl, ?_⟩
    cases hf : Sf96.netOk n ws with
    | false =>
      rw [hf] at k1
      refine iteTrue rfl (iteTrue rfl ⟨_, rfl, ?_⟩)
      exact k1
    | true =>
      rw [hf, Bool.true_and] at k1
      obtain ⟨h2, h5, hl, hw, hrow⟩ := fit_iff.mp hf
      obtain ⟨m, rfl⟩ : ∃ m : Nat, n = (m : Int) := ⟨n.toNat, by omega⟩
      rw [Int.toNat_natCast] at hl
      refine iteFalse rfl ?_
      refine ⟨_, rfl, a, rfl, _, rfl, ?_⟩
      have ef : Sf71.FIT = 100 := rfl
      rw [ef] at k1
      cases ha : Sf71.within a 1 100 with
      | false =>
        rw [ha] at k1
        refine iteTrue rfl (iteTrue rfl ⟨_, rfl, ?_⟩)
        exact k1
      | true =>
        rw [ha, Bool.true_and] at k1
        refine iteFalse rfl ?_
        refine ⟨_, rfl, b, rfl, _, rfl, ?_⟩
        cases hb : Sf71.within b 1 100 with
        | false =>
          rw [hb] at k1
          refine iteTrue rfl ⟨_, rfl, ?_⟩
          exact k1
        | true =>
          rw [hb, Bool.true_and] at k1
          refine iteFalse rfl ?_
          refine ⟨_, rfl, _, _, rfl, rfl, _, rfl, ?_⟩
          have hp := pow_le (show m ≤ 5 by omega)
          have ein : Sf71.inside (m : Int) s = (decide (0 ≤ s) && decide (s < ((2 ^ m : Nat) : Int))) := by
            unfold Sf71.inside
            rw [Int.toNat_natCast]
          rw [ein] at k1
          by_cases hs : s < 0
          · refine iteTrue (decide_eq_true hs) (iteTrue rfl ⟨_, rfl, ?_⟩)
            rw [decide_eq_false (by omega), Bool.false_and] at k1
            exact k1
          · refine iteFalse (decide_eq_false hs) ?_
            rw [decide_eq_true (by omega : 0 ≤ s), Bool.true_and] at k1
            refine ⟨_, rfl, _, rfl, m, rfl, by omega, _, _, rfl, rfl, _, rfl, ?_⟩
            by_cases hs2 : ((2 ^ m - 1 : Nat) : Int) < s
            · refine iteTrue (decide_eq_true hs2) ⟨_, rfl, ?_⟩
              rw [decide_eq_false (by omega)] at k1
              exact k1
            · refine iteFalse (decide_eq_false hs2) ?_
              rw [decide_eq_true (by omega), if_neg (by decide)] at k1
              refine ⟨_, rfl, _, rfl, m, wa, ws, rfl, sm.seq hS, by omega, by omega, hl, _, rfl, ?_⟩
              have en : Sf71.net (m : Int) ws = ⟨m, ws⟩ := rfl
              rw [en] at k1
              cases hj : Sf96.joined ⟨m, ws⟩ with
              | false =>
                rw [hj] at k1
                refine iteTrue rfl ⟨_, rfl, ?_⟩
                exact k1
              | true =>
                rw [hj] at k1
                refine iteFalse rfl ?_
                exact k1
end
end Tk
set_option Elab.async false
set_option linter.all false
set_option maxRecDepth 100000
set_option maxHeartbeats 2000000
namespace Tk
open PySem PySem.Spec PyProof.Rows L2
open PySem.W (Codec)
abbrev dRate : Stmt := top 15
abbrev dMixed : Stmt := top 17
abbrev dFactors : Stmt := top 19
section
variable {P : Program} {w : World} {K : PySem.W.Frag} {mg : Str → Option Value} {base : Heap}
/-! ### change_rate -/
def strg (a b st j : Nat) : Nat := if st.testBit j = true then b else a
def rateF (n a b : Nat) (sp : List Int) (st j : Nat) : Nat → Int := upTo (fun i r => if st.testBit i = st.testBit j then r else r + (strg a b st j : Nat) * sp.getD (i * n + j) 0) 0
def spRate (K : PySem.W.Frag) : Sp := fun vs H Q _ => ∃ (n a b : Nat) (sa : Addr) (sp : List Int) (st j : Nat), vs = [.int n, .int a, .int b, .ref sa, .int st, .int j] ∧ SqL K H sa (sp.map V.int) ∧ n ≤ 5 ∧ a ≤ 100 ∧ b ≤ 100 ∧ sp.length = n * n ∧ j < n ∧ Q (.int (rateF n a b sp st j n)) H
theorem scRate : FnScope ["n", "a", "b", "spread", "state", "j", "strength", "rate", "i"] ["n", "a", "b", "spread", "state", "j"] (defScope dRate) := ⟨rfl, rfl, rfl, by decide +kernel, rfl, by decide +kernel, by decide +kernel⟩
theorem bit_eq {s i : Nat} : V.int (bit s i) = V.int 1 ↔ s.testBit i = true := by
  unfold bit
  by_cases q : s.testBit i = true
  · rw [if_pos q]; exact ⟨fun _ => q, fun _ => rfl⟩
  · rw [if_neg q]
    exact ⟨fun z => absurd (V.int.inj z) (by decide), fun z => absurd z q⟩
theorem bit_eq2 {s i j : Nat} : V.int (bit s i) = V.int (bit s j) ↔ s.testBit i = s.testBit j := by
  unfold bit
  cases h1 : s.testBit i <;> cases h2 : s.testBit j <;> simp
theorem ok_rate {f : Addr} {fd : FuncData} (F : Fun K "change_rate" "change_rate" dRate f fd) (B : Blt mg) (Ch : Cal P w K mg base "holds" ["places", "i"] 1 spHolds) : FnOk P w K mg base CX0 2 f fd ["n", "a", "b", "spread", "state", "j"] (spRate K) := by
  refine F.ok scRate (fun vs H Q E h => ?_) (fun cdv A outer s H vs Q E hr h => ?_)
  · obtain ⟨n, a, b, sa, sp, st, j, rfl, _⟩ := h
    rfl
  · obtain ⟨n, a, b, sa, sp, st, j, rfl, hS, hn, ha, hb, hl, hj, k⟩ := h
    refine ⟨_, pss_cons (ps_set (i := 6) scRate.nd rfl (Or.inl rfl) (pe_ifExp (pt_cmpR op_eq (pe_cal Ch hr rfl (pa_cons (pv 4) (pa_cons (pv 5) pa_nil))) pe_int (nomark _)) (pv 2) (pv 1)))
      (pss_cons (ps_set (i := 7) scRate.nd rfl (Or.inl rfl) pe_int)
      (pss_cons (ps_for PassesOwn.never rfl (pi_range1 rfl B.range (pa_cons (pv 0) pa_nil)) (pg_name (i := 8) scRate.nd rfl (Or.inl rfl))
        (pss_one (ps_if (pt_cmpR op_ne (pe_cal Ch hr rfl (pa_cons (pv 4) (pa_cons (pv 8) pa_nil))) (pe_cal Ch hr rfl (pa_cons (pv 4) (pa_cons (pv 5) pa_nil))) (nomark _))
          (pss_one (ps_set (i := 7) scRate.nd rfl (Or.inl rfl) (pe_op op_add (pv 7) (pe_op op_mul (pv 6) (pe_ix ix_list (pv 3) (pe_op op_add (pe_op op_mul (pv 8) (pv 0)) (pv 5)) (fun _ _ => rfl)))))) pss_nil)))
      (pss_one (ps_ret (pv 7))))), ?_⟩
    refine ⟨_, rfl, _, rfl, st, j, rfl, rfl, _, rfl, ?_⟩
    have go : ∀ sg : Nat, sg = strg a b st j → (tSeq (tAsg (tC (V.int 0)) (gName 7)) (tSeq (tFor (iRng1 (tCons (tVar 0) tNil)) (gName 8)
        (tIfS (tTest (tOp rNe (tCall spHolds [] E0 (tCons (tVar 4) (tCons (tVar 8) tNil))) (tCall spHolds [] E0 (tCons (tVar 4) (tCons (tVar 5) tNil)))))
          (tAsg (tOp (rI0 fun i j => V.int (i + j)) (tVar 7) (tOp (rI CMul fun i j => V.int (i * j)) (tVar 6) (tOp (rIxL K) (tVar 3) (tOp (rI0 fun i j => V.int (i + j)) (tOp (rI CMul fun i j => V.int (i * j)) (tVar 8) (tVar 0)) (tVar 5))))) (gName 7)) tNext))
        (tRet (tVar 7)))) { nx := fun _ H' => Q .non H', rt := Q } [some (.int n), some (.int a), some (.int b), some (.ref sa), some (.int st), some (.int j), some (.int sg), none, none] H := by
      rintro sg rfl
      have hsg : strg a b st j ≤ 100 := by unfold strg; split <;> assumption
      refine ⟨_, rfl, _, rfl, by omega, by omega, ?_⟩
      rw [Int.toNat_natCast]
      refine for_range (n := n) (fun i σ H' => H' = H ∧ ∃ v, σ = [some (.int n), some (.int a), some (.int b), some (.ref sa), some (.int st), some (.int j), some (.int (strg a b st j : Nat)), some (.int (rateF n a b sp st j i)), v]) ⟨rfl, none, rfl⟩ ?_ ?_
      · rintro i σ H' hi ⟨rfl, v, rfl⟩
        have e0 : (0 : Int) + (i : Int) = (i : Int) := Int.zero_add _
        rw [e0]
        refine ⟨_, rfl, _, rfl, st, i, rfl, _, rfl, _, rfl, st, j, rfl, rfl, _, rfl, ?_⟩
        by_cases h : st.testBit i = st.testBit j
        · refine iteFalse (by rw [decide_eq_true (bit_eq2.mpr h)]; rfl) ?_
          refine ⟨rfl, some (.int i), ?_⟩
          have e : rateF n a b sp st j (i + 1) = rateF n a b sp st j i := by
            exact if_pos h
          rw [e]; rfl
        · refine iteTrue (by rw [decide_eq_false (fun z => h (bit_eq2.mp z))]; rfl) ?_
          refine ⟨_, rfl, _, rfl, _, rfl, _, rfl, _, rfl, _, _, rfl, rfl, .inl (by omega), _, rfl, _, _, rfl, rfl, sa, _, _, _, rfl, rfl, hS, at_of (j := i * n + j) (v := V.int (sp.getD (i * n + j) 0)) (by
            show (i : Int) * (n : Int) + (j : Int) = ((i * n + j : Nat) : Int)
            rw [Int.natCast_add, Int.natCast_mul]) (at_int (by rw [hl]; exact ix_lt hi hj)), _, _, rfl, rfl, .inl (by omega), _, _, rfl, rfl, rfl, some (.int i), ?_⟩
          have e : rateF n a b sp st j (i + 1) = rateF n a b sp st j i + (strg a b st j : Nat) * sp.getD (i * n + j) 0 := by
            exact if_neg h
          rw [e]; rfl
      · rintro σ H' ⟨rfl, v, rfl⟩
        exact ⟨_, rfl, k⟩
    by_cases h : st.testBit j = true
    · refine iteTrue (decide_eq_true (bit_eq.mpr h)) ?_
      refine ⟨_, rfl, ?_⟩
      exact go b (by unfold strg; rw [if_pos h])
    · refine iteFalse (decide_eq_false fun z => h (bit_eq.mp z)) ?_
      refine ⟨_, rfl, ?_⟩
      exact go a (by unfold strg; rw [if_neg h])
end
/-- the other kind at j -/
def fp (s j : Nat) : Nat := if s.testBit j = true then s - 2 ^ j else s + 2 ^ j
theorem xor_all : ∀ s : Nat, s < 32 → ∀ j : Nat, j < 5 → Builtin.bitXor (s : Int) ((2 ^ j : Nat) : Int) = ((fp s j : Nat) : Int) := by decide +kernel
theorem fp_all : ∀ n : Nat, n < 6 → ∀ s : Nat, s < 2 ^ n → ∀ j : Nat, j < n → fp s j < 2 ^ n := by decide +kernel
theorem ixN_nat {n k : Nat} (h : k < n) : ixN n (k : Int) = some k := by
  unfold ixN
  rw [if_pos (by omega), if_pos (by omega)]; simp
/-! ### the states in their order, and their columns -/
def rest_ (s : Nat) (i : Nat) : List Nat := ((List.range i).map (· + 1)).filter fun t => decide (t ≠ s)
def sts (n s : Nat) : List Nat := s :: rest_ s (2 ^ n - 2)
def stsChk (n s : Nat) : Bool := decide ((sts n s).length = 2 ^ n - 2) && (decide ((sts n s).Nodup) && (List.range (2 ^ n - 1)).all fun t => decide (t = 0) || decide (t ∈ sts n s))
theorem sts_chk : ∀ n : Nat, n < 6 → ∀ s : Nat, s < 2 ^ n - 1 → 0 < s → stsChk n s = true := by decide +kernel
theorem sts_facts (n : Nat) (hn : n < 6) (s : Nat) (h1 : s < 2 ^ n - 1) (h0 : 0 < s) : (sts n s).length = 2 ^ n - 2 ∧ (sts n s).Nodup ∧ ∀ t : Nat, t < 2 ^ n - 1 → 0 < t → t ∈ sts n s := by
  have h := sts_chk n hn s h1 h0
  unfold stsChk at h
  rw [Bool.and_eq_true, Bool.and_eq_true, decide_eq_true_eq, decide_eq_true_eq, List.all_eq_true] at h
  refine ⟨h.1, h.2.1, fun t ht h0 => ?_⟩
  have := h.2.2 t (List.mem_range.mpr ht)
  rw [Bool.or_eq_true, decide_eq_true_eq, decide_eq_true_eq] at this
  rcases this with e | e
  · omega
  · exact e
theorem sts_mem {n s t : Nat} (hs : 0 < s) (hs1 : s < 2 ^ n - 1) (h : t ∈ sts n s) : 0 < t ∧ t < 2 ^ n - 1 := by
  rcases List.mem_cons.mp h with e | e
  · subst e; exact ⟨hs, hs1⟩
  · obtain ⟨e1, _⟩ := List.mem_filter.mp e
    obtain ⟨i, hi, rfl⟩ := List.mem_map.mp e1
    have := List.mem_range.mp hi
    omega
theorem getD_lt {l : List Nat} {j : Nat} (h : j < l.length) : l.getD j 0 = l[j] := by
  rw [List.getD_eq_getElem?_getD, List.getElem?_eq_getElem h]; rfl
def nats (l : List Nat) : List V := l.map fun t => V.int ((t : Nat) : Int)
theorem nats_get {l : List Nat} {i : Nat} {y : V} (h : (nats l)[i]? = some y) : i < l.length ∧ y = V.int ((l.getD i 0 : Nat) : Int) := by
  unfold nats at h
  rw [List.getElem?_map] at h
  have hi : i < l.length := by
    rcases Nat.lt_or_ge i l.length with q | q
    · exact q
    · rw [List.getElem?_eq_none_iff.mpr q] at h; cases h
  rw [List.getElem?_eq_getElem hi] at h
  exact ⟨hi, by rw [getD_lt hi]; exact (Option.some.inj h).symm⟩
/-- the column of a state -/
def colOf (l : List Nat) (t : Nat) : Nat := l.idxOf t
theorem before_idx {t : Nat} : ∀ {l : List Nat} {m : Nat}, m < l.idxOf t → l.getD m 0 ≠ t
  | [], m, h => by
    have h : m < 0 := h
    omega
  | y :: l, m, h => by
    rw [List.idxOf_cons] at h
    cases e : (y == t) with
    | true =>
      rw [e] at h
      exact absurd h (Nat.not_lt_zero _)
    | false =>
      rw [e] at h
      have h : m < l.idxOf t + 1 := h
      cases m with
      | zero =>
        intro z
        have z : y = t := z
        rw [z] at e
        simp at e
      | succ m => exact before_idx (l := l) (m := m) (by omega)
theorem flat_nats (l : List Nat) : (nats l).all flatV = true := by
  rw [List.all_eq_true]
  intro x hx
  obtain ⟨z, _, rfl⟩ := List.mem_map.mp hx
  rfl
theorem eqV_int (x y : Int) : eqV (V.int x) (V.int y) = (x == y) := by
  unfold eqV
  rfl
theorem eqV_self (x : Int) : eqV (V.int x) (V.int x) = true := by rw [eqV_int]; simp
theorem idx_get {l : List Nat} {t : Nat} (ht : t ∈ l) : (nats l)[colOf l t]? = some (.int ((t : Nat) : Int)) := by
  have hlt := List.idxOf_lt_length_of_mem ht
  unfold nats colOf
  rw [List.getElem?_map, List.getElem?_eq_getElem hlt, List.getElem_idxOf hlt]; rfl
theorem idx_no {l : List Nat} {t m : Nat} {z : V} (hm : m < colOf l t) (hz : (nats l)[m]? = some z) : eqV z (.int ((t : Nat) : Int)) = false := by
  obtain ⟨hl, rfl⟩ := nats_get hz
  rw [eqV_int]
  have := before_idx hm
  have h2 : ¬ ((l.getD m 0 : Nat) : Int) = ((t : Nat) : Int) := fun e => this (by exact_mod_cast e)
  simpa using h2
/-! ### the factors of an equation -/
def facT (n a b : Nat) (sp : List Int) (st : Nat) (col : Nat → Nat) (j : Nat) (row : List Int) : List Int :=
  if fp st j = 0 ∨ fp st j = 2 ^ n - 1 then row.set (col st) (row.getD (col st) 0 + rateF n a b sp st j n)
  else (row.set (col st) (row.getD (col st) 0 + rateF n a b sp st j n)).set (col (fp st j)) ((row.set (col st) (row.getD (col st) 0 + rateF n a b sp st j n)).getD (col (fp st j)) 0 - rateF n a b sp st j n)
def facR (n a b : Nat) (sp : List Int) (st : Nat) (col : Nat → Nat) (m : Nat) : Nat → List Int := upTo (facT n a b sp st col) (List.replicate m 0)
theorem facT_length (n a b : Nat) (sp : List Int) (st : Nat) (col : Nat → Nat) (j : Nat) (row : List Int) : (facT n a b sp st col j row).length = row.length := by
  unfold facT
  split
  · rw [List.length_set]
  · rw [List.length_set, List.length_set]
theorem facR_length (n a b : Nat) (sp : List Int) (st : Nat) (col : Nat → Nat) (m : Nat) : ∀ k, (facR n a b sp st col m k).length = m
  | 0 => by show (List.replicate m (0 : Int)).length = m; rw [List.length_replicate]
  | k + 1 => by
    show (facT n a b sp st col k (facR n a b sp st col m k)).length = m
    rw [facT_length]; exact facR_length n a b sp st col m k
theorem colOf_lt {n s t : Nat} (hn : n ≤ 5) (h0 : 0 < s) (h1 : s < 2 ^ n - 1) (t0 : 0 < t) (t1 : t < 2 ^ n - 1) : t ∈ sts n s ∧ colOf (sts n s) t < 2 ^ n - 2 := by
  obtain ⟨f1, f2, f3⟩ := sts_facts n (by omega) s h1 h0
  have hm := f3 t t1 t0
  have := List.idxOf_lt_length_of_mem hm
  exact ⟨hm, by unfold colOf; omega⟩
theorem rep_zero (k : Nat) : (List.replicate k [V.int 0]).flatten = (List.replicate k (0 : Int)).map V.int := by
  induction k with
  | zero => rfl
  | succ k ih => rw [List.replicate_succ, List.flatten_cons, ih, List.replicate_succ, List.map_cons]; rfl
theorem set_row (row : List Int) (c : Nat) (z : Int) : (row.map V.int).set c (V.int z) = (row.set c z).map V.int := by
  rw [List.map_set]
section
variable {P : Program} {w : World} {K : PySem.W.Frag} {mg : Str → Option Value} {base : Heap}
/-! ### mixed_states -/
def spMixed (K : PySem.W.Frag) : Sp := fun vs H Q _ => ∃ (n s : Nat), vs = [.int n, .int s] ∧ n ≤ 5 ∧ 0 < s ∧ s < 2 ^ n - 1 ∧ ∀ (H' : Hp) (p : Addr), Same H H' → H' p = some (.lst (nats (sts n s))) → Q (.ref p) H'
theorem scMixed : FnScope ["n", "first", "state"] ["n", "first"] (defScope dMixed) := ⟨rfl, rfl, rfl, by decide +kernel, rfl, by decide +kernel, by decide +kernel⟩
theorem ok_mixed {f : Addr} {fd : FuncData} (F : Fun K "mixed_states" "mixed_states" dMixed f fd) (B : Blt mg) (Cw : Cal P w K mg base "whole_set" ["n"] 1 spWhole) : FnOk P w K mg base CX0 2 f fd ["n", "first"] (spMixed K) := by
  refine F.ok scMixed (fun vs H Q E h => ?_) (fun cdv A outer s H1 vs Q E hr h => ?_)
  · obtain ⟨n, s, rfl, _⟩ := h
    rfl
  · obtain ⟨n, s0, rfl, hn, h0, h1, k⟩ := h
    have hp2 := pow_le hn
    obtain ⟨f1, f2, f3⟩ := sts_facts n (by omega) s0 h1 h0
    refine ⟨_, pss_one (ps_ret (pe_op op_cat (pe_lst (pa_cons (pv 1) pa_nil))
        (pe_lc (own := [("state", 2)]) rfl scMixed.nd (pi_range2 rfl B.range (pa_cons pe_int (pa_cons (pe_cal Cw hr rfl (pa_cons (pv 0) pa_nil)) pa_nil)))
          (blkOk_by (N := ["n", "first", "state"]) (sc := defScope dMixed) (by decide +kernel))
          (fun s H C cl fp => pg_name (i := 2) scMixed.nd rfl (Or.inl rfl)) (fun s H C cl fp => pts_one (pt_cmpR op_ne (pv 2) (pv 1) (nomark _))) (fun s H C cl fp => pv 2)))), ?_⟩
    refine ⟨_, rfl, ⟨by show 1 ≤ sizeLine; rw [sizeLine_eq]; omega, fun l hl => ?_⟩⟩
    have sm2 : Same H1 (upd H1 l (.lst [V.int s0])) := fun b o e => by rw [upd_ne (ne_of_none e hl)]; exact e
    refine ⟨_, rfl, n, rfl, hn, _, _, rfl, ⟨by omega, by omega, by omega, by omega⟩, fun D hD => ?_⟩
    have e1 : (((2 ^ n - 1 : Nat) : Int) - 1).toNat = 2 ^ n - 2 := by omega
    rw [e1]
    refine lc_range (n := 2 ^ n - 2) (fun i H' => Same (upd H1 l (.lst [V.int s0])) H' ∧ H' D = some (.lst (nats (rest_ s0 i)))) ⟨fun b o e => by rw [upd_ne (ne_of_none e hD)]; exact e, upd_same⟩ ?_ ?_
    · rintro i H' hi ⟨sm, hd⟩
      have ei : (1 : Int) + (i : Int) = ((i + 1 : Nat) : Int) := by omega
      rw [ei]
      refine ⟨rfl, _, rfl, _, rfl, rfl, _, rfl, ?_⟩
      have er : rest_ s0 (i + 1) = rest_ s0 i ++ if i + 1 = s0 then [] else [i + 1] := by
        unfold rest_
        rw [List.range_succ, List.map_append, List.filter_append]
        congr 1
        by_cases q : i + 1 = s0
        · rw [if_pos q]; simp [q]
        · rw [if_neg q]; simp [q]
      by_cases q : i + 1 = s0
      · refine iteFalse (by rw [q]; exact congrArg (!·) (decide_eq_true rfl)) ?_
        rw [er, if_pos q, List.append_nil]
        exact ⟨sm, hd⟩
      · have q' : ¬ V.int ((i + 1 : Nat) : Int) = V.int ((s0 : Nat) : Int) := fun z => by
          injection z with z
          exact q (by exact_mod_cast z)
        refine iteTrue (by rw [decide_eq_false q']; rfl) ?_
        refine ⟨_, rfl, _, hd, ?_, fun b o e => ?_, ?_⟩
        · unfold nats rest_
          rw [List.length_map]
          have := List.length_filter_le (fun t => decide (t ≠ s0)) ((List.range i).map (· + 1))
          rw [List.length_map, List.length_range] at this
          rw [sizeLine_eq]; omega
        · rw [upd_ne (ne_of_none e hD)]; exact sm b o e
        · rw [upd_same, er, if_neg q]
          unfold nats
          rw [List.map_append]; rfl
    · rintro H2 ⟨sm3, hd3⟩
      have hlD : H2 l = some (.lst [V.int s0]) := sm3 _ _ upd_same
      refine ⟨l, D, _, _, rfl, rfl, hlD, hd3, ?_, fun q hq => ?_⟩
      · show 1 + (nats (rest_ s0 (2 ^ n - 2))).length ≤ sizeLine
        have : (sts n s0).length = (rest_ s0 (2 ^ n - 2)).length + 1 := rfl
        unfold nats
        rw [List.length_map, sizeLine_eq]; omega
      have eq0 : [V.int s0] ++ nats (rest_ s0 (2 ^ n - 2)) = nats (sts n s0) := rfl
      rw [eq0]
      refine k _ q (fun b o e => ?_) upd_same
      have z := sm3 b o (sm2 b o e)
      rw [upd_ne (ne_of_none z hq)]; exact z
/-! ### factors -/
def spFactors (K : PySem.W.Frag) : Sp := fun vs H Q _ => ∃ (n a b : Nat) (sa : Addr) (sp : List Int) (st : Nat) (ga : Addr) (s : Nat), vs = [.int n, .int a, .int b, .ref sa, .int st, .ref ga] ∧ SqL K H sa (sp.map V.int) ∧
  SqL K H ga (nats (sts n s)) ∧ n ≤ 5 ∧ a ≤ 100 ∧ b ≤ 100 ∧ sp.length = n * n ∧ 0 < s ∧ s < 2 ^ n - 1 ∧ 0 < st ∧ st < 2 ^ n - 1 ∧
  ∀ (H' : Hp) (p : Addr), Same H H' → H p = none → H' p = some (.lst ((facR n a b sp st (colOf (sts n s)) (2 ^ n - 2) n).map V.int)) → Q (.ref p) H'
theorem scFactors : FnScope ["n", "a", "b", "spread", "state", "states", "row", "j", "rate", "after"] ["n", "a", "b", "spread", "state", "states"] (defScope dFactors) := ⟨rfl, rfl, rfl, by decide +kernel, rfl, by decide +kernel, by decide +kernel⟩
theorem ok_factors {f : Addr} {fd : FuncData} (F : Fun K "factors" "factors" dFactors f fd) (B : Blt mg) (Cr : Cal P w K mg base "change_rate" ["n", "a", "b", "spread", "state", "j"] 2 (spRate K)) (Cw : Cal P w K mg base "whole_set" ["n"] 1 spWhole) :
    FnOk P w K mg base CX0 3 f fd ["n", "a", "b", "spread", "state", "states"] (spFactors K) := by
  refine F.ok scFactors (fun vs H Q E h => ?_) (fun cdv A outer s H vs Q E hr h => ?_)
  · obtain ⟨n, a, b, sa, sp, st, ga, s, rfl, _⟩ := h
    rfl
  · obtain ⟨n, a, b, sa, sp, st, ga, s0, rfl, hS, hG, hn, ha, hb, hl, h0, h1, hs0, hs1, k⟩ := h
    refine ⟨_, pss_cons (ps_set (i := 6) scFactors.nd rfl (Or.inl rfl) (pe_op op_rep (pe_lst (pa_cons pe_int pa_nil)) (pe_callB call_len_seq (by rfl) B.len PySem.boot_len (pa_cons (pv 5) pa_nil))))
      (pss_cons (ps_for PassesOwn.never rfl (pi_range1 rfl B.range (pa_cons (pv 0) pa_nil)) (pg_name (i := 7) scFactors.nd rfl (Or.inl rfl))
        (pss_cons (ps_set (i := 8) scFactors.nd rfl (Or.inl rfl) (pe_cal Cr hr rfl (pa_cons (pv 0) (pa_cons (pv 1) (pa_cons (pv 2) (pa_cons (pv 3) (pa_cons (pv 4) (pa_cons (pv 7) pa_nil))))))))
        (pss_cons (ps_set (i := 9) scFactors.nd rfl (Or.inl rfl) (pe_op op_xor (pv 4) (pe_op op_shl pe_int (pv 7))))
        (pss_cons (ps_asg (pe_op op_add (pe_ix ix_list (pv 6) (pe_bm (r := rIndex K) PySem.F.plainAttrs_list PySem.F.slot_list_index PySem.F.type_list_index mt_index (pv 5) (pa_cons (pv 4) pa_nil)) (fun _ _ => rfl)) (pv 8))
          (pg_sub (pv 6) (pe_bm (r := rIndex K) PySem.F.plainAttrs_list PySem.F.slot_list_index PySem.F.type_list_index mt_index (pv 5) (pa_cons (pv 4) pa_nil)) set_list))
        (pss_one (ps_if (PW.pt (pw_and (pt_cmpR op_ne (pv 9) pe_int (nomark _)) (pw_and1 (pt_cmpR op_ne (pv 9) (pe_cal Cw (hr.mono (by decide)) rfl (pa_cons (pv 0) pa_nil)) (nomark _)))))
          (pss_one (ps_asg (pe_op op_sub (pe_ix ix_list (pv 6) (pe_bm (r := rIndex K) PySem.F.plainAttrs_list PySem.F.slot_list_index PySem.F.type_list_index mt_index (pv 5) (pa_cons (pv 9) pa_nil)) (fun _ _ => rfl)) (pv 8))
            (pg_sub (pv 6) (pe_bm (r := rIndex K) PySem.F.plainAttrs_list PySem.F.slot_list_index PySem.F.type_list_index mt_index (pv 5) (pa_cons (pv 9) pa_nil)) set_list)))
          pss_nil))))))
      (pss_one (ps_ret (pv 6)))), ?_⟩
    have hp2 := pow_le hn
    obtain ⟨f1, f2, f3⟩ := sts_facts n (by omega) s0 h1 h0
    have hgl : (nats (sts n s0)).length = 2 ^ n - 2 := by unfold nats; rw [List.length_map]; exact f1
    refine ⟨by show 1 ≤ sizeLine; rw [sizeLine_eq]; omega, fun l hl0 => ?_⟩
    have s1 : Same H (upd H l (.lst [V.int 0])) := fun b o e => by rw [upd_ne (ne_of_none e hl0)]; exact e
    refine ⟨_, rfl, ga, _, rfl, .inl (s1.seq hG), l, _, _, rfl, rfl, upd_same, ?_, ?_, ?_, fun r hr0 => ?_⟩
    · show -(2 ^ 63) ≤ (((nats (sts n s0)).length : Nat) : Int); omega
    · show (((nats (sts n s0)).length : Nat) : Int) < 2 ^ 63; rw [hgl]; omega
    · show 1 * ((((nats (sts n s0)).length : Nat) : Int)).toNat ≤ sizeLine
      rw [hgl, sizeLine_eq]; omega
    have e0 : ((((nats (sts n s0)).length : Nat) : Int)).toNat = 2 ^ n - 2 := by rw [hgl]; omega
    have hrH : H r = none := s1.free hr0
    rw [e0, rep_zero]
    have hc := colOf_lt hn h0 h1 hs0 hs1
    refine ⟨_, rfl, _, rfl, by omega, by omega, ?_⟩
    rw [Int.toNat_natCast]
    refine for_range (n := n) (fun k σ H' => Same H H' ∧ H' r = some (.lst ((facR n a b sp st (colOf (sts n s0)) (2 ^ n - 2) k).map V.int)) ∧ ∃ v v' v'', σ = [some (.int n), some (.int a), some (.int b), some (.ref sa), some (.int st), some (.ref ga), some (.ref r), v, v', v'']) ⟨?_, upd_same, none, none, none, rfl⟩ ?_ ?_
    · intro b o e
      rw [upd_ne (ne_of_none (s1 b o e) hr0)]
      exact s1 b o e
    · rintro j σ H' hj ⟨sm, hrow, v, v', v'', rfl⟩
      have e1 : (0 : Int) + (j : Int) = (j : Int) := Int.zero_add _
      rw [e1]
      have hlen := facR_length n a b sp st (colOf (sts n s0)) (2 ^ n - 2) j
      have hcl : colOf (sts n s0) st < (facR n a b sp st (colOf (sts n s0)) (2 ^ n - 2) j).length := by rw [hlen]; exact hc.2
      refine ⟨_, rfl, _, rfl, _, rfl, _, rfl, _, rfl, _, rfl, n, a, b, sa, sp, st, j, rfl, sm.seq hS, hn, ha, hb, hl, hj, ?_⟩
      refine ⟨_, rfl, _, rfl, _, _, rfl, rfl, ⟨by omega, by omega, by decide⟩, _, _, rfl, rfl, ?_⟩
      have ex : Builtin.bitXor (st : Int) ((1 : Int) * 2 ^ ((j : Int)).toNat) = ((fp st j : Nat) : Int) := by
        rw [shl_one]; exact xor_all st (by omega) j (by omega)
      dsimp only
      rw [ex]
      have hG' := sm.seq hG
      refine ⟨_, rfl, _, rfl, .inl ⟨rfl, _, hG'⟩, _, rfl, ga, nats (sts n s0), .int ((st : Nat) : Int), colOf (sts n s0) st, .int ((st : Nat) : Int), rfl, rfl, hG', rfl, flat_nats _, idx_get hc.1, eqV_self _, fun m z hm hz => idx_no hm hz, ?_⟩
      refine ⟨r, _, _, _, rfl, rfl, SqL.of hrow, atI_nat (at_int hcl), _, rfl, _, _, rfl, rfl, ?_⟩
      refine ⟨_, rfl, _, rfl, .inl ⟨rfl, _, hG'⟩, _, rfl, ga, nats (sts n s0), .int ((st : Nat) : Int), colOf (sts n s0) st, .int ((st : Nat) : Int), rfl, rfl, hG', rfl, flat_nats _, idx_get hc.1, eqV_self _, fun m z hm hz => idx_no hm hz, ?_⟩
      refine ⟨r, _, _, _, rfl, rfl, hrow, ixN_nat (by rw [List.length_map]; exact hcl), ?_⟩
      rw [set_row]
      generalize hR : (facR n a b sp st (colOf (sts n s0)) (2 ^ n - 2) j).set (colOf (sts n s0) st) ((facR n a b sp st (colOf (sts n s0)) (2 ^ n - 2) j).getD (colOf (sts n s0) st) 0 + rateF n a b sp st j n) = R1
      have hlen1 : R1.length = 2 ^ n - 2 := by rw [← hR, List.length_set]; exact hlen
      have sm1 : Same H (upd H' r (.lst (R1.map V.int))) := fun b o e => by
        rw [upd_ne (ne_of_none e hrH)]; exact sm b o e
      have fin : ∀ R2 : List Int, facT n a b sp st (colOf (sts n s0)) j (facR n a b sp st (colOf (sts n s0)) (2 ^ n - 2) j) = R2 → ∀ H2 : Hp, Same H H2 → H2 r = some (.lst (R2.map V.int)) →
          (Same H H2 ∧ H2 r = some (.lst ((facR n a b sp st (colOf (sts n s0)) (2 ^ n - 2) (j + 1)).map V.int)) ∧ ∃ v v' v'', [some (V.int n), some (.int a), some (.int b), some (.ref sa), some (.int st), some (.ref ga), some (.ref r), some (.int j), some (.int (rateF n a b sp st j n)), some (.int (fp st j : Nat))] =
            [some (V.int n), some (.int a), some (.int b), some (.ref sa), some (.int st), some (.ref ga), some (.ref r), v, v', v'']) := fun R2 e H2 h1 h2 =>
        ⟨h1, by rw [h2, ← e]; rfl, _, _, _, rfl⟩
      have hG1 := sm1.seq hG
      refine ⟨_, rfl, rfl, _, rfl, ?_⟩
      by_cases hz : fp st j = 0
      · refine iteFalse (by rw [hz]; exact congrArg (!·) (decide_eq_true rfl)) ?_
        refine iteFalse rfl ?_
        refine fin _ (by unfold facT; rw [if_pos (Or.inl hz), hR]) _ sm1 upd_same
      · have hz' : ¬ V.int ((fp st j : Nat) : Int) = V.int 0 := fun z => by
          injection z with z
          exact hz (by exact_mod_cast z)
        refine iteTrue (by rw [decide_eq_false hz']; rfl) ?_
        refine ⟨_, rfl, _, rfl, n, rfl, hn, rfl, _, rfl, ?_⟩
        by_cases hf : fp st j = 2 ^ n - 1
        · refine iteFalse (by rw [hf]; exact congrArg (!·) (decide_eq_true rfl)) ?_
          refine fin _ (by unfold facT; rw [if_pos (Or.inr hf), hR]) _ sm1 upd_same
        · have hf' : ¬ V.int ((fp st j : Nat) : Int) = V.int ((2 ^ n - 1 : Nat) : Int) := fun z => by
            injection z with z
            exact hf (by exact_mod_cast z)
          refine iteTrue (by rw [decide_eq_false hf']; rfl) ?_
          have hlt := fp_all n (by omega) st (by omega) j hj
          have hc2 := colOf_lt hn h0 h1 (show 0 < fp st j by omega) (by omega)
          have hcl2 : colOf (sts n s0) (fp st j) < R1.length := by rw [hlen1]; exact hc2.2
          refine ⟨_, rfl, _, rfl, .inl ⟨rfl, _, hG1⟩, _, rfl, ga, nats (sts n s0), .int ((fp st j : Nat) : Int), colOf (sts n s0) (fp st j), .int ((fp st j : Nat) : Int), rfl, rfl, hG1, rfl, flat_nats _, idx_get hc2.1, eqV_self _, fun m z hm hz => idx_no hm hz, ?_⟩
          refine ⟨r, _, _, _, rfl, rfl, SqL.of upd_same, atI_nat (at_int hcl2), _, rfl, _, _, rfl, rfl, ?_⟩
          refine ⟨_, rfl, _, rfl, .inl ⟨rfl, _, hG1⟩, _, rfl, ga, nats (sts n s0), .int ((fp st j : Nat) : Int), colOf (sts n s0) (fp st j), .int ((fp st j : Nat) : Int), rfl, rfl, hG1, rfl, flat_nats _, idx_get hc2.1, eqV_self _, fun m z hm hz => idx_no hm hz, ?_⟩
          refine ⟨r, _, _, _, rfl, rfl, upd_same, ixN_nat (by rw [List.length_map]; exact hcl2), ?_⟩
          rw [set_row]
          refine fin _ (by unfold facT; rw [if_neg (by omega), hR]) _ ?_ upd_same
          intro b o e
          rw [upd_ne (ne_of_none e hrH)]; exact sm1 b o e
    · rintro σ H' ⟨sm, hrow, v, v', v'', rfl⟩
      exact ⟨_, rfl, k H' r sm hrH hrow⟩
end
end Tk
set_option Elab.async false
set_option linter.all false
set_option maxRecDepth 100000
set_option maxHeartbeats 2000000
namespace Tk
open PySem PySem.Spec PyProof.Rows L2
open PySem.W (Codec)
abbrev dFirst : Stmt := top 20
abbrev dWo : Stmt := top 21
/-- a table: a list of lists of ints -/
structure Tbl (H : Hp) (p : Addr) (rows : List (List Int)) : Prop where
  ex : ∃ as : List Addr, H p = some (.lst (as.map V.ref)) ∧ as.length = rows.length ∧ ∀ (j : Nat) (a : Addr), as[j]? = some a → ∃ r, rows[j]? = some r ∧ H a = some (.lst (r.map V.int)) ∧ a ≠ p
/-! ### great numbers -/
def Sml (z : Int) : Prop := z.natAbs.log2 < 8000
theorem Sml.bits {z : Int} (h : Sml z) : Builtin.Int.intBits z ≤ 2 ^ 20 := by
  unfold Builtin.Int.intBits
  have e : (2 : Nat) ^ 20 = 1048576 := by decide
  rw [e]
  unfold Sml at h
  split <;> omega
theorem op_mulB {X : Cx} : OpR X (binaryOp .Mult) (rI (fun i j => Sml i ∧ Sml j) fun i j => .int (i * j)) := opI fun _ _ _ _ _ _ _ hc q => mul_int q (IntMulOk.of_bits hc.1.bits hc.2.bits)
theorem op_fdivB {X : Cx} : OpR X (binaryOp .FloorDiv) (rI (fun _ j => j ≠ 0 ∧ Sml j) fun i j => .int (i.fdiv j)) := opI fun i j _ _ _ _ _ hc q => floordiv_int hc.1 q (.inl (PyProof.noPylong_of_log2 (by have := hc.2; unfold Sml at this; omega)))
theorem at_last {row : List Int} {L : Nat} (h : row.length = L + 1) : atI (row.map V.int) (-1) = some (V.int (row.getD L 0)) := by
  have e : ixN (row.map V.int).length (-1) = some L := by
    unfold ixN
    rw [List.length_map, h, if_neg (by decide), if_pos (by omega)]
    congr 1
    omega
  unfold atI
  rw [e]
  exact at_int (by omega)
section
variable {P : Program} {w : World} {K : PySem.W.Frag} {mg : Str → Option Value} {base : Heap}
/-! ### without_last -/
def wo (row last : List Int) (d : Int) (L : Nat) : List Int := (List.range L).map fun k => (row.getD k 0 * last.getD L 0 - row.getD L 0 * last.getD k 0).fdiv d
def spWo (K : PySem.W.Frag) : Sp := fun vs H Q _ => ∃ (ra la : Addr) (row last : List Int) (d : Int) (L : Nat), vs = [.ref ra, .ref la, .int d] ∧ SqL K H ra (row.map V.int) ∧ SqL K H la (last.map V.int) ∧ row.length = L + 1 ∧ last.length = L + 1 ∧ L ≤ 100 ∧
  (∀ k, k ≤ L → Sml (row.getD k 0) ∧ Sml (last.getD k 0)) ∧ d ≠ 0 ∧ Sml d ∧ ∀ (H' : Hp) (p : Addr), Same H H' → H p = none → H' p = some (.lst ((wo row last d L).map V.int)) → Q (.ref p) H'
theorem scWo : FnScope ["row", "last", "divisor", "k"] ["row", "last", "divisor"] (defScope dWo) := ⟨rfl, rfl, rfl, by decide +kernel, rfl, by decide +kernel, by decide +kernel⟩
theorem ok_wo {f : Addr} {fd : FuncData} (F : Fun K "without_last" "without_last" dWo f fd) (B : Blt mg) : FnOk P w K mg base CX0 1 f fd ["row", "last", "divisor"] (spWo K) := by
  refine F.ok scWo (fun vs H Q E h => ?_) (fun cdv A outer s H vs Q E hr h => ?_)
  · obtain ⟨ra, la, row, last, d, L, rfl, _⟩ := h
    rfl
  · obtain ⟨ra, la, row, last, d, L, rfl, hR, hLa, hlr, hll, hL, hsm, hd0, hds, k⟩ := h
    refine ⟨_, pss_one (ps_ret (pe_lc (own := [("k", 3)]) rfl scWo.nd (pi_range1 rfl B.range (pa_cons (pe_op op_sub (pe_callB call_len_seq (by rfl) B.len PySem.boot_len (pa_cons (pv 0) pa_nil)) pe_int) pa_nil))
      (blkOk_by (N := ["row", "last", "divisor", "k"]) (sc := defScope dWo) (by decide +kernel)) (fun s H C cl fp => pg_name (i := 3) scWo.nd rfl (Or.inl rfl)) (fun s H C cl fp => pts_nil)
      (fun s H C cl fp => pe_op op_fdivB (pe_op op_sub (pe_op op_mulB (pe_ix (r := rIxL K) ix_list (pv 0) (pv 3) (fun _ _ => rfl)) (pe_ix (r := rIxL K) ix_list (pv 1) (pe_un un_neg pe_int) (fun _ _ => rfl)))
        (pe_op op_mulB (pe_ix (r := rIxL K) ix_list (pv 0) (pe_un un_neg pe_int) (fun _ _ => rfl)) (pe_ix (r := rIxL K) ix_list (pv 1) (pv 3) (fun _ _ => rfl)))) (pv 2)))), ?_⟩
    have e0 : (((row.map V.int).length : Nat) : Int) - 1 = (L : Int) := by rw [List.length_map, hlr]; omega
    refine ⟨_, rfl, ra, _, rfl, .inl hR, _, _, rfl, rfl, _, rfl, ?_, ?_, fun D hD => ?_⟩
    · rw [e0]; omega
    · rw [e0]; omega
    rw [e0, Int.toNat_natCast]
    have sD : Same H (upd H D (.lst [])) := fun b o e => by rw [upd_ne (ne_of_none e hD)]; exact e
    refine lc_range (n := L) (fun i H' => Same H H' ∧ H' D = some (.lst (((List.range i).map fun k => (row.getD k 0 * last.getD L 0 - row.getD L 0 * last.getD k 0).fdiv d).map V.int))) ⟨sD, upd_same⟩ ?_ ?_
    · rintro i H' hi ⟨sm, hd⟩
      have e1 : (0 : Int) + (i : Int) = (i : Int) := Int.zero_add _
      rw [e1]
      have hi1 := hsm i (by omega)
      have hi2 := hsm L (by omega)
      refine ⟨rfl, yes_in ?_⟩
      refine ⟨_, rfl, _, rfl, ra, _, _, _, rfl, rfl, sm.seq hR, atI_nat (at_int (by omega)), _, rfl, _, rfl, la, _, _, _, rfl, rfl, sm.seq hLa, at_last hll, _, _, rfl, rfl, ⟨hi1.1, hi2.2⟩,
        _, rfl, _, rfl, ra, _, _, _, rfl, rfl, sm.seq hR, at_last hlr, _, rfl, _, rfl, la, _, _, _, rfl, rfl, sm.seq hLa, atI_nat (at_int (by omega)), _, _, rfl, rfl, ⟨hi2.1, hi1.2⟩, _, _, rfl, rfl,
        _, rfl, _, _, rfl, rfl, ⟨hd0, hds⟩, _, hd, ?_, fun b o e => ?_, ?_⟩
      · rw [List.length_map, List.length_map, List.length_range, sizeLine_eq]; omega
      · rw [upd_ne (ne_of_none e hD)]; exact sm b o e
      · rw [upd_same, List.range_succ, List.map_append, List.map_append]
        rfl
    · rintro H' ⟨sm, hd⟩
      exact k H' D sm hD hd
/-! ### first_unknown -/
def mat (B : List (List Int)) (i j : Nat) : Int := (B.getD i []).getD j 0
structure Shp (m : Nat) (B : List (List Int)) : Prop where
  len : B.length = m
  each : ∀ i, i < m → (B.getD i []).length = m + 1
def kap : Rat := ((2 ^ 70 : Nat) : Rat)
theorem inv_small {T m : Nat} {ρ : Rat} {B : Nat → Nat → Int} {d : Int} {x u : Nat → Rat} (hT : T ≤ 40) (v : My.Inv T ρ kap m B d x u) : (∀ i j, i < m → j ≤ m → Sml (B i j)) ∧ Sml d := by
  have h : ∀ z : Int, My.Ab ((z : Int) : Rat) (My.pwr kap T) → Sml z := fun z hz => by
    unfold kap at hz
    rw [My.pwr_two] at hz
    have := My.ab_log hz
    unfold Sml
    have : 70 * T ≤ 2800 := by omega
    omega
  exact ⟨fun i j hi hj => h _ (v.small hi hj), h _ v.smallD⟩
theorem inv_sz {T m : Nat} {ρ : Rat} {B : Nat → Nat → Int} {d : Int} {x u : Nat → Rat} (hT : T ≤ 40) (v : My.Inv T ρ kap m B d x u) {i j : Nat} (hi : i < m) (hj : j ≤ m) : Sz 2801 (B i j) := by
  have hz := v.small hi hj
  unfold kap at hz
  rw [My.pwr_two] at hz
  have := My.ab_log hz
  exact Sz.of_log (k := 2800) (by omega)
theorem getD_map_wo {B : List (List Int)} {last : List Int} {d : Int} {m : Nat} (hB : B.length = m + 1) {i : Nat} (hi : i < m) : (((B.take m).map fun row => wo row last d (m + 1)).getD i []) = wo (B.getD i []) last d (m + 1) := by
  rw [List.getD_eq_getElem?_getD, List.getElem?_map, List.getElem?_take_of_lt hi, List.getElem?_eq_getElem (by omega), List.getD_eq_getElem?_getD, List.getElem?_eq_getElem (by omega)]
  rfl
theorem wo_at {row last : List Int} {d : Int} {L k : Nat} (hk : k < L) : (wo row last d L).getD k 0 = (row.getD k 0 * last.getD L 0 - row.getD L 0 * last.getD k 0).fdiv d := by
  unfold wo
  rw [List.getD_eq_getElem?_getD, List.getElem?_map, List.getElem?_range hk]
  rfl
theorem cut_init (xs : List V) {m : Nat} (h : xs.length = m + 1) : cutV xs none (some (-1)) = xs.take m := by
  unfold cutV
  have e1 : HT.sIx xs.length 0 none = 0 := rfl
  have e2 : HT.sIx xs.length xs.length (some (-1)) = m := by
    show (if (-1 : Int) < 0 then (-1 + (xs.length : Int)).toNat else min (-1 : Int).toNat xs.length) = m
    rw [if_pos (by decide), h]; omega
  rw [e1, e2]; rfl
def spFirst (K : PySem.W.Frag) : Sp := fun vs H Q _ => ∃ (p : Addr) (B : List (List Int)) (T m : Nat) (ρ : Rat) (x u : Nat → Rat), vs = [.ref p] ∧ Tbl H p B ∧ Shp m B ∧ 1 ≤ m ∧ m ≤ 40 ∧ T ≤ 40 ∧ My.Inv T ρ kap m (mat B) 1 x u ∧
  ∀ (H' : Hp) (t : Addr) (c f : Int), Same H H' → H' t = some (.tup [.int c, .int f]) → 0 < f → ((c : Int) : Rat) = ((f : Int) : Rat) * x 0 → Sz 2801 c → Sz 2801 f → Q (.ref t) H'
theorem scFirst : FnScope ["rows", "divisor", "last", "row"] ["rows"] (defScope dFirst) := ⟨rfl, rfl, rfl, by decide +kernel, rfl, by decide +kernel, by decide +kernel⟩
theorem ok_first {f : Addr} {fd : FuncData} (F : Fun K "first_unknown" "first_unknown" dFirst f fd) (B : Blt mg) (Cw : Cal P w K mg base "without_last" ["row", "last", "divisor"] 1 (spWo K)) : FnOk P w K mg base CX0 2 f fd ["rows"] (spFirst K) := by
  refine F.ok scFirst (fun vs H Q E h => ?_) (fun cdv A outer s H vs Q E hr h => ?_)
  · obtain ⟨p, B, T, m, ρ, x, u, rfl, _⟩ := h
    rfl
  · obtain ⟨p0, B0, T, m0, ρ, x, u, rfl, hT0, hS0, h1m, hm40, hT40, v0, k⟩ := h
    refine ⟨_, pss_cons (ps_set (i := 1) scFirst.nd rfl (Or.inr rfl) pe_int)
      (pss_cons (ps_while PassesOwn.never (pt_cmpR op_gt (pe_callB call_len_seq (by rfl) B.len PySem.boot_len (pa_cons (pv 0) pa_nil)) pe_int (nomark _))
        (pss_cons (ps_set (i := 2) scFirst.nd rfl (Or.inr rfl) (pe_ix ix_list (pv 0) (pe_un un_neg pe_int) (fun _ _ => rfl)))
        (pss_cons (ps_setLc (i := 0) (own := [("row", 3)]) rfl scFirst.nd rfl rfl (sw_true rfl rfl rfl rfl) (pi_list (pe_slice sl_list (pv 0) po_none (po_some (pe_un un_neg pe_int))))
          (blkOk_by (N := ["rows", "divisor", "last", "row"]) (sc := defScope dFirst) (by decide +kernel)) (fun s H C cl fp => pg_name (i := 3) scFirst.nd rfl (Or.inl rfl)) (fun s H C cl fp => pts_nil)
          (fun s H C cl fp => pe_cal Cw hr rfl (pa_cons (pv 3) (pa_cons (pv 2) (pa_cons (pv 1) pa_nil)))))
        (pss_one (ps_set (i := 1) scFirst.nd rfl (Or.inr rfl) (pe_ix ix_list (pv 2) (pe_un un_neg pe_int) (fun _ _ => rfl)))))))
      (pss_one (ps_ret (pe_tup (pa_cons (pe_ix ix_list (pe_ix ix_list (pv 0) pe_int (fun _ _ => rfl)) pe_int (fun _ _ => rfl)) (pa_cons (pe_ix ix_list (pe_ix ix_list (pv 0) pe_int (fun _ _ => rfl)) pe_int (fun _ _ => rfl)) pa_nil)))))), ?_⟩
    refine ⟨fun m σ H' => Same H H' ∧ 1 ≤ m ∧ m ≤ 40 ∧ ∃ (p : Addr) (B : List (List Int)) (d : Int) (vl : Option V), σ = [some (.ref p), some (.int d), vl, none] ∧ Tbl H' p B ∧ Shp m B ∧ My.Inv T ρ kap m (mat B) d x u,
      ⟨m0, fun _ _ e => e, h1m, hm40, p0, B0, 1, none, rfl, hT0, hS0, v0⟩, ?_⟩
    rintro m σ H1 ⟨sm, h1, h40, p, B, d, vl, rfl, ⟨as, hp, hal, hall⟩, hS, v⟩
    refine ⟨_, rfl, p, _, rfl, .inl (SqL.of hp), _, _, rfl, rfl, _, rfl, ?_⟩
    have hlen : (as.map V.ref).length = m := by rw [List.length_map, hal, hS.len]
    have rowAt : ∀ j, j < m → ∃ a, as[j]? = some a ∧ H1 a = some (.lst ((B.getD j []).map V.int)) ∧ a ≠ p := fun j hj => by
      have hja : j < as.length := by rw [hal, hS.len]; exact hj
      refine ⟨as[j], List.getElem?_eq_getElem hja, ?_⟩
      obtain ⟨r, e1, e2, e3⟩ := hall j as[j] (List.getElem?_eq_getElem hja)
      have e4 : B.getD j [] = r := by rw [List.getD_eq_getElem?_getD, e1]; rfl
      rw [e4]; exact ⟨e2, e3⟩
    by_cases hm1 : 1 < m
    · refine iteTrue (decide_eq_true (by rw [hlen]; omega)) ?_
      obtain ⟨m', rfl⟩ : ∃ m', m = m' + 1 := ⟨m - 1, by omega⟩
      obtain ⟨la, hla1, hla2, hla3⟩ := rowAt m' (by omega)
      have hlast : atI (as.map V.ref) (-1) = some (V.ref la) := by
        have e : ixN (as.map V.ref).length (-1) = some m' := by
          unfold ixN
          rw [hlen, if_neg (by decide), if_pos (by omega)]
          congr 1
          omega
        unfold atI
        rw [e]
        show (as.map V.ref)[m']? = some (V.ref la)
        rw [List.getElem?_map, hla1]; rfl
      have hlastLen := hS.each m' (by omega)
      obtain ⟨hsmall, hdsm⟩ := inv_small hT40 v
      have hd0 := v.d0
      have hinvd := v.diag (show m' < m' + 1 by omega)
      refine ⟨fun σ' H' => (Same H H' ∧ 1 ≤ m' ∧ m' ≤ 40 ∧ ∃ (p : Addr) (B : List (List Int)) (d : Int) (vl : Option V), σ' = [some (.ref p), some (.int d), vl, none] ∧ Tbl H' p B ∧ Shp m' B ∧ My.Inv T ρ kap m' (mat B) d x u), fun σ' H' w' => ⟨m', by omega, w'⟩, ?_⟩
      refine ⟨_, rfl, _, rfl, p, _, _, _, rfl, rfl, SqL.of hp, hlast, ?_⟩
      refine ⟨_, rfl, _, rfl, _, rfl, p, _, rfl, SqL.of hp, fun q hq => ?_⟩
      rw [cut_init _ hlen]
      have smq : Same H1 (upd H1 q (.lst ((as.map V.ref).take m'))) := fun b o e => by rw [upd_ne (ne_of_none e hq)]; exact e
      refine ⟨q, rfl, ⟨_, SqL.of upd_same⟩, fun D hD => ?_⟩
      have hDq : q ≠ D := fun z => by rw [← z, upd_same] at hD; cases hD
      have hD1 : H1 D = none := smq.free hD
      have hxl : ((as.map V.ref).take m').length = m' := by rw [List.length_take, hlen]; omega
      refine lc_list (K := K) (a := q) (xs := (as.map V.ref).take m') (fun i H' => Same (upd H1 q (.lst ((as.map V.ref).take m'))) H' ∧ ∃ as' : List Addr, H' D = some (.lst (as'.map V.ref)) ∧ as'.length = i ∧
        ∀ (j : Nat) (z : Addr), as'[j]? = some z → H' z = some (.lst ((wo (B.getD j []) (B.getD m' []) d (m' + 1)).map V.int)) ∧ z ≠ D)
        ⟨fun b o e => by rw [upd_ne (ne_of_none e hD)]; exact e, [], upd_same, rfl, fun j z h => by simp at h⟩ (fun i H' _ ⟨s2, _⟩ => s2.seq (SqL.of upd_same)) ?_ ?_
      · rintro i y H' hi ⟨s2, as', hd', hl', hall'⟩
        have him : i < m' := by
          have := (List.getElem?_eq_some_iff.mp hi).1
          omega
        obtain ⟨ra, hra1, hra2, hra3⟩ := rowAt i (by omega)
        obtain rfl : y = V.ref ra := by
          rw [List.getElem?_take_of_lt him, List.getElem?_map, hra1] at hi
          exact (Option.some.inj hi).symm
        refine ⟨rfl, yes_in ?_⟩
        refine ⟨_, rfl, _, rfl, _, rfl, ra, la, B.getD i [], B.getD m' [], d, m' + 1, rfl, SqL.of (s2 _ _ (smq _ _ hra2)), SqL.of (s2 _ _ (smq _ _ hla2)), hS.each i (by omega), hlastLen, by omega, fun j hj => ⟨hsmall i j (by omega) hj, hsmall m' j (by omega) hj⟩, by omega, hdsm, fun H2 z s3 hz hz2 => ?_⟩
        have hzD : z ≠ D := fun e => by rw [e, hd'] at hz; cases hz
        refine ⟨_, s3 _ _ hd', ?_, fun b o e => ?_, as' ++ [z], ?_, ?_, ?_⟩
        · rw [List.length_map, hl', sizeLine_eq]; omega
        · rw [upd_ne (ne_of_none e hD)]; exact s3 _ _ (s2 b o e)
        · rw [upd_same, List.map_append]; rfl
        · rw [List.length_append, hl']; rfl
        · intro j y hy
          by_cases hj : j < as'.length
          · rw [List.getElem?_append_left hj] at hy
            obtain ⟨z1, z2⟩ := hall' j y hy
            exact ⟨by rw [upd_ne z2]; exact s3 _ _ z1, z2⟩
          · have hj' : j = i := by
              have := (List.getElem?_eq_some_iff.mp hy).1
              rw [List.length_append] at this
              simp at this; omega
            subst hj'
            rw [List.getElem?_append_right (by omega), hl', Nat.sub_self] at hy
            have : z = y := by simpa using hy
            subst this
            exact ⟨by rw [upd_ne hzD]; exact hz2, hzD⟩
      · rintro H2 ⟨s2, as', hd', hl', hall'⟩
        rw [hxl] at hl'
        refine ⟨_, rfl, _, rfl, la, _, _, _, rfl, rfl, SqL.of (s2 _ _ (smq _ _ hla2)), at_last hlastLen, ?_⟩
        refine ⟨fun b o e => s2 _ _ (smq _ _ (sm b o e)), by omega, by omega, D, (B.take m').map (fun row => wo row (B.getD m' []) d (m' + 1)), (B.getD m' []).getD (m' + 1) 0, _, rfl, ⟨as', hd', ?_, fun j z hz => ?_⟩, ⟨?_, fun i hi => ?_⟩, ?_⟩
        · rw [List.length_map, List.length_take, hS.len, hl']; omega
        · obtain ⟨z1, z2⟩ := hall' j z hz
          have hj : j < m' := by
            have := (List.getElem?_eq_some_iff.mp hz).1
            omega
          refine ⟨_, ?_, z1, z2⟩
          have ej : B[j]? = some (B.getD j []) := by
            rw [List.getD_eq_getElem?_getD, List.getElem?_eq_getElem (by rw [hS.len]; omega)]; rfl
          rw [List.getElem?_map, List.getElem?_take_of_lt hj, ej]
          rfl
        · rw [List.length_map, List.length_take, hS.len]; omega
        · rw [getD_map_wo hS.len hi]
          unfold wo
          rw [List.length_map, List.length_range]
        · refine v.step.congr fun i j hi hj => ?_
          unfold mat
          rw [getD_map_wo hS.len hi, wo_at (by omega)]
          rfl
    · have e1 : m = 1 := by omega
      subst e1
      refine iteFalse (decide_eq_false (by rw [hlen]; omega)) ?_
      obtain ⟨ra, hra1, hra2, hra3⟩ := rowAt 0 (by omega)
      have hrl := hS.each 0 (by omega)
      have hget : (as.map V.ref)[0]? = some (V.ref ra) := by rw [List.getElem?_map, hra1]; rfl
      obtain ⟨hsmall, hdsm⟩ := inv_small hT40 v
      obtain ⟨hf, hc⟩ := v.last
      refine ⟨_, rfl, p, _, _, _, rfl, rfl, SqL.of hp, atI_nat (j := 0) hget, ra, _, _, _, rfl, rfl, SqL.of hra2, atI_nat (j := 0) (at_int (by omega)), _, rfl, p, _, _, _, rfl, rfl, SqL.of hp, atI_nat (j := 0) hget, ra, _, _, _, rfl, rfl, SqL.of hra2, atI_nat (j := 1) (at_int (by omega)), ?_⟩
      refine ⟨by show 2 ≤ sizeLine; rw [sizeLine_eq]; omega, fun t ht => ?_⟩
      exact k _ t _ _ (fun b o e => by rw [upd_ne (ne_of_none (sm b o e) ht)]; exact sm b o e) upd_same hf hc (inv_sz hT40 v (by omega) (by omega)) (inv_sz hT40 v (by omega) (by omega))
end
end Tk
set_option Elab.async false
set_option linter.all false
set_option maxRecDepth 100000
set_option maxHeartbeats 2000000
namespace Tk
open My (tot)
/-- what is asked of a call -/
structure AllOk (n a b : Nat) (ws : List Int) : Prop where
  O : WsOk n ws
  a1 : 1 ≤ a ∧ a ≤ 100
  b1 : 1 ≤ b ∧ b ≤ 100
  J : Sf96.joined ⟨n, ws⟩ = true
section
variable {n a b : Nat} {ws : List Int} (A : AllOk n a b ws)
include A
theorem AllOk.fine : My.Fine ⟨n, ws⟩ a b := ⟨A.O.n2, A.O.n5, fun i j hi hj => A.O.get (n * i + j), fun i hi => by rw [← rowS_row A.O.len hi]; exact (A.O.row i hi).1, A.a1, A.b1⟩
theorem AllOk.out : My.Out ⟨n, ws⟩ := My.joined_out (N := ⟨n, ws⟩) (by have := A.O.n2; show 0 < n; omega) A.J
abbrev rt (n a b : Nat) (ws : List Int) (st j : Nat) : Int := rateF n a b (sprs n ws (n * n)) st j n
theorem rate_step {st j : Nat} (hj : j < n) : ∀ k, k ≤ n → 0 ≤ rateF n a b (sprs n ws (n * n)) st j k ∧ rateF n a b (sprs n ws (n * n)) st j k ≤ (k : Nat) * 312500000000000000
  | 0, _ => ⟨by show (0 : Int) ≤ 0; decide, by show (0 : Int) ≤ ((0 : Nat) : Int) * 312500000000000000; omega⟩
  | k + 1, hk => by
    have ih := rate_step (st := st) hj k (by omega)
    have hs := sprd_le A.O (show k < n by omega) hj
    have hg : strg a b st j ≤ 100 := by unfold strg; split; exact A.b1.2; exact A.a1.2
    show 0 ≤ (if st.testBit k = st.testBit j then rateF n a b (sprs n ws (n * n)) st j k else rateF n a b (sprs n ws (n * n)) st j k + (strg a b st j : Nat) * (sprs n ws (n * n)).getD (k * n + j) 0) ∧
      (if st.testBit k = st.testBit j then rateF n a b (sprs n ws (n * n)) st j k else rateF n a b (sprs n ws (n * n)) st j k + (strg a b st j : Nat) * (sprs n ws (n * n)).getD (k * n + j) 0) ≤ _
    rw [sprs_get (ix_lt (by omega) hj)]
    split
    · exact ⟨ih.1, by omega⟩
    · have h1 : 0 ≤ (strg a b st j : Int) * sprd n ws (k * n + j) := Int.mul_nonneg (by omega) hs.1
      have h2 : (strg a b st j : Int) * sprd n ws (k * n + j) ≤ 100 * 3125000000000000 := Int.mul_le_mul (by omega) hs.2 hs.1 (by decide)
      omega
theorem rate_bd {st j : Nat} (hj : j < n) : 0 ≤ rt n a b ws st j ∧ rt n a b ws st j ≤ 1562500000000000000 := by
  have h := rate_step A hj (st := st) n (Nat.le_refl n)
  have h5 := A.O.n5
  refine ⟨h.1, Int.le_trans h.2 ?_⟩
  omega
theorem rate_tot {st j : Nat} (hj : j < n) : ∀ k, k ≤ n → ((rateF n a b (sprs n ws (n * n)) st j k : Int) : Rat) = tot k fun i => if st.testBit i = st.testBit j then 0 else ((com n ws n : Int) : Rat) * (Sf71.fit a b st i * Sf71.Net.chance ⟨n, ws⟩ i j)
  | 0, _ => rfl
  | k + 1, hk => by
    have ih := rate_tot (st := st) hj k (by omega)
    show (((if st.testBit k = st.testBit j then rateF n a b (sprs n ws (n * n)) st j k else rateF n a b (sprs n ws (n * n)) st j k + (strg a b st j : Nat) * (sprs n ws (n * n)).getD (k * n + j) 0) : Int) : Rat) = tot k _ + _
    dsimp only
    rw [sprs_get (ix_lt (by omega) hj)]
    by_cases e : st.testBit k = st.testBit j
    · rw [if_pos e, if_pos e, ih]; grind
    · rw [if_neg e, if_neg e, Rat.intCast_add, ih, Rat.intCast_mul, sprd_chance A.O (by omega) hj]
      have ef : (((strg a b st j : Nat) : Int) : Rat) = Sf71.fit a b st k := by
        unfold strg Sf71.fit Sf71.frac
        cases h1 : st.testBit k <;> cases h2 : st.testBit j <;> first | rfl | exact absurd (h1.trans h2.symm) e
      rw [ef]; grind
end
theorem copy_all : ∀ s : Nat, s < 32 → ∀ i : Nat, i < 5 → ∀ j : Nat, j < 5 → (Sf71.copy s i j : Nat) = if s.testBit i = s.testBit j then s else fp s j := by decide +kernel
section
variable {n a b : Nat} {ws : List Int} (A : AllOk n a b ws)
include A
/-- **the flow out of a state** -/
theorem flow (X : Nat → Rat) {st : Nat} (hs : st < 2 ^ n) : (tot n fun j => ((rt n a b ws st j : Int) : Rat) * (X st - X (fp st j))) =
    ((com n ws n : Int) : Rat) * (tot n fun i => Sf71.fit a b st i) * (X st - Sf71.after ⟨n, ws⟩ a b X st) := by
  have F := A.fine
  have hn5 := A.O.n5
  have hs32 : st < 32 := by have := (pow_le hn5).2; omega
  have hf := My.fits_pos F st
  have e1 : Sf71.after ⟨n, ws⟩ a b X st * (tot n fun i => Sf71.fit a b st i) = tot n fun i => tot n fun j => Sf71.fit a b st i * Sf71.Net.chance ⟨n, ws⟩ i j * X (Sf71.copy st i j) := by
    rw [My.after_eq]
    have hf' : (tot (Sf71.Net.mk n ws).n fun i => Sf71.fit a b st i) ≠ 0 := by grind
    rw [Rat.div_mul_cancel hf']
    refine My.tot_congr fun i hi => ?_
    rw [← My.tot_mul]
    exact My.tot_congr fun j hj => by grind
  have e2 : X st * (tot n fun i => Sf71.fit a b st i) = tot n fun i => tot n fun j => Sf71.fit a b st i * Sf71.Net.chance ⟨n, ws⟩ i j * X st := by
    rw [← My.tot_mul]
    refine My.tot_congr fun i hi => ?_
    rw [My.tot_mul_right, My.tot_mul, My.chance_one F hi]; grind
  have e3 : (tot n fun i => Sf71.fit a b st i) * (X st - Sf71.after ⟨n, ws⟩ a b X st) = tot n fun j => tot n fun i => if st.testBit i = st.testBit j then 0 else Sf71.fit a b st i * Sf71.Net.chance ⟨n, ws⟩ i j * (X st - X (fp st j)) := by
    have : (tot n fun i => Sf71.fit a b st i) * (X st - Sf71.after ⟨n, ws⟩ a b X st) = X st * (tot n fun i => Sf71.fit a b st i) - Sf71.after ⟨n, ws⟩ a b X st * (tot n fun i => Sf71.fit a b st i) := by grind
    rw [this, e1, e2, ← My.tot_sub, My.tot_swap (fun j i => if st.testBit i = st.testBit j then 0 else Sf71.fit a b st i * Sf71.Net.chance ⟨n, ws⟩ i j * (X st - X (fp st j)))]
    refine My.tot_congr fun i hi => ?_
    rw [← My.tot_sub]
    refine My.tot_congr fun j hj => ?_
    have ec : Sf71.copy st i j = if st.testBit i = st.testBit j then st else fp st j := copy_all st hs32 i (by omega) j (by omega)
    rw [ec]
    by_cases q : st.testBit i = st.testBit j
    · rw [if_pos q, if_pos q]; grind
    · rw [if_neg q, if_neg q]; grind
  rw [Rat.mul_assoc, e3, ← My.tot_mul]
  refine My.tot_congr fun j hj => ?_
  rw [rate_tot A hj n (Nat.le_refl n), ← My.tot_mul_right, ← My.tot_mul]
  refine My.tot_congr fun i hi => ?_
  by_cases q : st.testBit i = st.testBit j
  · rw [if_pos q, if_pos q]; grind
  · rw [if_neg q, if_neg q]; grind
end
/-! ### the rows -/
def phi (m : Nat) (y : Nat → Rat) (row : List Int) : Rat := tot m fun j => ((row.getD j 0 : Int) : Rat) * y j
theorem getD_set (row : List Int) (k : Nat) (v : Int) (i : Nat) : (row.set k v).getD i 0 = if i = k then (if k < row.length then v else 0) else row.getD i 0 := by
  rw [List.getD_eq_getElem?_getD, List.getElem?_set]
  by_cases h : k = i
  · subst h
    rw [if_pos rfl, if_pos rfl]
    split <;> rfl
  · rw [if_neg h, if_neg (fun z => h z.symm), List.getD_eq_getElem?_getD]
theorem phi_set {m : Nat} {y : Nat → Rat} {row : List Int} (h : row.length = m) {k : Nat} (hk : k < m) (v : Int) : phi m y (row.set k v) = phi m y row + (((v : Int) : Rat) - ((row.getD k 0 : Int) : Rat)) * y k := by
  unfold phi
  have e1 := My.tot_out (fun j => (((row.set k v).getD j 0 : Int) : Rat) * y j) hk
  have e2 := My.tot_out (fun j => ((row.getD j 0 : Int) : Rat) * y j) hk
  have : (tot m fun j => if j = k then 0 else (((row.set k v).getD j 0 : Int) : Rat) * y j) = tot m fun j => if j = k then 0 else ((row.getD j 0 : Int) : Rat) * y j := My.tot_congr fun j _ => by
    by_cases q : j = k
    · rw [if_pos q, if_pos q]
    · rw [if_neg q, if_neg q, getD_set, if_neg q]
  rw [e1, e2, this, getD_set, if_pos rfl, if_pos (by omega)]
  grind
/-- the numbers by states: 0 at both ends -/
def byState (n : Nat) (y : Nat → Rat) (col : Nat → Nat) (t : Nat) : Rat := if t = 0 ∨ t = 2 ^ n - 1 then 0 else y (col t)
theorem phi_facT {n a b : Nat} {sp : List Int} {st : Nat} {col : Nat → Nat} {m : Nat} (C : ∀ t, 0 < t → t < 2 ^ n - 1 → col t < m) (hn : n ≤ 5) (h0 : 0 < st) (h1 : st < 2 ^ n - 1) {j : Nat} (hj : j < n) (y : Nat → Rat) {row : List Int} (hl : row.length = m) :
    phi m y (facT n a b sp st col j row) = phi m y row + ((rateF n a b sp st j n : Int) : Rat) * (byState n y col st - byState n y col (fp st j)) := by
  have hc := C st h0 h1
  have hlt := fp_all n (by omega) st (by omega) j hj
  have e1 : phi m y (row.set (col st) (row.getD (col st) 0 + rateF n a b sp st j n)) = phi m y row + ((rateF n a b sp st j n : Int) : Rat) * y (col st) := by
    rw [phi_set hl hc, Rat.intCast_add]; grind
  have es : byState n y col st = y (col st) := by
    unfold byState
    rw [if_neg (by omega)]
  rw [es]
  generalize hR : row.set (col st) (row.getD (col st) 0 + rateF n a b sp st j n) = R1 at e1
  have hl1 : R1.length = m := by rw [← hR, List.length_set]; exact hl
  unfold facT
  rw [hR]
  by_cases q : fp st j = 0 ∨ fp st j = 2 ^ n - 1
  · rw [if_pos q, e1]
    unfold byState
    rw [if_pos q]; grind
  · rw [if_neg q]
    have hc2 := C (fp st j) (by omega) (by omega)
    rw [phi_set hl1 hc2, e1, Rat.intCast_sub]
    unfold byState
    rw [if_neg q]
    grind
theorem phi_zero (m : Nat) (y : Nat → Rat) : phi m y (List.replicate m 0) = 0 := by
  have e : ∀ i, (List.replicate m (0 : Int)).getD i 0 = 0 := fun i => by
    rw [List.getD_eq_getElem?_getD, List.getElem?_replicate]
    split <;> rfl
  unfold phi
  rw [My.tot_zero fun j _ => by rw [e]; grind]
theorem phi_facR {n a b : Nat} {sp : List Int} {st : Nat} {col : Nat → Nat} {m : Nat} (C : ∀ t, 0 < t → t < 2 ^ n - 1 → col t < m) (hn : n ≤ 5) (h0 : 0 < st) (h1 : st < 2 ^ n - 1) (y : Nat → Rat) : ∀ k, k ≤ n →
    phi m y (facR n a b sp st col m k) = tot k fun j => ((rateF n a b sp st j n : Int) : Rat) * (byState n y col st - byState n y col (fp st j))
  | 0, _ => phi_zero m y
  | k + 1, hk => by
    show phi m y (facT n a b sp st col k (facR n a b sp st col m k)) = tot k _ + _
    rw [phi_facT C hn h0 h1 (by omega) y (facR_length n a b sp st col m k), phi_facR C hn h0 h1 y k (by omega)]
theorem set_small {row : List Int} {M R v : Int} {c : Nat} (h : ∀ i, -M ≤ row.getD i 0 ∧ row.getD i 0 ≤ M) (hM : 0 ≤ M) (hR : 0 ≤ R) (hv : -R ≤ v - row.getD c 0 ∧ v - row.getD c 0 ≤ R) (i : Nat) : -(M + R) ≤ (row.set c v).getD i 0 ∧ (row.set c v).getD i 0 ≤ M + R := by
  have h1 := h c
  have h2 := h i
  rw [getD_set]
  split
  · split <;> omega
  · omega
theorem facT_small {n a b : Nat} {sp : List Int} {st : Nat} {col : Nat → Nat} {j : Nat} {row : List Int} {M R : Int} (hr : 0 ≤ rateF n a b sp st j n ∧ rateF n a b sp st j n ≤ R) (h : ∀ i, -M ≤ row.getD i 0 ∧ row.getD i 0 ≤ M) (hM : 0 ≤ M) (i : Nat) :
    -(M + 2 * R) ≤ (facT n a b sp st col j row).getD i 0 ∧ (facT n a b sp st col j row).getD i 0 ≤ M + 2 * R := by
  have one := set_small (c := col st) (v := row.getD (col st) 0 + rateF n a b sp st j n) (R := R) h hM (by omega) (by omega)
  unfold facT
  generalize row.set (col st) (row.getD (col st) 0 + rateF n a b sp st j n) = R1 at one
  split
  · have := one i
    omega
  · have := set_small (c := col (fp st j)) (v := R1.getD (col (fp st j)) 0 - rateF n a b sp st j n) (R := R) one (by omega) (by omega) (by omega) i
    omega
theorem facR_small {n a b : Nat} {sp : List Int} {st : Nat} {col : Nat → Nat} {m : Nat} {R : Int} (hr : ∀ j, j < n → 0 ≤ rateF n a b sp st j n ∧ rateF n a b sp st j n ≤ R) (hR : 0 ≤ R) : ∀ k, k ≤ n → ∀ i, -(2 * R * (k : Nat)) ≤ (facR n a b sp st col m k).getD i 0 ∧ (facR n a b sp st col m k).getD i 0 ≤ 2 * R * (k : Nat)
  | 0, _, i => by
    have e : (facR n a b sp st col m 0).getD i 0 = 0 := by
      show (List.replicate m (0 : Int)).getD i 0 = 0
      rw [List.getD_eq_getElem?_getD, List.getElem?_replicate]
      split <;> rfl
    rw [e]; omega
  | k + 1, hk, i => by
    have h := facT_small (col := col) (hr k (by omega)) (facR_small (col := col) (m := m) hr hR k (by omega)) (Int.mul_nonneg (by omega) (by omega)) i
    have e : 2 * R * ((k + 1 : Nat) : Int) = 2 * R * (k : Int) + 2 * R := by
      rw [Int.natCast_succ, Int.mul_add, Int.mul_one]
    rw [e]
    exact h
theorem facT_neg {n a b : Nat} {sp : List Int} {st : Nat} {col : Nat → Nat} {j : Nat} {row : List Int} (hr : 0 ≤ rateF n a b sp st j n) {i : Nat} (hi2 : i ≠ col st) (h : row.getD i 0 ≤ 0) : (facT n a b sp st col j row).getD i 0 ≤ 0 := by
  have one : (row.set (col st) (row.getD (col st) 0 + rateF n a b sp st j n)).getD i 0 ≤ 0 := by
    rw [getD_set, if_neg hi2]; exact h
  unfold facT
  split
  · exact one
  · rw [getD_set]
    split
    · rename_i q
      split
      · rw [← q]; omega
      · omega
    · exact one
theorem facR_neg {n a b : Nat} {sp : List Int} {st : Nat} {col : Nat → Nat} {m : Nat} (hr : ∀ j, j < n → 0 ≤ rateF n a b sp st j n) {i : Nat} (hi2 : i ≠ col st) : ∀ k, k ≤ n → (facR n a b sp st col m k).getD i 0 ≤ 0
  | 0, _ => by
    show (List.replicate m (0 : Int)).getD i 0 ≤ 0
    rw [List.getD_eq_getElem?_getD, List.getElem?_replicate]
    split <;> decide
  | k + 1, hk => facT_neg (hr k (by omega)) hi2 (facR_neg (m := m) hr hi2 k (by omega))
/-! ### all together -/
/-- the equations: what stands ahead is h of the state -/
def rowsOf (h : Nat → Int) (n a b s : Nat) (ws : List Int) : List (List Int) := (sts n s).map fun st => h st :: facR n a b (sprs n ws (n * n)) st (colOf (sts n s)) (2 ^ n - 2) n
/-- a number at a step's end: 0 at both ends -/
def inner (n : Nat) (X : Nat → Rat) (t : Nat) : Rat := if t = 0 ∨ t = 2 ^ n - 1 then 0 else X t
section
variable {n a b : Nat} {ws : List Int} (A : AllOk n a b ws)
include A
theorem rows_shp {h : Nat → Int} {s : Nat} (h0 : 0 < s) (h1 : s < 2 ^ n - 1) : Shp (2 ^ n - 2) (rowsOf h n a b s ws) := by
  have hn := A.O.n5
  obtain ⟨f1, f2, f3⟩ := sts_facts n (by omega) s h1 h0
  refine ⟨by unfold rowsOf; rw [List.length_map]; exact f1, fun i hi => ?_⟩
  unfold rowsOf
  rw [List.getD_eq_getElem?_getD, List.getElem?_map, List.getElem?_eq_getElem (by omega)]
  show (_ :: facR _ _ _ _ _ _ _ _).length = _
  rw [List.length_cons, facR_length]
theorem rows_at {h : Nat → Int} {s : Nat} (h0 : 0 < s) (h1 : s < 2 ^ n - 1) {i : Nat} (hi : i < 2 ^ n - 2) : (rowsOf h n a b s ws).getD i [] = h ((sts n s).getD i 0) :: facR n a b (sprs n ws (n * n)) ((sts n s).getD i 0) (colOf (sts n s)) (2 ^ n - 2) n := by
  have hn := A.O.n5
  obtain ⟨f1, f2, f3⟩ := sts_facts n (by omega) s h1 h0
  unfold rowsOf
  rw [List.getD_eq_getElem?_getD (l := List.map _ _), List.getElem?_map, List.getElem?_eq_getElem (by omega), getD_lt (by omega)]
  rfl
theorem sts_at {s : Nat} (h0 : 0 < s) (h1 : s < 2 ^ n - 1) {i : Nat} (hi : i < 2 ^ n - 2) : 0 < (sts n s).getD i 0 ∧ (sts n s).getD i 0 < 2 ^ n - 1 := by
  have hn := A.O.n5
  obtain ⟨f1, f2, f3⟩ := sts_facts n (by omega) s h1 h0
  rw [getD_lt (by omega)]
  exact sts_mem h0 h1 (List.getElem_mem _)
theorem sts_col {s : Nat} (h0 : 0 < s) (h1 : s < 2 ^ n - 1) {t : Nat} (ht0 : 0 < t) (ht1 : t < 2 ^ n - 1) : (sts n s).getD (colOf (sts n s) t) 0 = t := by
  have hn := A.O.n5
  obtain ⟨f1, f2, f3⟩ := sts_facts n (by omega) s h1 h0
  have hlt := List.idxOf_lt_length_of_mem (f3 t ht1 ht0)
  unfold colOf
  rw [getD_lt hlt]
  exact List.getElem_idxOf hlt
theorem rate01 {st j : Nat} (hj : j < n) : (0 : Rat) ≤ ((rt n a b ws st j : Int) : Rat) := by
  have := (rate_bd A (st := st) hj).1
  exact_mod_cast this
/-- a row of the equations at numbers by states -/
theorem row_at {h : Nat → Int} {s : Nat} (h0 : 0 < s) (h1 : s < 2 ^ n - 1) {i : Nat} (hi : i < 2 ^ n - 2) (X : Nat → Rat) :
    (tot (2 ^ n - 2) fun j => ((mat (rowsOf h n a b s ws) i (j + 1) : Int) : Rat) * X ((sts n s).getD j 0)) = tot n fun j => ((rt n a b ws ((sts n s).getD i 0) j : Int) : Rat) * (X ((sts n s).getD i 0) - inner n X (fp ((sts n s).getD i 0) j)) := by
  have hn := A.O.n5
  have hs := sts_at A h0 h1 hi
  have e := phi_facR (a := a) (b := b) (sp := sprs n ws (n * n)) (col := colOf (sts n s)) (m := 2 ^ n - 2) (fun t t0 t1 => (colOf_lt hn h0 h1 t0 t1).2) hn hs.1 hs.2 (fun j => X ((sts n s).getD j 0)) n (Nat.le_refl n)
  have e2 : (tot (2 ^ n - 2) fun j => ((mat (rowsOf h n a b s ws) i (j + 1) : Int) : Rat) * X ((sts n s).getD j 0)) = phi (2 ^ n - 2) (fun j => X ((sts n s).getD j 0)) (facR n a b (sprs n ws (n * n)) ((sts n s).getD i 0) (colOf (sts n s)) (2 ^ n - 2) n) := by
    unfold phi mat
    rw [rows_at A h0 h1 hi]
    rfl
  rw [e2, e]
  refine My.tot_congr fun j hj => ?_
  have hb : ∀ t, t < 2 ^ n → byState n (fun j => X ((sts n s).getD j 0)) (colOf (sts n s)) t = inner n X t := fun t ht => by
    unfold byState inner
    by_cases q : t = 0 ∨ t = 2 ^ n - 1
    · rw [if_pos q, if_pos q]
    · rw [if_neg q, if_neg q]
      dsimp only
      rw [sts_col A h0 h1 (by omega) (by omega)]
  have hfp := fp_all n (by omega) ((sts n s).getD i 0) (by omega) j hj
  rw [hb _ hfp, hb _ (by omega)]
  have e3 : inner n X ((sts n s).getD i 0) = X ((sts n s).getD i 0) := by
    unfold inner
    rw [if_neg (by omega)]
  rw [e3]
theorem lift_pos {t : Nat} (ht : t < 2 ^ n - 1) : 0 < My.lift ⟨n, ws⟩ t := by
  have hfl : My.fl ⟨n, ws⟩ = 2 ^ n - 1 := rfl
  have q1 := My.pw_lt (show t < My.fl ⟨n, ws⟩ by rw [hfl]; exact ht)
  have q2 := My.pw_pos t
  unfold My.lift
  grind
theorem rows_dom {h : Nat → Int} {s : Nat} (h0 : 0 < s) (h1 : s < 2 ^ n - 1) {i : Nat} (hi : i < 2 ^ n - 2) : 0 < tot (2 ^ n - 2) fun j => ((mat (rowsOf h n a b s ws) i (j + 1) : Int) : Rat) * My.lift ⟨n, ws⟩ ((sts n s).getD j 0) := by
  have hn := A.O.n5
  have F := A.fine
  have Ot := A.out
  have hfl : My.fl ⟨n, ws⟩ = 2 ^ n - 1 := rfl
  have hs := sts_at A h0 h1 hi
  rw [row_at A h0 h1 hi]
  have e3 := flow A (My.lift ⟨n, ws⟩) (st := (sts n s).getD i 0) (by omega)
  have hlt : Sf71.after ⟨n, ws⟩ a b (My.lift ⟨n, ws⟩) ((sts n s).getD i 0) < My.lift ⟨n, ws⟩ ((sts n s).getD i 0) := by
    have q := My.after_pw F Ot hs.1 (by rw [hfl]; exact hs.2)
    have q2 := My.after_add ⟨n, ws⟩ a b (fun _ => My.pw (My.fl ⟨n, ws⟩)) (fun t => My.pw t * (-1)) ((sts n s).getD i 0)
    rw [My.after_mul, My.after_const F] at q2
    have q3 : (fun t => My.pw (My.fl ⟨n, ws⟩) + My.pw t * (-1)) = My.lift ⟨n, ws⟩ := by funext t; unfold My.lift; grind
    rw [q3] at q2
    unfold My.lift at q2 ⊢
    grind
  have hcF : 0 < ((com n ws n : Int) : Rat) * (tot n fun i' => Sf71.fit a b ((sts n s).getD i 0) i') := by
    have q1 := (com_pos A.O n (Nat.le_refl n)).1
    have q2 : (0 : Rat) < ((com n ws n : Int) : Rat) := by exact_mod_cast q1
    exact Rat.mul_pos q2 (My.fits_pos F _)
  have hpos2 : 0 < tot n fun j => ((rt n a b ws ((sts n s).getD i 0) j : Int) : Rat) * (My.lift ⟨n, ws⟩ ((sts n s).getD i 0) - My.lift ⟨n, ws⟩ (fp ((sts n s).getD i 0) j)) := by
    rw [e3]
    exact Rat.mul_pos hcF (by grind)
  have hle : (tot n fun j => ((rt n a b ws ((sts n s).getD i 0) j : Int) : Rat) * (My.lift ⟨n, ws⟩ ((sts n s).getD i 0) - My.lift ⟨n, ws⟩ (fp ((sts n s).getD i 0) j))) ≤
      tot n fun j => ((rt n a b ws ((sts n s).getD i 0) j : Int) : Rat) * (My.lift ⟨n, ws⟩ ((sts n s).getD i 0) - inner n (My.lift ⟨n, ws⟩) (fp ((sts n s).getD i 0) j)) := by
    refine My.tot_le fun j hj => ?_
    have hr := rate01 A (st := (sts n s).getD i 0) hj
    have hfp := fp_all n (by omega) ((sts n s).getD i 0) (by omega) j hj
    have b2 : inner n (My.lift ⟨n, ws⟩) (fp ((sts n s).getD i 0) j) ≤ My.lift ⟨n, ws⟩ (fp ((sts n s).getD i 0) j) := by
      unfold inner
      by_cases z : fp ((sts n s).getD i 0) j = 0 ∨ fp ((sts n s).getD i 0) j = 2 ^ n - 1
      · rw [if_pos z]
        rcases z with z | z
        · have := lift_pos A (t := fp ((sts n s).getD i 0) j) (by omega)
          grind
        · rw [z, ← hfl]
          unfold My.lift
          grind
      · rw [if_neg z]
        grind
    have := Rat.mul_nonneg hr (show 0 ≤ My.lift ⟨n, ws⟩ (fp ((sts n s).getD i 0) j) - inner n (My.lift ⟨n, ws⟩) (fp ((sts n s).getD i 0) j) by grind)
    grind
  grind
theorem rows_neg {h : Nat → Int} {s : Nat} (h0 : 0 < s) (h1 : s < 2 ^ n - 1) {i j : Nat} (hi : i < 2 ^ n - 2) (hj : j < 2 ^ n - 2) (hij : j ≠ i) : mat (rowsOf h n a b s ws) i (j + 1) ≤ 0 := by
  have hn := A.O.n5
  obtain ⟨f1, f2, f3⟩ := sts_facts n (by omega) s h1 h0
  have hcol : colOf (sts n s) ((sts n s).getD i 0) = i := by
    unfold colOf
    rw [getD_lt (by omega)]
    have hm : (sts n s)[i] ∈ sts n s := List.getElem_mem _
    have hlt := List.idxOf_lt_length_of_mem hm
    exact (List.getElem_inj f2).mp (List.getElem_idxOf hlt)
  unfold mat
  rw [rows_at A h0 h1 hi]
  show (facR n a b (sprs n ws (n * n)) ((sts n s).getD i 0) (colOf (sts n s)) (2 ^ n - 2) n).getD j 0 ≤ 0
  exact facR_neg (fun j hj => (rate_bd A hj).1) (by rw [hcol]; exact hij) n (Nat.le_refl n)
/-- **the equations are solved by the numbers X** -/
theorem rows_inv {h : Nat → Int} {X : Nat → Rat} (hb : ∀ st, 0 < st → st < 2 ^ n - 1 → -20000000000000000000 ≤ h st ∧ h st ≤ 20000000000000000000)
    (hX : ∀ st, 0 < st → st < 2 ^ n - 1 → (tot n fun j => ((rt n a b ws st j : Int) : Rat) * (X st - inner n X (fp st j))) = ((h st : Int) : Rat)) {s : Nat} (h0 : 0 < s) (h1 : s < 2 ^ n - 1) :
    My.Inv (2 ^ n - 2) ((20000000000000000000 : Int) : Rat) kap (2 ^ n - 2) (mat (rowsOf h n a b s ws)) 1 (fun j => X ((sts n s).getD j 0)) (fun j => My.lift ⟨n, ws⟩ ((sts n s).getD j 0)) := by
  have hn := A.O.n5
  have hp2 := pow_le hn
  refine My.Inv.start ⟨?_, ?_, ?_⟩ ?_ ?_ ?_ ?_ ?_
  · exact Rat.intCast_nonneg.mpr (by decide)
  · unfold kap
    have : (1 : Nat) ≤ 2 ^ 70 := by decide
    exact_mod_cast this
  · unfold kap
    have h : (((2 ^ n - 2 : Nat) : Int) * 20000000000000000000 : Int) ≤ (((2 ^ 70 : Nat) : Int) : Int) := by
      have e : ((2 ^ 70 : Nat) : Int) = 1180591620717411303424 := by decide
      rw [e]; omega
    have h2 := Rat.intCast_le_intCast.mpr h
    rw [Rat.intCast_mul, Rat.intCast_natCast, Rat.intCast_natCast] at h2
    exact h2
  · intro i j hi hj
    have hs := sts_at A h0 h1 hi
    have key : -(20000000000000000000 : Int) ≤ mat (rowsOf h n a b s ws) i j ∧ mat (rowsOf h n a b s ws) i j ≤ (20000000000000000000 : Int) := by
      unfold mat
      rw [rows_at A h0 h1 hi]
      cases j with
      | zero => exact hb _ hs.1 hs.2
      | succ j =>
        have h := facR_small (col := colOf (sts n s)) (m := 2 ^ n - 2) (fun j hj => rate_bd A (st := (sts n s).getD i 0) hj) (by decide) n (Nat.le_refl n) j
        have e : 2 * (1562500000000000000 : Int) * (n : Int) ≤ 20000000000000000000 := by omega
        show _ ≤ (facR n a b (sprs n ws (n * n)) ((sts n s).getD i 0) (colOf (sts n s)) (2 ^ n - 2) n).getD j 0 ∧ (facR n a b (sprs n ws (n * n)) ((sts n s).getD i 0) (colOf (sts n s)) (2 ^ n - 2) n).getD j 0 ≤ _
        omega
    constructor
    · rw [← Rat.intCast_neg]
      exact Rat.intCast_le_intCast.mpr key.1
    · exact Rat.intCast_le_intCast.mpr key.2
  · intro i j hi hj hij
    exact rows_neg A h0 h1 hi hj hij
  · intro j hj
    exact lift_pos A (sts_at A h0 h1 hj).2
  · intro i hi
    exact rows_dom A h0 h1 hi
  · intro i hi
    have hs := sts_at A h0 h1 hi
    rw [row_at A h0 h1 hi X, hX _ hs.1 hs.2]
    unfold mat
    rw [rows_at A h0 h1 hi]
    rfl
end
/-- nothing is refused: what is known then -/
theorem ref_zero {n a b s : Int} {ws : List Int} (h : refOf n a b s ws = 0) : ∃ m x y t : Nat, n = (m : Int) ∧ a = (x : Int) ∧ b = (y : Int) ∧ s = (t : Int) ∧ t < 2 ^ m ∧ AllOk m x y ws := by
  unfold refOf at h
  by_cases h1 : (Sf96.bothOk n a b ws && Sf71.inside n s) = false
  · rw [if_pos h1] at h; exact absurd h (by decide)
  rw [if_neg h1] at h
  by_cases h2 : Sf96.joined (Sf71.net n ws) = false
  · rw [if_pos h2] at h; exact absurd h (by decide)
  have h1 : (Sf96.bothOk n a b ws && Sf71.inside n s) = true := by
    cases e : (Sf96.bothOk n a b ws && Sf71.inside n s) with
    | true => rfl
    | false => exact absurd e h1
  have h2 : Sf96.joined (Sf71.net n ws) = true := by
    cases e : Sf96.joined (Sf71.net n ws) with
    | true => rfl
    | false => exact absurd e h2
  unfold Sf96.bothOk at h1
  rw [Bool.and_eq_true, Bool.and_eq_true, Bool.and_eq_true] at h1
  obtain ⟨⟨hn, ha, hb⟩, hs⟩ := h1
  unfold Sf71.within at ha hb
  unfold Sf71.inside at hs
  rw [Bool.and_eq_true, decide_eq_true_eq, decide_eq_true_eq] at ha hb hs
  have ha2 : a ≤ (100 : Int) := ha.2
  have hb2 : b ≤ (100 : Int) := hb.2
  have hf := fit_iff.mp hn
  obtain ⟨m, rfl⟩ : ∃ m : Nat, n = (m : Int) := ⟨n.toNat, by omega⟩
  obtain ⟨x, rfl⟩ : ∃ m : Nat, a = (m : Int) := ⟨a.toNat, by omega⟩
  obtain ⟨y, rfl⟩ : ∃ m : Nat, b = (m : Int) := ⟨b.toNat, by omega⟩
  obtain ⟨t, rfl⟩ : ∃ m : Nat, s = (m : Int) := ⟨s.toNat, by omega⟩
  refine ⟨m, x, y, t, rfl, rfl, rfl, rfl, ?_, WsOk.of hn, by omega, by omega, h2⟩
  have := hs.2
  rw [Int.toNat_natCast] at this
  exact_mod_cast this
end Tk
set_option Elab.async false
set_option linter.all false
set_option maxRecDepth 100000
set_option maxHeartbeats 2000000
namespace Tk
open My (tot)
/-! ### the equations of the chances -/
def trF (n a b : Nat) (sp : List Int) (st : Nat) : Nat → Int := upTo (fun j r => if fp st j = 2 ^ n - 1 then r + rateF n a b sp st j n else r) 0
abbrev trO (n a b : Nat) (ws : List Int) (st : Nat) : Int := trF n a b (sprs n ws (n * n)) st n
section
variable {n a b : Nat} {ws : List Int} (A : AllOk n a b ws)
include A
theorem tr_tot {st : Nat} : ∀ k, k ≤ n → ((trF n a b (sprs n ws (n * n)) st k : Int) : Rat) = tot k fun j => if fp st j = 2 ^ n - 1 then ((rt n a b ws st j : Int) : Rat) else 0
  | 0, _ => rfl
  | k + 1, hk => by
    have ih := tr_tot (st := st) k (by omega)
    show (((if fp st k = 2 ^ n - 1 then trF n a b (sprs n ws (n * n)) st k + rateF n a b (sprs n ws (n * n)) st k n else trF n a b (sprs n ws (n * n)) st k) : Int) : Rat) = tot k _ + _
    dsimp only
    by_cases e : fp st k = 2 ^ n - 1
    · rw [if_pos e, if_pos e, Rat.intCast_add, ih]
    · rw [if_neg e, if_neg e, ih]; grind
theorem tr_bd {st : Nat} : ∀ k, k ≤ n → 0 ≤ trF n a b (sprs n ws (n * n)) st k ∧ trF n a b (sprs n ws (n * n)) st k ≤ (k : Nat) * 1562500000000000000
  | 0, _ => ⟨by show (0 : Int) ≤ 0; decide, by show (0 : Int) ≤ ((0 : Nat) : Int) * 1562500000000000000; omega⟩
  | k + 1, hk => by
    have ih := tr_bd (st := st) k (by omega)
    have hr : 0 ≤ rateF n a b (sprs n ws (n * n)) st k n ∧ rateF n a b (sprs n ws (n * n)) st k n ≤ 1562500000000000000 := rate_bd A (st := st) (show k < n by omega)
    show 0 ≤ (if fp st k = 2 ^ n - 1 then trF n a b (sprs n ws (n * n)) st k + rateF n a b (sprs n ws (n * n)) st k n else trF n a b (sprs n ws (n * n)) st k) ∧
      (if fp st k = 2 ^ n - 1 then trF n a b (sprs n ws (n * n)) st k + rateF n a b (sprs n ws (n * n)) st k n else trF n a b (sprs n ws (n * n)) st k) ≤ _
    split <;> omega
theorem takes_eqs {st : Nat} (h0 : 0 < st) (h1 : st < 2 ^ n - 1) : (tot n fun j => ((rt n a b ws st j : Int) : Rat) * (Sf96.chances ⟨n, ws⟩ a b st - inner n (Sf96.chances ⟨n, ws⟩ a b) (fp st j))) = ((trO n a b ws st : Int) : Rat) := by
  have hn := A.O.n5
  have F := A.fine
  have T := My.chances_takes F A.out
  have T2 : Sf96.chances ⟨n, ws⟩ a b (2 ^ n - 1) = 1 := T.2.1
  have e3 := flow A (Sf96.chances ⟨n, ws⟩ a b) (st := st) (by omega)
  have e4 : Sf96.chances ⟨n, ws⟩ a b st = Sf71.after ⟨n, ws⟩ a b (Sf96.chances ⟨n, ws⟩ a b) st := T.2.2 _ h0 h1
  rw [← e4] at e3
  have e5 : (tot n fun j => ((rt n a b ws st j : Int) : Rat) * (Sf96.chances ⟨n, ws⟩ a b st - Sf96.chances ⟨n, ws⟩ a b (fp st j))) = 0 := by rw [e3]; grind
  show _ = ((trF n a b (sprs n ws (n * n)) st n : Int) : Rat)
  rw [tr_tot A n (Nat.le_refl n)]
  have e6 : (tot n fun j => ((rt n a b ws st j : Int) : Rat) * (Sf96.chances ⟨n, ws⟩ a b st - inner n (Sf96.chances ⟨n, ws⟩ a b) (fp st j))) =
      (tot n fun j => ((rt n a b ws st j : Int) : Rat) * (Sf96.chances ⟨n, ws⟩ a b st - Sf96.chances ⟨n, ws⟩ a b (fp st j))) + tot n fun j => if fp st j = 2 ^ n - 1 then ((rt n a b ws st j : Int) : Rat) else 0 := by
    rw [← My.tot_add]
    refine My.tot_congr fun j hj => ?_
    unfold inner
    by_cases z2 : fp st j = 2 ^ n - 1
    · rw [if_pos (Or.inr z2), if_pos z2, z2, T2]; grind
    · rw [if_neg z2]
      by_cases z1 : fp st j = 0
      · rw [if_pos (Or.inl z1), z1, T.1]; grind
      · rw [if_neg (by omega)]; grind
  rw [e6, e5]; grind
def eqsOf (n a b s : Nat) (ws : List Int) : List (List Int) := rowsOf (trO n a b ws) n a b s ws
theorem eqs_inv {s : Nat} (h0 : 0 < s) (h1 : s < 2 ^ n - 1) : My.Inv (2 ^ n - 2) ((20000000000000000000 : Int) : Rat) kap (2 ^ n - 2) (mat (eqsOf n a b s ws)) 1 (fun j => Sf96.chances ⟨n, ws⟩ a b ((sts n s).getD j 0)) (fun j => My.lift ⟨n, ws⟩ ((sts n s).getD j 0)) :=
  rows_inv A (fun st h0 h1 => by
    have h := tr_bd A (st := st) n (Nat.le_refl n)
    have h5 := A.O.n5
    show _ ≤ trF n a b (sprs n ws (n * n)) st n ∧ trF n a b (sprs n ws (n * n)) st n ≤ _
    omega) (fun st h0 h1 => takes_eqs A h0 h1) h0 h1
theorem eqs_shp {s : Nat} (h0 : 0 < s) (h1 : s < 2 ^ n - 1) : Shp (2 ^ n - 2) (eqsOf n a b s ws) := rows_shp A h0 h1
end
end Tk
set_option Elab.async false
set_option linter.all false
set_option maxRecDepth 100000
set_option maxHeartbeats 2000000
namespace Tk
open PySem PySem.Spec PyProof.Rows L2
open PySem.W (Codec)
abbrev dTrate : Stmt := top 18
abbrev dEqs : Stmt := top 16
section
variable {P : Program} {w : World} {K : PySem.W.Frag} {mg : Str → Option Value} {base : Heap}
/-! ### takeover_rate -/
def spTrate (K : PySem.W.Frag) : Sp := fun vs H Q _ => ∃ (n a b : Nat) (sa : Addr) (sp : List Int) (st : Nat), vs = [.int n, .int a, .int b, .ref sa, .int st] ∧ SqL K H sa (sp.map V.int) ∧ n ≤ 5 ∧ a ≤ 100 ∧ b ≤ 100 ∧ sp.length = n * n ∧ st < 2 ^ n ∧ Q (.int (trF n a b sp st n)) H
theorem scTrate : FnScope ["n", "a", "b", "spread", "state", "rate", "j"] ["n", "a", "b", "spread", "state"] (defScope dTrate) := ⟨rfl, rfl, rfl, by decide +kernel, rfl, by decide +kernel, by decide +kernel⟩
theorem ok_trate {f : Addr} {fd : FuncData} (F : Fun K "takeover_rate" "takeover_rate" dTrate f fd) (B : Blt mg) (Cr : Cal P w K mg base "change_rate" ["n", "a", "b", "spread", "state", "j"] 2 (spRate K)) (Cw : Cal P w K mg base "whole_set" ["n"] 1 spWhole) :
    FnOk P w K mg base CX0 3 f fd ["n", "a", "b", "spread", "state"] (spTrate K) := by
  refine F.ok scTrate (fun vs H Q E h => ?_) (fun cdv A outer s H vs Q E hr h => ?_)
  · obtain ⟨n, a, b, sa, sp, st, rfl, _⟩ := h
    rfl
  · obtain ⟨n, a, b, sa, sp, st, rfl, hS, hn, ha, hb, hl, hst, k⟩ := h
    have hp2 := pow_le hn
    refine ⟨_, pss_cons (ps_set (i := 5) scTrate.nd rfl (Or.inl rfl) pe_int)
      (pss_cons (ps_for PassesOwn.never rfl (pi_range1 rfl B.range (pa_cons (pv 0) pa_nil)) (pg_name (i := 6) scTrate.nd rfl (Or.inl rfl))
        (pss_one (ps_if (pt_cmpR op_eq (pe_op op_xor (pv 4) (pe_op op_shl pe_int (pv 6))) (pe_cal Cw (hr.mono (by decide)) rfl (pa_cons (pv 0) pa_nil)) (nomark _))
          (pss_one (ps_set (i := 5) scTrate.nd rfl (Or.inl rfl) (pe_op op_add (pv 5) (pe_cal Cr hr rfl (pa_cons (pv 0) (pa_cons (pv 1) (pa_cons (pv 2) (pa_cons (pv 3) (pa_cons (pv 4) (pa_cons (pv 6) pa_nil)))))))))) pss_nil)))
      (pss_one (ps_ret (pv 5)))), ?_⟩
    refine ⟨_, rfl, _, rfl, by omega, by omega, ?_⟩
    rw [Int.toNat_natCast]
    refine for_range (n := n) (fun k σ H' => H' = H ∧ ∃ v, σ = [some (.int n), some (.int a), some (.int b), some (.ref sa), some (.int st), some (.int (trF n a b sp st k)), v]) ⟨rfl, none, rfl⟩ ?_ ?_
    · rintro j σ H' hj ⟨rfl, v, rfl⟩
      have e0 : (0 : Int) + (j : Int) = (j : Int) := Int.zero_add _
      rw [e0]
      refine ⟨_, rfl, _, rfl, _, _, rfl, rfl, ⟨by omega, by omega, by decide⟩, _, _, rfl, rfl, _, rfl, n, rfl, hn, rfl, _, rfl, ?_⟩
      have ex : Builtin.bitXor (st : Int) ((1 : Int) * 2 ^ ((j : Int)).toNat) = ((fp st j : Nat) : Int) := by
        rw [shl_one]; exact xor_all st (by omega) j (by omega)
      by_cases hf : fp st j = 2 ^ n - 1
      · refine iteTrue (by show decide (V.int (Builtin.bitXor (st : Int) ((1 : Int) * 2 ^ ((j : Int)).toNat)) = V.int ((2 ^ n - 1 : Nat) : Int)) = true; rw [ex, hf]; exact decide_eq_true rfl) ?_
        refine ⟨_, rfl, _, rfl, _, rfl, _, rfl, _, rfl, _, rfl, _, rfl, n, a, b, sa, sp, st, j, rfl, hS, hn, ha, hb, hl, hj, _, _, rfl, rfl, rfl, some (.int j), ?_⟩
        have e : trF n a b sp st (j + 1) = trF n a b sp st j + rateF n a b sp st j n := if_pos hf
        rw [e]; rfl
      · have hf' : ¬ V.int ((fp st j : Nat) : Int) = V.int ((2 ^ n - 1 : Nat) : Int) := fun z => by
          injection z with z
          exact hf (by exact_mod_cast z)
        refine iteFalse (by show decide (V.int (Builtin.bitXor (st : Int) ((1 : Int) * 2 ^ ((j : Int)).toNat)) = V.int ((2 ^ n - 1 : Nat) : Int)) = false; rw [ex]; exact decide_eq_false hf') ?_
        refine ⟨rfl, some (.int j), ?_⟩
        have e : trF n a b sp st (j + 1) = trF n a b sp st j := if_neg hf
        rw [e]; rfl
    · rintro σ H' ⟨rfl, v, rfl⟩
      exact ⟨_, rfl, k⟩
/-! ### takeover_equations -/
def spEqs (K : PySem.W.Frag) : Sp := fun vs H Q _ => ∃ (n a b s : Nat) (wa : Addr) (ws : List Int), vs = [.int n, .int a, .int b, .int s, .ref wa] ∧ SqL K H wa (ws.map V.int) ∧ WsOk n ws ∧ a ≤ 100 ∧ b ≤ 100 ∧ 0 < s ∧ s < 2 ^ n - 1 ∧
  ∀ (H' : Hp) (p : Addr), Same H H' → Tbl H' p (eqsOf n a b s ws) → Q (.ref p) H'
theorem scEqs : FnScope ["n", "a", "b", "s", "weights", "spread", "states", "state"] ["n", "a", "b", "s", "weights"] (defScope dEqs) := ⟨rfl, rfl, rfl, by decide +kernel, rfl, by decide +kernel, by decide +kernel⟩
theorem ok_eqs {f : Addr} {fd : FuncData} (F : Fun K "takeover_equations" "takeover_equations" dEqs f fd) (B : Blt mg) (Cs : Cal P w K mg base "spreads" ["n", "weights"] 2 (spSpreads K)) (Cm : Cal P w K mg base "mixed_states" ["n", "first"] 2 (spMixed K))
    (Ct : Cal P w K mg base "takeover_rate" ["n", "a", "b", "spread", "state"] 3 (spTrate K)) (Cf : Cal P w K mg base "factors" ["n", "a", "b", "spread", "state", "states"] 3 (spFactors K)) : FnOk P w K mg base CX0 4 f fd ["n", "a", "b", "s", "weights"] (spEqs K) := by
  refine F.ok scEqs (fun vs H Q E h => ?_) (fun cdv A outer s H vs Q E hr h => ?_)
  · obtain ⟨n, a, b, s, wa, ws, rfl, _⟩ := h
    rfl
  · obtain ⟨n, a, b, s0, wa, ws, rfl, hS, O, ha, hb, h0, h1, k⟩ := h
    have hn := O.n5
    have hp2 := pow_le hn
    obtain ⟨f1, f2, f3⟩ := sts_facts n (by omega) s0 h1 h0
    refine ⟨_, pss_cons (ps_set (i := 5) scEqs.nd rfl (Or.inr rfl) (pe_cal Cs (hr.mono (by decide)) rfl (pa_cons (pv 0) (pa_cons (pv 4) pa_nil))))
      (pss_cons (ps_set (i := 6) scEqs.nd rfl (Or.inr rfl) (pe_cal Cm (hr.mono (by decide)) rfl (pa_cons (pv 0) (pa_cons (pv 3) pa_nil))))
      (pss_one (ps_ret (pe_lc (own := [("state", 7)]) rfl scEqs.nd (pi_list (pv 6))
          (blkOk_by (N := ["n", "a", "b", "s", "weights", "spread", "states", "state"]) (sc := defScope dEqs) (by decide +kernel))
          (fun s H C cl fp => pg_name (i := 7) scEqs.nd rfl (Or.inl rfl)) (fun s H C cl fp => pts_nil)
          (fun s H C cl fp => pe_op op_cat (pe_lst (pa_cons (pe_cal Ct (hr.mono (by decide)) rfl (pa_cons (pv 0) (pa_cons (pv 1) (pa_cons (pv 2) (pa_cons (pv 5) (pa_cons (pv 7) pa_nil)))))) pa_nil))
            (pe_cal Cf hr rfl (pa_cons (pv 0) (pa_cons (pv 1) (pa_cons (pv 2) (pa_cons (pv 5) (pa_cons (pv 7) (pa_cons (pv 6) pa_nil)))))))))))), ?_⟩
    refine ⟨_, rfl, _, rfl, n, wa, ws, rfl, hS, O, fun H1 sa sm1 hsaN hsa => ?_⟩
    refine ⟨_, rfl, _, rfl, n, s0, rfl, hn, h0, h1, fun H3 q sm3 hq3 => ?_⟩
    have hsl : (sprs n ws (n * n)).length = n * n := by unfold sprs; rw [List.length_map, List.length_range]
    refine ⟨_, rfl, q, rfl, ⟨_, SqL.of hq3⟩, fun D2 hD2 => ?_⟩
    refine lc_list (K := K) (a := q) (xs := nats (sts n s0)) (fun i H' => Same H3 H' ∧ ∃ as : List Addr, H' D2 = some (.lst (as.map V.ref)) ∧ as.length = i ∧
      ∀ (j : Nat) (x : Addr), as[j]? = some x → H' x = some (.lst ((trF n a b (sprs n ws (n * n)) ((sts n s0).getD j 0) n :: facR n a b (sprs n ws (n * n)) ((sts n s0).getD j 0) (colOf (sts n s0)) (2 ^ n - 2) n).map V.int)) ∧ x ≠ D2)
      ⟨fun b o e => by rw [upd_ne (ne_of_none e hD2)]; exact e, [], upd_same, rfl, fun j x h => by simp at h⟩ (fun i H' _ ⟨sm, _⟩ => sm.seq (SqL.of hq3)) ?_ ?_
    · rintro i y H' hi ⟨sm, as, hd, hlen, hall⟩
      obtain ⟨hil, rfl⟩ := nats_get hi
      have hmem : (sts n s0).getD i 0 ∈ sts n s0 := by rw [getD_lt hil]; exact List.getElem_mem hil
      have hst := sts_mem h0 h1 hmem
      refine ⟨rfl, yes_in ?_⟩
      refine ⟨_, rfl, _, rfl, _, rfl, _, rfl, _, rfl, n, a, b, sa, sprs n ws (n * n), (sts n s0).getD i 0, rfl, sm.seq (SqL.of (sm3 _ _ hsa)), hn, ha, hb, hsl, by omega, ?_⟩
      refine ⟨by show 1 ≤ sizeLine; rw [sizeLine_eq]; omega, fun l hl => ?_⟩
      have hlD := (upd_ne (o := .lst [V.int (trF n a b (sprs n ws (n * n)) ((sts n s0).getD i 0) n)]) (ne_of_none hd hl)).trans hd
      have sml : Same H' (upd H' l (.lst [V.int (trF n a b (sprs n ws (n * n)) ((sts n s0).getD i 0) n)])) := fun b o e => by rw [upd_ne (ne_of_none e hl)]; exact e
      have hll : upd H' l (.lst [V.int (trF n a b (sprs n ws (n * n)) ((sts n s0).getD i 0) n)]) l = some (.lst [V.int (trF n a b (sprs n ws (n * n)) ((sts n s0).getD i 0) n)]) := upd_same
      generalize upd H' l (.lst [V.int (trF n a b (sprs n ws (n * n)) ((sts n s0).getD i 0) n)]) = H5 at hlD sml hll ⊢
      refine ⟨_, rfl, _, rfl, _, rfl, _, rfl, _, rfl, _, rfl, n, a, b, sa, sprs n ws (n * n), (sts n s0).getD i 0, q, s0, rfl, sml.seq (sm.seq (SqL.of (sm3 _ _ hsa))), sml.seq (sm.seq (SqL.of hq3)), hn, ha, hb, hsl, h0, h1, hst.1, hst.2, fun H4 x sm6 hx hx4 => ?_⟩
      refine ⟨l, x, _, _, rfl, rfl, sm6 _ _ hll, hx4, ?_, fun p hp => ?_⟩
      · rw [List.length_map, facR_length, sizeLine_eq]
        show 1 + (2 ^ n - 2) ≤ _
        omega
      have hp1 : H5 p = none := sm6.free hp
      have hpD : p ≠ D2 := fun z => by rw [z, sm6 _ _ hlD] at hp; cases hp
      refine ⟨_, (upd_ne (Ne.symm hpD)).trans (sm6 _ _ hlD), ?_, fun b o e => ?_, as ++ [p], ?_, ?_, ?_⟩
      · rw [List.length_map, hlen, sizeLine_eq]
        omega
      · have z := sm6 _ _ (sml _ _ (sm b o e))
        rw [upd_ne (ne_of_none e hD2), upd_ne (ne_of_none z hp)]; exact z
      · rw [upd_same, List.map_append]; rfl
      · rw [List.length_append, hlen]; rfl
      · intro j z hz
        by_cases hj : j < as.length
        · rw [List.getElem?_append_left hj] at hz
          obtain ⟨z1, z2⟩ := hall j z hz
          have z3 := sm6 _ _ (sml _ _ z1)
          exact ⟨by rw [upd_ne z2, upd_ne (ne_of_none z3 hp)]; exact z3, z2⟩
        · have hj' : j = i := by
            have := (List.getElem?_eq_some_iff.mp hz).1
            rw [List.length_append] at this
            simp at this; omega
          subst hj'
          rw [List.getElem?_append_right (by omega), hlen, Nat.sub_self] at hz
          have : p = z := by simpa using hz
          subst this
          exact ⟨by rw [upd_ne hpD, upd_same]; rfl, hpD⟩
    · rintro H4 ⟨sm, as, hd, hlen, hall⟩
      unfold nats at hlen
      rw [List.length_map] at hlen
      refine k H4 D2 (fun b o e => sm _ _ (sm3 _ _ (sm1 _ _ e))) ⟨as, hd, ?_, fun j x hx => ?_⟩
      · unfold eqsOf rowsOf; rw [List.length_map]; exact hlen
      · obtain ⟨z1, z2⟩ := hall j x hx
        have hj : j < (sts n s0).length := by
          have := (List.getElem?_eq_some_iff.mp hx).1
          omega
        refine ⟨_, ?_, z1, z2⟩
        unfold eqsOf rowsOf
        rw [List.getElem?_map, List.getElem?_eq_getElem hj, getD_lt hj]; rfl
end
end Tk
set_option Elab.async false
set_option linter.all false
set_option maxRecDepth 100000
set_option maxHeartbeats 2000000
namespace Tk
open PySem PySem.Spec PyProof.Rows L2
open PySem.W (Codec)
abbrev dRefW : Stmt := top 5
abbrev dChances : Stmt := top 3
theorem one_lt : ∀ n : Nat, n < 6 → 2 ≤ n → ∀ i : Nat, i < n → 2 ^ i < 2 ^ n - 1 := by decide +kernel
theorem inside_zero (n : Int) : Sf71.inside n 0 = true := by
  unfold Sf71.inside
  rw [Bool.and_eq_true, decide_eq_true_eq, decide_eq_true_eq]
  refine ⟨Int.le_refl _, ?_⟩
  have : 0 < 2 ^ n.toNat := Nat.pow_pos (by decide)
  exact_mod_cast this
/-- a list of pairs: fractions with the values x -/
structure Prs (H : Hp) (p : Addr) (n : Nat) (x : Nat → Rat) (as : List Addr) (cf : Nat → Int × Int) : Prop where
  at_ : H p = some (.lst (as.map V.ref))
  len : as.length = n
  each : ∀ (j : Nat) (z : Addr), as[j]? = some z → H z = some (.tup [.int (cf j).1, .int (cf j).2]) ∧ 0 < (cf j).2 ∧ (((cf j).1 : Int) : Rat) = (((cf j).2 : Int) : Rat) * x j ∧ Sz 2801 (cf j).1 ∧ Sz 2801 (cf j).2
section
variable {P : Program} {w : World} {K : PySem.W.Frag} {mg : Str → Option Value} {base : Heap}
/-! ### refusal_without_start -/
def spRefW (K : PySem.W.Frag) : Sp := fun vs H Q _ => ∃ (n a b : Int) (wa : Addr) (ws : List Int), vs = [.int n, .int a, .int b, .ref wa] ∧ SqL K H wa (ws.map V.int) ∧ ∀ H' : Hp, Same H H' → Q (.int (refOf n a b 0 ws)) H'
theorem scRefW : FnScope ["n", "a", "b", "weights"] ["n", "a", "b", "weights"] (defScope dRefW) := ⟨rfl, rfl, rfl, by decide +kernel, rfl, by decide +kernel, by decide +kernel⟩
theorem ok_refw {f : Addr} {fd : FuncData} (F : Fun K "refusal_without_start" "refusal_without_start" dRefW f fd) (Cr : Cal P w K mg base "refusal_of" ["n", "a", "b", "s", "weights"] 4 (spRefusal K)) : FnOk P w K mg base CX0 5 f fd ["n", "a", "b", "weights"] (spRefW K) := by
  refine F.ok scRefW (fun vs H Q E h => ?_) (fun cdv A outer s H vs Q E hr h => ?_)
  · obtain ⟨n, a, b, wa, ws, rfl, _⟩ := h
    rfl
  · obtain ⟨n, a, b, wa, ws, rfl, hS, k⟩ := h
    refine ⟨_, pss_one (ps_ret (pe_cal Cr hr rfl (pa_cons (pv 0) (pa_cons (pv 1) (pa_cons (pv 2) (pa_cons pe_int (pa_cons (pv 3) pa_nil))))))), ?_⟩
    exact ⟨_, rfl, _, rfl, _, rfl, _, rfl, n, a, b, 0, wa, ws, rfl, hS, k⟩
/-! ### chances_from_one -/
def spChances (K : PySem.W.Frag) : Sp := fun vs H Q _ => ∃ (n a b : Nat) (wa : Addr) (ws : List Int), vs = [.int n, .int a, .int b, .ref wa] ∧ SqL K H wa (ws.map V.int) ∧ AllOk n a b ws ∧
  ∀ (H' : Hp) (p : Addr) (as : List Addr) (cf : Nat → Int × Int), Same H H' → Prs H' p n (fun i => Sf96.chances ⟨n, ws⟩ a b (2 ^ i)) as cf → Q (.ref p) H'
theorem scChances : FnScope ["n", "a", "b", "weights", "i"] ["n", "a", "b", "weights"] (defScope dChances) := ⟨rfl, rfl, rfl, by decide +kernel, rfl, by decide +kernel, by decide +kernel⟩
theorem ok_chances {f : Addr} {fd : FuncData} (F : Fun K "chances_from_one" "chances_from_one" dChances f fd) (B : Blt mg) (Ce : Cal P w K mg base "takeover_equations" ["n", "a", "b", "s", "weights"] 4 (spEqs K)) (Cf : Cal P w K mg base "first_unknown" ["rows"] 2 (spFirst K)) :
    FnOk P w K mg base CX0 5 f fd ["n", "a", "b", "weights"] (spChances K) := by
  refine F.ok scChances (fun vs H Q E h => ?_) (fun cdv A outer s H vs Q E hr h => ?_)
  · obtain ⟨n, a, b, wa, ws, rfl, _⟩ := h
    rfl
  · obtain ⟨n, a, b, wa, ws, rfl, hS, Ok, k⟩ := h
    have hn := Ok.O.n5
    have hn2 := Ok.O.n2
    have hp2 := pow_le hn
    refine ⟨_, pss_one (ps_ret (pe_lc (own := [("i", 4)]) rfl scChances.nd (pi_range1 rfl B.range (pa_cons (pv 0) pa_nil)) (blkOk_by (N := ["n", "a", "b", "weights", "i"]) (sc := defScope dChances) (by decide +kernel)) (fun s H C cl fp => pg_name (i := 4) scChances.nd rfl (Or.inl rfl)) (fun s H C cl fp => pts_nil)
      (fun s H C cl fp => pe_cal Cf (hr.mono (by decide)) rfl (pa_cons (pe_cal Ce hr rfl (pa_cons (pv 0) (pa_cons (pv 1) (pa_cons (pv 2) (pa_cons (pe_op op_shl pe_int (pv 4)) (pa_cons (pv 3) pa_nil)))))) pa_nil)))), ?_⟩
    refine ⟨_, rfl, _, rfl, by omega, by omega, fun D hD => ?_⟩
    rw [Int.toNat_natCast]
    have sD : Same H (upd H D (.lst [])) := fun b o e => by rw [upd_ne (ne_of_none e hD)]; exact e
    refine lc_range (n := n) (fun i H' => Same H H' ∧ ∃ (as : List Addr) (cf : Nat → Int × Int), Prs H' D i (fun i => Sf96.chances ⟨n, ws⟩ a b (2 ^ i)) as cf) ⟨sD, [], fun _ => (0, 1), upd_same, rfl, fun j z h => by simp at h⟩ ?_ ?_
    · rintro i H' hi ⟨sm, as, cf, hP⟩
      have e0 : (0 : Int) + (i : Int) = (i : Int) := Int.zero_add _
      rw [e0]
      have hlt := one_lt n (by omega) hn2 i hi
      have hpos : 0 < 2 ^ i := Nat.pow_pos (by decide)
      have I := eqs_inv Ok hpos hlt
      refine ⟨rfl, yes_in ?_⟩
      refine ⟨_, rfl, _, rfl, _, rfl, _, rfl, _, _, rfl, rfl, ⟨by omega, by omega, by decide⟩, _, rfl, n, a, b, 2 ^ i, wa, ws, ?_, sm.seq hS, Ok.O, Ok.a1.2, Ok.b1.2, hpos, hlt, fun H2 p sm2 hT => ?_⟩
      · show [V.int n, .int a, .int b, V.int ((1 : Int) * 2 ^ ((i : Int)).toNat), .ref wa] = _
        rw [shl_one]
      refine ⟨p, _, 2 ^ n - 2, 2 ^ n - 2, _, _, _, rfl, hT, eqs_shp Ok hpos hlt, ?_, by omega, by omega, I, fun H3 q c d sm3 hq hd hc s1 s2 => ?_⟩
      · have : 2 ^ 2 ≤ 2 ^ n := Nat.pow_le_pow_right (by omega) hn2
        omega
      have hD3 := sm3 _ _ (sm2 _ _ hP.at_)
      have hqD : q ≠ D := fun z => by rw [z, hD3] at hq; cases hq
      refine ⟨_, hD3, ?_, fun b o e => ?_, as ++ [q], fun j => if j = i then (c, d) else cf j, ?_, ?_, ?_⟩
      · rw [List.length_map, hP.len, sizeLine_eq]; omega
      · rw [upd_ne (ne_of_none e hD)]; exact sm3 _ _ (sm2 _ _ (sm b o e))
      · rw [upd_same, List.map_append]; rfl
      · rw [List.length_append, hP.len]; rfl
      · intro j z hz
        by_cases hj : j < as.length
        · rw [List.getElem?_append_left hj] at hz
          obtain ⟨z1, z2⟩ := hP.each j z hz
          have hzD : z ≠ D := fun e => by rw [e, hP.at_] at z1; cases z1
          have hji : ¬ j = i := by rw [hP.len] at hj; omega
          rw [if_neg hji]
          exact ⟨by rw [upd_ne hzD]; exact sm3 _ _ (sm2 _ _ z1), z2⟩
        · have hj' : j = i := by
            have := (List.getElem?_eq_some_iff.mp hz).1
            rw [List.length_append, hP.len] at this
            have hl := hP.len
            simp at this; omega
          subst hj'
          rw [List.getElem?_append_right (by rw [hP.len]; omega), hP.len, Nat.sub_self] at hz
          have : q = z := by simpa using hz
          subst this
          rw [if_pos rfl]
          exact ⟨by rw [upd_ne hqD]; exact hq, hd, hc, s1, s2⟩
    · rintro H' ⟨sm, as, cf, hP⟩
      exact k H' D as cf sm hP
end
end Tk
set_option Elab.async false
set_option linter.all false
set_option maxRecDepth 100000
set_option maxHeartbeats 2000000
namespace Tk
open PySem PySem.Spec PyProof.Rows L2
open PySem.W (Codec)
abbrev dBest : Stmt := top 1
abbrev dGreat : Stmt := top 2
/-! ### what is due -/
theorem best_due (n a b : Int) (ws : List Int) : PySf96.best n a b ws = if refOf n a b 0 ws = 0 then [((((Sf96.best (Sf71.net n ws) (Sf96.chances (Sf71.net n ws) a.toNat b.toNat)).map fun (i : Nat) => 2 ^ i).sum : Nat) : Int)] else [refOf n a b 0 ws] := by
  show (Sf96.does (.best n a b ws)).value :: (Sf96.does (.best n a b ws)).out = _
  unfold Sf96.does refOf
  dsimp only
  rw [inside_zero, Bool.and_true]
  by_cases h1 : Sf96.bothOk n a b ws = false
  · rw [if_pos h1, if_pos h1, if_neg (by decide)]; rfl
  · rw [if_neg h1, if_neg h1]
    by_cases h2 : Sf96.joined (Sf71.net n ws) = false
    · rw [if_pos h2, if_pos h2, if_neg (by decide)]; rfl
    · rw [if_neg h2, if_neg h2, if_pos rfl]; rfl
def bs (G : Nat → Bool) (k : Nat) : Nat := (((List.range k).filter G).map fun (i : Nat) => 2 ^ i).sum
theorem bs_succ (G : Nat → Bool) (k : Nat) : bs G (k + 1) = if G k = true then bs G k + 2 ^ k else bs G k := by
  unfold bs
  rw [List.range_succ, List.filter_append, List.map_append, List.sum_append]
  by_cases h : G k = true
  · rw [if_pos h]; simp [h]
  · rw [if_neg h]; simp [h]
theorem bs_lt (G : Nat → Bool) : ∀ k, bs G k < 2 ^ k
  | 0 => by show (0 : Nat) < 1; decide
  | k + 1 => by
    have ih := bs_lt G k
    rw [bs_succ, Nat.pow_succ]
    split <;> omega
theorem or_pow {x k : Nat} (h : x < 2 ^ k) : x ||| 2 ^ k = x + 2 ^ k := by
  have := Nat.two_pow_add_eq_or_of_lt h 1
  rw [Nat.mul_one] at this
  rw [Nat.or_comm, ← this, Nat.add_comm]
def gr (n : Nat) (x : Nat → Rat) (i : Nat) : Bool := (Sf96.starts ⟨n, []⟩ x).all fun (y : Rat) => decide (y ≤ x (2 ^ i))
theorem gr_iff {n : Nat} {x : Nat → Rat} {i : Nat} : gr n x i = true ↔ ∀ j, j < n → x (2 ^ j) ≤ x (2 ^ i) := by
  unfold gr Sf96.starts
  rw [List.all_eq_true]
  constructor
  · intro h j hj
    exact of_decide_eq_true (h _ (List.mem_map.mpr ⟨j, List.mem_range.mpr hj, rfl⟩))
  · intro h y hy
    obtain ⟨j, hj, rfl⟩ := List.mem_map.mp hy
    exact decide_eq_true (h j (List.mem_range.mp hj))
theorem best_bs (n : Nat) (ws : List Int) (x : Nat → Rat) : ((Sf96.best ⟨n, ws⟩ x).map fun (i : Nat) => 2 ^ i).sum = bs (gr n x) n := rfl
theorem cross {c d e g : Int} {x y : Rat} (hd : 0 < d) (hg : 0 < g) (hc : ((c : Int) : Rat) = ((d : Int) : Rat) * x) (he : ((e : Int) : Rat) = ((g : Int) : Rat) * y) : e * d ≤ c * g ↔ y ≤ x := by
  have hd' : (0 : Rat) < ((d : Int) : Rat) := by exact_mod_cast hd
  have hg' : (0 : Rat) < ((g : Int) : Rat) := by exact_mod_cast hg
  have hp := Rat.mul_pos hd' hg'
  rw [← Rat.intCast_le_intCast, Rat.intCast_mul, Rat.intCast_mul, hc, he]
  constructor
  · intro h
    rcases Classical.em (y ≤ x) with q | q
    · exact q
    · have := Rat.mul_pos hp (show 0 < y - x by grind)
      grind
  · intro h
    have := Rat.mul_nonneg (Rat.le_of_lt hp) (show 0 ≤ x - y by grind)
    grind
section
variable {P : Program} {w : World} {K : PySem.W.Frag} {mg : Str → Option Value} {base : Heap}
/-! ### is_greatest -/
def spGreat (K : PySem.W.Frag) : Sp := fun vs H Q _ => ∃ (t p : Addr) (c d : Int) (n : Nat) (x : Nat → Rat) (as : List Addr) (cf : Nat → Int × Int), vs = [.ref t, .ref p] ∧ H t = some (.tup [.int c, .int d]) ∧ Prs H p n x as cf ∧ Sz 2801 c ∧ Sz 2801 d ∧
  ∀ r : Bool, (r = true ↔ ∀ j, j < n → (cf j).1 * d ≤ c * (cf j).2) → Q (.bl r) H
theorem scGreat : FnScope ["pair", "pairs", "other"] ["pair", "pairs"] (defScope dGreat) := ⟨rfl, rfl, rfl, by decide +kernel, rfl, by decide +kernel, by decide +kernel⟩
theorem ok_great {f : Addr} {fd : FuncData} (F : Fun K "is_greatest" "is_greatest" dGreat f fd) : FnOk P w K mg base CX0 1 f fd ["pair", "pairs"] (spGreat K) := by
  refine F.ok scGreat (fun vs H Q E h => ?_) (fun cdv A outer s H vs Q E hr h => ?_)
  · obtain ⟨t, p, c, d, n, x, as, cf, rfl, _⟩ := h
    rfl
  · obtain ⟨t, p, c, d, n, x, as, cf, rfl, ht, hP, sc, sd, k⟩ := h
    refine ⟨_, pss_cons (ps_for PassesOwn.never rfl (pi_list (pv 1)) (pg_name (i := 2) scGreat.nd rfl (Or.inl rfl))
        (pss_one (ps_if (pt_cmpR op_lt (pe_op op_mulP (pe_ix ix_tup (pv 0) pe_int (fun _ _ => rfl)) (pe_ix ix_tup (pv 2) pe_int (fun _ _ => rfl))) (pe_op op_mulP (pe_ix ix_tup (pv 2) pe_int (fun _ _ => rfl)) (pe_ix ix_tup (pv 0) pe_int (fun _ _ => rfl))) (nomark _))
          (pss_one (ps_ret pe_bl)) pss_nil)))
      (pss_one (ps_ret pe_bl)), ?_⟩
    refine ⟨_, rfl, p, rfl, ⟨_, SqL.of hP.at_⟩, for_list (K := K) (a := p) (xs := as.map V.ref) (fun i σ H' => H' = H ∧ (∀ j, j < i → (cf j).1 * d ≤ c * (cf j).2) ∧ ∃ v : Option V, σ = [some (.ref t), some (.ref p), v]) ⟨rfl, fun j hj => by omega, none, rfl⟩ (fun i σ H' _ ⟨e, _⟩ => by rw [e]; exact SqL.of hP.at_) ?_ ?_⟩
    · rintro i z σ H' hi ⟨rfl, hall, v, rfl⟩
      have him : i < n := by
        have := (List.getElem?_eq_some_iff.mp hi).1
        rw [List.length_map, hP.len] at this
        exact this
      obtain ⟨q, hq, rfl⟩ : ∃ q, as[i]? = some q ∧ z = V.ref q := by
        rw [List.getElem?_map] at hi
        cases e : as[i]? with
        | none => rw [e] at hi; cases hi
        | some q => rw [e] at hi; exact ⟨q, rfl, (Option.some.inj hi).symm⟩
      obtain ⟨g1, g2, g3, g4, g5⟩ := hP.each i q hq
      have bc := sc.bits (k := 2800) (by omega)
      have bd := sd.bits (k := 2800) (by omega)
      have be := g4.bits (k := 2800) (by omega)
      have bg := g5.bits (k := 2800) (by omega)
      refine ⟨_, rfl, t, _, _, _, rfl, rfl, SqT.of ht, atI_nat (j := 0) rfl, _, rfl, q, _, _, _, rfl, rfl, SqT.of g1, atI_nat (j := 1) rfl, _, _, rfl, rfl, ⟨bc, bg⟩,
        _, rfl, q, _, _, _, rfl, rfl, SqT.of g1, atI_nat (j := 0) rfl, _, rfl, t, _, _, _, rfl, rfl, SqT.of ht, atI_nat (j := 1) rfl, _, _, rfl, rfl, ⟨be, bd⟩, _, _, rfl, rfl, _, rfl, ?_⟩
      by_cases hlt : c * (cf i).2 < (cf i).1 * d
      · refine iteTrue (decide_eq_true hlt) ?_
        refine k false ⟨fun z => (by cases z), fun z => ?_⟩
        have := z i him
        omega
      · refine iteFalse (decide_eq_false hlt) ?_
        refine ⟨rfl, fun j hj => ?_, _, rfl⟩
        by_cases e : j = i
        · subst e; omega
        · exact hall j (by omega)
    · rintro σ H' ⟨rfl, hall, v, rfl⟩
      rw [List.length_map, hP.len] at hall
      exact k true ⟨fun _ => hall, fun _ => rfl⟩
/-! ### best -/
def spBest (K : PySem.W.Frag) : Sp := fun vs H Q _ => ∃ (n a b : Int) (wa : Addr) (ws : List Int), vs = [.int n, .int a, .int b, .ref wa] ∧ SqL K H wa (ws.map V.int) ∧
  ∀ (H' : Hp) (p : Addr), H' p = some (.lst ((PySf96.best n a b ws).map V.int)) → Q (.ref p) H'
theorem scBest : FnScope ["n", "a", "b", "weights", "refusal", "chances", "places", "i"] ["n", "a", "b", "weights"] (defScope dBest) := ⟨rfl, rfl, rfl, by decide +kernel, rfl, by decide +kernel, by decide +kernel⟩
theorem ok_best {f : Addr} {fd : FuncData} (F : Fun K "best" "best" dBest f fd) (B : Blt mg) (Cr : Cal P w K mg base "refusal_without_start" ["n", "a", "b", "weights"] 5 (spRefW K)) (Cc : Cal P w K mg base "chances_from_one" ["n", "a", "b", "weights"] 5 (spChances K))
    (Cg : Cal P w K mg base "is_greatest" ["pair", "pairs"] 1 (spGreat K)) : FnOk P w K mg base CX0 6 f fd ["n", "a", "b", "weights"] (spBest K) := by
  refine F.ok scBest (fun vs H Q E h => ?_) (fun cdv A outer s H vs Q E hr h => ?_)
  · obtain ⟨n, a, b, wa, ws, rfl, _⟩ := h
    rfl
  · obtain ⟨n, a, b, wa, ws, rfl, hS, k⟩ := h
    refine ⟨_, pss_cons (ps_set (i := 4) scBest.nd rfl (Or.inl rfl) (pe_cal Cr hr rfl (pa_cons (pv 0) (pa_cons (pv 1) (pa_cons (pv 2) (pa_cons (pv 3) pa_nil))))))
      (pss_cons (ps_if (pt_cmpR op_ne (pv 4) pe_int (nomark _)) (pss_one (ps_ret (pe_lst (pa_cons (pv 4) pa_nil)))) pss_nil)
      (pss_cons (ps_set (i := 5) scBest.nd rfl (Or.inl rfl) (pe_cal Cc hr rfl (pa_cons (pv 0) (pa_cons (pv 1) (pa_cons (pv 2) (pa_cons (pv 3) pa_nil))))))
      (pss_cons (ps_set (i := 6) scBest.nd rfl (Or.inl rfl) pe_int)
      (pss_cons (ps_for PassesOwn.never rfl (pi_range1 rfl B.range (pa_cons (pv 0) pa_nil)) (pg_name (i := 7) scBest.nd rfl (Or.inl rfl))
        (pss_one (ps_if (pt_val (pe_cal Cg (hr.mono (by decide)) rfl (pa_cons (pe_ix ix_list (pv 5) (pv 7) (fun _ _ => rfl)) (pa_cons (pv 5) pa_nil))))
          (pss_one (ps_set (i := 6) scBest.nd rfl (Or.inl rfl) (pe_op op_or (pv 6) (pe_op op_shl pe_int (pv 7))))) pss_nil)))
      (pss_one (ps_ret (pe_lst (pa_cons (pv 6) pa_nil)))))))), ?_⟩
    refine ⟨_, rfl, _, rfl, _, rfl, _, rfl, n, a, b, wa, ws, rfl, hS, fun H1 sm => ?_⟩
    rw [best_due] at k
    refine ⟨_, rfl, rfl, _, rfl, ?_⟩
    by_cases hz : refOf n a b 0 ws = 0
    case neg =>
      refine iteTrue (by rw [decide_eq_false (fun z => hz (V.int.inj z))]; rfl) ?_
      rw [if_neg hz] at k
      refine ⟨_, rfl, by show 1 ≤ sizeLine; rw [sizeLine_eq]; omega, fun l hl => ?_⟩
      exact k _ l upd_same
    refine iteFalse (by rw [hz]; rfl) ?_
    rw [if_pos hz] at k
    obtain ⟨m, x, y, t0, rfl, rfl, rfl, _, _, A⟩ := ref_zero hz
    have hn := A.O.n5
    have hn2 := A.O.n2
    have hp2 := pow_le hn
    have en : Sf71.net (m : Int) ws = ⟨m, ws⟩ := rfl
    rw [en, Int.toNat_natCast, Int.toNat_natCast, best_bs] at k
    refine ⟨_, rfl, _, rfl, _, rfl, _, rfl, m, x, y, wa, ws, rfl, sm.seq hS, A, fun H3 p as cf sm3 hP => ?_⟩
    refine ⟨_, rfl, _, rfl, by omega, by omega, ?_⟩
    rw [Int.toNat_natCast]
    refine for_range (n := m) (fun i σ H' => H' = H3 ∧ ∃ v0 v : Option V, σ = [some (.int m), some (.int x), some (.int y), some (.ref wa), v0, some (.ref p), some (.int (bs (gr m (Sf96.chances ⟨m, ws⟩ x y)) i : Nat)), v]) ⟨rfl, _, none, rfl⟩ ?_ ?_
    · rintro i σ H' hi ⟨rfl, v0, v, rfl⟩
      have e0 : (0 : Int) + (i : Int) = (i : Int) := Int.zero_add _
      rw [e0]
      have hil : i < as.length := by rw [hP.len]; exact hi
      obtain ⟨g1, g2, g3, g4, g5⟩ := hP.each i as[i] (List.getElem?_eq_getElem hil)
      refine ⟨_, rfl, _, rfl, p, _, _, _, rfl, rfl, SqL.of hP.at_, atI_nat (j := i) (v := V.ref as[i]) (by rw [List.getElem?_map, List.getElem?_eq_getElem hil]; rfl), _, rfl, as[i], p, (cf i).1, (cf i).2, m, _, as, cf, rfl, g1, hP, g4, g5, fun r hr' => ?_⟩
      refine ⟨_, rfl, ?_⟩
      have hG : r = gr m (Sf96.chances ⟨m, ws⟩ x y) i := by
        rw [Bool.eq_iff_iff, hr', gr_iff]
        have hX : ∀ j, j < m → ((cf j).1 * (cf i).2 ≤ (cf i).1 * (cf j).2 ↔ Sf96.chances ⟨m, ws⟩ x y (2 ^ j) ≤ Sf96.chances ⟨m, ws⟩ x y (2 ^ i)) := fun j hj => by
          have hjl : j < as.length := by rw [hP.len]; exact hj
          obtain ⟨k1, k2, k3, k4, k5⟩ := hP.each j as[j] (List.getElem?_eq_getElem hjl)
          exact cross g2 k2 g3 k3
        exact ⟨fun h j hj => (hX j hj).mp (h j hj), fun h j hj => (hX j hj).mpr (h j hj)⟩
      have hb := bs_succ (gr m (Sf96.chances ⟨m, ws⟩ x y)) i
      have hlt := bs_lt (gr m (Sf96.chances ⟨m, ws⟩ x y)) i
      cases r with
      | true =>
        refine iteTrue rfl ?_
        rw [if_pos hG.symm] at hb
        refine ⟨_, rfl, _, rfl, _, _, rfl, rfl, ⟨by omega, by omega, by decide⟩, _, _, rfl, rfl, rfl, v0, some (.int i), ?_⟩
        show [some (V.int m), some (.int x), some (.int y), some (.ref wa), v0, some (.ref p), some (V.int (Builtin.bitOr (bs (gr m (Sf96.chances ⟨m, ws⟩ x y)) i : Nat) ((1 : Int) * 2 ^ ((i : Int)).toNat))), some (.int i)] = _
        rw [shl_one, bor_nat, or_pow hlt, hb]
      | false =>
        refine iteFalse rfl ?_
        rw [if_neg (by rw [← hG]; decide)] at hb
        refine ⟨rfl, v0, some (.int i), ?_⟩
        rw [hb]; rfl
    · rintro σ H' ⟨rfl, v0, v, rfl⟩
      refine ⟨_, rfl, by show 1 ≤ sizeLine; rw [sizeLine_eq]; omega, fun l hl => ?_⟩
      exact k _ l upd_same
end
end Tk
set_option Elab.async false
set_option linter.all false
set_option maxRecDepth 100000
set_option maxHeartbeats 2000000
namespace Tk
open PySem PySem.Spec PyProof.Rows L2
open PySem.W (Codec)
/-! ### what the top has written -/
structure DefIn (K : PySem.W.Frag) (x : Str) (st : Stmt) : Prop where
  ex : ∃ (f : Addr) (oc : Value) (od : Option Addr) (kV doc pm : Value) (an : Option Addr) (cdv ct : Value) (osl : Array (Option Value)), PySem.W.nsIn K mainGlobals x = some (some (.ref f)) ∧
    K.lookup f = some ⟨oc, od, .func (PySem.W.fnOf x x (defArgs st) (defBody st) (defScope st) .none kV doc pm an cdv ct), osl⟩ ∧ PySem.W.codeIn K cdv x = true ∧ PySem.W.keepIn K (.ref f) = true
theorem def_mk {K : PySem.W.Frag} {x : Str} {st : Stmt} {f : Addr} {oc : Value} {od an : Option Addr} {kV doc pm cdv ct : Value} {osl : Array (Option Value)} (a : PySem.W.nsIn K mainGlobals x = some (some (.ref f)))
    (l : K.lookup f = some ⟨oc, od, .func (PySem.W.fnOf x x (defArgs st) (defBody st) (defScope st) .none kV doc pm an cdv ct), osl⟩) (c : PySem.W.codeIn K cdv x = true) (k : PySem.W.keepIn K (.ref f) = true) : DefIn K x st :=
  ⟨f, oc, od, kV, doc, pm, an, cdv, ct, osl, a, l, c, k⟩
theorem num_mk {K : PySem.W.Frag} {x : Str} {z : Int} {um : Value} (a : PySem.W.nsIn K mainGlobals x = some (some um)) (r : RelV (.int z) um) : ∃ um, PySem.W.nsIn K mainGlobals x = some (some um) ∧ RelV (.int z) um := ⟨um, a, r⟩
section
variable {P : Program} {w : World} {K : PySem.W.Frag} {mg : Str → Option Value} {h base : Heap}
theorem DefIn.cal {x : Str} {st : Stmt} {ps : List Str} {k : Nat} {sp : Sp} (D : DefIn K x st) (X : K.In h) (G : h.Ns mainGlobals mg)
    (hb : ∀ (kV doc pm : Value) (an : Option Addr) (cdv ct : Value) (us : List Value), us.length = ps.length → bindArgs (PySem.W.fnOf x x (defArgs st) (defBody st) (defScope st) .none kV doc pm an cdv ct) ⟨us, []⟩ = pure (ps.zip us))
    (ok : ∀ (f : Addr) (fd : FuncData), Fun K x x st f fd → FnOk P w K mg base CX0 k f fd ps sp) : Cal P w K mg base x ps k sp := by
  obtain ⟨f, oc, od, kV, doc, pm, an, cdv, ct, osl, a, l, c, kp⟩ := D.ex
  have F := fun_mk (st := st) l c kp
  exact ⟨f, _, PySem.W.mg_of X G a, kp, F.binds hb, ok _ _ F⟩
end
end Tk
set_option Elab.async false
set_option linter.all false
set_option maxRecDepth 100000
set_option maxHeartbeats 2000000
namespace Tk
open PySem PySem.Spec PyProof.Rows L2
open PySem.W (Codec)
section
variable {P : Program} {w : World} {K : PySem.W.Frag} {mg : Str → Option Value} {h base : Heap}
/-- all defs of the text, as the top has written them -/
structure Text (K : PySem.W.Frag) : Prop where
  main : DefIn K "best" dBest
  whole_set : DefIn K "whole_set" dWhole
  holds : DefIn K "holds" dHolds
  is_strength : DefIn K "is_strength" dStrength
  row_targets : DefIn K "row_targets" dTargets
  reached_from : DefIn K "reached_from" dReached
  are_joined : DefIn K "are_joined" dJoined
  row_sums : DefIn K "row_sums" dSums
  weights_fit : DefIn K "weights_fit" dFit
  refusal_of : DefIn K "refusal_of" dRefusal
  spreads : DefIn K "spreads" dSpreads
  change_rate : DefIn K "change_rate" dRate
  mixed_states : DefIn K "mixed_states" dMixed
  factors : DefIn K "factors" dFactors
  takeover_rate : DefIn K "takeover_rate" dTrate
  takeover_equations : DefIn K "takeover_equations" dEqs
  without_last : DefIn K "without_last" dWo
  first_unknown : DefIn K "first_unknown" dFirst
  refusal_without_start : DefIn K "refusal_without_start" dRefW
  chances_from_one : DefIn K "chances_from_one" dChances
  is_greatest : DefIn K "is_greatest" dGreat
  range : PySem.W.nsIn K mainGlobals "range" = some none
  len : PySem.W.nsIn K mainGlobals "len" = some none
  sum : PySem.W.nsIn K mainGlobals "sum" = some none
  enum : PySem.W.nsIn K mainGlobals "enumerate" = some none
theorem all_ok (T : Text K) (X : K.In h) (G : h.Ns mainGlobals mg) {fa : Addr} (hfa : mg "best" = some (.ref fa)) :
    ∃ fd : FuncData, (∀ (s : Shared) (us : List Value), us.length = (["n", "a", "b", "weights"] : List Str).length → BindsTo s fd ⟨us, []⟩ ((["n", "a", "b", "weights"] : List Str).zip us)) ∧
      ∀ base : Heap, K.In base → base.Ns mainGlobals mg → FnOk P w K mg base CX0 6 fa fd ["n", "a", "b", "weights"] (spBest K) := by
  obtain ⟨f, oc, od, kV, doc, pm, an, cdv, ct, osl, a, l, c, kp⟩ := T.main.ex
  have e := hfa.symm.trans (PySem.W.mg_of X G a)
  cases e
  have F := fun_mk (st := dBest) l c kp
  have B : Blt mg := ⟨PySem.W.mg_none_of X G T.range, PySem.W.mg_none_of X G T.len, PySem.W.mg_none_of X G T.sum, PySem.W.mg_none_of X G T.enum⟩
  refine ⟨PySem.W.fnOf "best" "best" (defArgs dBest) (defBody dBest) (defScope dBest) .none kV doc pm an cdv ct, fun s us hu => match us, hu with | [_, _, _, _], _ => .of_eq rfl, fun base _ _ => ?_⟩
  have c_whole_set : Cal P w K mg base "whole_set" ["n"] 1 spWhole := T.whole_set.cal X G (fun _ _ _ _ _ _ us hl => match us, hl with | [_], _ => rfl) fun f fd F => ok_whole F
  have c_holds : Cal P w K mg base "holds" ["places", "i"] 1 spHolds := T.holds.cal X G (fun _ _ _ _ _ _ us hl => match us, hl with | [_, _], _ => rfl) fun f fd F => ok_holds F
  have c_is_strength : Cal P w K mg base "is_strength" ["number"] 1 spStrength := T.is_strength.cal X G (fun _ _ _ _ _ _ us hl => match us, hl with | [_], _ => rfl) fun f fd F => ok_strength F
  have c_row_targets : Cal P w K mg base "row_targets" ["n", "weights", "i"] 1 (spTargets K) := T.row_targets.cal X G (fun _ _ _ _ _ _ us hl => match us, hl with | [_, _, _], _ => rfl) fun f fd F => ok_targets F B
  have c_reached_from : Cal P w K mg base "reached_from" ["n", "weights", "start"] 2 (spReached K) := T.reached_from.cal X G (fun _ _ _ _ _ _ us hl => match us, hl with | [_, _, _], _ => rfl) fun f fd F => ok_reached F B c_holds c_row_targets
  have c_are_joined : Cal P w K mg base "are_joined" ["n", "weights"] 3 (spJoined K) := T.are_joined.cal X G (fun _ _ _ _ _ _ us hl => match us, hl with | [_, _], _ => rfl) fun f fd F => ok_joined F B c_reached_from c_whole_set
  have c_row_sums : Cal P w K mg base "row_sums" ["n", "weights"] 1 (spSums K) := T.row_sums.cal X G (fun _ _ _ _ _ _ us hl => match us, hl with | [_, _], _ => rfl) fun f fd F => ok_sums F B
  have c_weights_fit : Cal P w K mg base "weights_fit" ["n", "weights"] 2 (spFit K) := T.weights_fit.cal X G (fun _ _ _ _ _ _ us hl => match us, hl with | [_, _], _ => rfl) fun f fd F => ok_fit F B c_row_sums
  have c_refusal_of : Cal P w K mg base "refusal_of" ["n", "a", "b", "s", "weights"] 4 (spRefusal K) := T.refusal_of.cal X G (fun _ _ _ _ _ _ us hl => match us, hl with | [_, _, _, _, _], _ => rfl) fun f fd F => ok_refusal F c_weights_fit c_is_strength c_whole_set c_are_joined
  have c_spreads : Cal P w K mg base "spreads" ["n", "weights"] 2 (spSpreads K) := T.spreads.cal X G (fun _ _ _ _ _ _ us hl => match us, hl with | [_, _], _ => rfl) fun f fd F => ok_spreads F B c_row_sums
  have c_change_rate : Cal P w K mg base "change_rate" ["n", "a", "b", "spread", "state", "j"] 2 (spRate K) := T.change_rate.cal X G (fun _ _ _ _ _ _ us hl => match us, hl with | [_, _, _, _, _, _], _ => rfl) fun f fd F => ok_rate F B c_holds
  have c_mixed_states : Cal P w K mg base "mixed_states" ["n", "first"] 2 (spMixed K) := T.mixed_states.cal X G (fun _ _ _ _ _ _ us hl => match us, hl with | [_, _], _ => rfl) fun f fd F => ok_mixed F B c_whole_set
  have c_factors : Cal P w K mg base "factors" ["n", "a", "b", "spread", "state", "states"] 3 (spFactors K) := T.factors.cal X G (fun _ _ _ _ _ _ us hl => match us, hl with | [_, _, _, _, _, _], _ => rfl) fun f fd F => ok_factors F B c_change_rate c_whole_set
  have c_takeover_rate : Cal P w K mg base "takeover_rate" ["n", "a", "b", "spread", "state"] 3 (spTrate K) := T.takeover_rate.cal X G (fun _ _ _ _ _ _ us hl => match us, hl with | [_, _, _, _, _], _ => rfl) fun f fd F => ok_trate F B c_change_rate c_whole_set
  have c_takeover_equations : Cal P w K mg base "takeover_equations" ["n", "a", "b", "s", "weights"] 4 (spEqs K) := T.takeover_equations.cal X G (fun _ _ _ _ _ _ us hl => match us, hl with | [_, _, _, _, _], _ => rfl) fun f fd F => ok_eqs F B c_spreads c_mixed_states c_takeover_rate c_factors
  have c_without_last : Cal P w K mg base "without_last" ["row", "last", "divisor"] 1 (spWo K) := T.without_last.cal X G (fun _ _ _ _ _ _ us hl => match us, hl with | [_, _, _], _ => rfl) fun f fd F => ok_wo F B
  have c_first_unknown : Cal P w K mg base "first_unknown" ["rows"] 2 (spFirst K) := T.first_unknown.cal X G (fun _ _ _ _ _ _ us hl => match us, hl with | [_], _ => rfl) fun f fd F => ok_first F B c_without_last
  have c_refusal_without_start : Cal P w K mg base "refusal_without_start" ["n", "a", "b", "weights"] 5 (spRefW K) := T.refusal_without_start.cal X G (fun _ _ _ _ _ _ us hl => match us, hl with | [_, _, _, _], _ => rfl) fun f fd F => ok_refw F c_refusal_of
  have c_chances_from_one : Cal P w K mg base "chances_from_one" ["n", "a", "b", "weights"] 5 (spChances K) := T.chances_from_one.cal X G (fun _ _ _ _ _ _ us hl => match us, hl with | [_, _, _, _], _ => rfl) fun f fd F => ok_chances F B c_takeover_equations c_first_unknown
  have c_is_greatest : Cal P w K mg base "is_greatest" ["pair", "pairs"] 1 (spGreat K) := T.is_greatest.cal X G (fun _ _ _ _ _ _ us hl => match us, hl with | [_, _], _ => rfl) fun f fd F => ok_great F
  exact ok_best F B c_refusal_without_start c_chances_from_one c_is_greatest
end
end Tk
set_option Elab.async false
open PySem PySem.W PyProof.Rows
set_option maxRecDepth 100000 in
set_option maxHeartbeats 0 in
theorem PySem.Challenge.cw_takeover_s05_best_holds : PySem.Challenge.rw_takeover_s05_best.Holds := by
  w_on; k_headS; (case hw => exact ⟨[.int 0, .int 0, .int 0, .list []], by decide +kernel, by decide +kernel⟩)
  k_fillS
  refine L2.walk_specK (r := PySem.Challenge.rw_takeover_s05_best) (k := 6) (CX := L2.CX0) (ps := ["n", "a", "b", "weights"]) (sp := Tk.spBest) (by decide +kernel) rfl rfl ⟨rfl, by decide, by decide⟩ (fun w h Y => PySem.W.kIn_of Y) ?F ?S (fun _ _ _ _ z => z)
  case F =>
    intro w mg fa h Y KX G hmg
    refine Tk.all_ok ?T KX G hmg
    refine ⟨?d0, ?d1, ?d2, ?d3, ?d4, ?d5, ?d6, ?d7, ?d8, ?d9, ?d10, ?d11, ?d12, ?d13, ?d14, ?d15, ?d16, ?d17, ?d18, ?d19, ?d20, ?r1, ?r2, ?r3, ?r4⟩
    case r1 => k_is
    case r2 => k_is
    case r3 => k_is
    case r4 => k_is
    all_goals (refine' Tk.def_mk ?a ?l ?c ?k; (case a => k_is); (case l => k_is); (case c => k_is); (case k => k_is))
  case S =>
    intro K H xs a hO hwi hask hx
    obtain ⟨n, x, y, ws, u⟩ := a
    cases hx with
    | cons h1 hx =>
    cases hx with
    | cons h2 hx =>
    cases hx with
    | cons h3 hx =>
    cases hx with
    | cons h4 hx =>
      cases hx
      cases h1
      cases h2
      cases h3
      cases h4 with
      | lst hs ha =>
        have e := L2.ints_dw ws _ ha
        subst e
        exact ⟨n, x, y, _, ws, rfl, hs, fun H' p hp => .lst (L2.SqL.of hp) (L2.dw_ints _)⟩
#print axioms PySem.Challenge.cw_takeover_s05_best_holds

import PyProof.Rows.All
import Wide.All
import OpenK.AllK
import Wide.FinOn
import Lean
import PyProof.EqAt
import PyProof.EqKinds
import PyProof.TupleCall
import PyProof.NeKinds
import PySem.Challenge.RW_posthouses_k07_refused
set_option Elab.async false
set_option linter.all false
set_option maxRecDepth 100000
namespace L2
open PySem PySem.Spec PyProof.Rows
abbrev Key := Sum Int Str
def keyIs : Key → Value → Bool
  | .inl k, v => Value.isInt k v
  | .inr x, v => Value.isStrOf x v
def keyH (w : World) : Key → Int
  | .inl k => hashInt k
  | .inr x => hashStr w x
theorem keyIs_shape : ∀ {k : Key} {v : Value}, keyIs k v = true → (∃ i t, k = Sum.inl i ∧ v = Value.int i t) ∨ (∃ x t, k = Sum.inr x ∧ v = Value.str x t)
  | .inl i, v, h => by
    obtain ⟨t, e⟩ := Value.isInt_shape (k := i) (v := v) h
    exact .inl ⟨i, t, rfl, e⟩
  | .inr x, v, h => by
    obtain ⟨t, e⟩ := Value.isStrOf_shape (x := x) (v := v) h
    exact .inr ⟨x, t, rfl, e⟩
theorem key_ll (a b : Int) : decide ((Sum.inl a : Key) = Sum.inl b) = (a == b) := by
  by_cases e : a = b
  · subst e; simp
  · have h : ¬ (Sum.inl a : Key) = Sum.inl b := fun q => e (Sum.inl.inj q)
    rw [decide_eq_false h]
    exact (beq_eq_false_iff_ne.mpr e).symm
theorem key_rr (a b : Str) : decide ((Sum.inr a : Key) = Sum.inr b) = decide (a = b) := by
  by_cases e : a = b
  · subst e; simp
  · have h : ¬ (Sum.inr a : Key) = Sum.inr b := fun q => e (Sum.inr.inj q)
    rw [decide_eq_false h, decide_eq_false e]
theorem key_lr (a : Int) (b : Str) : decide ((Sum.inl a : Key) = Sum.inr b) = false := decide_eq_false (fun q => nomatch q)
theorem key_rl (a : Str) (b : Int) : decide ((Sum.inr a : Key) = Sum.inl b) = false := decide_eq_false (fun q => nomatch q)
def mixKind (prog : Program) (w : World) : PySem.KeyKind prog w Key where
  is := keyIs
  hash := keyH w
  inj := fun v a b ha hb => by
    rcases keyIs_shape ha with ⟨i, t, rfl, rfl⟩ | ⟨x, t, rfl, rfl⟩
    · rcases keyIs_shape hb with ⟨j, u, rfl, e⟩ | ⟨y, u, rfl, e⟩
      · injection e with e1 _; rw [e1]
      · exact nomatch e
    · rcases keyIs_shape hb with ⟨j, u, rfl, e⟩ | ⟨y, u, rfl, e⟩
      · exact nomatch e
      · injection e with e1 _; rw [e1]
  byValue := fun k v h => by
    rcases keyIs_shape h with ⟨i, t, rfl, rfl⟩ | ⟨x, t, rfl, rfl⟩ <;> rfl
  pyHash := fun hv h => by
    rcases keyIs_shape hv with ⟨i, t, rfl, rfl⟩ | ⟨x, t, rfl, rfl⟩
    · exact wpAny_pyHash_int h
    · exact wpAny_pyHash_str h
  eqBool := fun hu hv h => by
    rcases keyIs_shape hu with ⟨i, t, rfl, rfl⟩ | ⟨x, t, rfl, rfl⟩
    · rcases keyIs_shape hv with ⟨j, u, rfl, rfl⟩ | ⟨y, u, rfl, rfl⟩
      · rw [key_ll] at h; exact wpAny_eqBool_int h
      · rw [key_lr] at h; exact SeqAt.EqAt.int_str i t y u _ _ _ _ h
    · rcases keyIs_shape hv with ⟨j, u, rfl, rfl⟩ | ⟨y, u, rfl, rfl⟩
      · rw [key_rl] at h; exact SeqAt.EqAt.str_int x t j u _ _ _ _ h
      · rw [key_rr] at h; exact wpAny_eqBool_str h
  «strs» := fun k x t v h => by
    rcases keyIs_shape h with ⟨i, u, rfl, e⟩ | ⟨y, u, rfl, e⟩
    · exact nomatch e
    · injection e with e1 _
      subst e1
      cases v <;> rfl
end L2
namespace L2
open PySem PySem.Spec PyProof.Rows
inductive V where
  | non | bl (b : Bool) | int (i : Int) | str (x : Str) | byt (b : Array UInt8) | flt (b : UInt64) | ref (a : Addr) | ty (n : String)
  deriving DecidableEq
def RelV : V → Value → Prop
  | .non, u => u = Value.none
  | .bl b, u => u = Value.bool b
  | .int i, u => ∃ t, u = Value.int i t
  | .str x, u => ∃ t, u = Value.str x t
  | .byt b, u => ∃ t, u = Value.bytes b t
  | .flt b, u => ∃ t, u = Value.float b t
  | .ref a, u => u = Value.ref a
  | .ty n, u => u = Value.type n
abbrev Vals : List V → List Value → Prop := Paired RelV
theorem Vals.length {xs : List V} {us : List Value} (r : Vals xs us) : xs.length = us.length := Paired.length r
theorem Vals.get : ∀ {xs : List V} {us : List Value} {i : Nat} {x : V}, Vals xs us → xs[i]? = some x → ∃ u, us[i]? = some u ∧ RelV x u
  | _, _, _, _, .nil, e => by simp at e
  | _, _, 0, _, .cons r _, e => by simp at e; subst e; exact ⟨_, rfl, r⟩
  | _, _, i + 1, x, .cons _ t, e => by
    obtain ⟨u, h1, h2⟩ := Vals.get (i := i) (x := x) t (by simpa using e)
    exact ⟨u, by simpa using h1, h2⟩
theorem Vals.set {x : V} {u : Value} (r : RelV x u) : ∀ {xs : List V} {us : List Value} (i : Nat), Vals xs us → Vals (xs.set i x) (us.set i u)
  | _, _, _, .nil => .nil
  | _, _, 0, .cons _ t => .cons r t
  | _, _, i + 1, .cons q t => .cons q (Vals.set r i t)
theorem Vals.append : ∀ {xs ys : List V} {us ws : List Value}, Vals xs us → Vals ys ws → Vals (xs ++ ys) (us ++ ws)
  | _, _, _, _, .nil, s => s
  | _, _, _, _, .cons r t, s => .cons r (Vals.append t s)
theorem Vals.take : ∀ {xs : List V} {us : List Value} (n : Nat), Vals xs us → Vals (xs.take n) (us.take n)
  | _, _, 0, _ => .nil
  | _, _, _ + 1, .nil => .nil
  | _, _, n + 1, .cons r t => .cons r (Vals.take n t)
theorem Vals.drop : ∀ {xs : List V} {us : List Value} (n : Nat), Vals xs us → Vals (xs.drop n) (us.drop n)
  | _, _, 0, r => r
  | _, _, _ + 1, .nil => .nil
  | _, _, n + 1, .cons _ t => Vals.drop n t
def RelO : Option V → Option Value → Prop
  | some v, some u => RelV v u
  | none, none => True
  | _, _ => False
def KV {κ : Type} : List (κ × V) → List (κ × Value) → Prop := Paired fun (p : κ × V) (q : κ × Value) => p.1 = q.1 ∧ RelV p.2 q.2
def kV : Key → V
  | .inl i => .int i
  | .inr x => .str x
inductive HO where
  | lst (xs : List V)
  | tup (xs : List V)
  | dK (kvs : List (Key × V)) | dT (kvs : List (List Key × V))
  | set (S : Int → Bool) (n : Nat)
  | ins (C dx : Addr) (fs : List (Str × V))
  | own (x : Addr)
  | xd (fs : List (Str × V))
  | met (f x : Addr)
  | rng (lo hi : Int)
  | frz (o : Obj) (u : HO)
  | tbl (ps : Array Value)
  | ext (φ : Heap → Prop)
abbrev Hp := Addr → Option HO
def upd (H : Hp) (a : Addr) (o : HO) : Hp := fun b => if b = a then some o else H b
theorem upd_same {H : Hp} {a : Addr} {o : HO} : upd H a o a = some o := by unfold upd; rw [if_pos rfl]
theorem upd_ne {H : Hp} {a b : Addr} {o : HO} (h : b ≠ a) : upd H a o b = H b := by unfold upd; rw [if_neg h]
theorem ne_of {H : Hp} {a b : Addr} {o u : HO} (h : H a = some o) (h' : H b = some u) (d : o ≠ u) : a ≠ b := by
  intro e; subst e; rw [h] at h'; exact d (Option.some.inj h')
theorem ne_of_none {H : Hp} {a b : Addr} {o : HO} (h : H a = some o) (h' : H b = none) : a ≠ b := by
  intro e; subst e; rw [h] at h'; cases h'
section
variable (P : Program) (w : World)
def ObjOk (H : Hp) (h : Heap) (a : Addr) : HO → Prop
  | .lst xs => xs.length ≤ sizeLine ∧ ∃ (its : List Value) (n : Nat), Vals xs its ∧ h.get? a = some { cls := .type "list", data := .seq its.toArray n }
  | .tup xs => xs.length ≤ sizeLine ∧ ∃ its : List Value, Vals xs its ∧ IsTup h a its.toArray
  | .dK kvs => kvs.length ≤ sizeLine ∧ (a == sysModules) = false ∧ ∃ vs, KV kvs vs ∧ h.DictOf (mixKind P w) a vs
  | .dT kvs => kvs.length ≤ sizeLine ∧ (a == sysModules) = false ∧ ∃ xs : List (List Key × Addr × Value),
      Paired (fun (p : List Key × V) (q : List Key × Addr × Value) => p.1 = q.1 ∧ H q.2.1 = some (.tup (p.1.map kV)) ∧ RelV p.2 q.2.2) kvs xs ∧
      ∃ o es ep, h.get? a = some o ∧ o.ExactDict ∧ o.data = .dict es ep ∧ es.toList = xs.map (entryOfKey (tupleKind (mixKind P w))) ∧ (xs.map (·.1)).Nodup
  | .set S n => h.SetOf (intKind P w) a S n
  | .ins C dx fs => H dx = some (.own a) ∧ fs.length ≤ 1000 ∧ dx ≠ a ∧ h.get? a = some (PySem.W.instObj C dx) ∧
      ∃ mA, h.Ns1 dx mA ∧ (∀ f, RelO (fs.lookup f) (mA f)) ∧ PySem.Within mA (fs.map (·.1))
  | .own _ => ∃ o, h.get? a = some o
  | .xd fs => ∃ mA, h.Ns1 a mA ∧ ∀ f, RelO (fs.lookup f) (mA f)
  | .rng lo hi => ∃ t u v, h.get? a = some { cls := .type "range", data := .fields #[.int lo t, .int hi u, .int 1 v] }
  | .frz o u => h.get? a = some o ∧ ObjOk H h a u
  | .tbl ps => h.get? a = some { cls := .none, data := .fields ps }
  | .met f x => h.get? a = some (PySem.W.methodObj (.ref f) (.ref x))
  | .ext φ => φ h ∧ (∃ o, h.get? a = some o) ∧ ∀ h1 h2 : Heap, φ h1 → (∀ o, h1.get? a = some o → h2.get? a = some o) → φ h2
def HOk (H : Hp) (h : Heap) : Prop := ∀ a o, H a = some o → ObjOk P w H h a o
end
section
variable {P : Program} {w : World} {H H' : Hp} {h h' : Heap} {a : Addr} {o : HO}
theorem ObjOk.lt (x : ObjOk P w H h a o) : a < h.objs.size := by
  cases o with
  | lst xs => obtain ⟨_, _, _, _, e⟩ := x; exact Heap.lt_size e
  | tup xs => obtain ⟨_, _, _, p⟩ := x; exact p.lt
  | dK kvs => obtain ⟨_, _, _, _, o, _, _, e, _⟩ := x; exact Heap.lt_size e
  | dT kvs => obtain ⟨_, _, _, _, o, _, _, e, _⟩ := x; exact Heap.lt_size e
  | set S n => obtain ⟨o, _, _, _, e, _⟩ := x; exact Heap.lt_size e
  | ins C dx fs => obtain ⟨_, _, _, e, _⟩ := x; exact Heap.lt_size e
  | own y => obtain ⟨_, e⟩ := x; exact Heap.lt_size e
  | xd fs => obtain ⟨_, ⟨_, _, _, e, _⟩, _⟩ := x; exact Heap.lt_size e
  | rng lo hi => obtain ⟨_, _, _, e⟩ := x; exact Heap.lt_size e
  | frz ob u => obtain ⟨e, _⟩ := x; exact Heap.lt_size e
  | tbl ps => exact Heap.lt_size (show h.get? a = some _ from x)
  | met f y => exact Heap.lt_size (show h.get? a = some _ from x)
  | ext φ => obtain ⟨_, ⟨_, e⟩, _⟩ := x; exact Heap.lt_size e
theorem Paired.mapP {α β : Type} {F G : α → β → Prop} : ∀ {l₁ : List α} {l₂ : List β}, Paired F l₁ l₂ → (∀ a b, F a b → G a b) → Paired G l₁ l₂
  | _, _, .nil, _ => .nil
  | _, _, .cons r t, f => .cons (f _ _ r) (Paired.mapP t f)
theorem ObjOk.stay (x : ObjOk P w H h a o) (k : ∀ b u, (b = a ∨ H b = some (.own a)) → h.get? b = some u → h'.get? b = some u)
    (ho : ∀ b, H b = some (.own a) → H' b = some (.own a)) (ht : ∀ b xs, H b = some (.tup xs) → H' b = some (.tup xs)) : ObjOk P w H' h' a o := by
  induction o with
  | lst xs => obtain ⟨z, its, n, r, e⟩ := x; exact ⟨z, its, n, r, k _ _ (.inl rfl) e⟩
  | tup xs => obtain ⟨z, its, r, ob, e, c⟩ := x; exact ⟨z, its, r, ob, k _ _ (.inl rfl) e, c⟩
  | dK kvs => obtain ⟨z, y, vs, r, ob, es, ep, e, c⟩ := x; exact ⟨z, y, vs, r, ob, es, ep, k _ _ (.inl rfl) e, c⟩
  | dT kvs =>
    obtain ⟨z, y, xs, r, ob, es, ep, e, c⟩ := x
    exact ⟨z, y, xs, Paired.mapP r fun p q z => ⟨z.1, ht _ _ z.2.1, z.2.2⟩, ob, es, ep, k _ _ (.inl rfl) e, c⟩
  | set S n => obtain ⟨ob, es, ep, t, e, c⟩ := x; exact ⟨ob, es, ep, t, k _ _ (.inl rfl) e, c⟩
  | ins C dx fs =>
    obtain ⟨d, z, ne, e, mA, ⟨od, es, ep, e2, c⟩, r⟩ := x
    exact ⟨ho _ d, z, ne, k _ _ (.inl rfl) e, mA, ⟨od, es, ep, k _ _ (.inr d) e2, c⟩, r⟩
  | own y => obtain ⟨ob, e⟩ := x; exact ⟨ob, k _ _ (.inl rfl) e⟩
  | xd fs => obtain ⟨mA, ⟨od, es, ep, e, c⟩, r⟩ := x; exact ⟨mA, ⟨od, es, ep, k _ _ (.inl rfl) e, c⟩, r⟩
  | rng lo hi => obtain ⟨t, u, v, e⟩ := x; exact ⟨t, u, v, k _ _ (.inl rfl) e⟩
  | frz ob u ih => obtain ⟨e, q⟩ := x; exact ⟨k _ _ (.inl rfl) e, ih q⟩
  | tbl ps =>
    have e : h.get? a = some { cls := .none, data := .fields ps } := x
    show h'.get? a = some { cls := .none, data := .fields ps }
    exact k a _ (.inl rfl) e
  | met f y =>
    have e : h.get? a = some (PySem.W.methodObj (.ref f) (.ref y)) := x
    show h'.get? a = some (PySem.W.methodObj (.ref f) (.ref y))
    exact k a _ (.inl rfl) e
  | ext φ => obtain ⟨p, ⟨o, e⟩, st⟩ := x; exact ⟨st _ _ p fun o q => k _ _ (.inl rfl) q, ⟨o, k _ _ (.inl rfl) e⟩, st⟩
theorem HOk.lt (x : HOk P w H h) (e : H a = some o) : a < h.objs.size := (x a o e).lt
theorem HOk.fresh (x : HOk P w H h) (e : h.objs.size ≤ a) : H a = none := by
  cases q : H a with
  | none => rfl
  | some u => exact absurd (Nat.lt_of_lt_of_le (x.lt q) e) (Nat.lt_irrefl _)
theorem HOk.kept (x : HOk P w H h) (k : ∀ b u, h.get? b = some u → h'.get? b = some u) : HOk P w H h' := fun a o e =>
  (x a o e).stay (fun b u _ q => k b u q) (fun _ q => q) fun _ _ q => q
theorem HOk.laid (x : HOk P w H h) (k : ∀ b u, h.get? b = some u → h'.get? b = some u) (hp : h.objs.size ≤ a) (new : ObjOk P w (upd H a o) h' a o) : HOk P w (upd H a o) h' := fun b u e => by
  have hn := x.fresh hp
  by_cases hb : b = a
  · subst hb; rw [upd_same] at e; cases e; exact new
  · rw [upd_ne hb] at e
    exact (x b u e).stay (fun c v _ q => k c v q) (fun c q => by rw [upd_ne (ne_of_none q hn)]; exact q) fun c xs q => by rw [upd_ne (ne_of_none q hn)]; exact q
end
def Rd (H : Hp) (a : Addr) (u : HO) : Prop := H a = some u ∨ ∃ o, H a = some (.frz o u)
theorem Rd.of {H : Hp} {a : Addr} {u : HO} (h : H a = some u) : Rd H a u := .inl h
theorem Rd.ok {P : Program} {w : World} {H : Hp} {h : Heap} {a : Addr} {u : HO} (r : Rd H a u) (x : HOk P w H h) : ObjOk P w H h a u := by
  rcases r with r | ⟨o, r⟩
  · exact x a u r
  · obtain ⟨_, q⟩ := x a _ r
    exact q
def Mut : Option HO → Prop
  | some (.lst _) => True
  | some (.dK _) => True
  | some (.dT _) => True
  | some (.set _ _) => True
  | some (.ins _ _ _) => True
  | some (.ext _) => True
  | _ => False
section
variable {P : Program} {w : World} {H : Hp} {h h' : Heap} {x e : Addr} {o' : HO}
theorem HOk.write (ok : HOk P w H h) (mu : Mut (H x)) (he : e = x ∨ H e = some (.own x)) (k : ∀ b u, b ≠ e → h.get? b = some u → h'.get? b = some u) (heo : ∃ u, h'.get? e = some u)
    (new : ObjOk P w (upd H x o') h' x o') : HOk P w (upd H x o') h' := fun b u q => by
  have nown : ∀ c y, H c = some (.own y) → c ≠ x := fun c y r z => by subst z; rw [r] at mu; exact mu
  have ntup : ∀ c xs, H c = some (.tup xs) → c ≠ x := fun c xs r z => by subst z; rw [r] at mu; exact mu
  by_cases hb : b = x
  · subst hb; rw [upd_same] at q; cases q; exact new
  · rw [upd_ne hb] at q
    by_cases hbe : b = e
    · have q' : H b = some (.own x) := by
        rcases he with z | z
        · exact absurd (hbe.trans z) hb
        · rw [hbe]; exact z
      rw [q] at q'; cases q'
      obtain ⟨v, hv⟩ := heo
      exact ⟨v, by rw [hbe]; exact hv⟩
    · refine (ok b u q).stay (fun c v hc r => k c v ?_ r) (fun c r => by rw [upd_ne (nown c b r)]; exact r) fun c xs r => by rw [upd_ne (ntup c xs r)]; exact r
      rcases hc with rfl | hc
      · exact hbe
      · rintro rfl
        rcases he with z | z
        · exact nown c b hc z
        · rw [hc] at z; cases z; exact hb rfl
end
structure Un (fs ex : List Addr) (H H' : Hp) (h h' : Heap) : Prop where
  keep : ∀ b o, h.get? b = some o → H b = none → b ∉ fs → b ∉ ex → h'.get? b = some o
  slot : ∀ b o, h.get? b = some o → H b = none → b ∈ fs → b ∉ ex → ∃ sl, h'.get? b = some { o with slots := sl }
  free : ∀ b o, h.get? b = some o → H b = none → b ∉ ex → H' b = none
  there : ∀ b o, h.get? b = some o → b ∉ ex → ∃ o', h'.get? b = some o'
  tups : ∀ b xs, H b = some (.tup xs) → H' b = some (.tup xs)
  frzs : ∀ b o u, H b = some (.frz o u) → H' b = some (.frz o u)
  tbls : ∀ b ps, H b = some (.tbl ps) → ∃ more, H' b = some (.tbl (ps ++ more))
section
variable {fs fs' ex ex' : List Addr} {H H1 H2 : Hp} {h h1 h2 h' : Heap} {a x e : Addr} {o : HO}
theorem Un.any (u : Un fs ex H H1 h h1) {b : Addr} {ob : Obj} (q : h.get? b = some ob) (n : H b = none) (hx : b ∉ ex) : ∃ sl, h1.get? b = some { ob with slots := sl } := by
  by_cases hb : b ∈ fs
  · exact u.slot b ob q n hb hx
  · exact ⟨ob.slots, u.keep b ob q n hb hx⟩
theorem Un.trans (a : Un fs ex H H1 h h1) (b : Un fs ex H1 H2 h1 h2) : Un fs ex H H2 h h2 where
  keep := fun c ob q n hc hx => b.keep c ob (a.keep c ob q n hc hx) (a.free c ob q n hx) hc hx
  slot := fun c ob q n hc hx => by
    obtain ⟨sl, e1⟩ := a.slot c ob q n hc hx
    obtain ⟨sl', e2⟩ := b.slot c _ e1 (a.free c ob q n hx) hc hx
    exact ⟨sl', e2⟩
  free := fun c ob q n hx => by
    obtain ⟨o', e1⟩ := a.there c ob q hx
    exact b.free c o' e1 (a.free c ob q n hx) hx
  there := fun c ob q hx => by
    obtain ⟨o', e1⟩ := a.there c ob q hx
    exact b.there c o' e1 hx
  tups := fun c xs q => b.tups c xs (a.tups c xs q)
  frzs := fun c ob xs q => b.frzs c ob xs (a.frzs c ob xs q)
  tbls := fun c ps q => by
    obtain ⟨m1, e1⟩ := a.tbls c ps q
    obtain ⟨m2, e2⟩ := b.tbls c _ e1
    exact ⟨m1 ++ m2, by rw [e2, Array.append_assoc]⟩
theorem Un.kept (k : ∀ b u, h.get? b = some u → h'.get? b = some u) : Un fs ex H H h h' :=
  ⟨fun b ob q _ _ _ => k b ob q, fun b ob q _ _ _ => ⟨ob.slots, k b ob q⟩, fun _ _ _ n _ => n, fun b ob q _ => ⟨ob, k b ob q⟩, fun _ _ q => q, fun _ _ _ q => q, fun _ ps q => ⟨#[], by rw [q]; simp⟩⟩
theorem Un.refl : Un fs ex H H h h := Un.kept fun _ _ q => q
theorem Un.laid (k : ∀ b u, h.get? b = some u → h'.get? b = some u) (hp : h.objs.size ≤ a) (hn : H a = none) : Un fs ex H (upd H a o) h h' where
  keep := fun b u q _ _ _ => k b u q
  slot := fun b u q _ _ _ => ⟨u.slots, k b u q⟩
  free := fun b u q n _ => by rw [upd_ne (Nat.ne_of_lt (Nat.lt_of_lt_of_le (Heap.lt_size q) hp))]; exact n
  there := fun b u q _ => ⟨u, k b u q⟩
  tups := fun b xs q => by rw [upd_ne (ne_of_none q hn)]; exact q
  frzs := fun b u xs q => by rw [upd_ne (ne_of_none q hn)]; exact q
  tbls := fun b ps q => ⟨#[], by rw [upd_ne (ne_of_none q hn), q]; simp⟩
theorem Un.write (mu : Mut (H x)) (he : e = x ∨ H e = some (.own x)) (k : ∀ b u, b ≠ e → h.get? b = some u → h'.get? b = some u) (heo : ∃ u, h'.get? e = some u) : Un fs ex H (upd H x o) h h' := by
  have hx : ∀ b, H b = none → b ≠ x := fun b n z => by subst z; rw [n] at mu; exact mu
  have hb : ∀ b, H b = none → b ≠ e := fun b n z => by
    subst z
    rcases he with r | r
    · exact hx b n r
    · rw [n] at r; cases r
  have hm : ∀ b u, H b = some u → ¬ Mut (some u) → b ≠ x := fun b u q nm z => by subst z; rw [q] at mu; exact nm mu
  refine ⟨fun b u q n _ _ => k b u (hb b n) q, fun b u q n _ _ => ⟨u.slots, k b u (hb b n) q⟩, fun b u q n _ => by rw [upd_ne (hx b n)]; exact n, fun b u q _ => ?_,
    fun b xs q => by rw [upd_ne (hm b _ q fun z => z)]; exact q, fun b u xs q => by rw [upd_ne (hm b _ q fun z => z)]; exact q, fun b ps q => ⟨#[], by rw [upd_ne (hm b _ q fun z => z), q]; simp⟩⟩
  by_cases hbe : b = e
  · subst hbe; exact heo
  · exact ⟨u, k b u hbe q⟩
theorem Un.mono (u : Un fs ex H H1 h h1) (hs : ∀ b ∈ fs, b ∈ fs') (hx : ∀ b ∈ ex, b ∈ ex') : Un fs' ex' H H1 h h1 :=
  ⟨fun b ob q n hb he => u.keep b ob q n (fun z => hb (hs b z)) fun z => he (hx b z), fun _ _ q n _ he => u.any q n fun z => he (hx _ z), fun b ob q n he => u.free b ob q n fun z => he (hx b z), fun b ob q he => u.there b ob q fun z => he (hx b z), u.tups, u.frzs, u.tbls⟩
end
def trk (h : Heap) (H : Hp) : List Addr := (List.range h.objs.size).filter fun a => (H a).isSome
def hidT (h : Heap) (H : Hp) : Heap := PySem.W.hideAll h (trk h H)
theorem hidT_size (h : Heap) (H : Hp) : (hidT h H).objs.size = h.objs.size := PySem.W.hideAll_size _ _
theorem hidT_get {h : Heap} {H : Hp} {b : Addr} {o : Obj} (e : h.get? b = some o) (n : H b = none) : (hidT h H).get? b = some o :=
  PySem.W.hideAll_get _ e fun hm => by
    have q : (H b).isSome = true := (List.mem_filter.mp hm).2
    rw [n] at q; simp at q
theorem of_hidT {h : Heap} {H : Hp} {b : Addr} {o : Obj} (e : (hidT h H).get? b = some o) : h.get? b = some o ∧ H b = none := by
  have e' : h.get? b = some o := PySem.W.of_hideAll (trk h H) e
  refine ⟨e', ?_⟩
  cases q : H b with
  | none => rfl
  | some x =>
    have hm : b ∈ trk h H := List.mem_filter.mpr ⟨List.mem_range.mpr (Heap.lt_size e'), by simp [q]⟩
    have z : (hidT h H).get? b = none := PySem.W.hideAll_none (trk h H) hm
    rw [z] at e; cases e
def allNews (g h : Heap) (L : Addr) : List (Addr × Obj) := (List.range h.objs.size).filterMap fun a => if a = L ∨ (g.get? a).isSome = true then none else (h.get? a).map fun o => (a, o)
def rest (g h : Heap) (L d : Addr) : List (Addr × Obj) := (allNews g h L).filter fun p => decide (p.1 ≠ d)
end L2
namespace L2
open PySem PySem.Spec PyProof.Rows
structure Mod (K : PySem.W.Frag) (mg : Str → Option Value) (base : Heap) : Prop where
  kin : K.In base
  glob : base.Ns mainGlobals mg
  blt : ∃ mb, base.Ns builtinsNs mb ∧ ∀ x : Str, x ≠ "__name__" → mb x = bootBuiltins x
  nolimit : base.NoLimit
/-- the context: a def's body (or a comprehension's block) running. base: fixed through the whole law; s₀, H₀: the entry; outer: the frames whose slots others may change (a def's callers); stack: all frames that run;
   ex: iterators that were made ahead of the entry and are walked here (a comprehension's); fn: the names whose cells were made at the entry (a def: all; a comprehension's block: its own); calm: not within an except suite; pn: pins that every state bears; xe: what is wanted of an exception that leaves the code -/
structure Cx where
  prog : Program
  w : World
  K : PySem.W.Frag
  mg : Str → Option Value
  base : Heap
  A : Around
  N : List Str
  s₀ : Shared
  H₀ : Hp
  env : Env
  outer : List Env
  stack : List Env
  ex : List Addr
  fn : Str → Bool
  calm : Bool
  pn : List (Addr × Obj)
  xe : Value → Shared → Prop
def frs (l : List Env) : List Addr := l.filterMap (·.frame)
abbrev Cx.fs (X : Cx) : List Addr := frs X.outer
def Vis (sc : Scope) (x : Str) : Prop := sc.names.lookup x = some .local ∨ sc.names.lookup x = some .cell ∨ sc.names.lookup x = some .free
def Loc (sc : Scope) (x : Str) : Prop := sc.names.lookup x = some .local ∨ sc.names.lookup x = some .cell
def Look (env : Env) (h : Heap) (m : Str → Option Value) (x : Str) (u : Value) : Prop :=
  (env.kindOf x = some .local ∧ m x = some u) ∨ ((env.kindOf x = some .cell ∨ env.kindOf x = some .free) ∧ ∃ c, env.cells.lookup x = some c ∧ h.IsCell c (some u))
structure Cx.Ok (X : Cx) : Prop where
  mod : Mod X.K X.mg X.base
  kind : X.env.scope.kind = .function
  glob : X.env.globals = mainGlobals
  blt : X.env.builtins = builtinsNs
  above : X.s₀.heap.objs.size ≤ X.env.locals
  inj : ∀ x y c, X.env.cells.lookup x = some c → X.env.cells.lookup y = some c → x = y
  has : ∀ x, (X.env.kindOf x = some .cell ∨ X.env.kindOf x = some .free) → ∃ c, X.env.cells.lookup x = some c
  cab : ∀ x c, X.fn x = true → X.env.cells.lookup x = some c → X.s₀.heap.objs.size ≤ c
  hd : X.calm = true → X.A.handled = none
  frames : X.A.frames = some X.stack
  stk : X.stack = X.outer ∨ (X.stack = X.env :: X.outer ∧ X.env.frame = some X.env.locals)
  exf : ∀ b ∈ X.ex, b ≠ X.env.locals ∧ ∀ x c, X.env.cells.lookup x = some c → c ≠ b
  bs : ∀ b o, X.base.get? b = some o → X.s₀.heap.get? b = some o ∧ X.H₀ b = none
  bsz : X.base.objs.size ≤ X.s₀.heap.objs.size
  noex : ∀ b o, X.base.get? b = some o → b ∉ X.ex
  exfs : ∀ b ∈ X.ex, b ∉ X.fs
  funs : X.s₀.heap.FunFrames X.base X.outer
  frf : ∀ b ∈ X.fs, X.H₀ b = none
structure Inv (X : Cx) (pins : List (Addr × Obj)) (σ : List (Option V)) (H : Hp) (s : Shared) : Prop where
  ok : X.Ok
  os : s.os = X.s₀.os
  bare : AllBare s.gens
  base : Un X.fs X.ex X.H₀ H X.s₀.heap s.heap
  loc : ∃ m, s.heap.Ns X.env.locals m ∧ ∀ (i : Nat) (x : Str) (v : V), X.N[i]? = some x → σ[i]? = some (some v) → Vis X.env.scope x → ∃ u, RelV v u ∧ Look X.env s.heap m x u
  cell : ∀ x c, X.env.cells.lookup x = some c → ∃ v, s.heap.IsCell c v
  free : H X.env.locals = none
  freeC : ∀ x c, X.env.cells.lookup x = some c → H c = none
  pin : ∀ p ∈ X.pn ++ pins, s.heap.get? p.1 = some p.2 ∧ H p.1 = none ∧ p.1 ≠ X.env.locals ∧ p.1 ∉ X.fs ∧ ∀ v, p.2.data ≠ .cell v
  hok : HOk X.prog X.w H s.heap
  len : σ.length = X.N.length
section
variable {X : Cx} {pins : List (Addr × Obj)} {σ : List (Option V)} {H H' : Hp} {s : Shared} {h' : Heap}
theorem Cx.Ok.nofr (ok : X.Ok) {b : Addr} {o : Obj} (e : X.base.get? b = some o) : b ∉ X.fs := fun hb => by
  have := (ok.funs.mem hb).1
  rw [e] at this; cases this
theorem Inv.bs (I : Inv X pins σ H s) : ∀ b o, X.base.get? b = some o → s.heap.get? b = some o ∧ H b = none := fun b o e =>
  ⟨I.base.keep b o (I.ok.bs b o e).1 (I.ok.bs b o e).2 (I.ok.nofr e) (I.ok.noex b o e), I.base.free b o (I.ok.bs b o e).1 (I.ok.bs b o e).2 (I.ok.noex b o e)⟩
theorem Inv.bk (I : Inv X pins σ H s) : ∀ b o, X.base.get? b = some o → s.heap.get? b = some o := fun b o e => (I.bs b o e).1
theorem Inv.mod (I : Inv X pins σ H s) : Mod X.K X.mg X.base := I.ok.mod
theorem Inv.kIn (I : Inv X pins σ H s) : X.K.In s.heap := I.ok.mod.kin.keeps I.bk
theorem Inv.nolimit (I : Inv X pins σ H s) : s.heap.NoLimit := I.ok.mod.nolimit.keeps I.bk
theorem Inv.fr (I : Inv X pins σ H s) : ∃ m, Fr X.base X.env.locals s.heap m :=
  let ⟨m, hn, _⟩ := I.loc
  ⟨m, hn, I.bk, Nat.le_trans I.ok.bsz I.ok.above⟩
theorem Inv.lt (I : Inv X pins σ H s) : X.env.locals < s.heap.objs.size := let ⟨_, hn, _⟩ := I.loc; hn.lt
theorem Inv.sz (I : Inv X pins σ H s) : X.s₀.heap.objs.size ≤ s.heap.objs.size := Nat.le_trans I.ok.above (Nat.le_of_lt I.lt)
theorem Inv.nofs (I : Inv X pins σ H s) {a : Addr} (h : s.heap.objs.size ≤ a) : a ∉ X.fs := fun hb => by
  obtain ⟨_, o, ho, _⟩ := I.ok.funs.mem hb
  exact absurd (Nat.lt_of_lt_of_le (Heap.lt_size ho) (Nat.le_trans I.sz h)) (Nat.lt_irrefl _)
theorem Inv.cne (I : Inv X pins σ H s) : ∀ x c, X.env.cells.lookup x = some c → c ≠ X.env.locals := fun x c e z => by
  obtain ⟨v, o, ho, hd⟩ := I.cell x c e
  obtain ⟨m, ⟨o', es, ep, ho', hd', _⟩, _⟩ := I.loc
  rw [z, ho'] at ho; cases ho; rw [hd'] at hd; cases hd
theorem Inv.funs (I : Inv X pins σ H s) : s.heap.FunFrames X.base X.outer := by
  have all : ∀ (l : List Env), (∀ b ∈ frs l, b ∈ X.fs) → X.s₀.heap.FunFrames X.base l → s.heap.FunFrames X.base l := by
    intro l
    induction l with
    | nil => intro _ _; trivial
    | cons env r ih =>
      intro hs hl
      obtain ⟨hk, ⟨L, o, hf, hn, ho, hd⟩, hr⟩ := hl
      have hL : L ∈ X.fs := hs L (by unfold frs; rw [List.filterMap_cons, hf]; exact List.mem_cons_self)
      obtain ⟨sl, e⟩ := I.base.slot L o ho (I.ok.frf L hL) hL fun z => I.ok.exfs L z hL
      exact ⟨hk, ⟨L, _, hf, hn, e, hd⟩, ih (fun b hb => hs b (by unfold frs; rw [List.filterMap_cons, hf]; exact List.mem_cons_of_mem _ hb)) hr⟩
  exact all X.outer (fun _ hb => hb) I.ok.funs
theorem Inv.stack (I : Inv X pins σ H s) : s.heap.FunFrames X.base X.stack := by
  rcases I.ok.stk with e | ⟨e, hf⟩
  · rw [e]; exact I.funs
  · rw [e]
    obtain ⟨m, hn, _⟩ := I.loc
    refine .cons (by rw [I.ok.kind]; decide) hf hn ?_ I.funs
    exact Heap.get?_none_of_le (Nat.le_trans I.ok.bsz I.ok.above)
theorem Inv.stkSub (I : Inv X pins σ H s) : ∀ b ∈ frs X.stack, b ∈ X.env.locals :: X.fs := fun b hb => by
  rcases I.ok.stk with e | ⟨e, hf⟩
  · rw [e] at hb; exact List.mem_cons_of_mem _ hb
  · rw [e] at hb
    unfold frs at hb
    rw [List.filterMap_cons, hf] at hb
    exact hb
theorem Inv.stkFree (I : Inv X pins σ H s) : ∀ b ∈ frs X.stack, H b = none := fun b hb => by
  rcases List.mem_cons.mp (I.stkSub b hb) with e | hb
  · rw [e]; exact I.free
  · obtain ⟨_, o, ho, _⟩ := I.ok.funs.mem hb
    exact I.base.free b o ho (I.ok.frf b hb) fun z => I.ok.exfs b z hb
theorem Inv.step {g' : Array GenState} {t' : Nat} {d' : Drawn} {ch : List Addr} (I : Inv X pins σ H s)
    (hch : ∀ b ∈ ch, (b ∈ X.ex ∨ X.s₀.heap.objs.size ≤ b) ∧ b ≠ X.env.locals ∧ (∀ x c, X.env.cells.lookup x = some c → c ≠ b) ∧ ∀ p ∈ X.pn ++ pins, p.1 ≠ b)
    (keep : ∀ b o, b ≠ X.env.locals → b ∉ X.fs → b ∉ ch → s.heap.get? b = some o → H b = none → h'.get? b = some o)
    (slot : ∀ b o, b ≠ X.env.locals → b ∈ X.fs → b ∉ ch → s.heap.get? b = some o → H b = none → ∃ sl, h'.get? b = some { o with slots := sl }) (free : ∀ b o, b ∉ ch → s.heap.get? b = some o → H b = none → H' b = none)
    (there : ∀ b o, b ∉ ch → s.heap.get? b = some o → ∃ o', h'.get? b = some o')
    (tups : ∀ b xs, H b = some (.tup xs) → H' b = some (.tup xs)) (frzs : ∀ b o u, H b = some (.frz o u) → H' b = some (.frz o u)) (tbls : ∀ b ps, H b = some (.tbl ps) → ∃ more, H' b = some (.tbl (ps ++ more)))
    (ns : ∀ m, s.heap.Ns X.env.locals m → h'.Ns X.env.locals m) (hok : HOk X.prog X.w H' h') (hg : AllBare g') :
    Inv X pins σ H' { s with heap := h', gens := g', drawn := d', toks := t' } := by
  have neL : ∀ b o, X.s₀.heap.get? b = some o → b ≠ X.env.locals := fun b o e => Nat.ne_of_lt (Nat.lt_of_lt_of_le (Heap.lt_size e) I.ok.above)
  have neC : ∀ b o, X.s₀.heap.get? b = some o → b ∉ X.ex → b ∉ ch := fun b o e hx hb => by
    rcases (hch b hb).1 with z | z
    · exact hx z
    · exact absurd (Nat.lt_of_lt_of_le (Heap.lt_size e) z) (Nat.lt_irrefl _)
  have cellK : ∀ x c, X.env.cells.lookup x = some c → ∀ v, s.heap.IsCell c v → h'.IsCell c v := fun x c e v ⟨o, ho, hd⟩ => by
    have nch : c ∉ ch := fun z => (hch c z).2.2.1 x c e rfl
    by_cases hc : c ∈ X.fs
    · obtain ⟨sl, q⟩ := slot c o (I.cne x c e) hc nch ho (I.freeC x c e)
      exact ⟨_, q, hd⟩
    · exact ⟨o, keep c o (I.cne x c e) hc nch ho (I.freeC x c e), hd⟩
  refine ⟨I.ok, I.os, hg, ⟨fun b o e n hb hx => ?_, fun b o e n hb hx => ?_, fun b o e n hx => ?_, fun b o e hx => ?_, fun b xs e => tups b xs (I.base.tups b xs e), fun b o xs e => frzs b o xs (I.base.frzs b o xs e), fun b ps e => ?_⟩, ?_, fun x c e => ?_, ?_, fun x c e => ?_, fun p hp => ?_, hok, I.len⟩
  · exact keep b o (neL b o e) hb (neC b o e hx) (I.base.keep b o e n hb hx) (I.base.free b o e n hx)
  · obtain ⟨sl, e1⟩ := I.base.slot b o e n hb hx
    obtain ⟨sl', e2⟩ := slot b _ (neL b o e) hb (neC b o e hx) e1 (I.base.free b o e n hx)
    exact ⟨sl', e2⟩
  · obtain ⟨o', e1⟩ := I.base.there b o e hx
    exact free b o' (neC b o e hx) e1 (I.base.free b o e n hx)
  · obtain ⟨o', e1⟩ := I.base.there b o e hx
    exact there b o' (neC b o e hx) e1
  · obtain ⟨m1, e1⟩ := I.base.tbls b ps e
    obtain ⟨m2, e2⟩ := tbls b _ e1
    exact ⟨m1 ++ m2, by rw [e2, Array.append_assoc]⟩
  · obtain ⟨m, hn, hl⟩ := I.loc
    refine ⟨m, ns m hn, fun i x v e1 e2 e3 => ?_⟩
    obtain ⟨u, r, l⟩ := hl i x v e1 e2 e3
    refine ⟨u, r, ?_⟩
    rcases l with l | ⟨k, c, e, z⟩
    · exact .inl l
    · exact .inr ⟨k, c, e, cellK x c e _ z⟩
  · obtain ⟨v, z⟩ := I.cell x c e
    exact ⟨v, cellK x c e v z⟩
  · obtain ⟨m, ⟨o, _, _, ho, _⟩, _⟩ := I.loc
    exact free _ o (fun z => (hch _ z).2.1 rfl) ho I.free
  · obtain ⟨v, o, ho, hd⟩ := I.cell x c e
    exact free c o (fun z => (hch c z).2.2.1 x c e rfl) ho (I.freeC x c e)
  · obtain ⟨e, n, ne, nf, d⟩ := I.pin p hp
    have nch : p.1 ∉ ch := fun z => (hch p.1 z).2.2.2 p hp rfl
    exact ⟨keep p.1 p.2 ne nf nch e n, free p.1 p.2 nch e n, ne, nf, d⟩
theorem Inv.un {t' : Nat} (I : Inv X pins σ H s) (u : Un X.fs [] H H' s.heap h') (hok : HOk X.prog X.w H' h') : Inv X pins σ H' { s with heap := h', toks := t' } := by
  obtain ⟨m, ⟨o, es, ep, ho, r⟩, _⟩ := id I.loc
  obtain ⟨sl, hL⟩ := u.any ho I.free (by simp)
  exact I.step (g' := s.gens) (d' := s.drawn) (ch := []) (fun _ z => nomatch z) (fun b o _ hb _ e n => u.keep b o e n hb (by simp)) (fun b o _ hb _ e n => u.slot b o e n hb (by simp)) (fun b o _ e n => u.free b o e n (by simp)) (fun b o _ e => u.there b o e (by simp)) u.tups u.frzs u.tbls (fun m' hm => by
    obtain ⟨o', es', ep', ho', r'⟩ := hm
    rw [ho] at ho'; cases ho'
    exact ⟨_, es', ep', hL, r'⟩) hok I.bare
theorem Inv.call {g' : Array GenState} {t' : Nat} {d' : Drawn} {ch : List Addr} (I : Inv X pins σ H s) (u : Un (frs X.stack) ch H H' s.heap h') (hok : HOk X.prog X.w H' h') (hg : AllBare g')
    (hch : ∀ b ∈ ch, (b ∈ X.ex ∨ X.s₀.heap.objs.size ≤ b) ∧ b ≠ X.env.locals ∧ (∀ x c, X.env.cells.lookup x = some c → c ≠ b) ∧ ∀ p ∈ X.pn ++ pins, p.1 ≠ b) :
    Inv X pins σ H' { s with heap := h', gens := g', drawn := d', toks := t' } := by
  obtain ⟨m, ⟨o, es, ep, ho, r⟩, _⟩ := id I.loc
  obtain ⟨sl, hL⟩ := u.any ho I.free fun z => (hch _ z).2.1 rfl
  exact I.step (ch := ch) hch (fun b o hL hb hc e n => u.keep b o e n (fun z => (List.mem_cons.mp (I.stkSub b z)).elim hL hb) hc) (fun b o _ _ hc e n => u.any e n hc) (fun b o hc e n => u.free b o e n hc) (fun b o hc e => u.there b o e hc) u.tups u.frzs u.tbls (fun m' hm => by
    obtain ⟨o', es', ep', ho', r'⟩ := hm
    rw [ho] at ho'; cases ho'
    exact ⟨_, es', ep', hL, r'⟩) hok hg
theorem Inv.turned {t' : Nat} {it : Addr} (I : Inv X pins σ H s) (k : ∀ b o, b ≠ it → s.heap.get? b = some o → h'.get? b = some o) (hn : H it = none) (hL : it ≠ X.env.locals)
    (h1 : it ∈ X.ex ∨ X.s₀.heap.objs.size ≤ it) (h2 : ∀ x c, X.env.cells.lookup x = some c → c ≠ it) (h3 : ∀ p ∈ X.pn ++ pins, p.1 ≠ it) : Inv X pins σ H { s with heap := h', toks := t' } := by
  have nit : ∀ b u, H b = some u → b ≠ it := fun b u e z => by rw [z, hn] at e; cases e
  refine I.step (g' := s.gens) (d' := s.drawn) (ch := [it]) (fun b hb => ?_) (fun b o _ _ hc e _ => k b o (fun z => hc (by simp [z])) e) (fun b o _ _ hc e _ => ⟨o.slots, k b o (fun z => hc (by simp [z])) e⟩) (fun _ _ _ _ n => n)
    (fun b o hc e => ⟨o, k b o (fun z => hc (by simp [z])) e⟩) (fun _ _ e => e) (fun _ _ _ e => e) (fun b ps e => ⟨#[], by rw [e]; simp⟩) (fun m hm => ?_) (fun b u e => ?_) I.bare
  · have e : b = it := by simpa using hb
    subst e
    exact ⟨h1, hL, h2, h3⟩
  · obtain ⟨o, es, ep, ho, r⟩ := hm
    exact ⟨o, es, ep, k _ o (Ne.symm hL) ho, r⟩
  · refine (I.hok b u e).stay (fun c v hc q => k c v ?_ q) (fun _ q => q) fun _ _ q => q
    rcases hc with z | z
    · rw [z]; exact nit b u e
    · exact nit c _ z
theorem Inv.tok (I : Inv X pins σ H s) (t : Nat) : Inv X pins σ H { s with toks := t } := I.un (h' := s.heap) (t' := t) Un.refl I.hok
theorem Inv.kept {t' : Nat} (I : Inv X pins σ H s) (k : ∀ b u, s.heap.get? b = some u → h'.get? b = some u) : Inv X pins σ H { s with heap := h', toks := t' } := I.un (Un.kept k) (I.hok.kept k)
theorem Inv.laid {a : Addr} {o : HO} {t' : Nat} (I : Inv X pins σ H s) (k : ∀ b u, s.heap.get? b = some u → h'.get? b = some u) (hp : s.heap.objs.size ≤ a) (new : ObjOk X.prog X.w (upd H a o) h' a o) :
    Inv X pins σ (upd H a o) { s with heap := h', toks := t' } := I.un (Un.laid k hp (I.hok.fresh hp)) (I.hok.laid k hp new)
theorem Inv.write {x e : Addr} {o : HO} {t' : Nat} (I : Inv X pins σ H s) (mu : Mut (H x)) (he : e = x ∨ H e = some (.own x)) (k : ∀ b u, b ≠ e → s.heap.get? b = some u → h'.get? b = some u) (heo : ∃ u, h'.get? e = some u)
    (new : ObjOk X.prog X.w (upd H x o) h' x o) : Inv X pins σ (upd H x o) { s with heap := h', toks := t' } := I.un (Un.write mu he k heo) (I.hok.write mu he k heo new)
theorem Inv.pins_of {pins' : List (Addr × Obj)} (I : Inv X pins σ H s) (h : ∀ p ∈ pins', s.heap.get? p.1 = some p.2 ∧ H p.1 = none ∧ p.1 ≠ X.env.locals ∧ p.1 ∉ X.fs ∧ ∀ v, p.2.data ≠ .cell v) : Inv X pins' σ H s :=
  ⟨I.ok, I.os, I.bare, I.base, I.loc, I.cell, I.free, I.freeC, fun p hp => (List.mem_append.mp hp).elim (fun z => I.pin p (List.mem_append_left _ z)) (h p), I.hok, I.len⟩
theorem nodup_ix {N : List Str} (hN : N.Nodup) {i j : Nat} {x : Str} (a : N[i]? = some x) (b : N[j]? = some x) : i = j := by
  obtain ⟨h1, e1⟩ := List.getElem?_eq_some_iff.mp a
  obtain ⟨h2, e2⟩ := List.getElem?_eq_some_iff.mp b
  exact (List.getElem_inj hN).mp (e1.trans e2.symm)
theorem store_ok2 {M : Model} {A : Around} {E : Value → Shared → Prop} {i : Nat} {x : Str} {v : V} {u : Value} {Q : Unit → Shared → Prop} (I : Inv X pins σ H s) (hN : X.N.Nodup) (hi : X.N[i]? = some x) (hx : Loc X.env.scope x) (r : RelV v u)
    (h : ∀ s', Inv X pins (σ.set i (some v)) H s' → (∃ a, Heap.SameBut a s.heap s'.heap ∧ (a = X.env.locals ∨ X.env.cells.lookup x = some a)) → Q () s') (hf : X.fn x = true ∨ X.env.scope.names.lookup x = some .local := by first | exact .inl rfl | exact .inr rfl | assumption) : wpAny M A (storeName X.env x u) Q E s := by
  obtain ⟨m, hn, hl⟩ := id I.loc
  have hcls : (X.env.scope.kind == .class || (X.env.scope.kind == .module && X.env.locals != X.env.globals)) = false := by rw [I.ok.kind]; rfl
  have hiσ : i < σ.length := by rw [I.len]; exact (List.getElem?_eq_some_iff.mp hi).1
  have cne := I.cne
  have tracked : ∀ {a : Addr} {h' : Heap}, (∃ o, s.heap.get? a = some o ∧ H a = none) → Heap.SameBut a s.heap h' → HOk X.prog X.w H h' := fun {a h'} ha hs b ob e => by
    obtain ⟨_, _, hfree⟩ := ha
    refine (I.hok b ob e).stay (fun c w' hc q => (hs.2 c ?_).trans q) (fun _ q => q) fun _ _ q => q
    rintro rfl
    rcases hc with rfl | hc
    · rw [hfree] at e; cases e
    · rw [hfree] at hc; cases hc
  rcases hx with hk | hk
  · refine wpAny_storeName_local hk hn (fun h' hn' hs => ?_) hcls
    obtain ⟨oL, _, _, hoL, _⟩ := id hn
    refine h _ ⟨I.ok, I.os, I.bare, ⟨fun b o e n hb hx => ?_, fun b o e n hb hx => ?_, I.base.free, fun b o e hx => ?_, I.base.tups, I.base.frzs, I.base.tbls⟩, ⟨_, hn', fun j y v' e1 e2 e3 => ?_⟩, fun y c e => ?_, I.free, I.freeC, fun p hp => ?_, tracked ⟨oL, hoL, I.free⟩ hs, by simpa using I.len⟩ ⟨_, hs, .inl rfl⟩
    · exact (hs.2 b (Nat.ne_of_lt (Nat.lt_of_lt_of_le (Heap.lt_size e) I.ok.above))).trans (I.base.keep b o e n hb hx)
    · obtain ⟨sl, e1⟩ := I.base.slot b o e n hb hx
      exact ⟨sl, (hs.2 b (Nat.ne_of_lt (Nat.lt_of_lt_of_le (Heap.lt_size e) I.ok.above))).trans e1⟩
    · obtain ⟨o', e1⟩ := I.base.there b o e hx
      exact ⟨o', (hs.2 b (Nat.ne_of_lt (Nat.lt_of_lt_of_le (Heap.lt_size e) I.ok.above))).trans e1⟩
    · by_cases hj : j = i
      · subst hj
        rw [hi] at e1; cases e1
        rw [List.getElem?_set_self hiσ] at e2
        cases e2
        exact ⟨u, r, .inl ⟨hk, by simp⟩⟩
      · rw [List.getElem?_set_ne (Ne.symm hj)] at e2
        obtain ⟨u', r', q⟩ := hl j y v' e1 e2 e3
        refine ⟨u', r', ?_⟩
        rcases q with ⟨k, e⟩ | ⟨k, c, e, z⟩
        · refine .inl ⟨k, ?_⟩
          have : y ≠ x := fun e => hj (nodup_ix hN e1 (e ▸ hi))
          simp [this, e]
        · exact .inr ⟨k, c, e, z.sameBut hs (cne y c e)⟩
    · obtain ⟨w', z⟩ := I.cell y c e
      exact ⟨w', z.sameBut hs (cne y c e)⟩
    · obtain ⟨e, n, ne, nf, d⟩ := I.pin p hp
      exact ⟨(hs.2 p.1 ne).trans e, n, ne, nf, d⟩
  · have hfn : X.fn x = true := by
      rcases hf with z | z
      · exact z
      · rw [z] at hk; cases hk
    obtain ⟨c, hc⟩ := I.ok.has x (.inl hk)
    obtain ⟨w', z⟩ := I.cell x c hc
    refine wpAny_storeName_cell I.ok.kind hk hc z (fun h' hc' hs => ?_)
    obtain ⟨oc, hoc, hocd⟩ := id z
    refine h { s with heap := h' } ⟨I.ok, I.os, I.bare, ⟨fun b o e n hb hx => ?_, fun b o e n hb hx => ?_, I.base.free, fun b o e hx => ?_, I.base.tups, I.base.frzs, I.base.tbls⟩, ⟨m, hn.sameBut hs (Ne.symm (cne x c hc)), fun j y v' e1 e2 e3 => ?_⟩, fun y c' e => ?_, I.free, I.freeC, fun p hp => ?_, tracked ⟨oc, hoc, I.freeC x c hc⟩ hs, by simpa using I.len⟩ ⟨c, hs, .inr hc⟩
    · exact (hs.2 b (Nat.ne_of_lt (Nat.lt_of_lt_of_le (Heap.lt_size e) (I.ok.cab x c hfn hc)))).trans (I.base.keep b o e n hb hx)
    · obtain ⟨sl, e1⟩ := I.base.slot b o e n hb hx
      exact ⟨sl, (hs.2 b (Nat.ne_of_lt (Nat.lt_of_lt_of_le (Heap.lt_size e) (I.ok.cab x c hfn hc)))).trans e1⟩
    · obtain ⟨o', e1⟩ := I.base.there b o e hx
      exact ⟨o', (hs.2 b (Nat.ne_of_lt (Nat.lt_of_lt_of_le (Heap.lt_size e) (I.ok.cab x c hfn hc)))).trans e1⟩
    · by_cases hj : j = i
      · subst hj
        rw [hi] at e1; cases e1
        rw [List.getElem?_set_self hiσ] at e2
        cases e2
        exact ⟨u, r, .inr ⟨.inl hk, c, hc, hc'⟩⟩
      · rw [List.getElem?_set_ne (Ne.symm hj)] at e2
        obtain ⟨u', r', q⟩ := hl j y v' e1 e2 e3
        refine ⟨u', r', ?_⟩
        rcases q with q | ⟨k, c', e, z'⟩
        · exact .inl q
        · refine .inr ⟨k, c', e, z'.sameBut hs ?_⟩
          rintro rfl
          exact hj (nodup_ix hN e1 (I.ok.inj _ _ _ e hc ▸ hi))
    · by_cases hcc : c' = c
      · subst hcc; exact ⟨_, hc'⟩
      · obtain ⟨w2, z2⟩ := I.cell y c' e
        exact ⟨w2, z2.sameBut hs hcc⟩
    · obtain ⟨e, n, ne, nf, d⟩ := I.pin p hp
      refine ⟨(hs.2 p.1 ?_).trans e, n, ne, nf, d⟩
      intro q
      rw [q, hoc] at e
      have q' : oc = p.2 := Option.some.inj e
      exact d w' (by rw [← q']; exact hocd)
theorem store_ok {M : Model} {A : Around} {E : Value → Shared → Prop} {i : Nat} {x : Str} {v : V} {u : Value} {Q : Unit → Shared → Prop} (I : Inv X pins σ H s) (hN : X.N.Nodup) (hi : X.N[i]? = some x) (hx : Loc X.env.scope x) (r : RelV v u)
    (h : ∀ s', Inv X pins (σ.set i (some v)) H s' → Q () s') (hf : X.fn x = true ∨ X.env.scope.names.lookup x = some .local := by first | exact .inl rfl | exact .inr rfl | assumption) : wpAny M A (storeName X.env x u) Q E s :=
  store_ok2 I hN hi hx r (fun s' I' _ => h s' I') hf
theorem Inv.call' {s' : Shared} {ch : List Addr} (I : Inv X pins σ H s) (ho : s'.os = s.os) (u : Un (frs X.stack) ch H H' s.heap s'.heap) (hok : HOk X.prog X.w H' s'.heap) (hg : AllBare s'.gens)
    (hch : ∀ b ∈ ch, (b ∈ X.ex ∨ X.s₀.heap.objs.size ≤ b) ∧ b ≠ X.env.locals ∧ (∀ x c, X.env.cells.lookup x = some c → c ≠ b) ∧ ∀ p ∈ X.pn ++ pins, p.1 ≠ b) : Inv X pins σ H' s' := by
  obtain ⟨h', g', d', t', o'⟩ := s'
  have e : o' = s.os := ho
  subst e
  exact I.call (g' := g') (t' := t') (d' := d') u hok hg hch
end
abbrev XK := Value → Option Addr → Hp → Prop
abbrev St := List (Option V)
abbrev VK := V → Hp → Prop
abbrev TE := St → Hp → VK → Prop
abbrev TT := St → Hp → (Bool → Hp → Prop) → Prop
abbrev TA := St → Hp → (List V → Hp → Prop) → Prop
structure Ends where
  nx : St → Hp → Prop
  rt : VK
  bk : St → Hp → Prop := fun _ _ => False
  ct : St → Hp → Prop := fun _ _ => False
abbrev TS := Ends → St → Hp → Prop
def EP (X : Cx) (pins : List (Addr × Obj)) (σ : St) (Q : VK) (u : Value) (s' : Shared) : Prop := ∃ v H', Inv X pins σ H' s' ∧ RelV v u ∧ Q v H'
def TP (X : Cx) (pins : List (Addr × Obj)) (σ : St) (Q : Bool → Hp → Prop) (b : Bool) (s' : Shared) : Prop := ∃ H', Inv X pins σ H' s' ∧ Q b H'
def AP (X : Cx) (pins : List (Addr × Obj)) (σ : St) (Q : List V → Hp → Prop) (us : List Value) (s' : Shared) : Prop := ∃ vs H', Inv X pins σ H' s' ∧ Vals vs us ∧ Q vs H'
def SP (X : Cx) (pins : List (Addr × Obj)) (D : Ends) (f : Flow) (s' : Shared) : Prop :=
  match f with
  | .next => ∃ σ' H', Inv X pins σ' H' s' ∧ D.nx σ' H'
  | .brk => ∃ σ' H', Inv X pins σ' H' s' ∧ D.bk σ' H'
  | .cont => ∃ σ' H', Inv X pins σ' H' s' ∧ D.ct σ' H'
  | .ret u => ∃ v σ' H', Inv X pins σ' H' s' ∧ RelV v u ∧ D.rt v H'
def PE (X : Cx) (e : Expr) (t : TE) : Prop :=
  ∀ (pins : List (Addr × Obj)) (s : Shared) (σ : St) (H : Hp) (Q : VK), Inv X pins σ H s → t σ H Q → wpAny (model X.prog X.w) X.A (eval e X.env) (EP X pins σ Q) X.xe s
def PT (X : Cx) (e : Expr) (t : TT) : Prop :=
  ∀ (pins : List (Addr × Obj)) (s : Shared) (σ : St) (H : Hp) (Q : Bool → Hp → Prop), Inv X pins σ H s → t σ H Q → wpAny (model X.prog X.w) X.A (isTrue e X.env (eval e X.env)) (TP X pins σ Q) X.xe s
def PW (X : Cx) (e : Expr) (t : TT) : Prop :=
  ∀ (whole : Sem Value) (pins : List (Addr × Obj)) (s : Shared) (σ : St) (H : Hp) (Q : Bool → Hp → Prop), Inv X pins σ H s → t σ H Q → wpAny (model X.prog X.w) X.A (isTrue e X.env whole) (TP X pins σ Q) X.xe s
theorem PW.pt {X : Cx} {e : Expr} {t : TT} (h : PW X e t) : PT X e t := h _
def PA (X : Cx) (es : List Expr) (t : TA) : Prop :=
  ∀ (pos : Pos) (pins : List (Addr × Obj)) (s : Shared) (σ : St) (H : Hp) (Q : List V → Hp → Prop), Inv X pins σ H s → t σ H Q → wpAny (model X.prog X.w) X.A (spliced (backTo pos (starEach es X.env))) (AP X pins σ Q) X.xe s
def PS (X : Cx) (st : Stmt) (t : TS) : Prop :=
  ∀ (pins : List (Addr × Obj)) (s : Shared) (σ : St) (H : Hp) (D : Ends), Inv X pins σ H s → t D σ H → wpAny (model X.prog X.w) X.A (exec st X.env) (SP X pins D) X.xe s
def PSs (X : Cx) (st : List Stmt) (t : TS) : Prop :=
  ∀ (pins : List (Addr × Obj)) (s : Shared) (σ : St) (H : Hp) (D : Ends), Inv X pins σ H s → t D σ H → wpAny (model X.prog X.w) X.A (execs st X.env) (SP X pins D) X.xe s
theorem thn {α : Type} {t : Sem α} {Q Q' : α → Shared → Prop} {M : Model} {A : Around} {E : Value → Shared → Prop} {s : Shared} (h : wpAny M A t Q E s) (hQ : ∀ a s, Q a s → Q' a s) : wpAny M A t Q' E s := wpAny_mono h hQ fun _ _ x => x
end L2
namespace L2
open PySem PySem.Spec PyProof.Rows
section
variable {X : Cx}
def tVar (i : Nat) : TE := fun σ H Q => ∃ v, σ[i]? = some (some v) ∧ Q v H
def tC (v : V) : TE := fun _ H Q => Q v H
theorem pe_var {i : Nat} {x : Str} {pos : Pos} (hN : X.N[i]? = some x) (hv : Vis X.env.scope x) (hd : (x == ("__debug__" : Str)) = false := by decide) (hcd : (x == ("__classdict__" : Str)) = false := by decide) : PE X (.Name x pos) (tVar i) := by
  intro pins s σ H Q I h
  obtain ⟨v, e, h⟩ := h
  obtain ⟨m, hn, hl⟩ := I.loc
  obtain ⟨u, r, l⟩ := hl i x v hN e hv
  have fin : EP X pins σ Q u s := ⟨v, H, I, r, h⟩
  rcases l with ⟨hk, hm⟩ | ⟨hk, c, hc, hcell⟩
  · exact wpAny_Name (wpAny_loadName_local I.ok.kind hk hn hm fin) hd
  · rcases hk with hk | hk
    · exact wpAny_Name (wpAny_loadName_cell I.ok.kind hk hc hcell fin) hd
    · exact wpAny_Name (wpAny_loadName_free I.ok.kind hk hc hcell fin hcd) hd
theorem pe_int {i j pos} : PE X (.Constant (.int i) j pos) (tC (.int i)) := fun _ _ _ H _ I h => wpAny_Constant_int ⟨.int i, H, I.tok _, ⟨_, rfl⟩, h⟩
theorem pe_bl {b j pos} : PE X (.Constant (.bool b) j pos) (tC (.bl b)) := fun _ _ _ H _ I h => Constant_bool ⟨.bl b, H, I, rfl, h⟩
theorem pe_non {j pos} : PE X (.Constant .none j pos) (tC .non) := fun _ _ _ H _ I h => Constant_none ⟨.non, H, I, rfl, h⟩
theorem pe_str {x j pos} : PE X (.Constant (.str x) j pos) (tC (.str x)) := fun _ _ _ H _ I h => Calls.Constant_str ⟨.str x, H, I.tok _, ⟨_, rfl⟩, h⟩
def Gl (X : Cx) (x : Str) : Prop := X.env.kindOf x = some .globalImplicit
theorem ld_glob {E : Value → Shared → Prop} {pins : List (Addr × Obj)} {s : Shared} {σ : St} {H : Hp} {x : Str} {u : Value} {pos : Pos} {Q : Value → Shared → Prop} (I : Inv X pins σ H s) (hg : Gl X x) (hm : X.mg x = some u) (h : Q u s)
    (hd : (x == ("__debug__" : Str)) = false := by decide) : wpAny (model X.prog X.w) X.A (eval (.Name x pos) X.env) Q E s :=
  Calls.Name_function_global I.ok.kind hg (Calls.loadGlobal_global (by rw [I.ok.glob]; exact I.mod.glob.keeps I.bk) hm h) hd
theorem ld_blt {E : Value → Shared → Prop} {pins : List (Addr × Obj)} {s : Shared} {σ : St} {H : Hp} {x : Str} {u : Value} {pos : Pos} {Q : Value → Shared → Prop} (I : Inv X pins σ H s) (hg : Gl X x) (hm : X.mg x = none) (hv : bootBuiltins x = some u) (h : Q u s)
    (hn : x ≠ "__name__" := by decide) (hd : (x == ("__debug__" : Str)) = false := by decide) : wpAny (model X.prog X.w) X.A (eval (.Name x pos) X.env) Q E s := by
  obtain ⟨mb, h1, h2⟩ := I.mod.blt
  exact Calls.Name_function_global I.ok.kind hg (Calls.loadGlobal_builtin (by rw [I.ok.glob]; exact I.mod.glob.keeps I.bk) hm (by rw [I.ok.blt]; exact h1.keeps I.bk) ((h2 x hn).trans hv) h) hd
theorem pe_glob {x : Str} {v : V} {u : Value} {pos : Pos} (hg : Gl X x) (hm : X.mg x = some u) (r : RelV v u) (hd : (x == ("__debug__" : Str)) = false := by decide) : PE X (.Name x pos) (tC v) :=
  fun _ _ _ H _ I h => ld_glob I hg hm ⟨v, H, I, r, h⟩ hd
theorem pe_bltn {x : Str} {v : V} {u : Value} {pos : Pos} (hg : Gl X x) (hm : X.mg x = none) (hv : bootBuiltins x = some u) (r : RelV v u) (hn : x ≠ "__name__" := by decide) (hd : (x == ("__debug__" : Str)) = false := by decide) : PE X (.Name x pos) (tC v) :=
  fun _ _ _ H _ I h => ld_blt I hg hm hv ⟨v, H, I, r, h⟩ hn hd
def t2I (ta tb : TE) (k : Int → Int → Hp → Prop) : St → Hp → Prop := fun σ H => ta σ H fun x H1 => tb σ H1 fun y H2 => ∃ i j, x = .int i ∧ y = .int j ∧ k i j H2
def tAdd (ta tb : TE) : TE := fun σ H Q => t2I ta tb (fun i j H2 => Q (.int (i + j)) H2) σ H
def tSub (ta tb : TE) : TE := fun σ H Q => t2I ta tb (fun i j H2 => Q (.int (i - j)) H2) σ H
def tMul (ta tb : TE) : TE := fun σ H Q => t2I ta tb (fun i j H2 => (-(2 ^ 64) < i ∧ i < 2 ^ 64) ∧ Q (.int (i * j)) H2) σ H
variable {a b : Expr} {ta tb : TE} {pos : Pos}
def PC (X : Cx) (op : CmpOp) (a b : Expr) (t : TE) : Prop :=
  ∀ (pins : List (Addr × Obj)) (s : Shared) (σ : St) (H : Hp) (Q : VK), Inv X pins σ H s → t σ H Q →
    wpAny (model X.prog X.w) X.A (eval a X.env) (fun v s₁ => wpAny (model X.prog X.w) X.A (eval b X.env) (fun u s₂ => wpAny (model X.prog X.w) X.A (compareOp op v u) (EP X pins σ Q) X.xe s₂) X.xe s₁) X.xe s
def tCmp (p : Int → Int → Bool) (ta tb : TE) : TE := fun σ H Q => t2I ta tb (fun i j H2 => Q (.bl (p i j)) H2) σ H
abbrev tLt : TE → TE → TE := tCmp fun i j => decide (i < j)
abbrev tLe : TE → TE → TE := tCmp fun i j => decide (i ≤ j)
abbrev tGt : TE → TE → TE := tCmp fun i j => decide (j < i)
abbrev tGe : TE → TE → TE := tCmp fun i j => decide (j ≤ i)
abbrev tEqI : TE → TE → TE := tCmp fun i j => decide (i = j)
abbrev tNeI : TE → TE → TE := tCmp fun i j => !decide (i = j)
def tIsN (ta : TE) : TE := fun σ H Q => ta σ H fun x H1 => Q (.bl (decide (x = .non))) H1
def tNotN (ta : TE) : TE := fun σ H Q => ta σ H fun x H1 => Q (.bl (!decide (x = .non))) H1
def tB (t : TE) : TT := fun σ H Q => t σ H fun x H1 => ∃ c, x = .bl c ∧ Q c H1
theorem pt_val {e : Expr} {t : TE} (h : PE X e t) (he : ∀ whole, isTrue e X.env whole = (do let v ← whole; standAt e.pos; holding [v] (truthy v)) := by intro _; rfl) : PT X e (tB t) := by
  intro pins s σ H Q I hw
  refine isTrue_plain (thn (h pins s σ H _ I hw) fun v s1 ⟨x, H1, I1, r1, q1⟩ => ?_) (he _)
  obtain ⟨d, rfl, q⟩ := q1
  cases r1
  exact wpAny_truthy_bool ⟨H1, I1, q⟩
variable {tA tB' : TT} {rest : List Expr}
def tAnd (t u : TT) : TT := fun σ H Q => t σ H fun c H1 => if c = true then u σ H1 Q else Q false H1
def tOr (t u : TT) : TT := fun σ H Q => t σ H fun c H1 => if c = true then Q true H1 else u σ H1 Q
def tNot (t : TT) : TT := fun σ H Q => t σ H fun c H1 => Q (!c) H1
theorem pw_and1 (ha : PT X a tA) : PW X (.BoolOp .And [a] pos) tA := by
  intro wh pins s σ H Q I h
  refine isTrue_and (thn (ha pins s σ H Q I h) fun c s1 e => ?_)
  cases c with
  | true => exact isTrue_and_nil e
  | false => exact e
theorem pw_or1 (ha : PT X a tA) : PW X (.BoolOp .Or [a] pos) tA := by
  intro wh pins s σ H Q I h
  refine isTrue_or (thn (ha pins s σ H Q I h) fun c s1 e => ?_)
  cases c with
  | false => exact isTrue_or_nil e
  | true => exact e
theorem pw_and (ha : PT X a tA) (hb : PW X (.BoolOp .And (b :: rest) pos) tB') : PW X (.BoolOp .And (a :: b :: rest) pos) (tAnd tA tB') := by
  intro wh pins s σ H Q I h
  refine isTrue_and (thn (ha pins s σ H _ I h) fun c s1 ⟨H1, I1, q1⟩ => ?_)
  cases c with
  | true => exact hb wh pins s1 σ H1 Q I1 q1
  | false => exact ⟨H1, I1, q1⟩
theorem pw_or (ha : PT X a tA) (hb : PW X (.BoolOp .Or (b :: rest) pos) tB') : PW X (.BoolOp .Or (a :: b :: rest) pos) (tOr tA tB') := by
  intro wh pins s σ H Q I h
  refine isTrue_or (thn (ha pins s σ H _ I h) fun c s1 ⟨H1, I1, q1⟩ => ?_)
  cases c with
  | true => exact ⟨H1, I1, q1⟩
  | false => exact hb wh pins s1 σ H1 Q I1 q1
theorem pt_not (ha : PT X a tA) : PT X (.UnaryOp .Not a pos) (tNot tA) := by
  intro pins s σ H Q I h
  exact isTrue_not (ha pins s σ H (fun c H1 => Q (!c) H1) I h)
def tAndV (ta tb : TE) : TE := fun σ H Q => ta σ H fun x H1 => ∃ c, x = .bl c ∧ if c = true then tb σ H1 Q else Q (.bl false) H1
def tOrV (ta tb : TE) : TE := fun σ H Q => ta σ H fun x H1 => ∃ c, x = .bl c ∧ if c = true then Q (.bl true) H1 else tb σ H1 Q
def tNotV (ta : TE) : TE := fun σ H Q => ta σ H fun x H1 => ∃ c, x = .bl c ∧ Q (.bl (!c)) H1
theorem pe_one {op} {t : TE} (h : PE X a t) : PE X (.BoolOp op [a] pos) t := fun pins s σ H Q I hw => BoolOp_one (h pins s σ H Q I hw)
theorem pe_and (ha : PE X a ta) (hb : PE X (.BoolOp .And (b :: rest) pos) tb) : PE X (.BoolOp .And (a :: b :: rest) pos) (tAndV ta tb) := by
  intro pins s σ H Q I h
  refine BoolOp_and (thn (ha pins s σ H _ I h) fun v s1 ⟨x, H1, I1, r1, q1⟩ => ?_)
  obtain ⟨c, rfl, q1⟩ := q1
  cases r1
  refine wpAny_truthy_bool ?_
  cases c with
  | true => exact hb pins s1 σ H1 Q I1 q1
  | false => exact ⟨.bl false, H1, I1, rfl, q1⟩
theorem pe_not (ha : PE X a ta) : PE X (.UnaryOp .Not a pos) (tNotV ta) := by
  intro pins s σ H Q I h
  refine UnaryOp_ (thn (ha pins s σ H _ I h) fun v s1 ⟨x, H1, I1, r1, q1⟩ => ?_)
  obtain ⟨c, rfl, q1⟩ := q1
  cases r1
  exact not_of (wpAny_truthy_bool ⟨.bl (!c), H1, I1, rfl, q1⟩)
def tIf (t : TT) (ta tb : TE) : TE := fun σ H Q => t σ H fun c H1 => if c = true then ta σ H1 Q else tb σ H1 Q
theorem pe_ifExp {c : Expr} (hc : PT X c tA) (ha : PE X a ta) (hb : PE X b tb) : PE X (.IfExp c a b pos) (tIf tA ta tb) := by
  intro pins s σ H Q I h
  refine wpAny_IfExp (thn (hc pins s σ H _ I h) fun d s1 ⟨H1, I1, q1⟩ => ?_)
  cases d with
  | true => exact ha pins s1 σ H1 Q I1 q1
  | false => exact hb pins s1 σ H1 Q I1 q1
end
end L2
namespace L2
open PySem PySem.Spec PyProof.Rows
def SqL (K : PySem.W.Frag) (H : Hp) (a : Addr) (xs : List V) : Prop :=
  Rd H a (.lst xs) ∨
    ∃ (o : Obj) (its : Array Value) (n : Nat), K.lookup a = some o ∧ o.cls = .type "list" ∧ o.dict = none ∧ o.data = .seq its n ∧ its.size ≤ sizeLine ∧ Vals xs its.toList
def SqT (K : PySem.W.Frag) (H : Hp) (a : Addr) (xs : List V) : Prop :=
  Rd H a (.tup xs) ∨
    ∃ (o : Obj) (its : Array Value) (n : Nat), K.lookup a = some o ∧ o.cls = .type "tuple" ∧ o.data = .seq its n ∧ its.size ≤ sizeLine ∧ Vals xs its.toList
def absV : Value → Option V
  | .none => some .non
  | .bool b => some (.bl b)
  | .int i _ => some (.int i)
  | .str x _ => some (.str x)
  | .bytes b _ => some (.byt b)
  | .float b _ => some (.flt b)
  | .ref a => some (.ref a)
  | .type n => some (.ty n)
  | _ => none
theorem RelV.abs {x : V} {u : Value} (r : RelV x u) : absV u = some x := by
  cases x with
  | non => cases r; rfl
  | bl _ => cases r; rfl
  | int _ => obtain ⟨t, rfl⟩ := r; rfl
  | str _ => obtain ⟨t, rfl⟩ := r; rfl
  | byt _ => obtain ⟨t, rfl⟩ := r; rfl
  | flt _ => obtain ⟨t, rfl⟩ := r; rfl
  | ref _ => cases r; rfl
  | ty _ => cases r; rfl
theorem RelV.inj {x y : V} {u : Value} (r : RelV x u) (q : RelV y u) : x = y := Option.some.inj (r.abs.symm.trans q.abs)
theorem Vals.inj : ∀ {xs ys : List V} {us : List Value}, Vals xs us → Vals ys us → xs = ys
  | _, _, _, .nil, .nil => rfl
  | _, _, _, .cons r t, .cons r' t' => by rw [r.inj r', Vals.inj t t']
section
variable {X : Cx} {pins : List (Addr × Obj)} {σ : St} {H : Hp} {s : Shared} {a : Addr} {xs ys : List V}
theorem SqL.of {K : PySem.W.Frag} (h : H a = some (.lst xs)) : SqL K H a xs := .inl (.inl h)
theorem SqT.of {K : PySem.W.Frag} (h : H a = some (.tup xs)) : SqT K H a xs := .inl (.inl h)
theorem Inv.list (I : Inv X pins σ H s) (h : SqL X.K H a xs) : ∃ its : List Value, Vals xs its ∧ PlainL s.heap a its.toArray ∧ xs.length ≤ sizeLine := by
  rcases h with h | ⟨o, its, n, hk, hc, hd, hs, hz, r⟩
  · obtain ⟨z, its, n, r, e⟩ := h.ok I.hok
    exact ⟨its, r, ⟨_, n, e, rfl, rfl, rfl⟩, z⟩
  · refine ⟨its.toList, r, ⟨o, n, I.kIn a o hk, hc, hd, by simpa using hs⟩, ?_⟩
    have e := r.length
    simp only [Array.length_toList] at e
    (first | lia | omega)
theorem Inv.tuple (I : Inv X pins σ H s) (h : SqT X.K H a xs) : ∃ its : List Value, Vals xs its ∧ IsTup s.heap a its.toArray ∧ xs.length ≤ sizeLine := by
  rcases h with h | ⟨o, its, n, hk, hc, hs, hz, r⟩
  · obtain ⟨z, its, r, p⟩ := h.ok I.hok
    exact ⟨its, r, p, z⟩
  · refine ⟨its.toList, r, ⟨o, I.kIn a o hk, hc, n, by simpa using hs⟩, ?_⟩
    have e := r.length
    simp only [Array.length_toList] at e
    (first | lia | omega)
theorem Inv.list_inj (I : Inv X pins σ H s) (h : SqL X.K H a xs) (h' : SqL X.K H a ys) : xs = ys := by
  obtain ⟨its, r, ⟨o, n, e, _, _, d⟩, _⟩ := I.list h
  obtain ⟨its', r', ⟨o', n', e', _, _, d'⟩, _⟩ := I.list h'
  rw [e] at e'; cases e'
  rw [d] at d'
  injection d' with d1 _
  have : its = its' := by simpa using congrArg Array.toList d1
  subst this
  exact r.inj r'
theorem Inv.tuple_inj (I : Inv X pins σ H s) (h : SqT X.K H a xs) (h' : SqT X.K H a ys) : xs = ys := by
  obtain ⟨its, r, ⟨o, e, _, n, d⟩, _⟩ := I.tuple h
  obtain ⟨its', r', ⟨o', e', _, n', d'⟩, _⟩ := I.tuple h'
  rw [e] at e'; cases e'
  rw [d] at d'
  injection d' with d1 _
  have : its = its' := by simpa using congrArg Array.toList d1
  subst this
  exact r.inj r'
end
abbrev Cx.wish (X : Cx) (E : Value → Shared → Prop) : Cx := { X with xe := E }
abbrev Cx.nox (X : Cx) : Cx := X.wish fun _ _ => False
theorem Cx.Ok.wish {X : Cx} (ok : X.Ok) (E : Value → Shared → Prop) : (X.wish E).Ok :=
  ⟨ok.mod, ok.kind, ok.glob, ok.blt, ok.above, ok.inj, ok.has, ok.cab, ok.hd, ok.frames, ok.stk, ok.exf, ok.bs, ok.bsz, ok.noex, ok.exfs, ok.funs, ok.frf⟩
theorem Cx.Ok.unwish {X : Cx} {E : Value → Shared → Prop} (ok : (X.wish E).Ok) : X.Ok :=
  ⟨ok.mod, ok.kind, ok.glob, ok.blt, ok.above, ok.inj, ok.has, ok.cab, ok.hd, ok.frames, ok.stk, ok.exf, ok.bs, ok.bsz, ok.noex, ok.exfs, ok.funs, ok.frf⟩
section
variable {X : Cx} {pins : List (Addr × Obj)} {σ : St} {H : Hp} {s : Shared} {E : Value → Shared → Prop}
theorem Inv.wish (I : Inv X pins σ H s) (E : Value → Shared → Prop) : Inv (X.wish E) pins σ H s := ⟨I.ok.wish E, I.os, I.bare, I.base, I.loc, I.cell, I.free, I.freeC, I.pin, I.hok, I.len⟩
theorem Inv.unwish (I : Inv (X.wish E) pins σ H s) : Inv X pins σ H s := ⟨I.ok.unwish, I.os, I.bare, I.base, I.loc, I.cell, I.free, I.freeC, I.pin, I.hok, I.len⟩
theorem SP.unwish {D : Ends} {f : Flow} {s' : Shared} (h : SP (X.wish E) pins D f s') : SP X pins D f s' := by
  cases f with
  | next => obtain ⟨σ', H', I, q⟩ := h; exact ⟨σ', H', I.unwish, q⟩
  | brk => obtain ⟨σ', H', I, q⟩ := h; exact ⟨σ', H', I.unwish, q⟩
  | cont => obtain ⟨σ', H', I, q⟩ := h; exact ⟨σ', H', I.unwish, q⟩
  | ret u => obtain ⟨v, σ', H', I, r, q⟩ := h; exact ⟨v, σ', H', I.unwish, r, q⟩
theorem PE.nox {e : Expr} {t : TE} (h : PE X.nox e t) : PE X e t := fun pins s σ H Q I hw =>
  wpAny_mono (h pins s σ H Q (I.wish _) hw) (fun _ _ ⟨v, H', I', r, q⟩ => ⟨v, H', I'.unwish, r, q⟩) fun _ _ z => False.elim z
theorem PT.nox {e : Expr} {t : TT} (h : PT X.nox e t) : PT X e t := fun pins s σ H Q I hw =>
  wpAny_mono (h pins s σ H Q (I.wish _) hw) (fun _ _ ⟨H', I', q⟩ => ⟨H', I'.unwish, q⟩) fun _ _ z => False.elim z
theorem PSs.nox {st : List Stmt} {t : TS} (h : PSs X.nox st t) : PSs X st t := fun pins s σ H D I hw =>
  wpAny_mono (h pins s σ H D (I.wish _) hw) (fun _ _ q => q.unwish) fun _ _ z => False.elim z
end
section
variable {X : Cx} {st : Stmt} {rest : List Stmt} {t u : TS} {e : Expr} {te : TE} {pos : Pos}
def tNext : TS := fun D σ H => D.nx σ H
def tSeq (t u : TS) : TS := fun D σ H => t { D with nx := u D } σ H
theorem pss_nil : PSs X [] tNext := fun _ _ σ H _ I h => wpAny_execs_nil ⟨σ, H, I, h⟩
theorem pss_cons (h1 : PS X st t) (h2 : PSs X rest u) : PSs X (st :: rest) (tSeq t u) := by
  intro pins s σ H D I h
  refine wpAny_execs_cons (thn (h1 pins s σ H { D with nx := u D } I h) fun f s1 q => ?_)
  cases f with
  | next =>
    obtain ⟨σ', H', I', q⟩ := q
    exact h2 pins s1 σ' H' D I' q
  | ret v => exact q
  | brk => exact q
  | cont => exact q
theorem pss_one (h1 : PS X st t) : PSs X [st] t := by
  intro pins s σ H D I h
  refine wpAny_execs_cons (thn (h1 pins s σ H D I h) fun f s1 q => ?_)
  cases f with
  | next => exact wpAny_execs_nil q
  | ret v => exact q
  | brk => exact q
  | cont => exact q
def tBreak : TS := fun D σ H => D.bk σ H
def tCont : TS := fun D σ H => D.ct σ H
theorem Inv.quiet {pins : List (Addr × Obj)} {σ : St} {H : Hp} {s : Shared} (I : Inv X pins σ H s) : interactive X.env = false := by simp [interactive, I.ok.kind]
def tDrop (te : TE) : TS := fun D σ H => te σ H fun _ H1 => D.nx σ H1
theorem ps_expr (he : PE X e te) (hs : swapsWith e none pos.line X.env = pure false := by rfl) : PS X (.Expr e pos) (tDrop te) := by
  intro pins s σ H D I h
  exact wpAny_Expr_any (thn (he pins s σ H _ I h) fun v s1 ⟨x, H1, I1, r1, q1⟩ => ⟨σ, H1, I1, q1⟩) I.quiet hs
def tRet (te : TE) : TS := fun D σ H => te σ H D.rt
theorem ps_ret (he : PE X e te) : PS X (.Return (some e) pos) (tRet te) := by
  intro pins s σ H D I h
  exact wpAny_Return_some (thn (he pins s σ H _ I h) fun v s1 ⟨x, H1, I1, r1, q1⟩ => ⟨x, σ, H1, I1, r1, q1⟩)
def tRetN : TS := fun D _ H => D.rt .non H
def tIfS (c : TT) (t u : TS) : TS := fun D σ H => c σ H fun b H1 => if b = true then t D σ H1 else u D σ H1
theorem ps_if {c : Expr} {a b : List Stmt} {tc : TT} (hc : PT X c tc) (ha : PSs X a t) (hb : PSs X b u) : PS X (.If c a b pos) (tIfS tc t u) := by
  intro pins s σ H D I h
  refine wpAny_If (thn (hc pins s σ H _ I h) fun d s1 ⟨H1, I1, q1⟩ => ?_)
  cases d with
  | true => exact ha pins s1 σ H1 D I1 q1
  | false => exact hb pins s1 σ H1 D I1 q1
def tNever : TS := fun _ _ _ => False
theorem pss_never {sts : List Stmt} : PSs X sts tNever := fun _ _ _ _ _ _ h => h.elim
end
abbrev TG := V → St → Hp → (St → Hp → Prop) → Prop
abbrev TGs := List V → St → Hp → (St → Hp → Prop) → Prop
def PG (X : Cx) (target : Expr) (t : TG) : Prop :=
  ∀ (pins : List (Addr × Obj)) (s : Shared) (σ : St) (H : Hp) (v : V) (u : Value) (Q : St → Hp → Prop), Inv X pins σ H s → RelV v u → t v σ H Q →
    wpAny (model X.prog X.w) X.A (assign target X.env u) (fun _ s' => ∃ σ' H', Inv X pins σ' H' s' ∧ Q σ' H') X.xe s
def PGs (X : Cx) (ts : List Expr) (t : TGs) : Prop :=
  ∀ (pins : List (Addr × Obj)) (s : Shared) (σ : St) (H : Hp) (vs : List V) (us : List Value) (Q : St → Hp → Prop), Inv X pins σ H s → Vals vs us → t vs σ H Q →
    wpAny (model X.prog X.w) X.A (assignInOrder ((assignEach ts X.env).map (·.2)) us) (fun _ s' => ∃ σ' H', Inv X pins σ' H' s' ∧ Q σ' H') X.xe s
abbrev TSet := V → V → V → Hp → (Hp → Prop) → Prop
def PSet (X : Cx) (t : TSet) : Prop :=
  ∀ (pins : List (Addr × Obj)) (s : Shared) (σ : St) (H : Hp) (o i v : V) (ov iv u : Value) (Q : Hp → Prop), Inv X pins σ H s → RelV o ov → RelV i iv → RelV v u → t o i v H Q →
    wpAny (model X.prog X.w) X.A (setItem ov iv u) (fun _ s' => ∃ H', Inv X pins σ H' s' ∧ Q H') X.xe s
abbrev TIp := V → V → Hp → VK → Prop
def PIp (X : Cx) (op : Operator) (t : TIp) : Prop :=
  ∀ (pins : List (Addr × Obj)) (s : Shared) (σ : St) (H : Hp) (x y : V) (v u : Value) (Q : VK), Inv X pins σ H s → RelV x v → RelV y u → t x y H Q →
    wpAny (model X.prog X.w) X.A (inplaceOp op v u) (EP X pins σ Q) X.xe s
section
variable {X : Cx} {pos : Pos}
def gName (i : Nat) : TG := fun v σ H Q => Q (σ.set i (some v)) H
theorem pg_name {i : Nat} {x : Str} (hN : X.N.Nodup) (hi : X.N[i]? = some x) (hx : Loc X.env.scope x) (hf : X.fn x = true ∨ X.env.scope.names.lookup x = some .local := by first | exact .inl rfl | exact .inr rfl | assumption) : PG X (.Name x pos) (gName i) := by
  intro pins s σ H v u Q I r h
  exact wpAny_assign_Name (store_ok I hN hi hx r (fun s' I' => ⟨_, H, I', h⟩) hf)
def gNil : TGs := fun vs σ H Q => vs = [] ∧ Q σ H
def gCons (t : TG) (u : TGs) : TGs := fun vs σ H Q => ∃ v r, vs = v :: r ∧ t v σ H fun σ' H' => u r σ' H' Q
theorem pgs_nil : PGs X [] gNil := by
  intro pins s σ H vs us Q I r h
  obtain ⟨e, h⟩ := h
  subst e
  cases r
  exact assignInOrder_nil ⟨σ, H, I, h⟩
theorem pgs_cons {e : Expr} {es : List Expr} {t : TG} {u : TGs} (h1 : PG X e t) (h2 : PGs X es u)
    (hs : (assignEach (e :: es) X.env).map (·.2) = assign e X.env :: (assignEach es X.env).map (·.2) := by rfl) : PGs X (e :: es) (gCons t u) := by
  intro pins s σ H vs us Q I r h
  obtain ⟨v, vr, e1, h⟩ := h
  subst e1
  cases r with
  | cons r rr =>
    rw [hs]
    refine assignInOrder_cons (thn (h1 pins s σ H _ _ _ I r h) fun _ s1 ⟨σ1, H1, I1, q1⟩ => ?_)
    exact h2 pins s1 σ1 H1 _ _ Q I1 rr q1
def gTup (K : PySem.W.Frag) (n : Nat) (t : TGs) : TG := fun v σ H Q => ∃ a xs, v = .ref a ∧ SqT K H a xs ∧ xs.length = n ∧ t xs σ H Q
theorem pg_tup {es : List Expr} {k : Nat} {t : TGs} {n : Nat} (hc : X.calm = true) (h : PGs X es t)
    (hn : (assignEach es X.env).length = n := by rfl) (hst : (assignEach es X.env).findIdx? (·.1) = none := by rfl) : PG X (.Tuple es k pos) (gTup X.K n t) := by
  intro pins s σ H v u Q I r hw
  obtain ⟨a, xs, e1, hq, hl, hw⟩ := hw
  subst e1
  cases r
  obtain ⟨its, rv, ht, hz⟩ := I.tuple hq
  refine assign_Tuple_tuple (I.ok.hd hc) ht (by simp [hn, ← hl, rv.length]) hst fun h' hx => ?_
  have I1 : Inv X pins σ H { s with heap := h' } := I.kept (t' := s.toks) fun b o e => hx b o (Nat.ne_of_lt (Heap.lt_size e)) e
  exact h pins _ σ H xs _ Q I1 (by simpa using rv) hw
def gSub (to ti : TE) (t : TSet) : TG := fun v σ H Q => to σ H fun o H1 => ti σ H1 fun i H2 => t o i v H2 fun H3 => Q σ H3
theorem pg_sub {o i : Expr} {to ti : TE} {t : TSet} (ho : PE X o to) (hi : PE X i ti) (hs : PSet X t)
    (ha : ∀ v, assign (.Subscript o i pos) X.env v = (do
      let ov ← holding [v] (eval o X.env)
      let iv ← holding [v, ov] (eval i X.env)
      standAt pos
      holding [v, ov, iv] (setItem ov iv v)
      release [v, ov, iv] []) := by intro _; rfl) : PG X (.Subscript o i pos) (gSub to ti t) := by
  intro pins s σ H v u Q I r h
  rw [ha]
  refine wpAny_bind (wpAny_holding (thn (ho pins s σ H _ I h) fun ov s1 ⟨x, H1, I1, r1, q1⟩ => ?_))
  refine wpAny_bind (wpAny_holding (thn (hi pins s1 σ H1 _ I1 q1) fun iv s2 ⟨y, H2, I2, r2, q2⟩ => ?_))
  refine wpAny_bind (wpAny_standAt (wpAny_bind (wpAny_holding (thn (hs pins s2 σ H2 x y v ov iv u _ I2 r1 r2 r q2) fun _ s3 ⟨H3, I3, q3⟩ => ?_))))
  exact wpAny_release ⟨σ, H3, I3, q3⟩
def tAsg (te : TE) (g : TG) : TS := fun D σ H => te σ H fun x H1 => g x σ H1 D.nx
theorem ps_asg {tg e : Expr} {te : TE} {g : TG} (he : PE X e te) (hg : PG X tg g) (hs : swapsWithSole [tg] e pos.line X.env = pure false := by rfl) (hw : swappedStores [tg] e X.env = pure none := by rfl)
    (h1 : (assignEach [tg] X.env).map (·.2) = [assign tg X.env] := by rfl) : PS X (.Assign [tg] e pos) (tAsg te g) := by
  intro pins s σ H D I h
  refine wpAny_Assign_stores (thn (he pins s σ H _ I h) fun v s1 ⟨x, H1, I1, r1, q1⟩ => ?_) hs hw
  rw [h1]
  exact thn (hg pins s1 σ H1 x v _ I1 r1 q1) fun _ s2 q => q
theorem ps_set {i : Nat} {x : Str} {e : Expr} {te : TE} {pos' : Pos} (hN : X.N.Nodup) (hi : X.N[i]? = some x) (hx : Loc X.env.scope x) (he : PE X e te) (hs : swapsWith e (some (.Name x pos')) pos.line X.env = pure false := by rfl) (hf : X.fn x = true ∨ X.env.scope.names.lookup x = some .local := by first | exact .inl rfl | exact .inr rfl | assumption) :
    PS X (.Assign [.Name x pos'] e pos) (tAsg te (gName i)) := by
  intro pins s σ H D I h
  refine wpAny_Assign_Name (thn (he pins s σ H _ I h) fun v s1 ⟨y, H1, I1, r1, q1⟩ => ?_) hs
  exact store_ok I1 hN hi hx r1 (fun s2 I2 => ⟨_, H1, I2, q1⟩) hf
def tPar (i j : Nat) (ta : TA) : TS := fun D σ H => ta σ H fun vs H1 => ∃ v w, vs = [v, w] ∧ D.nx ((σ.set i (some v)).set j (some w)) H1
def tAug (i : Nat) (te : TE) (ti : TIp) : TS := fun D σ H => ∃ x, σ[i]? = some (some x) ∧ te σ H fun y H1 => ti x y H1 fun z H2 => D.nx (σ.set i (some z)) H2
theorem ps_aug {i : Nat} {x : Str} {e : Expr} {te : TE} {op : Operator} {ti : TIp} {pos' : Pos} (hN : X.N.Nodup) (hi : X.N[i]? = some x) (hx : Loc X.env.scope x) (he : PE X e te) (ho : PIp X op ti) (hf : X.fn x = true ∨ X.env.scope.names.lookup x = some .local := by first | exact .inl rfl | exact .inr rfl | assumption) :
    PS X (.AugAssign (.Name x pos') op e pos) (tAug i te ti) := by
  intro pins s σ H D I h
  obtain ⟨v, e1, h⟩ := h
  obtain ⟨m, hn, hl⟩ := I.loc
  have vis : Vis X.env.scope x := by rcases hx with k | k; exact .inl k; exact .inr (.inl k)
  obtain ⟨u, r, l⟩ := hl i x v hi e1 vis
  refine wpAny_AugAssign_Name ?_
  have go : wpAny (model X.prog X.w) X.A (eval e X.env) (fun w s₂ => wpAny (model X.prog X.w) X.A (inplaceOp op u w) (fun r s₃ => wpAny (model X.prog X.w) X.A (storeName X.env x r) (fun _ => SP X pins D .next) X.xe s₃) X.xe s₂) X.xe s := by
    refine thn (he pins s σ H _ I h) fun w s1 ⟨y, H1, I1, r1, q1⟩ => ?_
    refine thn (ho pins s1 σ H1 v y u w _ I1 r r1 q1) fun z s2 ⟨zv, H2, I2, r2, q2⟩ => ?_
    exact store_ok I2 hN hi hx r2 (fun s3 I3 => ⟨_, H2, I3, q2⟩) hf
  rcases l with ⟨hk, hm⟩ | ⟨hk, c, hc, hcell⟩
  · exact wpAny_loadName_local I.ok.kind hk hn hm go
  · rcases hk with hk | hk
    · exact wpAny_loadName_cell I.ok.kind hk hc hcell go
    · rcases hx with k | k
      · have : X.env.scope.names.lookup x = some .free := hk
        rw [k] at this; cases this
      · have : X.env.scope.names.lookup x = some .free := hk
        rw [k] at this; cases this
def tAugS (to ti te : TE) (tget : V → V → Hp → VK → Prop) (tip : TIp) (tset : TSet) : TS := fun D σ H => to σ H fun o H1 => ti σ H1 fun i H2 => tget o i H2 fun x H3 => te σ H3 fun y H4 => tip x y H4 fun z H5 => tset o i z H5 fun H6 => D.nx σ H6
def PGet (X : Cx) (t : V → V → Hp → VK → Prop) : Prop :=
  ∀ (pins : List (Addr × Obj)) (s : Shared) (σ : St) (H : Hp) (o i : V) (ov iv : Value) (Q : VK), Inv X pins σ H s → RelV o ov → RelV i iv → t o i H Q →
    wpAny (model X.prog X.w) X.A (getItem ov iv) (EP X pins σ Q) X.xe s
def ipI (f : Int → Int → Int) : TIp := fun x y H Q => ∃ i j, x = .int i ∧ y = .int j ∧ Q (.int (f i j)) H
theorem ip_add : PIp X .Add (ipI fun i j => i + j) := by
  intro pins s σ H x y v u Q I r1 r2 h
  obtain ⟨i, j, e1, e2, q⟩ := h
  subst e1; subst e2
  obtain ⟨t, rfl⟩ := r1
  obtain ⟨t', rfl⟩ := r2
  exact iadd_int ⟨.int _, H, I.tok _, ⟨_, rfl⟩, q⟩
theorem ip_sub : PIp X .Sub (ipI fun i j => i - j) := by
  intro pins s σ H x y v u Q I r1 r2 h
  obtain ⟨i, j, e1, e2, q⟩ := h
  subst e1; subst e2
  obtain ⟨t, rfl⟩ := r1
  obtain ⟨t', rfl⟩ := r2
  exact isub_int ⟨.int _, H, I.tok _, ⟨_, rfl⟩, q⟩
end
section
variable {X : Cx} {pos : Pos}
def tWhile (c : TT) (tb : TS) : TS := fun D σ H => ∃ W : Nat → St → Hp → Prop, (∃ m, W m σ H) ∧ ∀ m σ H, W m σ H →
  c σ H fun b H1 => if b = true then ∃ N : St → Hp → Prop, (∀ σ' H', N σ' H' → ∃ m', m' < m ∧ W m' σ' H') ∧ tb { D with nx := N, ct := N, bk := D.nx } σ H1 else D.nx σ H1
theorem ps_while {c : Expr} {body : List Stmt} {tc : TT} {tb : TS} (hp : PassesOwn (model X.prog X.w) X.A X.env X.xe) (hc : PT X c tc) (hb : PSs X body tb) : PS X (.While c body [] pos) (tWhile tc tb) := by
  intro pins s σ H D I h
  obtain ⟨W, ⟨m0, w0⟩, turn⟩ := h
  refine wpAny_While (codeAny_whileLoop (fun n s' => ∃ σ' H', Inv X pins σ' H' s' ∧ W n σ' H') ?_ m0 ⟨σ, H, I, w0⟩)
  rintro n s1 ⟨σ1, H1, I1, w1⟩
  refine wpAny_passesOwn hp (thn (hc pins s1 σ1 H1 _ I1 (turn n σ1 H1 w1)) fun b s2 ⟨H2, I2, q2⟩ => ?_)
  cases b with
  | true =>
    obtain ⟨N, hN, q2⟩ := q2
    rw [if_pos rfl]
    refine wpAny_passesOwn hp (thn (hb pins s2 σ1 H2 _ I2 q2) fun f s3 q3 => ?_)
    cases f with
    | next =>
      obtain ⟨σ3, H3, I3, n3⟩ := q3
      obtain ⟨m', hm, w3⟩ := hN σ3 H3 n3
      exact ⟨m', hm, σ3, H3, I3, w3⟩
    | cont =>
      obtain ⟨σ3, H3, I3, n3⟩ := q3
      obtain ⟨m', hm, w3⟩ := hN σ3 H3 n3
      exact ⟨m', hm, σ3, H3, I3, w3⟩
    | brk => exact q3
    | ret v => exact q3
  | false =>
    rw [if_neg Bool.false_ne_true]
    exact wpAny_execs_nil ⟨σ1, H2, I2, q2⟩
end
structure It where
  go : Nat → Hp → Prop
  yld : Nat → Hp → V → Hp → Prop
  stop : Nat → Hp → Prop
def FpOk (X : Cx) (pins : List (Addr × Obj)) (H : Hp) (b : Addr) : Prop :=
  H b = none ∧ b ≠ X.env.locals ∧ b ∉ X.fs ∧ (b ∈ X.ex ∨ X.s₀.heap.objs.size ≤ b) ∧ (∀ x c, X.env.cells.lookup x = some c → c ≠ b) ∧ ∀ p ∈ X.pn ++ pins, p.1 ≠ b
theorem Inv.fpOk {X : Cx} {pins : List (Addr × Obj)} {σ : St} {H H' : Hp} {s : Shared} {b : Addr} (I : Inv X pins σ H s) (hb : s.heap.objs.size ≤ b) (hn : H' b = none) : FpOk X pins H' b := by
  refine ⟨hn, Nat.ne_of_gt (Nat.lt_of_lt_of_le I.lt hb), I.nofs hb, .inr (Nat.le_trans I.sz hb), fun x c e z => ?_, fun p hp z => ?_⟩
  · obtain ⟨v, q⟩ := I.cell x c e
    exact absurd (Nat.lt_of_lt_of_le q.lt (by rw [z]; exact hb)) (Nat.lt_irrefl _)
  · exact absurd (Nat.lt_of_lt_of_le (Heap.lt_size (I.pin p hp).1) (by rw [z]; exact hb)) (Nat.lt_irrefl _)
structure Turn (P : Program) (w : World) (K : PySem.W.Frag) (tg : Expr) (J : It) (fp : List Addr) (it : Addr) (tn : Nat → Heap → Prop) : Prop where
  mem : it ∈ fp
  obj : ∀ i h, tn i h → ∀ b ∈ fp, ∃ o, h.get? b = some o ∧ ∀ v, o.data ≠ .cell v
  keep : ∀ i h h', tn i h → (∀ b ∈ fp, ∀ o, h.get? b = some o → h'.get? b = some o) → tn i h'
  item : ∀ (X : Cx), X.prog = P → X.w = w → X.K = K → X.calm = true → ∀ (i : Nat) (pins : List (Addr × Obj)) (s : Shared) (σ : St) (H : Hp) (E : Value → Shared → Prop), Inv X pins σ H s → (∀ b ∈ fp, FpOk X pins H b) → tn i s.heap → J.go i H →
    wpAny (model P w) X.A (pyNext (.ref it)) (fun r s1 => ∃ u, r = some u ∧
      wpAny (model P w) X.A (letOwnedTupleGo tg (.ref it) u) (fun _ s2 => ∃ x H', Inv X pins σ H' s2 ∧ RelV x u ∧ J.yld i H x H' ∧ tn (i + 1) s2.heap ∧ ∀ b ∈ fp, H' b = none) E s1) E s
  done : ∀ (X : Cx), X.prog = P → X.w = w → X.K = K → X.calm = true → ∀ (i : Nat) (pins : List (Addr × Obj)) (s : Shared) (σ : St) (H : Hp) (E : Value → Shared → Prop), Inv X pins σ H s → (∀ b ∈ fp, FpOk X pins H b) → tn i s.heap → J.stop i H →
    wpAny (model P w) X.A (pyNext (.ref it)) (fun r s1 => r = none ∧ Inv X pins σ H s1) E s
  self : ∀ (A : Around) (i : Nat) (s : Shared) (Q : Value → Shared → Prop) (E : Value → Shared → Prop), tn i s.heap → Q (.ref it) s → wpAny (model P w) A (pyIter (.ref it)) Q E s
abbrev TI := St → Hp → (It → Hp → Prop) → Prop
def PIE (X : Cx) (pins : List (Addr × Obj)) (σ : St) (tg : Expr) (R : It → Hp → Prop) (itv : Value) (s2 : Shared) : Prop :=
  ∃ (it : Addr) (fp : List Addr) (tn : Nat → Heap → Prop) (J : It) (H' : Hp), itv = .ref it ∧ Inv X pins σ H' s2 ∧ Turn X.prog X.w X.K tg J fp it tn ∧ tn 0 s2.heap ∧ (∀ b ∈ fp, FpOk X pins H' b) ∧ R J H'
def PI (X : Cx) (tg iter : Expr) (wi : TI) : Prop :=
  ∀ (pins : List (Addr × Obj)) (s : Shared) (σ : St) (H : Hp) (R : It → Hp → Prop), Inv X pins σ H s → wi σ H R →
    wpAny (model X.prog X.w) X.A (eval iter X.env) (fun v s1 => wpAny (model X.prog X.w) X.A (pyIter v) (PIE X pins σ tg R) X.xe s1) X.xe s
theorem go_of {M : Model} {A : Around} {E : Value → Shared → Prop} {s : Shared} {tg : Expr} {it : Addr} {u : Value} {o : Obj} {n : String} {vs : Array Value} {Q : Unit → Shared → Prop} (ho : s.heap.get? it = some o) (hc : o.cls = .type n) (hd : o.data = .fields vs)
    (hn : ["enumerate", "zip", "dict_itemiterator", "dict_reverseitemiterator", "odict_iterator", "itertools.zip_longest", "itertools.pairwise"].contains n = false) (hQ : Q () s) : wpAny M A (letOwnedTupleGo tg (.ref it) u) Q E s := by
  unfold letOwnedTupleGo
  cases tg <;> first
    | exact wpAny_pure hQ
    | (cases u <;> first
        | exact wpAny_pure hQ
        | (refine wpAny_bind (wpAny_load ho ?_)
           rw [hc, hd]
           show wpAny M A (if (["enumerate", "zip", "dict_itemiterator", "dict_reverseitemiterator", "odict_iterator", "itertools.zip_longest", "itertools.pairwise"].contains n && vs[0]? == some (rawInt _)) = true then _ else _) Q E s
           rw [if_neg (by intro h; rw [hn, Bool.false_and] at h; cases h)]
           exact wpAny_pure hQ))
def Itl (K : PySem.W.Frag) (a : Addr) : It :=
  ⟨fun i H => ∃ xs x, SqL K H a xs ∧ xs[i]? = some x, fun i H x H' => H' = H ∧ ∀ xs, SqL K H a xs → xs[i]? = some x, fun i H => ∃ xs, SqL K H a xs ∧ xs.length ≤ i⟩
def Itt (K : PySem.W.Frag) (a : Addr) : It :=
  ⟨fun i H => ∃ xs x, SqT K H a xs ∧ xs[i]? = some x, fun i H x H' => H' = H ∧ ∀ xs, SqT K H a xs → xs[i]? = some x, fun i H => ∃ xs, SqT K H a xs ∧ xs.length ≤ i⟩
def Itr (lo : Int) (n : Nat) : It := ⟨fun i _ => i < n, fun i H x H' => H' = H ∧ x = .int (lo + i), fun i _ => n ≤ i⟩
theorem turn_list {P : Program} {w : World} {K : PySem.W.Frag} {tg : Expr} (a it : Addr) : Turn P w K tg (Itl K a) [it] it (fun i h => h.IsListIter it a i) where
  mem := by simp
  obj := fun i h st b hb => by
    have e : b = it := by simpa using hb
    subst e
    obtain ⟨o, e, c, d⟩ := st
    exact ⟨o, e, fun v z => by rw [d] at z; cases z⟩
  keep := fun i h h' st k => st.at fun o e => k it (by simp) o e
  item := by
    intro X hP hw hK hc i pins s σ H E I hf st hg
    subst hP hw hK
    obtain ⟨xs, x, hq, hx⟩ := hg
    obtain ⟨its, rv, p, hz⟩ := I.list hq
    obtain ⟨u, hu, ru⟩ := rv.get hx
    obtain ⟨f0, f1, f2, f3, f4, f5⟩ := hf it (by simp)
    refine wpAny_pyNext_list_item st p.isList (x := u) (by simpa using hu) fun h' st' sb => ?_
    have I1 : Inv X pins σ H { s with heap := h' } := I.turned (t' := s.toks) (fun b o hb e => (sb.2 b hb).trans e) f0 f1 f3 f4 f5
    obtain ⟨o, e, c, d⟩ := id st'
    exact ⟨u, rfl, go_of (s := { s with heap := h' }) e c d (by decide) ⟨x, H, I1, ru, ⟨rfl, fun ys hy => by rw [I.list_inj hy hq]; exact hx⟩, st', fun b hb => (hf b hb).1⟩⟩
  done := by
    intro X hP hw hK hc i pins s σ H E I hf st hg
    subst hP hw hK
    obtain ⟨xs, hq, hx⟩ := hg
    obtain ⟨its, rv, p, hz⟩ := I.list hq
    obtain ⟨f0, f1, f2, f3, f4, f5⟩ := hf it (by simp)
    have hl := rv.length
    exact wpAny_pyNext_list_end (I.ok.hd hc) st p.isList (by simp; (first | lia | omega)) fun h' eb => ⟨rfl, I.turned (t' := s.toks) (fun b o hb e => eb b o hb e) f0 f1 f3 f4 f5⟩
  self := fun _ _ _ _ _ st h => wpAny_pyIter_listiter st h
theorem turn_range {P : Program} {w : World} {K : PySem.W.Frag} {tg : Expr} (it : Addr) (lo : Int) (n : Nat) : Turn P w K tg (Itr lo n) [it] it (fun i h => IsRangeIter h it (lo + (i : Nat) * 1) ((n : Int) - (i : Nat)) 1) where
  mem := by simp
  obj := fun i h st b hb => by
    have e : b = it := by simpa using hb
    subst e
    exact ⟨_, st, fun v z => by
      have z' : Data.fields _ = Data.cell v := z
      cases z'⟩
  keep := fun i h h' st k => k it (by simp) _ st
  item := by
    intro X hP hw hK hc i pins s σ H E I hf st hg
    subst hP hw hK
    obtain ⟨f0, f1, f2, f3, f4, f5⟩ := hf it (by simp)
    have W := Walks.range (prog := X.prog) (w := X.w) (I.ok.hd hc) it lo 1 n
    refine W.item i s _ _ hg st fun v h' tk hv st' kk => ?_
    obtain ⟨t, rfl⟩ := hv
    have I1 : Inv X pins σ H { s with heap := h', toks := tk } := I.turned (fun b o hb e => kk b o (by simpa using hb) e) f0 f1 f3 f4 f5
    refine ⟨_, rfl, go_of (s := { s with heap := h', toks := tk }) (n := "range_iterator") st' rfl rfl (by decide) ⟨.int (lo + i), H, I1, ⟨t, ?_⟩, ⟨rfl, rfl⟩, st', fun b hb => (hf b hb).1⟩⟩
    rw [Int.mul_one]
  done := by
    intro X hP hw hK hc i pins s σ H E I hf st hg
    subst hP hw hK
    obtain ⟨f0, f1, f2, f3, f4, f5⟩ := hf it (by simp)
    exact wpAny_pyNext_range_end (I.ok.hd hc) st (by have : n ≤ i := hg; (first | lia | omega)) fun h' eb => ⟨rfl, I.turned (t' := s.toks) (fun b o hb e => eb b o hb e) f0 f1 f3 f4 f5⟩
  self := fun _ _ _ _ _ st h => wpAny_pyIter_rangeiter st h
end L2
namespace L2
open PySem PySem.Spec PyProof.Rows
section
variable {X : Cx} {tg : Expr}
def iList (K : PySem.W.Frag) (tl : TE) : TI := fun σ H R => tl σ H fun x H1 => ∃ a, x = .ref a ∧ (∃ xs, SqL K H1 a xs) ∧ R (Itl K a) H1
def iTup (K : PySem.W.Frag) (tl : TE) : TI := fun σ H R => tl σ H fun x H1 => ∃ a, x = .ref a ∧ (∃ xs, SqT K H1 a xs) ∧ R (Itt K a) H1
theorem pi_list {l : Expr} {tl : TE} (hl : PE X l tl) : PI X tg l (iList X.K tl) := by
  intro pins s σ H R I h
  refine thn (hl pins s σ H _ I h) fun v s1 ⟨x, H1, I1, r1, q1⟩ => ?_
  obtain ⟨a, e, ⟨xs, hq⟩, q⟩ := q1
  subst e
  cases r1
  obtain ⟨its, rv, p, hz⟩ := I1.list hq
  refine wpAny_pyIter_list p.isList ?_
  refine ⟨s1.heap.objs.size, [s1.heap.objs.size], _, _, H1, rfl, I1.kept (t' := s1.toks) fun b o e => Heap.get?_push_of_some _ e, turn_list a _, ⟨_, Heap.get?_push_size _ rfl, rfl, rfl⟩, fun b hb => ?_, q⟩
  have e : b = s1.heap.objs.size := by simpa using hb
  subst e
  exact I1.fpOk (Nat.le_refl _) (I1.hok.fresh (Nat.le_refl _))
theorem range_it {pins : List (Addr × Obj)} {σ : St} {H : Hp} {s : Shared} {R : It → Hp → Prop} {E : Value → Shared → Prop} {lo hi : Int} {t u v : Tok} {tk : Nat} (I : Inv X pins σ H s) (h1 : -(2 ^ 62) ≤ lo) (h2 : lo < 2 ^ 62) (h3 : -(2 ^ 62) ≤ hi) (h4 : hi < 2 ^ 62)
    (q : R (Itr lo (hi - lo).toNat) H) : wpAny (model X.prog X.w) X.A (pyIter (.ref s.heap.objs.size)) (PIE X pins σ tg R) E { s with heap := s.heap.push { cls := .type "range", data := .fields #[.int lo t, .int hi u, .int 1 v] }, toks := tk } := by
  refine wpAny_pyIter_range (IsRange.new ..) (small_one h1 h2 h3 h4) ?_
  have I1 : Inv X pins σ H { s with heap := s.heap.push { cls := .type "range", data := .fields #[.int lo t, .int hi u, .int 1 v] }, toks := tk } := I.kept fun b o e => Heap.get?_push_of_some _ e
  refine ⟨(s.heap.push { cls := .type "range", data := .fields #[.int lo t, .int hi u, .int 1 v] }).objs.size, [(s.heap.push { cls := .type "range", data := .fields #[.int lo t, .int hi u, .int 1 v] }).objs.size], _, _, H, rfl,
    I1.kept (t' := tk) fun b o e => Heap.get?_push_of_some _ e, turn_range _ lo (hi - lo).toNat, ?_, fun b hb => ?_, q⟩
  · have e1 : lo + ((0 : Nat) : Int) * 1 = lo := by simp
    have e2 : (((hi - lo).toNat : Nat) : Int) - ((0 : Nat) : Int) = Builtin.Range.rangeSize lo hi 1 := by rw [rangeSize_one]; split <;> (first | lia | omega)
    show IsRangeIter _ _ (lo + ((0 : Nat) : Int) * 1) ((((hi - lo).toNat : Nat) : Int) - ((0 : Nat) : Int)) 1
    rw [e1, e2]
    exact Heap.get?_push_size _ rfl
  · have e : b = (s.heap.push { cls := .type "range", data := .fields #[.int lo t, .int hi u, .int 1 v] }).objs.size := by simpa using hb
    subst e
    exact I1.fpOk (Nat.le_refl _) (I1.hok.fresh (Nat.le_refl _))
def iRng1 (ta : TA) : TI := fun σ H R => ta σ H fun vs H1 => ∃ j : Int, vs = [.int j] ∧ -(2 ^ 62) ≤ j ∧ j < 2 ^ 62 ∧ R (Itr 0 j.toNat) H1
def iRng2 (ta : TA) : TI := fun σ H R => ta σ H fun vs H1 => ∃ i j : Int, vs = [.int i, .int j] ∧ (-(2 ^ 62) ≤ i ∧ i < 2 ^ 62 ∧ -(2 ^ 62) ≤ j ∧ j < 2 ^ 62) ∧ R (Itr i (j - i).toNat) H1
theorem pi_range1 {a : Expr} {ta : TA} {p pos : Pos} (hg : Gl X "range") (hm : X.mg "range" = none) (ha : PA X [a] ta) (hs : starEach [a] X.env = [(false, eval a X.env)] := by rfl) : PI X tg (.Call (.Name "range" p) [a] [] pos) (iRng1 ta) := by
  intro pins s σ H R I h
  refine Call_ (ld_blt I hg hm boot_range (PyProof.Rows.callWith_type1 (thn (ha pos pins s σ H _ I h) fun us s1 ⟨vs, H1, I1, r1, q1⟩ => ?_) hs rfl))
  obtain ⟨j, e, q1, q2, q⟩ := q1
  subst e
  cases r1 with
  | cons r rr =>
    cases rr
    obtain ⟨t, rfl⟩ := r
    exact call_range_1 (range_it I1 (by (first | lia | omega)) (by (first | lia | omega)) q1 q2 (by simpa using q))
theorem pi_range2 {a b : Expr} {ta : TA} {p pos : Pos} (hg : Gl X "range") (hm : X.mg "range" = none) (ha : PA X [a, b] ta) (hs : starEach [a, b] X.env = [(false, eval a X.env), (false, eval b X.env)] := by rfl) (hs2 : starEach [b] X.env = [(false, eval b X.env)] := by rfl) :
    PI X tg (.Call (.Name "range" p) [a, b] [] pos) (iRng2 ta) := by
  intro pins s σ H R I h
  refine Call_ (ld_blt I hg hm boot_range (PyProof.Rows.callWith_type1 (thn (ha pos pins s σ H _ I h) fun us s1 ⟨vs, H1, I1, r1, q1⟩ => ?_) (by rw [hs, hs2]) (by rw [hs2]; rfl)))
  obtain ⟨i, j, e, ⟨q1, q2, q3, q4⟩, q⟩ := q1
  subst e
  cases r1 with
  | cons r rr =>
    cases rr with
    | cons r' rr =>
      cases rr
      obtain ⟨t, rfl⟩ := r
      obtain ⟨t', rfl⟩ := r'
      exact call_range_2 (range_it I1 q1 q2 q3 q4 q)
def tFor (wi : TI) (g : TG) (tb : TS) : TS := fun D σ H => wi σ H fun J H1 => ∃ W : Nat → Nat → St → Hp → Prop, (∃ m, W 0 m σ H1) ∧ ∀ i m σ H, W i m σ H →
  (J.stop i H ∧ D.nx σ H) ∨ (J.go i H ∧ ∃ N : St → Hp → Prop, (∀ σ' H', N σ' H' → ∃ m', m' < m ∧ W (i + 1) m' σ' H') ∧ ∀ x H', J.yld i H x H' → g x σ H' fun σ2 H2 => tb { D with nx := N, ct := N, bk := D.nx } σ2 H2)
def pinsAt (fp : List Addr) (h : Heap) : List (Addr × Obj) := fp.filterMap fun b => (h.get? b).map fun o => (b, o)
theorem mem_pinsAt {fp : List Addr} {h : Heap} {b : Addr} {o : Obj} (hb : b ∈ fp) (e : h.get? b = some o) : (b, o) ∈ pinsAt fp h := List.mem_filterMap.mpr ⟨b, hb, by rw [e]; rfl⟩
theorem of_pinsAt {fp : List Addr} {h : Heap} {p : Addr × Obj} (hp : p ∈ pinsAt fp h) : p.1 ∈ fp ∧ h.get? p.1 = some p.2 := by
  obtain ⟨b, hb, e⟩ := List.mem_filterMap.mp hp
  cases q : h.get? b with
  | none => rw [q] at e; cases e
  | some o =>
    rw [q] at e
    have e' : (b, o) = p := Option.some.inj e
    subst e'
    exact ⟨hb, q⟩
theorem Inv.pinned {pins : List (Addr × Obj)} {σ : St} {H : Hp} {s : Shared} {fp : List Addr} (I : Inv X pins σ H s) (hf : ∀ b ∈ fp, FpOk X pins H b) (ho : ∀ b ∈ fp, ∃ o, s.heap.get? b = some o ∧ ∀ v, o.data ≠ .cell v) : Inv X (pins ++ pinsAt fp s.heap) σ H s :=
  I.pins_of fun p hp => (List.mem_append.mp hp).elim (fun z => I.pin p (List.mem_append_right _ z)) fun z => by
    obtain ⟨hb, e⟩ := of_pinsAt z
    obtain ⟨f0, f1, f2, _⟩ := hf p.1 hb
    obtain ⟨o, e', d⟩ := ho p.1 hb
    rw [e] at e'; cases e'
    exact ⟨e, f0, f1, f2, d⟩
theorem Inv.unpinned {pins pl : List (Addr × Obj)} {σ : St} {H : Hp} {s : Shared} (I : Inv X (pins ++ pl) σ H s) : Inv X pins σ H s := I.pins_of fun p hp => I.pin p (List.mem_append_right _ (List.mem_append_left _ hp))
theorem ps_for {iter : Expr} {body : List Stmt} {wi : TI} {g : TG} {tb : TS} {pos : Pos} (hp : PassesOwn (model X.prog X.w) X.A X.env X.xe) (hc : X.calm = true) (hi : PI X tg iter wi) (hg : PG X tg g) (hb : PSs X body tb)
    (hs : ∀ x, foldedSetIterable iter X.env x = pure x := by intro _; rfl) : PS X (.For tg iter body [] pos) (tFor wi g tb) := by
  intro pins s σ H D I h
  refine wpAny_For (thn (hi pins s σ H _ I h) fun v s1 h1 => thn h1 fun itv s2 h2 => ?_) hs
  obtain ⟨it, fp, tn, J, H2, e, I2, T, st2, f2, W, ⟨m0, w0⟩, turn⟩ := h2
  subst e
  have stat : ∀ {H' : Hp}, (∀ b ∈ fp, H' b = none) → ∀ b ∈ fp, FpOk X pins H' b := fun hn b hb => ⟨hn b hb, (f2 b hb).2⟩
  refine codeAny_forLoop_any (fun n s' => ∃ i σ' H', Inv X pins σ' H' s' ∧ tn i s'.heap ∧ (∀ b ∈ fp, H' b = none) ∧ W i n σ' H') ?_ m0 ⟨0, σ, H2, I2, st2, fun b hb => (f2 b hb).1, w0⟩
  rintro n s3 ⟨i, σ3, H3, I3, st3, fr3, w3⟩
  rcases turn i n σ3 H3 w3 with ⟨stop, qn⟩ | ⟨go, N, hN, step⟩
  · refine wpAny_passesOwn hp (thn (T.done X rfl rfl rfl hc i pins s3 σ3 H3 X.xe I3 (stat fr3) st3 stop) fun r s4 ⟨hr, I4⟩ => ?_)
    subst hr
    exact wpAny_execs_nil ⟨σ3, H3, I4, qn⟩
  · refine wpAny_passesOwn hp (thn (T.item X rfl rfl rfl hc i pins s3 σ3 H3 X.xe I3 (stat fr3) st3 go) fun r s4 ⟨u, hr, h4⟩ => ?_)
    subst hr
    refine wpAny_passesOwn hp (thn h4 fun _ s5 ⟨x, H5, I5, r5, y5, st5, fr5⟩ => ?_)
    have I5' := I5.pinned (stat fr5) (T.obj _ _ st5)
    refine wpAny_passesOwn hp (thn (hg _ s5 σ3 H5 x u _ I5' r5 (step x H5 y5)) fun _ s6 ⟨σ6, H6, I6, q6⟩ => ?_)
    refine wpAny_passesOwn hp (thn (hb _ s6 σ6 H6 _ I6 q6) fun f s7 q7 => ?_)
    have again : ∀ {σ7 : St} {H7 : Hp}, Inv X (pins ++ pinsAt fp s5.heap) σ7 H7 s7 → N σ7 H7 → ∃ m, m < n ∧ ∃ i σ' H', Inv X pins σ' H' s7 ∧ tn i s7.heap ∧ (∀ b ∈ fp, H' b = none) ∧ W i m σ' H' := fun {σ7 H7} I7 n7 => by
      obtain ⟨m', hm, w7⟩ := hN σ7 H7 n7
      refine ⟨m', hm, i + 1, σ7, H7, I7.unpinned, T.keep _ _ _ st5 fun b hb o e => (I7.pin (b, o) (List.mem_append_right _ (List.mem_append_right _ (mem_pinsAt hb e)))).1, fun b hb => ?_, w7⟩
      obtain ⟨o, e, d⟩ := T.obj _ _ st5 b hb
      exact (I7.pin (b, o) (List.mem_append_right _ (List.mem_append_right _ (mem_pinsAt hb e)))).2.1
    cases f with
    | next => obtain ⟨σ7, H7, I7, n7⟩ := q7; exact again I7 n7
    | cont => obtain ⟨σ7, H7, I7, n7⟩ := q7; exact again I7 n7
    | brk => obtain ⟨σ7, H7, I7, q7⟩ := q7; exact ⟨σ7, H7, I7.unpinned, q7⟩
    | ret v => obtain ⟨x7, σ7, H7, I7, r7, q7⟩ := q7; exact ⟨x7, σ7, H7, I7.unpinned, r7, q7⟩
end
theorem for_list {K : PySem.W.Frag} {a : Addr} {xs : List V} {g : TG} {tb : TS} {D : Ends} {σ : St} {H : Hp} (Pv : Nat → St → Hp → Prop) (h0 : Pv 0 σ H) (hl : ∀ i σ H, i ≤ xs.length → Pv i σ H → SqL K H a xs)
    (hs : ∀ i x σ H, xs[i]? = some x → Pv i σ H → g x σ H fun σ2 H2 => tb { D with nx := Pv (i + 1), ct := Pv (i + 1), bk := D.nx } σ2 H2) (hd : ∀ σ H, Pv xs.length σ H → D.nx σ H) :
    ∃ W : Nat → Nat → St → Hp → Prop, (∃ m, W 0 m σ H) ∧ ∀ i m σ H, W i m σ H →
      ((Itl K a).stop i H ∧ D.nx σ H) ∨ ((Itl K a).go i H ∧ ∃ N : St → Hp → Prop, (∀ σ' H', N σ' H' → ∃ m', m' < m ∧ W (i + 1) m' σ' H') ∧ ∀ x H', (Itl K a).yld i H x H' → g x σ H' fun σ2 H2 => tb { D with nx := N, ct := N, bk := D.nx } σ2 H2) := by
  refine ⟨fun i m σ H => m = xs.length - i ∧ i ≤ xs.length ∧ Pv i σ H, ⟨xs.length, by simp, Nat.zero_le _, h0⟩, ?_⟩
  rintro i m σ H ⟨rfl, hi, p⟩
  have q := hl i σ H hi p
  by_cases hlt : i < xs.length
  · refine .inr ⟨⟨xs, xs[i], q, by simp [hlt]⟩, Pv (i + 1), fun σ' H' p' => ⟨xs.length - (i + 1), by (first | lia | omega), rfl, hlt, p'⟩, fun x H' y => ?_⟩
    obtain ⟨e, y⟩ := y
    subst e
    exact hs i x σ _ (y xs q) p
  · have e : i = xs.length := by (first | lia | omega)
    subst e
    exact .inl ⟨⟨xs, q, Nat.le_refl _⟩, hd σ H p⟩
theorem for_range {lo : Int} {n : Nat} {g : TG} {tb : TS} {D : Ends} {σ : St} {H : Hp} (Pv : Nat → St → Hp → Prop) (h0 : Pv 0 σ H)
    (hs : ∀ i σ H, i < n → Pv i σ H → g (.int (lo + i)) σ H fun σ2 H2 => tb { D with nx := Pv (i + 1), ct := Pv (i + 1), bk := D.nx } σ2 H2) (hd : ∀ σ H, Pv n σ H → D.nx σ H) :
    ∃ W : Nat → Nat → St → Hp → Prop, (∃ m, W 0 m σ H) ∧ ∀ i m σ H, W i m σ H →
      ((Itr lo n).stop i H ∧ D.nx σ H) ∨ ((Itr lo n).go i H ∧ ∃ N : St → Hp → Prop, (∀ σ' H', N σ' H' → ∃ m', m' < m ∧ W (i + 1) m' σ' H') ∧ ∀ x H', (Itr lo n).yld i H x H' → g x σ H' fun σ2 H2 => tb { D with nx := N, ct := N, bk := D.nx } σ2 H2) := by
  refine ⟨fun i m σ H => m = n - i ∧ i ≤ n ∧ Pv i σ H, ⟨n, by simp, Nat.zero_le _, h0⟩, ?_⟩
  rintro i m σ H ⟨rfl, hi, p⟩
  by_cases hlt : i < n
  · refine .inr ⟨hlt, Pv (i + 1), fun σ' H' p' => ⟨n - (i + 1), by (first | lia | omega), rfl, hlt, p'⟩, fun x H' y => ?_⟩
    obtain ⟨e, y⟩ := y
    subst e y
    exact hs i σ _ hlt p
  · have e : i = n := by (first | lia | omega)
    subst e
    exact .inl ⟨Nat.le_refl _, hd σ H p⟩
end L2
namespace L2
open PySem PySem.Spec PyProof.Rows
abbrev R2 := V → V → Hp → VK → Prop
def OpR (X : Cx) (f : Value → Value → Sem Value) (r : R2) : Prop :=
  ∀ (pins : List (Addr × Obj)) (s : Shared) (σ : St) (H : Hp) (x y : V) (v u : Value) (Q : VK), Inv X pins σ H s → RelV x v → RelV y u → r x y H Q →
    wpAny (model X.prog X.w) X.A (f v u) (EP X pins σ Q) X.xe s
def UnR (X : Cx) (f : Value → Sem Value) (r : V → Hp → VK → Prop) : Prop :=
  ∀ (pins : List (Addr × Obj)) (s : Shared) (σ : St) (H : Hp) (x : V) (v : Value) (Q : VK), Inv X pins σ H s → RelV x v → r x H Q →
    wpAny (model X.prog X.w) X.A (f v) (EP X pins σ Q) X.xe s
def CallR (X : Cx) (f : Value) (r : List V → Hp → VK → Prop) : Prop :=
  ∀ (pins : List (Addr × Obj)) (s : Shared) (σ : St) (H : Hp) (xs : List V) (us : List Value) (Q : VK), Inv X pins σ H s → Vals xs us → r xs H Q →
    wpAny (model X.prog X.w) X.A (call f us) (EP X pins σ Q) X.xe s
def TruR (X : Cx) (r : V → Hp → (Bool → Hp → Prop) → Prop) : Prop :=
  ∀ (pins : List (Addr × Obj)) (s : Shared) (σ : St) (H : Hp) (x : V) (v : Value) (Q : Bool → Hp → Prop), Inv X pins σ H s → RelV x v → r x H Q →
    wpAny (model X.prog X.w) X.A (truthy v) (TP X pins σ Q) X.xe s
def tOp (r : R2) (ta tb : TE) : TE := fun σ H Q => ta σ H fun x H1 => tb σ H1 fun y H2 => r x y H2 Q
def tUn (r : V → Hp → VK → Prop) (ta : TE) : TE := fun σ H Q => ta σ H fun x H1 => r x H1 Q
def rI (C : Int → Int → Prop) (g : Int → Int → V) : R2 := fun x y H Q => ∃ i j, x = .int i ∧ y = .int j ∧ C i j ∧ Q (g i j) H
def rI0 (g : Int → Int → V) : R2 := fun x y H Q => ∃ i j, x = .int i ∧ y = .int j ∧ Q (g i j) H
def rU (g : Int → V) : V → Hp → VK → Prop := fun x H Q => ∃ i, x = .int i ∧ Q (g i) H
section
variable {X : Cx} {a b c : Expr} {ta tb tc : TE} {pos : Pos}
theorem binT (ha : PE X a ta) (hb : PE X b tb) {pins : List (Addr × Obj)} {s : Shared} {σ : St} {H : Hp} {R : V → V → Hp → Prop} (I : Inv X pins σ H s)
    (h : ta σ H fun x H1 => tb σ H1 fun y H2 => R x y H2) {Q : Value → Shared → Prop} {f : Value → Value → Sem Value}
    (hf : ∀ v u s2 x y H2, Inv X pins σ H2 s2 → RelV x v → RelV y u → R x y H2 → wpAny (model X.prog X.w) X.A (f v u) Q X.xe s2) :
    wpAny (model X.prog X.w) X.A (eval a X.env) (fun v s₁ => wpAny (model X.prog X.w) X.A (eval b X.env) (fun u s₂ => wpAny (model X.prog X.w) X.A (f v u) Q X.xe s₂) X.xe s₁) X.xe s := by
  refine thn (ha pins s σ H _ I h) fun v s1 ⟨x, H1, I1, r1, q1⟩ => ?_
  refine thn (hb pins s1 σ H1 _ I1 q1) fun u s2 ⟨y, H2, I2, r2, q2⟩ => ?_
  exact hf v u s2 x y H2 I2 r1 r2 q2
theorem pe_op {op : Operator} {r : R2} (ho : OpR X (binaryOp op) r) (ha : PE X a ta) (hb : PE X b tb) : PE X (.BinOp a op b pos) (tOp r ta tb) := by
  intro pins s σ H Q I h
  exact wpAny_BinOp (binT ha hb I h fun v u s2 x y H2 I2 rx ry q => ho pins s2 σ H2 x y v u Q I2 rx ry q)
theorem pe_un {op : UnaryOp} {r : V → Hp → VK → Prop} (ho : UnR X (unaryOp op) r) (ha : PE X a ta) : PE X (.UnaryOp op a pos) (tUn r ta) := by
  intro pins s σ H Q I h
  exact UnaryOp_ (thn (ha pins s σ H _ I h) fun v s1 ⟨x, H1, I1, r1, q1⟩ => ho pins s1 σ H1 x v Q I1 r1 q1)
theorem opI {f : Value → Value → Sem Value} {C : Int → Int → Prop} {g : Int → Int → Int}
    (rule : ∀ (i j : Int) (t u : Tok) (s : Shared) (Q : Value → Shared → Prop) (E : Value → Shared → Prop), C i j → Q (.int (g i j) s.toks) { s with toks := s.toks + 1 } → wpAny (model X.prog X.w) X.A (f (.int i t) (.int j u)) Q E s) :
    OpR X f (rI C fun i j => .int (g i j)) := by
  intro pins s σ H x y v u Q I rx ry h
  obtain ⟨i, j, rfl, rfl, hc, q⟩ := h
  obtain ⟨t, rfl⟩ := rx
  obtain ⟨t', rfl⟩ := ry
  exact rule i j t t' s _ _ hc ⟨.int (g i j), H, I.tok _, ⟨_, rfl⟩, q⟩
theorem opI0 {f : Value → Value → Sem Value} {g : Int → Int → Int}
    (rule : ∀ (i j : Int) (t u : Tok) (s : Shared) (Q : Value → Shared → Prop) (E : Value → Shared → Prop), Q (.int (g i j) s.toks) { s with toks := s.toks + 1 } → wpAny (model X.prog X.w) X.A (f (.int i t) (.int j u)) Q E s) :
    OpR X f (rI0 fun i j => .int (g i j)) := by
  intro pins s σ H x y v u Q I rx ry h
  obtain ⟨i, j, rfl, rfl, q⟩ := h
  obtain ⟨t, rfl⟩ := rx
  obtain ⟨t', rfl⟩ := ry
  exact rule i j t t' s _ _ ⟨.int (g i j), H, I.tok _, ⟨_, rfl⟩, q⟩
theorem opB0 {f : Value → Value → Sem Value} {g : Int → Int → Bool}
    (rule : ∀ (i j : Int) (t u : Tok) (s : Shared) (Q : Value → Shared → Prop) (E : Value → Shared → Prop), Q (.bool (g i j)) s → wpAny (model X.prog X.w) X.A (f (.int i t) (.int j u)) Q E s) :
    OpR X f (rI0 fun i j => .bl (g i j)) := by
  intro pins s σ H x y v u Q I rx ry h
  obtain ⟨i, j, rfl, rfl, q⟩ := h
  obtain ⟨t, rfl⟩ := rx
  obtain ⟨t', rfl⟩ := ry
  exact rule i j t t' s _ _ ⟨.bl (g i j), H, I, rfl, q⟩
def CDiv (i j : Int) : Prop := 0 < j ∧ j < 1073741824
def CDivN (i j : Int) : Prop := j ≠ 0 ∧ j.natAbs < 1073741824
def CPow (i j : Int) : Prop := 0 ≤ j ∧ j ≤ 1000000 ∧ i.natAbs < 2 ^ 64
def CMul (i j : Int) : Prop := (-(2 ^ 64) < i ∧ i < 2 ^ 64) ∨ (-(2 ^ 64) < j ∧ j < 2 ^ 64)
theorem CMul.ok {i j : Int} (h : CMul i j) : IntMulOk i j := by
  rcases h with ⟨h1, h2⟩ | ⟨h1, h2⟩
  · exact .of_left (intBits_le_64 h1 h2)
  · exact .of_right (intBits_le_64 h1 h2)
theorem op_add : OpR X (binaryOp .Add) (rI0 fun i j => .int (i + j)) := opI0 fun _ _ _ _ _ _ _ q => add_int q
theorem op_sub : OpR X (binaryOp .Sub) (rI0 fun i j => .int (i - j)) := opI0 fun _ _ _ _ _ _ _ q => sub_int q
theorem op_fdiv : OpR X (binaryOp .FloorDiv) (rI CDiv fun i j => .int (i / j)) := opI fun i j _ _ _ _ _ hc q => by
  have h1 : (0 : Int) < j := hc.1
  have h2 : j < 1073741824 := hc.2
  exact floordiv_int (by (first | lia | omega)) (by rw [Int.fdiv_eq_ediv_of_nonneg i (by (first | lia | omega))]; exact q) (.inl (PyProof.noPylong_small (by (first | lia | omega))))
theorem op_mod : OpR X (binaryOp .Mod) (rI (fun _ j => 0 < j) fun i j => .int (i % j)) := opI fun i j _ _ _ _ _ hc q => by
  have h1 : (0 : Int) < j := hc
  exact mod_int' (by (first | lia | omega)) (by rw [Int.fmod_eq_emod_of_nonneg i (by (first | lia | omega))]; exact q)
theorem op_pow : OpR X (binaryOp .Pow) (rI CPow fun i j => .int (i ^ j.toNat)) := opI fun _ _ _ _ _ _ _ hc q => pow_int_small hc.1 hc.2.1 hc.2.2 q
theorem unI {f : Value → Sem Value} {g : Int → Int}
    (rule : ∀ (i : Int) (t : Tok) (s : Shared) (Q : Value → Shared → Prop) (E : Value → Shared → Prop), Q (.int (g i) s.toks) { s with toks := s.toks + 1 } → wpAny (model X.prog X.w) X.A (f (.int i t)) Q E s) :
    UnR X f (rU fun i => .int (g i)) := by
  intro pins s σ H x v Q I rx h
  obtain ⟨i, rfl, q⟩ := h
  obtain ⟨t, rfl⟩ := rx
  exact rule i t s _ _ ⟨.int (g i), H, I.tok _, ⟨_, rfl⟩, q⟩
theorem un_neg : UnR X (unaryOp .USub) (rU fun i => .int (-i)) := unI fun _ _ _ _ _ q => neg_int q
end
def scal : V → V → Bool
  | .non, .non => true | .non, .int _ => true | .int _, .non => true | .non, .bl _ => true | .bl _, .non => true | .non, .str _ => true | .str _, .non => true
  | .int _, .int _ => true | .bl _, .bl _ => true | .str _, .str _ => true | .byt _, .byt _ => true
  | .int _, .str _ => true | .str _, .int _ => true | .bl _, .str _ => true | .str _, .bl _ => true
  | _, _ => false
def rEq : R2 := fun x y H Q => scal x y = true ∧ Q (.bl (decide (x = y))) H
def rNe : R2 := fun x y H Q => scal x y = true ∧ Q (.bl (!decide (x = y))) H
theorem dec_int {i j : Int} : decide (V.int i = V.int j) = (i == j) := by
  rw [Bool.eq_iff_iff]
  simp
theorem dec_bl {i j : Bool} : decide (V.bl i = V.bl j) = (i == j) := by
  rw [Bool.eq_iff_iff]
  simp
theorem dec_str {i j : Str} : decide (V.str i = V.str j) = (i == j) := by
  rw [Bool.eq_iff_iff]
  simp
theorem dec_byt {i j : Array UInt8} : decide (V.byt i = V.byt j) = (i.toList == j.toList) := by
  rw [Bool.eq_iff_iff]
  cases i
  cases j
  simp
section
variable {X : Cx} {a b c : Expr} {ta tb tc : TE} {pos : Pos}
theorem fin_bl {pins : List (Addr × Obj)} {σ : St} {H : Hp} {s : Shared} {Q : VK} {k k' : Bool} (I : Inv X pins σ H s) (q : Q (.bl k) H) (e : k = k') : EP X pins σ Q (.bool k') s := by
  subst e
  exact ⟨.bl k, H, I, rfl, q⟩
theorem op_eq : OpR X (compareOp .Eq) rEq := by
  intro pins s σ H x y v u Q I rx ry h
  obtain ⟨hs, q⟩ := h
  cases x with
  | non =>
    cases rx
    cases y with
    | non => cases ry; exact PySem.EqNone.eq_none_none (fin_bl I q (by simp))
    | bl j => cases ry; exact PySem.EqNone.eq_none_bool (fin_bl I q (by simp))
    | int j => obtain ⟨t', rfl⟩ := ry; exact PySem.EqNone.eq_none_int (fin_bl I q (by simp))
    | str j => obtain ⟨t', rfl⟩ := ry; exact PySem.EqNone.eq_none_str (fin_bl I q (by simp))
    | _ => exact absurd (show false = true from hs) Bool.false_ne_true
  | bl i =>
    cases rx
    cases y with
    | non => cases ry; exact PySem.EqNone.eq_bool_none (fin_bl I q (by simp))
    | bl j => cases ry; exact eq_bool (fin_bl I q dec_bl)
    | str j => obtain ⟨t', rfl⟩ := ry; exact PySem.EqMixed.eq_bool_str (fin_bl I q (by simp))
    | _ => exact absurd (show false = true from hs) Bool.false_ne_true
  | int i =>
    obtain ⟨t, rfl⟩ := rx
    cases y with
    | non => cases ry; exact PySem.EqNone.eq_int_none (fin_bl I q (by simp))
    | int j => obtain ⟨t', rfl⟩ := ry; exact eq_int (fin_bl I q dec_int)
    | str j => obtain ⟨t', rfl⟩ := ry; exact PySem.EqMixed.eq_int_str (fin_bl I q (by simp))
    | _ => exact absurd (show false = true from hs) Bool.false_ne_true
  | str i =>
    obtain ⟨t, rfl⟩ := rx
    cases y with
    | non => cases ry; exact PySem.EqNone.eq_str_none (fin_bl I q (by simp))
    | bl j => cases ry; exact PySem.EqMixed.eq_str_bool (fin_bl I q (by simp))
    | int j => obtain ⟨t', rfl⟩ := ry; exact PySem.EqMixed.eq_str_int (fin_bl I q (by simp))
    | str j => obtain ⟨t', rfl⟩ := ry; exact eq_str (fin_bl I q dec_str)
    | _ => exact absurd (show false = true from hs) Bool.false_ne_true
  | byt i =>
    obtain ⟨t, rfl⟩ := rx
    cases y with
    | byt j => obtain ⟨t', rfl⟩ := ry; exact PySem.W.eq_bytes (fin_bl I q dec_byt)
    | _ => exact absurd (show false = true from hs) Bool.false_ne_true
  | _ => cases y <;> exact absurd (show false = true from hs) Bool.false_ne_true
theorem op_ne : OpR X (compareOp .NotEq) rNe := by
  intro pins s σ H x y v u Q I rx ry h
  obtain ⟨hs, q⟩ := h
  cases x with
  | non =>
    cases rx
    cases y with
    | non => cases ry; exact PySem.EqNone.ne_none_none (fin_bl I q (by simp))
    | bl j => cases ry; exact PySem.EqNone.ne_none_bool (fin_bl I q (by simp))
    | int j => obtain ⟨t', rfl⟩ := ry; exact PySem.EqNone.ne_none_int (fin_bl I q (by simp))
    | str j => obtain ⟨t', rfl⟩ := ry; exact PySem.EqNone.ne_none_str (fin_bl I q (by simp))
    | _ => exact absurd (show false = true from hs) Bool.false_ne_true
  | bl i =>
    cases rx
    cases y with
    | non => cases ry; exact PySem.EqNone.ne_bool_none (fin_bl I q (by simp))
    | bl j => cases ry; exact ne_bool (fin_bl I q (congrArg not dec_bl))
    | str j => obtain ⟨t', rfl⟩ := ry; exact PySem.EqMixed.ne_bool_str (fin_bl I q (by simp))
    | _ => exact absurd (show false = true from hs) Bool.false_ne_true
  | int i =>
    obtain ⟨t, rfl⟩ := rx
    cases y with
    | non => cases ry; exact PySem.EqNone.ne_int_none (fin_bl I q (by simp))
    | int j => obtain ⟨t', rfl⟩ := ry; exact ne_int (fin_bl I q (congrArg not dec_int))
    | str j => obtain ⟨t', rfl⟩ := ry; exact PySem.EqMixed.ne_int_str (fin_bl I q (by simp))
    | _ => exact absurd (show false = true from hs) Bool.false_ne_true
  | str i =>
    obtain ⟨t, rfl⟩ := rx
    cases y with
    | non => cases ry; exact PySem.EqNone.ne_str_none (fin_bl I q (by simp))
    | bl j => cases ry; exact PySem.EqMixed.ne_str_bool (fin_bl I q (by simp))
    | int j => obtain ⟨t', rfl⟩ := ry; exact PySem.EqMixed.ne_str_int (fin_bl I q (by simp))
    | str j => obtain ⟨t', rfl⟩ := ry; exact ne_str (fin_bl I q (congrArg not dec_str))
    | _ => exact absurd (show false = true from hs) Bool.false_ne_true
  | byt i =>
    obtain ⟨t, rfl⟩ := rx
    cases y with
    | byt j => obtain ⟨t', rfl⟩ := ry; exact PySem.W.ne_bytes (fin_bl I q (congrArg not dec_byt))
    | _ => exact absurd (show false = true from hs) Bool.false_ne_true
  | _ => cases y <;> exact absurd (show false = true from hs) Bool.false_ne_true
theorem op_lt : OpR X (compareOp .Lt) (rI0 fun i j => .bl (decide (i < j))) := opB0 fun _ _ _ _ _ _ _ q => lt_int q
theorem op_gt : OpR X (compareOp .Gt) (rI0 fun i j => .bl (decide (j < i))) := opB0 fun _ _ _ _ _ _ _ q => gt_int q
theorem op_ge : OpR X (compareOp .GtE) (rI0 fun i j => .bl (decide (j ≤ i))) := opB0 fun _ _ _ _ _ _ _ q => ge_int q
def isObj : HO → Bool
  | .lst _ => true
  | .ins _ _ _ => true
  | _ => false
theorem OpR.or {f : Value → Value → Sem Value} {r r' : R2} (h : OpR X f r) (h' : OpR X f r') : OpR X f (fun x y H Q => r x y H Q ∨ r' x y H Q) := by
  intro pins s σ H x y v u Q I rx ry q
  rcases q with q | q
  · exact h pins s σ H x y v u Q I rx ry q
  · exact h' pins s σ H x y v u Q I rx ry q
theorem nomark (b : Expr) {op : CmpOp} (h : op ≠ .In := by decide) (h2 : op ≠ .NotIn := by decide) : behindInMarks op b = false := by
  have e1 : (op == CmpOp.In) = false := by cases op <;> first | rfl | exact absurd rfl h
  have e2 : (op == CmpOp.NotIn) = false := by cases op <;> first | rfl | exact absurd rfl h2
  cases b <;> simp [behindInMarks, e1, e2]
theorem pe_cmpR {op : CmpOp} {r : R2} (ho : OpR X (compareOp op) r) (ha : PE X a ta) (hb : PE X b tb) (hm : behindInMarks op b = false) : PE X (.Compare a [op] [b] pos) (tOp r ta tb) := by
  intro pins s σ H Q I h
  exact wpAny_Compare1 (binT ha hb I h fun v u s2 x y H2 I2 rx ry q => ho pins s2 σ H2 x y v u Q I2 rx ry q) hm
def tTest (t : TE) : TT := fun σ H Q => t σ H fun x H' => ∃ k, x = .bl k ∧ Q k H'
theorem pt_cmpR {op : CmpOp} {r : R2} (ho : OpR X (compareOp op) r) (ha : PE X a ta) (hb : PE X b tb) (hm : behindInMarks op b = false) : PT X (.Compare a [op] [b] pos) (tTest (tOp r ta tb)) := by
  intro pins s σ H Q I h
  refine wpAny_isTrue_Compare1 (thn (ha pins s σ H _ I h) fun v s1 ⟨x, H1, I1, r1, q1⟩ => thn (hb pins s1 σ H1 _ I1 q1) fun u s2 ⟨y, H2, I2, r2, q2⟩ =>
    thn (ho pins s2 σ H2 x y v u _ I2 r1 r2 q2) fun c s3 ⟨z, H3, I3, r3, k, e, q3⟩ => ?_) hm
  subst e
  cases r3
  exact wpAny_truthy_bool ⟨H3, I3, q3⟩
def tChain (r r' : R2) (ta tb tc : TE) : TE := fun σ H Q => ta σ H fun x H1 => tb σ H1 fun y H2 => r x y H2 fun z H3 => ∃ k, z = .bl k ∧
  (if k = true then tc σ H3 fun w' H4 => r' y w' H4 Q else Q (.bl false) H3)
def TruV (K : PySem.W.Frag) (x : V) (H : Hp) (k : Bool) : Prop :=
  match x with
  | .non => k = false
  | .bl b => k = b
  | .int i => k = (i != 0)
  | .str y => y.length ≤ sizeLine ∧ k = ((y.length : Int) != 0)
  | .byt y => y.size ≤ sizeLine ∧ k = ((y.size : Int) != 0)
  | .ref p => (∃ xs, SqL K H p xs ∧ k = !xs.isEmpty) ∨ (∃ xs, SqT K H p xs ∧ k = !xs.isEmpty) ∨ ∃ kvs, H p = some (.dK kvs) ∧ k = !kvs.isEmpty
  | _ => False
theorem line63 : (sizeLine : Nat) < 2 ^ 63 := by rw [sizeLine_eq]; decide
def PlainIxT (b : Expr) : Prop := ∀ o i, subscripted b false o i = operate [o, i] (getItem o i)
theorem vals1 {x : V} {us : List Value} (r : Vals [x] us) : ∃ u, us = [u] ∧ RelV x u := by
  cases r with
  | cons r1 r2 => cases r2; exact ⟨_, rfl, r1⟩
theorem vals2 {x y : V} {us : List Value} (r : Vals [x, y] us) : ∃ u w', us = [u, w'] ∧ RelV x u ∧ RelV y w' := by
  cases r with
  | cons r1 r2 =>
    cases r2 with
    | cons r3 r4 => cases r4; exact ⟨_, _, rfl, r1, r3⟩
theorem call_abs : CallR X (.builtin "abs") (fun xs H Q => ∃ i, xs = [.int i] ∧ Q (.int (if i < 0 then -i else i)) H) := by
  intro pins s σ H xs us Q I r h
  obtain ⟨i, rfl, q⟩ := h
  obtain ⟨u, rfl, t, rfl⟩ := vals1 r
  exact call_abs_int fun u tk => ⟨.int (if i < 0 then -i else i), H, I.tok _, ⟨_, rfl⟩, q⟩
theorem call_max2 (hc : X.calm = true) : CallR X (.builtin "max") (fun xs H Q => ∃ i j, xs = [.int i, .int j] ∧ Q (.int (if j > i then j else i)) H) := by
  intro pins s σ H xs us Q I r h
  obtain ⟨i, j, rfl, q⟩ := h
  obtain ⟨u, w', rfl, ⟨t, rfl⟩, ⟨t', rfl⟩⟩ := vals2 r
  refine max_two_ints (I.ok.hd hc) fun h' tk k => ⟨_, H, I.kept k, ?_, q⟩
  by_cases hj : j > i
  · rw [if_pos hj, if_pos hj]; exact ⟨_, rfl⟩
  · rw [if_neg hj, if_neg hj]; exact ⟨_, rfl⟩
theorem call_min2 (hc : X.calm = true) : CallR X (.builtin "min") (fun xs H Q => ∃ i j, xs = [.int i, .int j] ∧ Q (.int (if j < i then j else i)) H) := by
  intro pins s σ H xs us Q I r h
  obtain ⟨i, j, rfl, q⟩ := h
  obtain ⟨u, w', rfl, ⟨t, rfl⟩, ⟨t', rfl⟩⟩ := vals2 r
  refine min_two_ints (I.ok.hd hc) fun h' tk k => ⟨_, H, I.kept k, ?_, q⟩
  by_cases hj : j < i
  · rw [if_pos hj, if_pos hj]; exact ⟨_, rfl⟩
  · rw [if_neg hj, if_neg hj]; exact ⟨_, rfl⟩
def LenV (K : PySem.W.Frag) (x : V) (H : Hp) (n : Nat) : Prop :=
  match x with
  | .str y => y.length ≤ sizeLine ∧ n = y.length
  | .byt y => y.size ≤ sizeLine ∧ n = y.size
  | .ref p => (∃ xs, SqL K H p xs ∧ n = xs.length) ∨ ∃ xs, SqT K H p xs ∧ n = xs.length
  | _ => False
end
end L2
namespace L2
open PySem PySem.Spec PyProof.Rows
structure ObjM (h : Heap) (x dx C : Addr) (mA : Str → Option Value) : Prop where
  obj : h.get? x = some (PySem.W.instObj C dx)
  ns : h.Ns1 dx mA
  ne : dx ≠ x
theorem lookIn_ns {h : Heap} {dx : Addr} {mA : Str → Option Value} (n : h.Ns1 dx mA) : ∃ od, h.get? dx = some od ∧ ∀ name, PySem.W.lookIn name od = some (mA name) := by
  obtain ⟨o, es, ep, ho, hd, hk, _, hm⟩ := n
  refine ⟨o, ho, fun name => ?_⟩
  have e := hm name
  unfold nsFind findBy at e
  rw [← Array.find?_toList] at e
  unfold PySem.W.lookIn
  rw [hd]
  dsimp only
  split
  · rename_i y q
    rw [q] at e
    exact congrArg some e
  · rename_i q
    rw [q] at e
    have a : es.toList.any (·.refKey) = false := by
      rw [List.any_eq_false]
      intro y hy
      obtain ⟨z, t, hkey⟩ := hk y (Array.mem_toList_iff.mp hy)
      simp [DictEntry.refKey, hkey]
    have a' : ¬ es.toList.any (·.refKey) = true := by rw [a]; exact Bool.false_ne_true
    rw [if_neg a']
    exact congrArg some e
theorem ObjM.look {h : Heap} {x dx C : Addr} {mA : Str → Option Value} (I : ObjM h x dx C mA) : ∃ od, PySem.W.InstAt h x (PySem.W.instObj C dx) C (some od) ∧ ∀ name, PySem.W.lookIn name od = some (mA name) :=
  let ⟨od, ho, hl⟩ := lookIn_ns I.ns
  ⟨od, ⟨I.obj, rfl, rfl, ho⟩, hl⟩
section
variable {prog : Program} {w : World} {A : Around} {E : Value → Shared → Prop} {s : Shared} {K : PySem.W.Frag} {x dx C f : Addr} {mA : Str → Option Value} {name : Str} {v : Value}
theorem get_map {expr : Bool} {Q : Value → Shared → Prop} (X : K.In s.heap) (I : ObjM s.heap x dx C mA) (hg : PySem.W.plainGet K C name = true) (hh : PySem.W.hasDictIn K C = true)
    (ha : PySem.W.findIn K (.ref C) name = some none) (hv : mA name = some v) (hv' : PySem.W.handedIn v = true) (h : Q v { s with toks := s.toks + 1 }) :
    wpAny (model prog w) A (getAttr (.ref x) name expr) Q E s := by
  obtain ⟨od, J, hl⟩ := I.look
  exact PySem.W.get_value X J (PySem.W.plainGet_of hg).1 (PySem.W.findObj_own hh ha rfl (by rw [hl, hv])) hv' h
theorem set_map {ns : List Str} {Q : Unit → Shared → Prop} (X : K.In s.heap) (I : ObjM s.heap x dx C mA)
    (hs : PySem.W.findIn K (.ref C) "__setattr__" = some (some (.builtin "object.__setattr__"))) (hp : PySem.W.plainOver K C = true) (ht : PySem.W.takerIn K C name = some none) (hh : PySem.W.hasDictIn K C = true)
    (hw : PySem.Within mA ns) (hsz : ns.length ≤ sizeLine)
    (h : ∀ h', ObjM h' x dx C (fun y => if y = name then some v else mA y) → Heap.SameBut dx s.heap h' → Q () { s with heap := h', toks := s.toks + 2 }) :
    wpAny (model prog w) A (setAttr (.ref x) name v) Q E s := by
  obtain ⟨od, J, hl⟩ := I.look
  refine PySem.W.set_plain X J hs (PySem.W.osa_open (s := { s with toks := s.toks + 1 }) (r := none) X J hp ht fun b => ?_)
  obtain ⟨cd, hc, hd'⟩ := PySem.W.any_some hh
  have hx : s.heap.get? x = some ⟨.ref C, some dx, .plain, #[]⟩ := I.obj
  refine wpAny_bind (wpAny_pure (wpAny_bind (wpAny_bind (wpAny_loadPart hx (wpAny_bind (PySem.W.Looks.here (s := { s with toks := s.toks + 1 }) (PySem.W.looks_clsIn X hc) ?_))))))
  rw [hd']
  refine wpAny_pure (a := some dx) (wpAny_bind (wpAny_pure (wpAny_bind ?_)))
  refine wpAny_nsSet1 (s := { s with toks := s.toks + 1 }) I.ns fun h' hn2 hs2 => ?_
  obtain ⟨oD, esD, epD, hoD, hdD, hcD⟩ := hn2.count (PySem.Within.cons name v hw)
  refine wpAny_bind (wpAny_lookBehind hoD (by rw [hdD]; exact pastItsLine_dict (Nat.le_trans hcD (by rw [List.length_cons]; (first | lia | omega)))) ?_)
  exact wpAny_pure (h _ ⟨(hs2.2 _ (Ne.symm I.ne)).trans I.obj, hn2, I.ne⟩ hs2)
theorem make_map {R : Result → Shared → Prop} {vs : List Value} {kw : List (Str × Value)} (X : K.In s.heap) (hm : PySem.W.makesIn K C = true)
    (hi : PySem.W.findIn K (.ref C) "__init__" = some (some (.ref f))) (hf : PySem.W.typeIn K (.ref f) = some (.type "function"))
    (h : codeAny (model prog w) (A.under (.builtin "type.__call__" ⟨.ref C :: vs, kw⟩)) (.call (.ref f) ⟨.ref (s.heap.objs.size + 1) :: vs, kw⟩) (PySem.W.InitBack (s.heap.objs.size + 1) R)
      { s with heap := (s.heap.push PySem.W.emptyDict).push (PySem.W.instObj C s.heap.objs.size) }) :
    codeAny (model prog w) A (.call (.ref C) ⟨vs, kw⟩) R s := by
  obtain ⟨hh, g, d, t, os⟩ := s
  exact PySem.W.make_core (PySem.W.makes_of X hm) (PySem.W.looks_findIn X hi) (fun self => PySem.W.bind_fn X self hf) (.inl rfl) h
end
def putF (f : Str) (v : V) : List (Str × V) → List (Str × V)
  | [] => [(f, v)]
  | (g, x) :: r => if g = f then (g, v) :: r else (g, x) :: putF f v r
theorem lookup_putF (f g : Str) (v : V) : ∀ fs : List (Str × V), (putF f v fs).lookup g = if g = f then some v else fs.lookup g
  | [] => by
    show List.lookup g [(f, v)] = _
    by_cases h : g = f
    · have hb : (g == f) = true := beq_iff_eq.mpr h
      simp only [List.lookup, hb, if_pos h]
    · have hb : (g == f) = false := beq_eq_false_iff_ne.mpr h
      simp only [List.lookup, hb, if_neg h]
  | (k, x) :: r => by
    have ih := lookup_putF f g v r
    rw [show putF f v ((k, x) :: r) = (if k = f then (k, v) :: r else (k, x) :: putF f v r) from rfl]
    by_cases hk : k = f
    · rw [if_pos hk]
      by_cases h : g = k
      · have hb : (g == k) = true := beq_iff_eq.mpr h
        simp only [List.lookup, hb, if_pos (h.trans hk)]
      · have hb : (g == k) = false := beq_eq_false_iff_ne.mpr h
        simp only [List.lookup, hb, if_neg (fun e : g = f => h (e.trans hk.symm))]
    · rw [if_neg hk]
      by_cases h : g = k
      · have hb : (g == k) = true := beq_iff_eq.mpr h
        simp only [List.lookup, hb, if_neg (fun e : g = f => hk (h.symm.trans e))]
      · have hb : (g == k) = false := beq_eq_false_iff_ne.mpr h
        simp only [List.lookup, hb]
        exact ih
theorem keys_putF (f : Str) (v : V) : ∀ fs : List (Str × V), f ∈ (putF f v fs).map (·.1) ∧ ∀ g, g ∈ fs.map (·.1) → g ∈ (putF f v fs).map (·.1)
  | [] => ⟨by simp [putF], fun g h => by simp at h⟩
  | (k, x) :: r => by
    obtain ⟨i1, i2⟩ := keys_putF f v r
    rw [show putF f v ((k, x) :: r) = (if k = f then (k, v) :: r else (k, x) :: putF f v r) from rfl]
    by_cases hk : k = f
    · rw [if_pos hk]
      subst hk
      exact ⟨by simp, fun g h => by simpa using h⟩
    · rw [if_neg hk]
      refine ⟨?_, fun g h => ?_⟩
      · rw [List.map_cons]
        exact List.mem_cons_of_mem _ i1
      · rw [List.map_cons] at h ⊢
        rcases List.mem_cons.mp h with e | e
        · exact List.mem_cons.mpr (.inl e)
        · exact List.mem_cons_of_mem _ (i2 g e)
theorem length_putF (f : Str) (v : V) : ∀ fs : List (Str × V), (putF f v fs).length ≤ fs.length + 1
  | [] => by simp [putF]
  | (k, x) :: r => by
    have ih := length_putF f v r
    rw [show putF f v ((k, x) :: r) = (if k = f then (k, v) :: r else (k, x) :: putF f v r) from rfl]
    by_cases hk : k = f
    · rw [if_pos hk, List.length_cons, List.length_cons]; (first | lia | omega)
    · rw [if_neg hk, List.length_cons, List.length_cons]; (first | lia | omega)
theorem RelO.some_of {v : V} {o : Option Value} (r : RelO (some v) o) : ∃ u, o = some u ∧ RelV v u := by
  cases o with
  | none => exact (show False from r).elim
  | some u => exact ⟨u, rfl, r⟩
theorem handed_of {v : V} {u : Value} (r : RelV v u) : PySem.W.handedIn u = true := by
  cases v with
  | non => cases (show u = Value.none from r); rfl
  | bl b => cases (show u = Value.bool b from r); rfl
  | int i => obtain ⟨t, e⟩ := (show ∃ t, u = Value.int i t from r); cases e; rfl
  | str x => obtain ⟨t, e⟩ := (show ∃ t, u = Value.str x t from r); cases e; rfl
  | byt b => obtain ⟨t, e⟩ := (show ∃ t, u = Value.bytes b t from r); cases e; rfl
  | flt b => obtain ⟨t, e⟩ := (show ∃ t, u = Value.float b t from r); cases e; rfl
  | ref a => cases (show u = Value.ref a from r); rfl
  | ty n => cases (show u = Value.type n from r); rfl
section
variable {P : Program} {w : World} {H H' : Hp} {h h' : Heap} {a C dx : Addr} {fs fs' : List (Str × V)}
theorem ins_get (hok : HOk P w H h) (e : H a = some (.ins C dx fs)) : ∃ mA, ObjM h a dx C mA ∧ (∀ f, RelO (fs.lookup f) (mA f)) ∧ PySem.Within mA (fs.map (·.1)) ∧ fs.length ≤ 1000 ∧ H dx = some (.own a) := by
  obtain ⟨d, z, ne, ob, mA, n, r, q⟩ := (show ObjOk P w H h a (.ins C dx fs) from hok a _ e)
  exact ⟨mA, ⟨ob, n, ne⟩, r, q, z, d⟩
end
structure Cls (K : PySem.W.Frag) (C : Addr) : Prop where
  pg : PySem.W.plainGet K C Str.empty = true
  hd : PySem.W.hasDictIn K C = true
  po : PySem.W.plainOver K C = true
  sa : PySem.W.findIn K (.ref C) "__setattr__" = some (some (.builtin "object.__setattr__"))
theorem Cls.get {K : PySem.W.Frag} {C : Addr} (c : Cls K C) (f : Str) : PySem.W.plainGet K C f = true := c.pg
def NoAttr (K : PySem.W.Frag) (C : Addr) (f : Str) : Prop := PySem.W.findIn K (.ref C) f = some none
theorem NoAttr.taker {K : PySem.W.Frag} {C : Addr} {f : Str} (n : NoAttr K C f) : PySem.W.takerIn K C f = some none := by
  unfold PySem.W.takerIn
  rw [show PySem.W.findIn K (.ref C) f = some none from n]
  rfl
structure Con (K : PySem.W.Frag) (C : Addr) (f : Str) (v : V) (u : Value) : Prop where
  at_ : PySem.W.findIn K (.ref C) f = some (some u)
  rel : RelV v u
  get : PySem.W.specialIn K u "__get__" = some none
  cp : PySem.W.copiedNames.contains f = false
structure Meth (K : PySem.W.Frag) (C : Addr) (m : Str) (f : Addr) : Prop where
  at_ : PySem.W.findIn K (.ref C) m = some (some (.ref f))
  fn : PySem.W.isFn K (.ref f) = true
  kp : PySem.W.keepIn K (.ref f) = true
section
variable {X : Cx} {pins : List (Addr × Obj)} {σ : St} {H : Hp} {s : Shared} {a C dx : Addr} {fs : List (Str × V)} {f : Str} {v : V} {A : Around} {E : Value → Shared → Prop}
theorem getattr_ok {b : Bool} {Q : Value → Shared → Prop} (I : Inv X pins σ H s) (e : H a = some (.ins C dx fs)) (c : Cls X.K C) (n : NoAttr X.K C f) (l : fs.lookup f = some v)
    (h : ∀ u s', Inv X pins σ H s' → RelV v u → Q u s') : wpAny (model X.prog X.w) A (getAttr (.ref a) f b) Q E s := by
  obtain ⟨mA, O, r, _, _, _⟩ := ins_get I.hok e
  obtain ⟨u, hu, ru⟩ := RelO.some_of (v := v) (o := mA f) (by rw [← l]; exact r f)
  exact get_map I.kIn O (c.get f) c.hd n hu (handed_of ru) (h u _ (I.tok _) ru)
theorem setattr_ok {y : V} {u : Value} {Q : Unit → Shared → Prop} (I : Inv X pins σ H s) (e : H a = some (.ins C dx fs)) (c : Cls X.K C) (n : NoAttr X.K C f) (hl : fs.length < 1000) (ry : RelV y u)
    (h : ∀ s', Inv X pins σ (upd H a (.ins C dx (putF f y fs))) s' → Q () s') : wpAny (model X.prog X.w) A (setAttr (.ref a) f u) Q E s := by
  obtain ⟨mA, O, r, wi, _, ho⟩ := ins_get I.hok e
  have hz : (fs.map (·.1)).length ≤ sizeLine := by rw [List.length_map, sizeLine_eq]; (first | lia | omega)
  refine set_map I.kIn O c.sa c.po n.taker c.hd wi hz fun h' O' sb => h _ ?_
  have hd : ∃ o, h'.get? dx = some o := let ⟨o, _, _, e', _⟩ := O'.ns; ⟨o, e'⟩
  refine I.write (x := a) (e := dx) (by rw [e]; exact True.intro) (.inr ho) (fun b q hb z => (sb.2 b hb).trans z) hd ?_
  refine ⟨by rw [upd_ne O.ne]; exact ho, ?_, O.ne, O'.obj, _, O'.ns, fun g => ?_, fun g hg => ?_⟩
  · have := length_putF f y fs; (first | lia | omega)
  · show RelO ((putF f y fs).lookup g) (if g = f then some u else mA g)
    rw [lookup_putF]
    by_cases q : g = f
    · rw [if_pos q, if_pos q]; exact ry
    · rw [if_neg q, if_neg q]; exact r g
  · by_cases q : g = f
    · rw [q]; exact (keys_putF f y fs).1
    · refine (keys_putF f y fs).2 g (wi g fun z => hg ?_)
      show (if g = f then some u else mA g) = none
      rw [if_neg q]; exact z
theorem Inv.made (I : Inv X pins σ H s) : Inv X pins σ (upd (upd H s.heap.objs.size (.own (s.heap.objs.size + 1))) (s.heap.objs.size + 1) (.ins C s.heap.objs.size []))
    { s with heap := (s.heap.push PySem.W.emptyDict).push (PySem.W.instObj C s.heap.objs.size) } := by
  have e1 : (s.heap.push PySem.W.emptyDict).get? s.heap.objs.size = some PySem.W.emptyDict := Heap.get?_push_size s.heap rfl
  have e2 : ((s.heap.push PySem.W.emptyDict).push (PySem.W.instObj C s.heap.objs.size)).get? (s.heap.objs.size + 1) = some (PySem.W.instObj C s.heap.objs.size) := by
    have := Heap.get?_push_size (s.heap.push PySem.W.emptyDict) (o := PySem.W.instObj C s.heap.objs.size) rfl
    rwa [Heap.size_push] at this
  have e3 : (s.heap.push PySem.W.emptyDict).Ns s.heap.objs.size (fun _ => none) := ⟨PySem.W.emptyDict, #[], _, e1, rfl, (fun e he => absurd he (by simp)), fun _ => rfl⟩
  have I1 := I.laid (a := s.heap.objs.size) (o := .own (s.heap.objs.size + 1)) (h' := s.heap.push PySem.W.emptyDict) (t' := s.toks) (fun b u q => Heap.get?_push_of_some _ q) (Nat.le_refl _) ⟨_, e1⟩
  refine I1.laid (a := s.heap.objs.size + 1) (o := .ins C s.heap.objs.size []) (t' := s.toks) (fun b u q => Heap.get?_push_of_some _ q) (Nat.le_of_eq (Heap.size_push _ _)) ?_
  have ne : s.heap.objs.size ≠ s.heap.objs.size + 1 := Nat.ne_of_lt (Nat.lt_succ_self _)
  refine ⟨by rw [upd_ne ne, upd_same], Nat.zero_le _, ne, e2, fun _ => none, (Heap.Ns1.of_empty e3).at fun o q => Heap.get?_push_of_some _ q, fun _ => True.intro, fun y hy => absurd rfl hy⟩
theorem attr_of {prog : Program} {w : World} {env : Env} {e : Expr} {f : Str} {pos : Pos} {s : Shared} {Q : Value → Shared → Prop} (hb : attributeBase e f env (eval e env) = eval e env)
    (h : wpAny (model prog w) A (eval e env) (fun o s₁ => wpAny (model prog w) A (getAttr o f true) Q E s₁) E s) : wpAny (model prog w) A (eval (.Attribute e f pos) env) Q E s :=
  Attribute_any_ h (by rw [arm_eval_Attribute, hb])
end
def tFld (K : PySem.W.Frag) (ta : TE) (f : Str) : TE := fun σ H Q => ta σ H fun x H1 => ∃ a C dx fs v, x = .ref a ∧ H1 a = some (.ins C dx fs) ∧ Cls K C ∧ NoAttr K C f ∧ fs.lookup f = some v ∧ Q v H1
def tCon (K : PySem.W.Frag) (ta : TE) (f : Str) : TE := fun σ H Q => ta σ H fun x H1 => ∃ a C dx fs v u, x = .ref a ∧ H1 a = some (.ins C dx fs) ∧ Cls K C ∧ Con K C f v u ∧ fs.lookup f = none ∧ Q v H1
def sFld (K : PySem.W.Frag) (ta tv : TE) (f : Str) : TS := fun D σ H => tv σ H fun y H1 => ta σ H1 fun x H2 => ∃ a C dx fs, x = .ref a ∧ H2 a = some (.ins C dx fs) ∧ Cls K C ∧ NoAttr K C f ∧ fs.length < 1000 ∧
  D.nx σ (upd H2 a (.ins C dx (putF f y fs)))
def InOp (X : Cx) (op : Operator) (rd : V → V → Hp → VK → Prop) : Prop :=
  ∀ (pins : List (Addr × Obj)) (s : Shared) (σ : St) (H : Hp) (x y : V) (u v : Value) (Q : VK), Inv X pins σ H s → RelV x u → RelV y v → rd x y H Q → wpAny (model X.prog X.w) X.A (inplaceOp op u v) (EP X pins σ Q) X.xe s
def sFldAug (K : PySem.W.Frag) (ta tv : TE) (rd : V → V → Hp → VK → Prop) (f : Str) : TS := fun D σ H => ta σ H fun x H1 => ∃ a C dx fs v, x = .ref a ∧ H1 a = some (.ins C dx fs) ∧ Cls K C ∧ NoAttr K C f ∧ fs.lookup f = some v ∧
  tv σ H1 fun y H2 => rd v y H2 fun z H3 => ∃ dx' fs', H3 a = some (.ins C dx' fs') ∧ fs'.length < 1000 ∧ D.nx σ (upd H3 a (.ins C dx' (putF f z fs')))
section
variable {X : Cx} {o e value : Expr} {f : Str} {pos pos' tpos : Pos} {ta tv : TE}
theorem pe_fld (he : PE X e ta) (hb : attributeBase e f X.env (eval e X.env) = eval e X.env) : PE X (.Attribute e f pos) (tFld X.K ta f) := by
  intro pins s σ H Q I h
  refine attr_of hb (thn (he pins s σ H _ I h) fun u s1 ⟨x, H1, I1, rx, a, C, dx, fs, v, ex, ea, c, n, l, q⟩ => ?_)
  subst ex
  obtain rfl : u = Value.ref a := rx
  exact getattr_ok I1 ea c n l fun u' s2 I2 ru => ⟨v, H1, I2, ru, q⟩
theorem ps_fld (ha : PE X o ta) (hv : PE X value tv) (hs : swapsWith value (some (.Attribute o f pos')) pos.line X.env = pure false) : PS X (.Assign [.Attribute o f pos'] value pos) (sFld X.K ta tv f) := by
  intro pins s σ H D I h
  refine plainObj_wpAny_Assign_Attribute (thn (hv pins s σ H _ I h) fun u s1 ⟨y, H1, I1, ry, q⟩ => thn (ha pins s1 σ H1 _ I1 q) fun ov s2 ⟨x, H2, I2, rx, a, C, dx, fs, ex, ea, c, n, l, q2⟩ => ?_) hs
  subst ex
  obtain rfl : ov = Value.ref a := rx
  exact setattr_ok I2 ea c n l ry fun s3 I3 => ⟨σ, _, I3, q2⟩
def rAdd : V → V → Hp → VK → Prop := fun x y H Q => ∃ i j, x = .int i ∧ y = .int j ∧ Q (.int (i + j)) H
def rSub : V → V → Hp → VK → Prop := fun x y H Q => ∃ i j, x = .int i ∧ y = .int j ∧ Q (.int (i - j)) H
end
section
variable {X : Cx} {pins : List (Addr × Obj)} {σ : St} {H : Hp} {s : Shared} {A : Around} {E : Value → Shared → Prop} {Q : Value → Shared → Prop} {c : Value} {b : Bool}
inductive TyOf (K : PySem.W.Frag) (H : Hp) : V → Value → Prop where
  | non : TyOf K H .non (.type "NoneType")
  | bl (x : Bool) : TyOf K H (.bl x) (.type "bool")
  | int (i : Int) : TyOf K H (.int i) (.type "int")
  | str (x : Str) : TyOf K H (.str x) (.type "str")
  | flt (x : UInt64) : TyOf K H (.flt x) (.type "float")
  | lst {a : Addr} {xs : List V} (e : H a = some (.lst xs)) : TyOf K H (.ref a) (.type "list")
  | frz {a : Addr} {o : Obj} {xs : List V} (e : H a = some (.frz o (.lst xs))) : TyOf K H (.ref a) (.type "list")
  | tup {a : Addr} {xs : List V} (e : H a = some (.tup xs)) : TyOf K H (.ref a) (.type "tuple")
  | dK {a : Addr} {kvs : List (Key × V)} (e : H a = some (.dK kvs)) : TyOf K H (.ref a) (.type "dict")
  | dT {a : Addr} {kvs : List (List Key × V)} (e : H a = some (.dT kvs)) : TyOf K H (.ref a) (.type "dict")
  | ins {a C dx : Addr} {fs : List (Str × V)} (e : H a = some (.ins C dx fs)) (cl : Cls K C) (ha : PySem.W.findIn K (.ref C) "__class__" = some (some (.builtin "object.__class__")))
      (hn : PySem.W.specialIn K (.builtin "object.__class__") "__get__" = some (some (.builtin "getset_descriptor.__get__"))) (htk : PySem.W.takesIn K (.builtin "object.__class__") = some true)
      (hm : PySem.W.mroIn K C (.type "object") = some true) : TyOf K H (.ref a) (.ref C)
theorem isinst_ok {x : V} {u t : Value} (I : Inv X pins σ H s) (rx : RelV x u) (ty : TyOf X.K H x t) (e : PySem.W.kitOne X.K t c = some b) (h : ∀ tk, Q (.bool b) { s with toks := tk }) :
    wpAny (model X.prog X.w) A (call (.builtin "isinstance") [u, c]) Q E s := by
  cases ty with
  | non => cases (show u = Value.none from rx); exact PySem.W.kia_one PySem.W.kitx_none I.kIn True.intro e (fun z => nomatch z) h
  | bl y => cases (show u = Value.bool y from rx); exact PySem.W.kia_one PySem.W.kitx_bool I.kIn True.intro e (fun z => nomatch z) h
  | int i => obtain ⟨t, q⟩ := (show ∃ t, u = Value.int i t from rx); cases q; exact PySem.W.kia_one PySem.W.kitx_int I.kIn True.intro e (fun z => nomatch z) h
  | str y => obtain ⟨t, q⟩ := (show ∃ t, u = Value.str y t from rx); cases q; exact PySem.W.kia_one PySem.W.kitx_str I.kIn True.intro e (fun z => nomatch z) h
  | flt y => obtain ⟨t, q⟩ := (show ∃ t, u = Value.float y t from rx); cases q; exact PySem.W.kia_one PySem.W.kitx_float I.kIn True.intro e (fun z => nomatch z) h
  | @lst a xs ea =>
    cases (show u = Value.ref a from rx)
    obtain ⟨_, _, n, _, h1⟩ := (show ObjOk X.prog X.w H s.heap a (.lst xs) from I.hok a _ ea)
    exact PySem.W.kia_one PySem.W.kitx_list I.kIn ⟨_, h1, rfl⟩ e (fun z => nomatch z) h
  | @frz a ob xs ea =>
    cases (show u = Value.ref a from rx)
    obtain ⟨_, _, _, n, _, h1⟩ := (show ObjOk X.prog X.w H s.heap a (.frz ob (.lst xs)) from I.hok a _ ea)
    exact PySem.W.kia_one PySem.W.kitx_list I.kIn ⟨_, h1, rfl⟩ e (fun z => nomatch z) h
  | @tup a xs ea =>
    cases (show u = Value.ref a from rx)
    obtain ⟨_, _, _, p⟩ := (show ObjOk X.prog X.w H s.heap a (.tup xs) from I.hok a _ ea)
    obtain ⟨o, h1, h2, _⟩ := p
    exact PySem.W.kia_one PySem.W.kitx_tuple I.kIn ⟨o, h1, h2⟩ e (fun z => nomatch z) h
  | @dK a kvs ea =>
    cases (show u = Value.ref a from rx)
    obtain ⟨_, _, vs, _, p⟩ := (show ObjOk X.prog X.w H s.heap a (.dK kvs) from I.hok a _ ea)
    obtain ⟨o, es, ep, h1, h2, _⟩ := p
    exact PySem.W.kia_one PySem.W.kitx_dict I.kIn ⟨o, h1, h2.1⟩ e (fun z => nomatch z) h
  | @dT a kvs ea =>
    cases (show u = Value.ref a from rx)
    obtain ⟨_, _, xs, _, o, es, ep, h1, h2, _⟩ := (show ObjOk X.prog X.w H s.heap a (.dT kvs) from I.hok a _ ea)
    exact PySem.W.kia_one PySem.W.kitx_dict I.kIn ⟨o, h1, h2.1⟩ e (fun z => nomatch z) h
  | @ins a C dx fs ea cl ha hn htk hm =>
    cases (show u = Value.ref a from rx)
    obtain ⟨mA, O, _⟩ := ins_get I.hok ea
    obtain ⟨od, J, _⟩ := O.look
    exact PySem.W.kia_one (PySem.W.kitx_own (cl.get _) cl.hd ha hn htk hm) I.kIn J e (fun z => nomatch z) h
end
end L2
namespace L2
open PySem PySem.Spec PyProof.Rows
structure Room (k : Nat) (A : Around) : Prop where
  hd : A.handled = none
  dp : A.depth + 3 * k + 5 < recursionLimit
  un : A.units + 16 * k + 200 < cLine
theorem Room.mono {j k : Nat} {A : Around} (r : Room k A) (h : j ≤ k) : Room j A := ⟨r.hd, by have := r.dp; (first | lia | omega), by have := r.un; (first | lia | omega)⟩
theorem Room.deeper {k : Nat} {A : Around} (r : Room (k + 1) A) (env : Env) : Room k (A.deeper env) :=
  ⟨r.hd, by have := r.dp; show A.depth + 1 + 3 * k + 5 < _; (first | lia | omega), by have := r.un; show A.units + 3 + 16 * k + 200 < _; (first | lia | omega)⟩
theorem Room.in1 {k : Nat} {A : Around} (r : Room (k + 1) A) : Room k A.in1 :=
  ⟨r.hd, by have := r.dp; show A.depth + 3 * k + 5 < _; (first | lia | omega), by have := r.un; show A.units + 1 + 16 * k + 200 < _; (first | lia | omega)⟩
theorem make_depth {A : Around} {C : Addr} {us : List Value} {kw : List (Str × Value)} : (A.under (.builtin "type.__call__" ⟨.ref C :: us, kw⟩)).depth = A.depth + 1 := by
  first | rfl | simp [Around.under, Code.weight, Code.isCreation, Code.isGuard, Code.isCaller, Code.frames, Code.isFrame, guardIds]
theorem make_units {A : Around} {C : Addr} {us : List Value} {kw : List (Str × Value)} : (A.under (.builtin "type.__call__" ⟨.ref C :: us, kw⟩)).units = A.units + 1 := by
  first | rfl | simp [Around.under, Code.cUnits, Code.frames, Code.isFrame]
theorem Room.make {k : Nat} {A : Around} (r : Room (k + 1) A) (C : Addr) (us : List Value) (kw : List (Str × Value)) : Room k (A.under (.builtin "type.__call__" ⟨.ref C :: us, kw⟩)) :=
  ⟨r.hd, by have := r.dp; rw [make_depth]; (first | lia | omega), by have := r.un; rw [make_units]; (first | lia | omega)⟩
theorem Room.depth {k : Nat} {A : Around} (r : Room k A) : A.depth < recursionLimit := by have := r.dp; (first | lia | omega)
theorem Room.units {k : Nat} {A : Around} (r : Room k A) : A.units + 64 < cLine := by have := r.un; (first | lia | omega)
def tNil : TA := fun _ H Q => Q [] H
def tCons (ta : TE) (tr : TA) : TA := fun σ H Q => ta σ H fun x H1 => tr σ H1 fun xs H2 => Q (x :: xs) H2
section
variable {X : Cx} {e : Expr} {es : List Expr} {te : TE} {t : TA} {pos : Pos}
theorem pa_nil : PA X [] tNil := fun _ _ _ _ H Q I h => Calls.spliced_nil ⟨[], H, I, .nil, h⟩
theorem pa_cons (ha : PE X e te) (hr : PA X es t) (hs : starEach (e :: es) X.env = (false, eval e X.env) :: starEach es X.env := by rfl) : PA X (e :: es) (tCons te t) := by
  intro pos pins s σ H Q I h
  rw [hs]
  show wpAny _ _ (spliced ((false, eval e X.env) :: backTo pos (starEach es X.env))) _ _ s
  refine Calls.spliced_cons (thn (ha pins s σ H _ I h) fun u s1 ⟨x, H1, I1, r1, q1⟩ => ?_)
  exact thn (hr pos pins s1 σ H1 _ I1 q1) fun us s2 ⟨xs, H2, I2, r2, q2⟩ => ⟨x :: xs, H2, I2, .cons r1 r2, q2⟩
def tTup (t : TA) : TE := fun σ H Q => t σ H fun xs H1 => xs.length ≤ sizeLine ∧ ∀ p, H1 p = none → Q (.ref p) (upd H1 p (.tup xs))
def tLst (t : TA) : TE := fun σ H Q => t σ H fun xs H1 => xs.length ≤ sizeLine ∧ ∀ p, H1 p = none → Q (.ref p) (upd H1 p (.lst xs))
theorem pe_tup {x1} (h : PA X es t) : PE X (.Tuple es x1 pos) (tTup t) := by
  intro pins s σ H Q I hq
  refine wpAny_Tuple_spliced (thn (h pos pins s σ H _ I hq) fun us s1 ⟨xs, H1, I1, r, z, q⟩ => ⟨by rw [← r.length]; exact z, ?_⟩)
  have hf : H1 s1.heap.objs.size = none := I1.hok.fresh (Nat.le_refl _)
  refine ⟨.ref s1.heap.objs.size, upd H1 s1.heap.objs.size (.tup xs), I1.laid (t' := s1.toks) (fun b u e => Heap.get?_push_of_some _ e) (Nat.le_refl _) ?_, rfl, q _ hf⟩
  exact ⟨z, us, r, ⟨_, Heap.get?_push_size _ rfl, rfl, _, rfl⟩⟩
theorem pe_lst (h : PA X es t) : PE X (.List es pos) (tLst t) := by
  intro pins s σ H Q I hq
  refine wpAny_List_spliced (thn (h pos pins s σ H _ I hq) fun us s1 ⟨xs, H1, I1, r, z, q⟩ => ⟨by rw [← r.length]; exact z, ?_⟩)
  have hf : H1 s1.heap.objs.size = none := I1.hok.fresh (Nat.le_refl _)
  refine ⟨.ref s1.heap.objs.size, upd H1 s1.heap.objs.size (.lst xs), I1.laid (t' := s1.toks) (fun b u e => Heap.get?_push_of_some _ e) (Nat.le_refl _) ?_, rfl, q _ hf⟩
  exact ⟨z, us, 0, r, Heap.get?_push_size _ rfl⟩
end
abbrev Sp := List V → Hp → VK → XK → Prop
abbrev CXT := List Env → Hp → Shared → XK → Value → Shared → Prop
structure Env0 (P : Program) (w : World) (K : PySem.W.Frag) (mg : Str → Option Value) (base : Heap) (A : Around) (outer : List Env) (s : Shared) (H : Hp) : Prop where
  frames : A.frames = some outer
  mod : Mod K mg base
  bs : ∀ b o, base.get? b = some o → s.heap.get? b = some o ∧ H b = none
  bsz : base.objs.size ≤ s.heap.objs.size
  funs : s.heap.FunFrames base outer
  frf : ∀ b ∈ frs outer, H b = none
  hok : HOk P w H s.heap
  bare : AllBare s.gens
def CE (outer : List Env) (P : Program) (w : World) (H : Hp) (s : Shared) (Q : VK) (u : Value) (s' : Shared) : Prop :=
  ∃ v H', s'.os = s.os ∧ AllBare s'.gens ∧ Un (frs outer) [] H H' s.heap s'.heap ∧ HOk P w H' s'.heap ∧ RelV v u ∧ Q v H'
def CR (CX : CXT) (outer : List Env) (P : Program) (w : World) (H : Hp) (s : Shared) (Q : VK) (E : XK) (r : Result) (s' : Shared) : Prop :=
  match r with
  | .ok (.ret u) => CE outer P w H s Q u s'
  | .ok _ => False
  | .error e => CX outer H s E e s'
structure FnOk (P : Program) (w : World) (K : PySem.W.Frag) (mg : Str → Option Value) (base : Heap) (CX : CXT) (k : Nat) (f : Addr) (fd : FuncData) (ps : List Str) (sp : Sp) : Prop where
  len : ∀ vs H Q E, sp vs H Q E → vs.length = ps.length
  run : ∀ (A : Around) (outer : List Env) (s : Shared) (H : Hp) (args : Args) (us : List Value) (vs : List V) (Q : VK) (E : XK), Room k A → Env0 P w K mg base A outer s H → BindsTo s fd args (ps.zip us) → Vals vs us → sp vs H Q E →
    codeAny (model P w) A (.call (.ref f) args) (CR CX outer P w H s Q E) s
theorem FnOk.mono {P : Program} {w : World} {K : PySem.W.Frag} {mg : Str → Option Value} {base : Heap} {CX : CXT} {j k : Nat} {f : Addr} {fd : FuncData} {ps : List Str} {sp : Sp} (F : FnOk P w K mg base CX j f fd ps sp) (h : j ≤ k) :
    FnOk P w K mg base CX k f fd ps sp := ⟨F.len, fun A outer s H args us vs Q E hr => F.run A outer s H args us vs Q E (hr.mono h)⟩
theorem FnOk.imp {P : Program} {w : World} {K : PySem.W.Frag} {mg : Str → Option Value} {base : Heap} {CX : CXT} {k : Nat} {f : Addr} {fd : FuncData} {ps : List Str} {sp sp' : Sp} (F : FnOk P w K mg base CX k f fd ps sp)
    (h : ∀ vs H Q E, sp' vs H Q E → sp vs H Q E) : FnOk P w K mg base CX k f fd ps sp' :=
  ⟨fun vs H Q E q => F.len vs H Q E (h _ _ _ _ q), fun A outer s H args us vs Q E hr he hb hv hs => F.run A outer s H args us vs Q E hr he hb hv (h _ _ _ _ hs)⟩
theorem Env0.make {P : Program} {w : World} {K : PySem.W.Frag} {mg : Str → Option Value} {base : Heap} {A : Around} {outer : List Env} {s : Shared} {H : Hp} (e : Env0 P w K mg base A outer s H) (C : Addr) (us : List Value) (kw : List (Str × Value)) :
    Env0 P w K mg base (A.under (.builtin "type.__call__" ⟨.ref C :: us, kw⟩)) outer s H := ⟨by first | exact e.frames | (simpa [Around.under, Code.envs, Code.isFrame, pushEnvs] using e.frames), e.mod, e.bs, e.bsz, e.funs, e.frf, e.hok, e.bare⟩
theorem Env0.in1 {P : Program} {w : World} {K : PySem.W.Frag} {mg : Str → Option Value} {base : Heap} {A : Around} {outer : List Env} {s : Shared} {H : Hp} (e : Env0 P w K mg base A outer s H) :
    Env0 P w K mg base A.in1 outer s H := ⟨e.frames, e.mod, e.bs, e.bsz, e.funs, e.frf, e.hok, e.bare⟩
section
variable {X : Cx} {pins : List (Addr × Obj)} {σ : St} {H : Hp} {s s' : Shared}
theorem Inv.env0 (I : Inv X pins σ H s) : Env0 X.prog X.w X.K X.mg X.base X.A X.stack s H :=
  ⟨I.ok.frames, I.ok.mod, I.bs, Nat.le_trans I.ok.bsz I.sz, I.stack, I.stkFree, I.hok, I.bare⟩
theorem Inv.after {Q : VK} {u : Value} (I : Inv X pins σ H s) (h : CE X.stack X.prog X.w H s Q u s') : EP X pins σ Q u s' := by
  obtain ⟨v, H', os, bare, un, hok, r, q⟩ := h
  obtain ⟨hh, g, d, t, os'⟩ := s'
  obtain rfl : os' = s.os := os
  exact ⟨v, H', I.call (h' := hh) (g' := g) (d' := d) (t' := t) (ch := []) un hok bare (fun b z => absurd z (by simp)), r, q⟩
end
def tCall (sp : Sp) (dvs : List V) (E : XK) (t : TA) : TE := fun σ H Q => t σ H fun vs H1 => sp (vs ++ dvs) H1 Q E
def tMeth (C : Addr) (m : Str) (sp : Sp) (dvs : List V) (E : XK) (ta : TE) (t : TA) : TE := fun σ H Q => ta σ H fun x H1 => ∃ a dx fs, x = .ref a ∧ H1 a = some (.ins C dx fs) ∧ fs.lookup m = none ∧
  t σ H1 fun vs H2 => sp (x :: (vs ++ dvs)) H2 Q E
def tMake (C : Addr) (sp : Sp) (dvs : List V) (E : XK) (t : TA) : TE := fun σ H Q => t σ H fun vs H1 => ∀ x dx, H1 x = none → H1 dx = none → dx ≠ x →
  sp (.ref x :: (vs ++ dvs)) (upd (upd H1 dx (.own x)) x (.ins C dx [])) (fun v H2 => v = .non ∧ Q (.ref x) H2) E
def Binds (K : PySem.W.Frag) (fd : FuncData) (ps : List Str) (ds : List Value) : Prop :=
  ∀ (s : Shared) (us : List Value), K.In s.heap → (us ++ ds).length = ps.length → BindsTo s fd ⟨us, []⟩ (ps.zip (us ++ ds))
theorem Binds.all {K : PySem.W.Frag} {fd : FuncData} {ps : List Str} (h : ∀ us : List Value, us.length = ps.length → bindArgs fd ⟨us, []⟩ = pure (ps.zip us)) : Binds K fd ps [] := fun s us _ hl => by
  rw [List.append_nil] at hl ⊢
  exact .of_eq (h us hl)
def Passes (CX : CXT) (X : Cx) (E : XK) : Prop := ∀ (pins : List (Addr × Obj)) (σ : St) (H : Hp) (s : Shared) (e : Value) (s' : Shared), Inv X pins σ H s → CX X.stack H s E e s' → X.xe e s'
section
variable {X : Cx} {CX : CXT} {k : Nat} {f C : Addr} {fd : FuncData} {ps : List Str} {sp : Sp} {dvs : List V} {ds : List Value} {E : XK} {x m : Str} {p pos apos : Pos} {e o : Expr} {es : List Expr} {ta : TE} {t : TA}
theorem run_fn {pins : List (Addr × Obj)} {σ : St} {H : Hp} {s : Shared} {Q : VK} {us : List Value} {vs : List V} (F : FnOk X.prog X.w X.K X.mg X.base CX k f fd ps sp) (hr : Room k X.A) (hb : Binds X.K fd ps ds) (hd : Vals dvs ds) (hx : Passes CX X E)
    (I : Inv X pins σ H s) (r : Vals vs us) (h : sp (vs ++ dvs) H Q E) : wpAny (model X.prog X.w) X.A (call (.ref f) us) (EP X pins σ Q) X.xe s := by
  have r2 : Vals (vs ++ dvs) (us ++ ds) := r.append hd
  have hl : (us ++ ds).length = ps.length := by rw [← r2.length]; exact F.len _ _ _ _ h
  refine wpAny_call (codeAny_mono (F.run X.A X.stack s H ⟨us, []⟩ (us ++ ds) (vs ++ dvs) Q E hr I.env0 (hb s us I.kIn hl) r2 h) fun r s' hq => ?_)
  cases r with
  | error e => exact hx pins σ H s e s' I hq
  | ok fl =>
    cases fl with
    | ret u => exact I.after hq
    | next => exact False.elim hq
    | brk => exact False.elim hq
    | cont => exact False.elim hq
theorem pe_call (F : FnOk X.prog X.w X.K X.mg X.base CX k f fd ps sp) (hr : Room k X.A) (hg : Gl X x) (hm : X.mg x = some (.ref f)) (hk : PySem.W.keepIn X.K (.ref f) = true) (hb : Binds X.K fd ps ds) (hd : Vals dvs ds) (hx : Passes CX X E)
    (ha : PA X (e :: es) t) (hdb : (x == ("__debug__" : Str)) = false := by decide) (he : starEach (e :: es) X.env = (false, eval e X.env) :: starEach es X.env := by rfl) (hpl : (backTo pos (starEach es X.env)).any (·.1) = false := by rfl) :
    PE X (.Call (.Name x p) (e :: es) [] pos) (tCall sp dvs E t) := by
  intro pins s σ H Q I h
  refine wpAny_Call_Name_kw (ld_glob I hg hm ?_ hdb)
  refine PySem.W.callWith_K (h₀ := X.base) I.ok.mod.kin hk (thn (ha pos pins s σ H _ I h) fun us s1 ⟨vs, H1, I1, r, q⟩ => ⟨I1.kIn, ?_⟩) he hpl
  exact run_fn F hr hb hd hx I1 r q
structure Mk (K : PySem.W.Frag) (C f : Addr) : Prop where
  makes : PySem.W.makesIn K C = true
  init : PySem.W.findIn K (.ref C) "__init__" = some (some (.ref f))
  fn : PySem.W.isFn K (.ref f) = true
  kp : PySem.W.keepIn K (.ref C) = true
theorem run_make {pins : List (Addr × Obj)} {σ : St} {H : Hp} {s : Shared} {Q : VK} {us : List Value} {vs : List V} (M : Mk X.K C f) (F : FnOk X.prog X.w X.K X.mg X.base CX k f fd ps sp) (hr : Room (k + 1) X.A) (hb : Binds X.K fd ps ds) (hd : Vals dvs ds)
    (hx : Passes CX X E) (I : Inv X pins σ H s) (r : Vals vs us)
    (h : ∀ x dx, H x = none → H dx = none → dx ≠ x → sp (.ref x :: (vs ++ dvs)) (upd (upd H dx (.own x)) x (.ins C dx [])) (fun v H2 => v = .non ∧ Q (.ref x) H2) E) :
    wpAny (model X.prog X.w) X.A (call (.ref C) us) (EP X pins σ Q) X.xe s := by
  have hq := h (s.heap.objs.size + 1) s.heap.objs.size (I.hok.fresh (Nat.le_succ _)) (I.hok.fresh (Nat.le_refl _)) (Nat.ne_of_lt (Nat.lt_succ_self _))
  have I2 := Inv.made (C := C) I
  have r2 : Vals (V.ref (s.heap.objs.size + 1) :: (vs ++ dvs)) (Value.ref (s.heap.objs.size + 1) :: (us ++ ds)) := .cons rfl (r.append hd)
  have hl : (Value.ref (s.heap.objs.size + 1) :: us ++ ds).length = ps.length := by
    have e := r2.length
    rw [F.len _ _ _ _ hq] at e
    exact e.symm
  refine wpAny_call (make_map (f := f) I.kIn M.makes M.init (beq_iff_eq.mp M.fn) (codeAny_mono (F.run _ X.stack _ _ ⟨Value.ref (s.heap.objs.size + 1) :: us, []⟩ (Value.ref (s.heap.objs.size + 1) :: (us ++ ds)) _ _ E (hr.make C us [])
    (I2.env0.make C us []) (hb _ (Value.ref (s.heap.objs.size + 1) :: us) I2.kIn hl) r2 hq) fun r s' hq' => ?_))
  cases r with
  | error e => exact hx pins σ _ _ e s' I2 hq'
  | ok fl =>
    cases fl with
    | ret u =>
      obtain ⟨v, H', I3, rv, ev, q3⟩ := I2.after hq'
      subst ev
      exact ⟨rv, ⟨V.ref (s.heap.objs.size + 1), H', I3, rfl, q3⟩⟩
    | next => exact False.elim hq'
    | brk => exact False.elim hq'
    | cont => exact False.elim hq'
theorem pe_make (M : Mk X.K C f) (F : FnOk X.prog X.w X.K X.mg X.base CX k f fd ps sp) (hr : Room (k + 1) X.A) (hg : Gl X x) (hm : X.mg x = some (.ref C)) (hb : Binds X.K fd ps ds) (hd : Vals dvs ds) (hx : Passes CX X E)
    (ha : PA X (e :: es) t) (hdb : (x == ("__debug__" : Str)) = false := by decide) (he : starEach (e :: es) X.env = (false, eval e X.env) :: starEach es X.env := by rfl) (hpl : (backTo pos (starEach es X.env)).any (·.1) = false := by rfl) :
    PE X (.Call (.Name x p) (e :: es) [] pos) (tMake C sp dvs E t) := by
  intro pins s σ H Q I h
  refine wpAny_Call_Name_kw (ld_glob I hg hm ?_ hdb)
  refine PySem.W.callWith_K (h₀ := X.base) I.ok.mod.kin M.kp (thn (ha pos pins s σ H _ I h) fun us s1 ⟨vs, H1, I1, r, q⟩ => ⟨I1.kIn, ?_⟩) he hpl
  exact run_make M F hr hb hd hx I1 r q
end
def PK (X : Cx) (kws : List Keyword) (t : TA) : Prop :=
  ∀ (pos : Pos) (pins : List (Addr × Obj)) (s : Shared) (σ : St) (H : Hp) (Q : List V → Hp → Prop), Inv X pins σ H s → t σ H Q → wpAny (model X.prog X.w) X.A (evalAll ((backToKw pos (keywordEach kws X.env)).map (·.2))) (AP X pins σ Q) X.xe s
section
variable {X : Cx} {CX : CXT} {k : Nat} {f C : Addr} {fd : FuncData} {ps ks : List Str} {sp : Sp} {E : XK} {x m : Str} {p pos apos kpos : Pos} {e o : Expr} {es : List Expr} {kws : List Keyword} {te ta : TE} {t tk : TA} {nm : Option Str}
structure KBinds (K : PySem.W.Frag) (fd : FuncData) (ps ks : List Str) (g : List Value → List Value → List Value) (gV : List V → List V → List V) : Prop where
  to : ∀ (s : Shared) (us ws : List Value), K.In s.heap → (g us ws).length = ps.length → BindsTo s fd ⟨us, ks.zip ws⟩ (ps.zip (g us ws))
  rel : ∀ {vs : List V} {us : List Value} {zs : List V} {ws : List Value}, Vals vs us → Vals zs ws → Vals (gV vs zs) (g us ws)
def tCallK (sp : Sp) (gV : List V → List V → List V) (E : XK) (t tk : TA) : TE := fun σ H Q => t σ H fun vs H1 => tk σ H1 fun zs H2 => sp (gV vs zs) H2 Q E
variable {g : List Value → List Value → List Value} {gV : List V → List V → List V}
end
structure FnScope (N P : List Str) (sc : Scope) : Prop where
  kind : sc.kind = .function
  co : sc.isCoroutine = false
  gen : sc.isGenerator = false
  nd : N.Nodup
  pre : N.take P.length = P
  par : ∀ x ∈ P, sc.names.lookup x = some .local ∨ sc.names.lookup x = some .cell
  nofree : ∀ y ∈ sc.names, y.2 ≠ .free
theorem bindL_out {kindOf : Str → Option NameKind} {x : Str} : ∀ {binds : List (Str × Value)} {m : Str → Option Value}, (∀ v, (x, v) ∉ binds) → bindL kindOf binds m x = m x
  | [], _, _ => rfl
  | (n, v) :: r, m, h => by
    unfold bindL
    rw [bindL_out fun w hw => h w (List.mem_cons_of_mem _ hw)]
    split
    · have : x ≠ n := by rintro rfl; exact h v List.mem_cons_self
      simp [this]
    · rfl
theorem bindC_out {kindOf : Str → Option NameKind} {x : Str} : ∀ {binds : List (Str × Value)} {m : Str → Option Value}, (∀ v, (x, v) ∉ binds) → bindC kindOf binds m x = m x
  | [], _, _ => rfl
  | (n, v) :: r, m, h => by
    unfold bindC
    rw [bindC_out fun w hw => h w (List.mem_cons_of_mem _ hw)]
    split
    · rfl
    · have : x ≠ n := by rintro rfl; exact h v List.mem_cons_self
      simp [this]
theorem bindL_get {kindOf : Str → Option NameKind} {x : Str} {v : Value} : ∀ {P : List Str} {vs : List Value} {i : Nat} {m : Str → Option Value}, P.Nodup → P[i]? = some x → vs[i]? = some v → kindOf x = some .local →
    bindL kindOf (P.zip vs) m x = some v
  | [], _, _, _, _, h, _, _ => by simp at h
  | _ :: _, [], _, _, _, _, h, _ => by simp at h
  | p :: P, w :: vs, 0, m, nd, h1, h2, hk => by
    simp at h1 h2; subst h1; subst h2
    show bindL kindOf ((p, w) :: P.zip vs) m p = _
    unfold bindL
    rw [bindL_out fun v hv => (List.nodup_cons.mp nd).1 (List.of_mem_zip hv).1, if_pos hk]
    simp
  | p :: P, w :: vs, i + 1, m, nd, h1, h2, hk => by
    show bindL kindOf ((p, w) :: P.zip vs) m x = _
    unfold bindL
    exact bindL_get (i := i) (List.nodup_cons.mp nd).2 (by simpa using h1) (by simpa using h2) hk
theorem bindC_get {kindOf : Str → Option NameKind} {x : Str} {v : Value} : ∀ {P : List Str} {vs : List Value} {i : Nat} {m : Str → Option Value}, P.Nodup → P[i]? = some x → vs[i]? = some v → kindOf x ≠ some .local →
    bindC kindOf (P.zip vs) m x = some v
  | [], _, _, _, _, h, _, _ => by simp at h
  | _ :: _, [], _, _, _, _, h, _ => by simp at h
  | p :: P, w :: vs, 0, m, nd, h1, h2, hk => by
    simp at h1 h2; subst h1; subst h2
    show bindC kindOf ((p, w) :: P.zip vs) m p = _
    unfold bindC
    rw [bindC_out fun v hv => (List.nodup_cons.mp nd).1 (List.of_mem_zip hv).1, if_neg hk]
    simp
  | p :: P, w :: vs, i + 1, m, nd, h1, h2, hk => by
    show bindC kindOf ((p, w) :: P.zip vs) m x = _
    unfold bindC
    exact bindC_get (i := i) (List.nodup_cons.mp nd).2 (by simpa using h1) (by simpa using h2) hk
def start (N : List Str) (vs : List V) : St := vs.map some ++ List.replicate (N.length - vs.length) none
def cxOf (CX : CXT) (P : Program) (w : World) (K : PySem.W.Frag) (mg : Str → Option Value) (base : Heap) (N : List Str) (qual : Str) (scope : Scope) (f : Addr) (cd : Value) (A : Around) (outer : List Env) (s : Shared) (H : Hp) (E : XK) : Cx where
  prog := P
  w := w
  K := K
  mg := mg
  base := base
  A := A.deeper (envOfC qual scope s.heap.objs.size f cd)
  N := N
  s₀ := s
  H₀ := H
  env := envOfC qual scope s.heap.objs.size f cd
  outer := outer
  stack := envOfC qual scope s.heap.objs.size f cd :: outer
  ex := []
  calm := true
  fn := fun _ => true
  pn := []
  xe := fun e s' => wpAny (model P w) (A.deeper (envOfC qual scope s.heap.objs.size f cd)) (leaving (envOfC qual scope s.heap.objs.size f cd) e) (fun _ s'' => CX outer H s E e s'') (fun e' s'' => CX outer H s E e' s'') s'
theorem cell_has {sc : Scope} {n : Nat} {x : Str} (h : sc.names.lookup x = some .cell) : ∃ c, (cellsFrom n sc.names []).lookup x = some c := by
  have q := PySem.W.cellsFrom_some sc.names n [] (.inl h)
  exact Option.isSome_iff_exists.mp q
theorem inv_start {CX : CXT} {P : Program} {w : World} {K : PySem.W.Frag} {mg : Str → Option Value} {base : Heap} {N ps : List Str} {qual : Str} {scope : Scope} {f : Addr} {cd : Value} {A : Around} {outer : List Env} {s s1 : Shared} {H : Hp} {E : XK} {us : List Value} {vs : List V}
    (S : FnScope N ps scope) (hd : A.handled = none) (e0 : Env0 P w K mg base A outer s H) (hl : vs.length = ps.length) (r : Vals vs us)
    (x : InCallC s s.heap.objs.size (bindL (envOfC qual scope s.heap.objs.size f cd).kindOf (ps.zip us) fun _ => none) (cellsFrom (s.heap.objs.size + 1) scope.names []) (bindC (envOfC qual scope s.heap.objs.size f cd).kindOf (ps.zip us) fun _ => none) s1) :
    Inv (cxOf CX P w K mg base N qual scope f cd A outer s H E) [] (start N vs) H s1 := by
  have hpl : ps.length ≤ N.length := by have := congrArg List.length S.pre; rw [List.length_take] at this; (first | lia | omega)
  obtain ⟨h1, tk, rfl, hk⟩ := x.done
  have noA : ∀ b : Addr, b ∉ (cxOf CX P w K mg base N qual scope f cd A outer s H E).ex := fun b z => absurd (show b ∈ ([] : List Addr) from z) (by simp)
  refine ⟨⟨e0.mod, S.kind, rfl, rfl, Nat.le_refl _, fun y z c h1 h2 => ?_, fun y hy => ?_, fun y c _ h => ?_, fun _ => hd, Around.frames_deeper e0.frames, .inr ⟨rfl, rfl⟩, fun b z => absurd z (noA b), e0.bs, e0.bsz, fun b _ _ => noA b, fun b z => absurd z (noA b), e0.funs, e0.frf⟩,
    rfl, e0.bare, Un.kept hk, ⟨_, x.toInCall.ns, fun i y v h1 h2 h3 => ?_⟩, fun y c h => ⟨_, x.cell y c h⟩, e0.hok.fresh (Nat.le_refl _), fun y c h => ?_, fun p hp => absurd (show p ∈ ([] : List (Addr × Obj)) from hp) (by simp), e0.hok.kept hk, ?_⟩
  · exact name_of_addr x.apart (PySem.mem_of_lookup h1) (PySem.mem_of_lookup h2)
  · have hy : scope.names.lookup y = some .cell ∨ scope.names.lookup y = some .free := hy
    rcases hy with hy | hy
    · exact cell_has hy
    · exact absurd rfl (S.nofree _ (PySem.mem_of_lookup hy))
  · exact Nat.le_of_lt (x.above y c (PySem.mem_of_lookup h))
  · have hi : i < vs.length := by
      unfold start at h2
      by_cases hi : i < vs.length
      · exact hi
      · rw [List.getElem?_append_right (by simpa using hi)] at h2
        rw [List.getElem?_replicate] at h2
        split at h2 <;> cases h2
    have ha : vs[i]? = some v := by
      unfold start at h2
      rw [List.getElem?_append_left (by simpa using hi), List.getElem?_map] at h2
      cases e : vs[i]? with
      | none => rw [e] at h2; cases h2
      | some a => rw [e] at h2; cases h2; rfl
    obtain ⟨u, hu, rv⟩ := r.get ha
    have hp : ps[i]? = some y := by
      rw [← S.pre, List.getElem?_take_of_lt (by (first | lia | omega))]; exact h1
    have ndP : ps.Nodup := by rw [← S.pre]; exact S.nd.sublist (List.take_sublist _ _)
    refine ⟨u, rv, ?_⟩
    rcases S.par y (List.mem_of_getElem? hp) with k | k
    · exact .inl ⟨k, bindL_get ndP hp hu k⟩
    · obtain ⟨c, e⟩ := cell_has (n := s.heap.objs.size + 1) k
      refine .inr ⟨.inl k, c, e, ?_⟩
      have q := x.cell y c e
      rw [bindC_get ndP hp hu (by show scope.names.lookup y ≠ _; rw [k]; decide)] at q
      exact q
  · exact e0.hok.fresh (Nat.le_of_lt (x.above y c (PySem.mem_of_lookup h)))
  · unfold start
    show _ = N.length
    rw [List.length_append, List.length_map, List.length_replicate]
    (first | lia | omega)
theorem fn_of {CX : CXT} {P : Program} {w : World} {K : PySem.W.Frag} {mg : Str → Option Value} {base : Heap} {k : Nat} {f : Addr} {name qual : Str} {params : Arguments} {body : List Stmt} {scope : Scope} {dV kV doc pm cdv ct oc : Value} {an od : Option Addr}
    {osl : Array (Option Value)} {N ps : List Str} {sp : Sp} (lk : K.lookup f = some ⟨oc, od, .func (PySem.W.fnOf name qual params body scope dV kV doc pm an cdv ct), osl⟩) (hcd : PySem.W.codeIn K cdv qual = true) (S : FnScope N ps scope)
    (len : ∀ vs H Q E, sp vs H Q E → vs.length = ps.length)
    (hbody : ∀ (A : Around) (outer : List Env) (s : Shared) (H : Hp) (vs : List V) (Q : VK) (E : XK), Room k (A.deeper (envOfC qual scope s.heap.objs.size f cdv)) → sp vs H Q E →
      ∃ t, PSs (cxOf CX P w K mg base N qual scope f cdv A outer s H E) body t ∧ t { nx := fun _ H' => Q .non H', rt := Q } (start N vs) H) :
    FnOk P w K mg base CX (k + 1) f (PySem.W.fnOf name qual params body scope dV kV doc pm an cdv ct) ps sp := by
  refine ⟨len, fun A outer s H args us vs Q E hr e0 hb r hsp => ?_⟩
  have hl := len _ _ _ _ hsp
  have KX : K.In s.heap := e0.mod.kin.keeps fun b o e => (e0.bs b o e).1
  have lim : s.heap.NoLimit := e0.mod.nolimit.keeps fun b o e => (e0.bs b o e).1
  have hkind : ∀ y ∈ ps.zip us, scope.names.lookup y.1 = some .local ∨ (scope.names.lookup y.1 = some .cell ∧ ((cellsFrom (s.heap.objs.size + 1) scope.names []).lookup y.1).isSome = true) := fun ⟨n, v⟩ hy => by
    rcases S.par n (List.of_mem_zip hy).1 with q | q
    · exact .inl q
    · exact .inr ⟨q, PySem.W.cellsFrom_some _ _ _ (.inl q)⟩
  refine codeAny_call_function hr.depth (KX _ _ lk) rfl S.co S.gen rfl (PySem.W.codeRec_of KX hcd) (hb _ _ _ _ ?_)
  refine wpAny_newFunctionEnv_cells S.kind hkind fun env he s1 x => ?_
  subst he
  refine ⟨lim.keeps x.toInCall.keep, codeAny_func ?_⟩
  obtain ⟨t, ht, hq⟩ := hbody A outer s H vs Q E (hr.deeper _) hsp
  have I : Inv (cxOf CX P w K mg base N qual scope f cdv A outer s H E) [] (start N vs) H s1 := inv_start S hr.hd e0 hl r x
  refine wpAny_mono (ht [] s1 (start N vs) H _ I hq) (fun fl s' hs => ?_) fun e s' hs => hs
  have fin : ∀ {σ' : St} {H' : Hp} {v : V} {u : Value}, Inv (cxOf CX P w K mg base N qual scope f cdv A outer s H E) [] σ' H' s' → RelV v u → Q v H' → CE outer P w H s Q u s' :=
    fun {σ' H' v u} J rv q => ⟨v, H', J.os, J.bare, J.base, J.hok, rv, q⟩
  cases fl with
  | ret u =>
    obtain ⟨v, σ', H', J, rv, q⟩ := hs
    exact fin J rv q
  | next =>
    obtain ⟨σ', H', J, q⟩ := hs
    exact fin (v := V.non) (u := Value.none) J rfl q
  | brk =>
    obtain ⟨_, _, _, q⟩ := hs
    exact False.elim q
  | cont =>
    obtain ⟨_, _, _, q⟩ := hs
    exact False.elim q
end L2
namespace L2
open PySem PySem.Spec PyProof.Rows
section
variable {X : Cx} {x : Str} {p pos : Pos} {e : Expr} {es : List Expr} {t : TA} {id T : String} {r : List V → Hp → VK → Prop}
def tCB (r : List V → Hp → VK → Prop) (t : TA) : TE := fun σ H Q => t σ H fun vs H1 => r vs H1 Q
theorem pe_callB (hc : CallR X (.builtin id) r) (hg : Gl X x) (hm : X.mg x = none) (hv : bootBuiltins x = some (.builtin id)) (ha : PA X (e :: es) t) (hn : x ≠ "__name__" := by decide) (hdb : (x == ("__debug__" : Str)) = false := by decide)
    (he : starEach (e :: es) X.env = (false, eval e X.env) :: starEach es X.env := by rfl) (hpl : (backTo pos (starEach es X.env)).any (·.1) = false := by rfl) : PE X (.Call (.Name x p) (e :: es) [] pos) (tCB r t) := by
  intro pins s σ H Q I h
  refine wpAny_Call_Name_kw (ld_blt I hg hm hv ?_ hn hdb)
  exact PyProof.Rows.callWith_builtin1 (thn (ha pos pins s σ H _ I h) fun us s1 ⟨vs, H1, I1, r1, q1⟩ => hc pins s1 σ H1 vs us Q I1 r1 q1) he hpl
theorem pe_callTy (hc : CallR X (.type T) r) (hg : Gl X x) (hm : X.mg x = none) (hv : bootBuiltins x = some (.type T)) (ha : PA X (e :: es) t) (hn : x ≠ "__name__" := by decide) (hdb : (x == ("__debug__" : Str)) = false := by decide)
    (he : starEach (e :: es) X.env = (false, eval e X.env) :: starEach es X.env := by rfl) (hpl : (backTo pos (starEach es X.env)).any (·.1) = false := by rfl) : PE X (.Call (.Name x p) (e :: es) [] pos) (tCB r t) := by
  intro pins s σ H Q I h
  refine wpAny_Call_Name_kw (ld_blt I hg hm hv ?_ hn hdb)
  exact PyProof.Rows.callWith_type1 (thn (ha pos pins s σ H _ I h) fun us s1 ⟨vs, H1, I1, r1, q1⟩ => hc pins s1 σ H1 vs us Q I1 r1 q1) he hpl
end
end L2
namespace HT
open PySem PyProof.Rows
def lexLt : List Int → List Int → Bool
  | [], [] => false
  | [], _ :: _ => true
  | _ :: _, [] => false
  | x :: xs, y :: ys => if x = y then lexLt xs ys else decide (x < y)
theorem lexLt_cons (x y : Int) (xs ys : List Int) : lexLt (x :: xs) (y :: ys) = if x = y then lexLt xs ys else decide (x < y) := rfl
theorem lexLt_nil_nil : lexLt [] [] = false := rfl
theorem lexLt_nil_cons (y : Int) (ys : List Int) : lexLt [] (y :: ys) = true := rfl
theorem lexLt_cons_nil (x : Int) (xs : List Int) : lexLt (x :: xs) [] = false := rfl
theorem eqAt_int (A : Around) (s : Shared) (a : Int) (t : Tok) (c : Int) (u : Tok) : ∃ e, SeqAt.EqAt A s (.int a t) (.int c u) e ∧ (e = true ↔ a = c) :=
  ⟨(a == c), SeqAt.EqAt.int_int a t c u, by simp⟩
theorem rcLt_int (A : Around) (s : Shared) (a : Int) (t : Tok) (c : Int) (u : Tok) (prog : Program) (w : World) (E : Value → Shared → Prop) (Q : Value → Shared → Prop) (h : Q (.bool (decide (a < c))) s) :
    wpAny (model prog w) A (richCompare .Lt (.int a t) (.int c u)) Q E s :=
  (PyProof.Rows.lt_int h : wpAny (model prog w) A (compareOp .Lt (.int a t) (.int c u)) Q E s)
section
open PySem.SeqAt
open PySem.AutoSeq1 (wpAny_loadPart')
open PySem.MeetsSeq PySem.MeetsSeq2 PySem.MeetsSeq3
theorem tuple_lt_ints (l b : Addr) (items items2 : Array Value) (n n2 : Nat) (dd dd2 : Option Addr) (sl sl2 : Array (Option Value)) (ns ms : List Int) (hi : IntsAre items.toList ns) (hj : IntsAre items2.toList ms) :
    Meets (Builtin.«tuple.__lt__» ⟨[.ref l, .ref b], []⟩)
      (fun _ R s => s.heap.get? l = some { cls := .type "tuple", dict := dd, data := .seq items n, slots := sl } ∧ s.heap.get? b = some { cls := .type "tuple", dict := dd2, data := .seq items2 n2, slots := sl2 } ∧
        R (.ok (.ret (.bool (lexLt ns ms)))) s) :=
  .of_wp fun prog w A R s h => by
    obtain ⟨hp, g, d, tk, os⟩ := s; obtain ⟨hl, hb, h⟩ := h
    have f2 := AutoSeq1.sub_tuple_tuple
    have z1 : items.size = ns.length := by rw [← hi.length]; simp
    have z2 : items2.size = ms.length := by rw [← hj.length]; simp
    wp_walk using wpAny_loadPart' hl, wpAny_loadPart' hb, wpAny_forIn_list _ (fun rest b s' => b.1 = none ∧ s' = ⟨hp, g, d, tk, os⟩ ∧ ∃ (vs ws : List Value) (ns' ms' : List Int), rest = vs.zip ws ∧
      IntsAre vs ns' ∧ IntsAre ws ms' ∧ ns'.length + items2.size = ms'.length + items.size ∧ R (.ok (.ret (.bool (lexLt ns' ms')))) ⟨hp, g, d, tk, os⟩) _
    case turn =>
      rintro ⟨y, x⟩ rest b s' ⟨hb', rfl, vs, ws, ns', ms', hz, hvi, hwi, hlen, hR⟩
      cases hvi with
      | nil => rw [List.zip_nil_left] at hz; cases hz
      | cons a t hvi' =>
        cases hwi with
        | nil => rw [List.zip_nil_right] at hz; cases hz
        | cons c u hwi' =>
          rw [List.zip_cons_cons] at hz
          injection hz with hyx hrest
          injection hyx with hy hx
          subst hy hx
          rw [lexLt_cons] at hR
          simp only [List.length_cons] at hlen
          obtain ⟨e, he, hiff⟩ := eqAt_int A.in1 ⟨hp, g, d, tk, os⟩ a t c u
          refine wpAny_bind (he prog w _ _ ?_)
          cases e with
          | true =>
            rw [if_pos (hiff.mp rfl)] at hR
            wp_walk
            exact ⟨rfl, rfl, _, _, _, _, hrest, hvi', hwi', by (first | lia | omega), hR⟩
          | false =>
            rw [if_neg (fun q => absurd (hiff.mpr q) Bool.false_ne_true)] at hR
            have hri := rcLt_int A.in1 ⟨hp, g, d, tk, os⟩ a t c u prog w
            wp_walk using hri
            exact ⟨_, rfl, by simpa using hR⟩
    case fin =>
      rintro ⟨b1, b2⟩ s' ⟨hb', rfl, vs, ws, ns', ms', hz, hvi, hwi, hlen, hR⟩
      simp only at hb'
      subst hb'
      have hv : lexLt ns' ms' = decide (items.size < items2.size) := by
        cases hvi with
        | nil =>
          cases hwi with
          | nil =>
            simp only [List.length_nil] at hlen
            rw [lexLt_nil_nil]
            exact (decide_eq_false (by (first | lia | omega))).symm
          | cons c u hw =>
            simp only [List.length_nil, List.length_cons] at hlen
            rw [lexLt_nil_cons]
            exact (decide_eq_true (by (first | lia | omega))).symm
        | cons a t hv =>
          cases hwi with
          | nil =>
            simp only [List.length_nil, List.length_cons] at hlen
            rw [lexLt_cons_nil]
            exact (decide_eq_false (by (first | lia | omega))).symm
          | cons c u hw =>
            rw [List.zip_cons_cons] at hz
            cases hz
      rw [hv] at hR
      wp_walk
      exact ⟨_, rfl, by simpa [Builtin.Tuple.tupleCompareSizes] using hR⟩
    case h =>
      exact ⟨rfl, rfl, items.toList, items2.toList, ns, ms, rfl, hi, hj, by (first | lia | omega), h⟩
end
section
variable {prog : Program} {w : World} {A : Around} {E : Value → Shared → Prop} {s : Shared}
theorem lt_tupInts {l b : Addr} {items items2 : Array Value} {ns ms : List Int} {Q : Value → Shared → Prop} (hl : IsTup s.heap l items) (hb : IsTup s.heap b items2) (hi : IntsAre items.toList ns) (hj : IntsAre items2.toList ms)
    (hu : A.units < cLine) (h : Q (.bool (lexLt ns ms)) s) : wpAny (model prog w) A (compareOp .Lt (.ref l) (.ref b)) Q E s := by
  obtain ⟨⟨cls, dd, data, sl⟩, ho, hc, n, hd⟩ := id hl
  obtain ⟨⟨cls2, dd2, data2, sl2⟩, ho2, hc2, n2, hd2⟩ := id hb
  simp only at hc hd hc2 hd2
  subst hc hd hc2 hd2
  exact richCompare_meets_room (op := .Lt) ⟨_, ho, rfl⟩ ⟨_, ho2, rfl⟩ PySem.F.slot_tuple_lt PySem.F.entry_tuple_lt (PySem.F.args_tuple_lt_2 _ _) (tuple_lt_ints l b items items2 n n2 dd dd2 sl sl2 ns ms hi hj)
    ⟨ho, ho2, show Value.bool (lexLt ns ms) ≠ Value.notImplemented ∧ Q (.bool (lexLt ns ms)) s from ⟨(fun x => nomatch x), h⟩⟩ hu
def sIx (n d : Nat) : Option Int → Nat
  | none => d
  | some v => if v < 0 then (v + (n : Int)).toNat else min v.toNat n
theorem sIx_none (n d : Nat) : sIx n d none = d := rfl
theorem sIx_nat (n d k : Nat) : sIx n d (some (k : Int)) = min k n := by
  show (if (k : Int) < 0 then ((k : Int) + (n : Int)).toNat else min (k : Int).toNat n) = min k n
  rw [if_neg (by (first | lia | omega)), Int.toNat_natCast]
end
end HT
namespace L2
open PySem PySem.Spec PyProof.Rows
abbrev TO := St → Hp → (Option Int → Hp → Prop) → Prop
def PO (X : Cx) (e : Option Expr) (t : TO) : Prop :=
  ∀ (pins : List (Addr × Obj)) (s : Shared) (σ : St) (H : Hp) (Q : Option Int → Hp → Prop), Inv X pins σ H s → t σ H Q →
    wpAny (model X.prog X.w) X.A (evalPart e X.env) (fun u s' => ∃ o H', Inv X pins σ H' s' ∧ IsPart u o ∧ Q o H') X.xe s
def tNoPart : TO := fun _ H Q => Q none H
def tPart (t : TE) : TO := fun σ H Q => t σ H fun x H1 => ∃ i, x = .int i ∧ Q (some i) H1
theorem intsAre_of {ns : List Int} : ∀ {us : List Value}, Vals (ns.map V.int) us → IntsAre us ns := by
  induction ns with
  | nil => intro us r; rw [List.map_nil] at r; cases r; exact .nil
  | cons n ns ih =>
    intro us r
    rw [List.map_cons] at r
    cases r with
    | cons r1 r2 =>
      obtain ⟨t, e⟩ := r1
      subst e
      exact .cons n t (ih r2)
section
variable {X : Cx} {e : Expr} {te : TE} {lo hi : Option Expr} {tl th : TO} {pos p2 : Pos}
theorem po_none : PO X none tNoPart := by
  intro pins s σ H Q I h
  rw [evalPart_none]
  exact wpAny_pure ⟨none, H, I, .none, h⟩
theorem po_some (h : PE X e te) : PO X (some e) (tPart te) := by
  intro pins s σ H Q I hw
  rw [evalPart_some]
  refine thn (h pins s σ H _ I hw) fun u s1 ⟨x, H1, I1, r1, q1⟩ => ?_
  obtain ⟨i, rfl, q⟩ := q1
  obtain ⟨t, rfl⟩ := r1
  exact ⟨some i, H1, I1, .int i t, q⟩
def SlR (X : Cx) (r : V → Option Int → Option Int → Hp → VK → Prop) : Prop :=
  ∀ (pins : List (Addr × Obj)) (s : Shared) (σ : St) (H : Hp) (x : V) (v vl vu : Value) (lo hi : Option Int) (sl : Addr) (Q : VK), Inv X pins σ H s → RelV x v → s.heap.IsSliceOf sl vl vu .none → IsPart vl lo → IsPart vu hi → r x lo hi H Q →
    ∃ T id, typeLookup (.type T) "__getitem__" = pure (some (.builtin id)) ∧ s.TypeIs v T ∧ wpAny (model X.prog X.w) X.A (getItem v (.ref sl)) (EP X pins σ Q) X.xe s
theorem SlR.or {r r' : V → Option Int → Option Int → Hp → VK → Prop} (h : SlR X r) (h' : SlR X r') : SlR X (fun x lo hi H Q => r x lo hi H Q ∨ r' x lo hi H Q) := by
  intro pins s σ H x v vl vu lo hi sl Q I rx hs pl pu q
  rcases q with q | q
  · exact h pins s σ H x v vl vu lo hi sl Q I rx hs pl pu q
  · exact h' pins s σ H x v vl vu lo hi sl Q I rx hs pl pu q
def tSl (r : V → Option Int → Option Int → Hp → VK → Prop) (te : TE) (tl th : TO) : TE := fun σ H Q => te σ H fun x H1 => tl σ H1 fun l H2 => th σ H2 fun u H3 => r x l u H3 Q
theorem pe_slice {r : V → Option Int → Option Int → Hp → VK → Prop} (hr : SlR X r) (he : PE X e te) (hl : PO X lo tl) (hu : PO X hi th) : PE X (.Subscript e (.Slice lo hi none p2) pos) (tSl r te tl th) := by
  intro pins s σ H Q I h
  refine Subscript_ (thn (he pins s σ H _ I h) fun v s1 ⟨x, H1, I1, r1, q1⟩ => ?_)
  refine wpAny_Slice (thn (hl pins s1 σ H1 _ I1 q1) fun vl s2 ⟨l, H2, I2, pl, q2⟩ => thn (hu pins s2 σ H2 _ I2 q2) fun vu s3 ⟨u, H3, I3, pu, q3⟩ => ?_)
  rw [evalPart_none]
  refine wpAny_pure ?_
  have I4 : Inv X pins σ H3 { s3 with heap := s3.heap.push { cls := .type "slice", data := .fields #[vl, vu, .none] } } := I3.kept (t' := s3.toks) fun b ob q => Heap.get?_push_of_some _ q
  obtain ⟨T, id, hT, ht, hg⟩ := hr pins { s3 with heap := s3.heap.push { cls := .type "slice", data := .fields #[vl, vu, .none] } } σ H3 x v vl vu l u s3.heap.objs.size Q I4 r1 (Heap.IsSliceOf.new ..) pl pu q3
  show wpAny (model X.prog X.w) X.A (subscriptTail e (.Slice lo hi none p2) v (.ref s3.heap.objs.size)) (EP X pins σ Q) X.xe { s3 with heap := s3.heap.push { cls := .type "slice", data := .fields #[vl, vu, .none] } }
  exact tail_any (ops := [.ref s3.heap.objs.size, v]) ht hT hg (by with_unfolding_all rfl)
def cutV (xs : List V) (lo hi : Option Int) : List V := (xs.drop (HT.sIx xs.length 0 lo)).take (HT.sIx xs.length xs.length hi - HT.sIx xs.length 0 lo)
theorem cutV_length (xs : List V) (lo hi : Option Int) : (cutV xs lo hi).length ≤ xs.length := by
  unfold cutV
  rw [List.length_take, List.length_drop]
  (first | lia | omega)
def rSlT (K : PySem.W.Frag) : V → Option Int → Option Int → Hp → VK → Prop := fun x lo hi H Q => ∃ a xs, x = .ref a ∧ SqT K H a xs ∧
  ¬ (HT.sIx xs.length 0 lo = 0 ∧ HT.sIx xs.length xs.length hi = xs.length) ∧ ∀ p, H p = none → Q (.ref p) (upd H p (.tup (cutV xs lo hi)))
def rLtT (K : PySem.W.Frag) : R2 := fun x y H Q => ∃ a b ns ms, x = .ref a ∧ y = .ref b ∧ SqT K H a (ns.map V.int) ∧ SqT K H b (ms.map V.int) ∧ Q (.bl (HT.lexLt ns ms)) H
def rCatT (K : PySem.W.Frag) : R2 := fun x y H Q => ∃ a b xs ys, x = .ref a ∧ y = .ref b ∧ SqT K H a xs ∧ SqT K H b ys ∧ xs ≠ [] ∧ xs.length + ys.length ≤ sizeLine ∧
  (ys = [] → Q (.ref a) H) ∧ (ys ≠ [] → ∀ p, H p = none → Q (.ref p) (upd H p (.tup (xs ++ ys))))
end
end L2
namespace L2
open PySem PySem.Spec PyProof.Rows
def ixN (n : Nat) (i : Int) : Option Nat := if 0 ≤ i then (if i < n then some i.toNat else none) else if -(n : Int) ≤ i then some (i + n).toNat else none
def atI {α : Type} (xs : List α) (i : Int) : Option α := (ixN xs.length i).bind fun j => xs[j]?
theorem ixN_seq {n : Nat} {i : Int} {j : Nat} (h : ixN n i = some j) : seqIndex? i n = some j ∧ j < n ∧ -(n : Int) ≤ i ∧ i < n := by
  unfold ixN at h
  by_cases h0 : 0 ≤ i
  · rw [if_pos h0] at h
    by_cases h1 : i < n
    · rw [if_pos h1] at h
      have e : i.toNat = j := Option.some.inj h
      exact ⟨by rw [seqIndex_of h0 h1, e], by (first | lia | omega), by (first | lia | omega), h1⟩
    · rw [if_neg h1] at h; cases h
  · rw [if_neg h0] at h
    by_cases h1 : -(n : Int) ≤ i
    · rw [if_pos h1] at h
      have e : (i + n).toNat = j := Option.some.inj h
      exact ⟨by rw [seqIndex_neg (by (first | lia | omega)) h1, e], by (first | lia | omega), h1, by (first | lia | omega)⟩
    · rw [if_neg h1] at h; cases h
theorem atI_get {α : Type} {xs : List α} {i : Int} {v : α} (h : atI xs i = some v) : ∃ j, seqIndex? i xs.length = some j ∧ xs[j]? = some v ∧ j < xs.length ∧ -(xs.length : Int) ≤ i ∧ i < xs.length := by
  unfold atI at h
  cases e : ixN xs.length i with
  | none => rw [e] at h; cases h
  | some j =>
    rw [e] at h
    obtain ⟨h1, h2, h3, h4⟩ := ixN_seq e
    exact ⟨j, h1, h, h2, h3, h4⟩
theorem atI_nat {α : Type} {xs : List α} {j : Nat} {v : α} (h : xs[j]? = some v) : atI xs (j : Int) = some v := by
  have hj : j < xs.length := (List.getElem?_eq_some_iff.mp h).1
  have e : ixN xs.length (j : Int) = some j := by
    unfold ixN
    rw [if_pos (by (first | lia | omega)), if_pos (by (first | lia | omega))]; simp
  unfold atI; rw [e]; exact h
theorem atI_last {α : Type} (xs : List α) (v : α) : atI (xs ++ [v]) (-1) = some v := by
  have hl : (xs ++ [v]).length = xs.length + 1 := by simp
  have e : ixN (xs ++ [v]).length (-1) = some xs.length := by
    unfold ixN
    rw [hl, if_neg (by decide), if_pos (by (first | lia | omega))]
    congr 1
    (first | lia | omega)
  unfold atI
  rw [e]
  show (xs ++ [v])[xs.length]? = some v
  simp
def PlainIx (b : Expr) : Prop := ∀ o i, subscripted b false o i = operate [o, i] (getItem o i)
def IxR (X : Cx) (r : R2) : Prop :=
  ∀ (value slice : Expr) (pins : List (Addr × Obj)) (s : Shared) (σ : St) (H : Hp) (x y : V) (v u : Value) (Q : VK), Inv X pins σ H s → RelV x v → RelV y u → r x y H Q →
    subscripted slice false v u = operate [v, u] (getItem v u) → wpAny (model X.prog X.w) X.A (subscriptTail value slice v u) (EP X pins σ Q) X.xe s
def MtR (X : Cx) (id : String) (r : V → List V → Hp → VK → Prop) : Prop :=
  ∀ (pins : List (Addr × Obj)) (s : Shared) (σ : St) (H : Hp) (x : V) (xs : List V) (v : Value) (us : List Value) (Q : VK), Inv X pins σ H s → RelV x v → Vals xs us → r x xs H Q →
    wpAny (model X.prog X.w) X.A (call (.builtin id) (v :: us)) (EP X pins σ Q) X.xe s
section
variable {X : Cx} {a b : Expr} {ta tb : TE} {pos : Pos}
theorem IxR.or {r r' : R2} (h : IxR X r) (h' : IxR X r') : IxR X (fun x y H Q => r x y H Q ∨ r' x y H Q) := by
  intro value slice pins s σ H x y v u Q I rx ry q hs
  rcases q with q | q
  · exact h value slice pins s σ H x y v u Q I rx ry q hs
  · exact h' value slice pins s σ H x y v u Q I rx ry q hs
theorem MtR.or {id : String} {r r' : V → List V → Hp → VK → Prop} (h : MtR X id r) (h' : MtR X id r') : MtR X id (fun x xs H Q => r x xs H Q ∨ r' x xs H Q) := by
  intro pins s σ H x xs v us Q I rx rs q
  rcases q with q | q
  · exact h pins s σ H x xs v us Q I rx rs q
  · exact h' pins s σ H x xs v us Q I rx rs q
theorem pe_ix {r : R2} (hr : IxR X r) (ha : PE X a ta) (hb : PE X b tb) (hs : PlainIx b) : PE X (.Subscript a b pos) (tOp r ta tb) := by
  intro pins s σ H Q I h
  exact Subscript_ (binT ha hb I h fun v u s2 x y H2 I2 rx ry q => hr a b pins s2 σ H2 x y v u Q I2 rx ry q (hs _ _))
def rIxL (K : PySem.W.Frag) : R2 := fun x y H Q => ∃ p xs i v, x = .ref p ∧ y = .int i ∧ SqL K H p xs ∧ atI xs i = some v ∧ Q v H
def rIxT (K : PySem.W.Frag) : R2 := fun x y H Q => ∃ p xs i v, x = .ref p ∧ y = .int i ∧ SqT K H p xs ∧ atI xs i = some v ∧ Q v H
def rIxS : R2 := fun x y H Q => ∃ z i c, x = .str z ∧ y = .int i ∧ z.length ≤ sizeLine ∧ atI z.cps.toList i = some c ∧ Q (.str ⟨#[c]⟩) H
theorem ix_list : IxR X (rIxL X.K) := by
  intro value slice pins s σ H x y v u Q I rx ry h hs
  obtain ⟨p, xs, i, z, rfl, rfl, hq, he, q⟩ := h
  cases rx
  obtain ⟨t, rfl⟩ := ry
  obtain ⟨its, r, pl, hz⟩ := I.list hq
  obtain ⟨j, h1, h2, h3, h4, h5⟩ := atI_get he
  obtain ⟨w, ew, rw'⟩ := r.get h2
  have hl := r.length
  have hn := line63
  have fin : EP X pins σ Q w s := ⟨z, H, I, rw', q⟩
  by_cases h0 : 0 ≤ i
  · have hj : i.toNat = j := by
      rw [seqIndex_of h0 h5] at h1
      exact Option.some.inj h1
    exact item_listR pl.isList h0 (by (first | lia | omega)) (by rw [hj]; simpa using ew) fin hs
  · have hj : (i + (its.toArray.size : Int)).toNat = j := by
      rw [seqIndex_neg (by (first | lia | omega)) h4] at h1
      rw [List.size_toArray, ← hl]
      exact Option.some.inj h1
    exact subscriptTail_builtinR (x := w) pl.isList.typeIs slot_list_getitem.lookup
      (wpAny_getItem_list_neg (Q := fun r s' => r = w ∧ EP X pins σ Q r s') pl.isList (by (first | lia | omega)) (by rw [List.size_toArray] <;> (first | lia | omega)) (by (first | lia | omega)) (by rw [hj]; simpa using ew) ⟨rfl, fin⟩) hs
theorem ix_tup : IxR X (rIxT X.K) := by
  intro value slice pins s σ H x y v u Q I rx ry h hs
  obtain ⟨p, xs, i, z, rfl, rfl, hq, he, q⟩ := h
  cases rx
  obtain ⟨t, rfl⟩ := ry
  obtain ⟨its, r, pl, hz⟩ := I.tuple hq
  obtain ⟨j, h1, h2, h3, h4, h5⟩ := atI_get he
  obtain ⟨w, ew, rw'⟩ := r.get h2
  have hl := r.length
  have hn := line63
  have fin : EP X pins σ Q w s := ⟨z, H, I, rw', q⟩
  exact subscriptTail_builtinR (x := w) pl.typeIs slot_tuple_getitem.lookup
    (getItem_tuple (j := j) (Q := fun r s' => r = w ∧ EP X pins σ Q r s') pl (by (first | lia | omega)) (by (first | lia | omega)) (by rw [List.size_toArray, ← hl]; exact h1) (by simpa using ew) ⟨rfl, fin⟩) hs
def rIx (K : PySem.W.Frag) : R2 := fun x y H Q => rIxL K x y H Q ∨ rIxT K x y H Q ∨ rIxS x y H Q
theorem mapSeq_set (its : List Value) (n j : Nat) (u : Value) : Obj.mapSeq (·.setIfInBounds j u) { cls := .type "list", data := .seq its.toArray n } = { cls := .type "list", data := .seq (its.set j u).toArray n } := by
  simp [Obj.mapSeq]
theorem Inv.lst {pins : List (Addr × Obj)} {σ : St} {H : Hp} {s : Shared} {p : Addr} {xs : List V} (I : Inv X pins σ H s) (h : H p = some (.lst xs)) :
    ∃ (its : List Value) (n : Nat), Vals xs its ∧ s.heap.get? p = some { cls := .type "list", data := .seq its.toArray n } ∧ xs.length ≤ sizeLine := by
  obtain ⟨z, its, n, r, e⟩ := I.hok p _ h
  exact ⟨its, n, r, e, z⟩
theorem Inv.lstUpd {pins : List (Addr × Obj)} {σ : St} {H : Hp} {s : Shared} {p : Addr} {xs ys : List V} {its its' : List Value} {n n' : Nat} {f : Obj → Obj} (I : Inv X pins σ H s) (h : H p = some (.lst xs))
    (ho : s.heap.get? p = some { cls := .type "list", data := .seq its.toArray n }) (hf : f { cls := .type "list", data := .seq its.toArray n } = { cls := .type "list", data := .seq its'.toArray n' }) (r : Vals ys its') (hz : ys.length ≤ sizeLine) (t : Nat) :
    Inv X pins σ (upd H p (.lst ys)) { s with heap := s.heap.update p f, toks := t } := by
  have e : (s.heap.update p f).get? p = some { cls := .type "list", data := .seq its'.toArray n' } := by
    rw [Heap.get?_update_self f ho (by rw [hf] <;> rfl), hf]
  refine I.write (x := p) (e := p) (by rw [h]; trivial) (.inl rfl) (fun b u hb q => (Heap.get?_update_other _ _ (Ne.symm hb)).trans q) ⟨_, e⟩ ?_
  exact ⟨hz, its', n', r, e⟩
def rSetL : V → V → V → Hp → (Hp → Prop) → Prop := fun o i v H Q => ∃ p xs k j, o = .ref p ∧ i = .int k ∧ H p = some (.lst xs) ∧ ixN xs.length k = some j ∧ Q (upd H p (.lst (xs.set j v)))
theorem set_list : PSet X rSetL := by
  intro pins s σ H o i v ov iv u Q I ro ri rv h
  obtain ⟨p, xs, k, j, rfl, rfl, hp, hj, q⟩ := h
  cases ro
  obtain ⟨t, rfl⟩ := ri
  obtain ⟨its, n, r, ho, hz⟩ := I.lst hp
  obtain ⟨h1, h2, h3, h4⟩ := ixN_seq hj
  have hl := r.length
  have hn := line63
  have I' : Inv X pins σ (upd H p (.lst (xs.set j v))) { s with heap := s.heap.update p (Obj.mapSeq (·.setIfInBounds j u)) } :=
    I.lstUpd hp ho (mapSeq_set its n j u) (r.set rv j) (by rw [List.length_set]; exact hz) s.toks
  by_cases h0 : 0 ≤ k
  · have hk : k.toNat = j := by
      rw [seqIndex_of h0 h4] at h1
      exact Option.some.inj h1
    exact PySem.W.ki_setAt ho h0 (by (first | lia | omega)) (by rw [List.size_toArray, ← hl]; exact h4) (by rw [hk]; exact ⟨_, I', q⟩)
  · have hk : (k + (its.toArray.size : Int)).toNat = j := by
      rw [seqIndex_neg (by (first | lia | omega)) h3] at h1
      rw [List.size_toArray, ← hl]
      exact Option.some.inj h1
    exact PySem.W.ki_setBack ho (by (first | lia | omega)) (by rw [List.size_toArray, ← hl]; exact h3) (by (first | lia | omega)) (by rw [hk]; exact ⟨_, I', q⟩)
theorem slice_bounds (lo hi : Option Int) (n : Nat) : (sliceBounds lo hi none n).1 = ((HT.sIx n 0 lo : Nat) : Int) ∧ (sliceBounds lo hi none n).2.1 = ((HT.sIx n n hi : Nat) : Int) ∧ (sliceBounds lo hi none n).2.2 = 1 := by
  refine ⟨?_, ?_, rfl⟩
  · cases lo with
    | none => simp [sliceBounds, HT.sIx]
    | some i =>
      simp only [sliceBounds, HT.sIx, Option.getD_none, show (1 : Int) > 0 by decide, if_true]
      by_cases h : i < 0
      · simp only [h, if_true] <;> (first | lia | omega)
      · simp only [h, if_false] <;> (first | lia | omega)
  · cases hi with
    | none => simp [sliceBounds, HT.sIx]
    | some i =>
      simp only [sliceBounds, HT.sIx, Option.getD_none, show (1 : Int) > 0 by decide, if_true]
      by_cases h : i < 0
      · simp only [h, if_true] <;> (first | lia | omega)
      · simp only [h, if_false] <;> (first | lia | omega)
theorem slicePick_cut (its : List Value) (lo hi : Option Int) : slicePick its.toArray lo hi none = ((its.drop (HT.sIx its.length 0 lo)).take (HT.sIx its.length its.length hi - HT.sIx its.length 0 lo)).toArray := by
  obtain ⟨h1, h2, h3⟩ := slice_bounds lo hi its.toArray.size
  unfold slicePick
  rw [h1, h2, h3]
  simp only [sliceRange_one, pick_run, List.size_toArray] <;> rfl
def rSlL (K : PySem.W.Frag) : V → Option Int → Option Int → Hp → VK → Prop := fun x lo hi H Q => ∃ a xs, x = .ref a ∧ SqL K H a xs ∧ ∀ p, H p = none → Q (.ref p) (upd H p (.lst (cutV xs lo hi)))
theorem sl_list : SlR X (rSlL X.K) := by
  intro pins s σ H x v vl vu lo hi sl Q I rx hs pl pu h
  obtain ⟨a, xs, rfl, hx, q⟩ := h
  cases rx
  obtain ⟨its, r, ht, hz⟩ := I.list hx
  have hlen := r.length
  refine ⟨"list", _, slot_list_getitem.lookup, ht.isList.typeIs, ?_⟩
  refine wpAny_getItem_list_slice ht.isList hs pl pu .none (by simp) ?_ (by rw [List.size_toArray] <;> (first | lia | omega))
  rw [slicePick_cut, ← hlen]
  refine ⟨.ref s.heap.objs.size, _, I.laid (t' := s.toks) (o := .lst (cutV xs lo hi)) (fun b ob q => Heap.get?_push_of_some _ q) (Nat.le_refl _) ?_, rfl, q _ (I.hok.fresh (Nat.le_refl _))⟩
  exact ⟨Nat.le_trans (cutV_length xs lo hi) hz, _, 0, (r.drop (HT.sIx xs.length 0 lo)).take (HT.sIx xs.length xs.length hi - HT.sIx xs.length 0 lo), Heap.get?_push_size _ rfl⟩
def flatV : V → Bool
  | .non => true
  | .bl _ => true
  | .int _ => true
  | .str _ => true
  | _ => false
def eqV : V → V → Bool
  | .non, .non => true
  | .bl a, .bl b => a == b
  | .bl a, .int b => (if a then 1 else 0) == b
  | .int a, .bl b => a == (if b then 1 else 0)
  | .int a, .int b => a == b
  | .str a, .str b => a == b
  | _, _ => false
def eqU (x : V) (u : Value) : Bool := match u with
  | .none => eqV .non x
  | .bool b => eqV (.bl b) x
  | .int i _ => eqV (.int i) x
  | .str z _ => eqV (.str z) x
  | _ => false
def inV (x : V) (xs : List V) : Bool := xs.any fun y => eqV y x
def rIn (K : PySem.W.Frag) (neg : Bool) : R2 := fun x y H Q => ∃ p xs, y = .ref p ∧ (SqL K H p xs ∨ SqT K H p xs) ∧ flatV x = true ∧ xs.all flatV = true ∧ Q (.bl (if neg then !inV x xs else inV x xs)) H
theorem call_len_seq : CallR X (.builtin "len") (fun xs H Q => ∃ p ys, xs = [.ref p] ∧ (SqL X.K H p ys ∨ SqT X.K H p ys) ∧ Q (.int ys.length) H) := by
  intro pins s σ H xs us Q I r h
  obtain ⟨p, ys, rfl, hq, q⟩ := h
  obtain ⟨u, rfl, rx⟩ := vals1 r
  cases rx
  have hn := line63
  rcases hq with hq | hq
  · obtain ⟨its, r', pl, hz⟩ := I.list hq
    have hlen := r'.length
    exact Calls.call_len_list pl.isList (by simp only [List.size_toArray] <;> (first | lia | omega)) ⟨.int ys.length, H, I.tok _, ⟨s.toks + 1, by rw [List.size_toArray, hlen]⟩, q⟩
  · obtain ⟨its, r', pl, hz⟩ := I.tuple hq
    have hlen := r'.length
    exact len_tuple pl (by simp only [List.size_toArray] <;> (first | lia | omega)) ⟨.int ys.length, H, I.tok _, ⟨s.toks + 1, by rw [List.size_toArray, hlen]⟩, q⟩
theorem CallR.or {f : Value} {r r' : List V → Hp → VK → Prop} (h : CallR X f r) (h' : CallR X f r') : CallR X f (fun xs H Q => r xs H Q ∨ r' xs H Q) := by
  intro pins s σ H xs us Q I rs q
  rcases q with q | q
  · exact h pins s σ H xs us Q I rs q
  · exact h' pins s σ H xs us Q I rs q
theorem call_list_of : CallR X (.type "list") (fun xs H Q => ∃ p ys, xs = [.ref p] ∧ (SqL X.K H p ys ∨ SqT X.K H p ys) ∧ ∀ l, H l = none → Q (.ref l) (upd H l (.lst ys))) := by
  intro pins s σ H xs us Q I r h
  obtain ⟨p, ys, rfl, hq, q⟩ := h
  obtain ⟨u, rfl, rx⟩ := vals1 r
  cases rx
  have fin : ∀ (its : List Value), Vals ys its → ys.length ≤ sizeLine → ∀ (h' : Heap) (c' : Nat), (∀ b o', s.heap.get? b = some o' → h'.get? b = some o') →
      h'.get? s.heap.objs.size = some { cls := .type "list", dict := none, data := .seq its.toArray c', slots := #[] } → EP X pins σ Q (.ref s.heap.objs.size) { s with heap := h' } := fun its r' hz h' c' kp e =>
    ⟨.ref s.heap.objs.size, _, I.laid (t' := s.toks) kp (Nat.le_refl _) (show ObjOk X.prog X.w _ h' _ (.lst ys) from ⟨hz, its, c', r', e⟩), rfl, q _ (I.hok.fresh (Nat.le_refl _))⟩
  rcases hq with hq | hq
  · obtain ⟨its, r', pl, hz⟩ := I.list hq
    have hlen := r'.length
    obtain ⟨o, ho, hc, n, hd⟩ := pl.isList
    exact call_list_seq p (.inl rfl) ho hc hd (fun h' c' kp e => fin its r' hz h' c' kp e) (by simp only [List.size_toArray] <;> (first | lia | omega))
  · obtain ⟨its, r', pl, hz⟩ := I.tuple hq
    have hlen := r'.length
    obtain ⟨o, ho, hc, n, hd⟩ := pl
    exact call_list_seq p (.inr rfl) ho hc hd (fun h' c' kp e => fin its r' hz h' c' kp e) (by simp only [List.size_toArray] <;> (first | lia | omega))
def tyV (K : PySem.W.Frag) (T : String) (x : V) (H : Hp) : Prop := match x with
  | .str _ => T = "str"
  | .int _ => T = "int"
  | .ref p => (T = "list" ∧ ∃ xs, SqL K H p xs) ∨ (T = "tuple" ∧ ∃ o, K.lookup p = some o ∧ o.cls = .type "tuple" ∧ o.dict = none) ∨
      (T = "dict" ∧ ((∃ kvs, H p = some (.dK kvs)) ∨ ∃ kvs, H p = some (.dT kvs))) ∨ (T = "set" ∧ ∃ S n, H p = some (.set S n))
  | _ => False
theorem tyV_is {pins : List (Addr × Obj)} {σ : St} {H : Hp} {s : Shared} {T : String} {x : V} {v : Value} (I : Inv X pins σ H s) (r : RelV x v) (ty : tyV X.K T x H) :
    s.TypeIs v T ∧ ∀ a, v = .ref a → ∃ ob, s.heap.get? a = some ob ∧ ob.dict = none := by
  cases x with
  | str z =>
    obtain ⟨t, rfl⟩ := r
    cases (show T = "str" from ty)
    exact ⟨typeIs_str s z t, fun _ e => nomatch e⟩
  | int i =>
    obtain ⟨t, rfl⟩ := r
    cases (show T = "int" from ty)
    exact ⟨typeIs_int s i t, fun _ e => nomatch e⟩
  | ref p =>
    cases r
    rcases ty with ⟨rfl, xs, hq⟩ | ⟨rfl, o, hk, hc, hd⟩ | ⟨rfl, hk⟩ | ⟨rfl, S, n, hk⟩
    · obtain ⟨its, _, pl, _⟩ := I.list hq
      refine ⟨pl.isList.typeIs, fun a e => ?_⟩
      cases e
      obtain ⟨o, n, e, c, hd, _⟩ := pl
      exact ⟨o, e, hd⟩
    · refine ⟨⟨o, I.kIn p o hk, hc⟩, fun a e => ?_⟩
      cases e
      exact ⟨o, I.kIn _ o hk, hd⟩
    · have z : ∃ o, s.heap.get? p = some o ∧ o.ExactDict := by
        rcases hk with ⟨kvs, hk⟩ | ⟨kvs, hk⟩
        · obtain ⟨_, _, _, _, o, _, _, e, ex, _⟩ := I.hok p _ hk
          exact ⟨o, e, ex⟩
        · obtain ⟨_, _, _, _, o, _, _, e, ex, _⟩ := I.hok p _ hk
          exact ⟨o, e, ex⟩
      obtain ⟨o, e, ex⟩ := z
      refine ⟨⟨o, e, ex.1⟩, fun a e2 => ?_⟩
      cases e2
      exact ⟨o, e, ex.2.1⟩
    · obtain ⟨o, _, _, _, e, ex, _⟩ := I.hok p _ hk
      refine ⟨⟨o, e, ex.1⟩, fun a e2 => ?_⟩
      cases e2
      exact ⟨o, e, ex.2.1⟩
  | _ => exact False.elim ty
def tBM0 (K : PySem.W.Frag) (T : String) (r : V → List V → Hp → VK → Prop) (to : TE) : TE := fun σ H Q => to σ H fun x H1 => tyV K T x H1 ∧ r x [] H1 Q
def tBM (K : PySem.W.Frag) (T : String) (r : V → List V → Hp → VK → Prop) (to : TE) (t : TA) : TE := fun σ H Q => to σ H fun x H1 => tyV K T x H1 ∧ t σ H1 fun xs H2 => r x xs H2 Q
variable {o e : Expr} {es : List Expr} {to : TE} {t : TA} {name : Str} {apos cpos : Pos} {T id : String} {r : V → List V → Hp → VK → Prop}
theorem pe_bm0 (pa : PlainAttrs T) (slot : Slot T name id) (hty : typeOf (.builtin id) = pure (.type "method_descriptor")) (hm : MtR X id r) (ho : PE X o to)
    (hbase : attributeBase o name X.env (eval o X.env) = eval o X.env := by rfl) (hline : (apos.endLine == cpos.line) = true := by rfl) : PE X (.Call (.Attribute o name apos) [] [] cpos) (tBM0 X.K T r to) := by
  intro pins s σ H Q I h
  refine wpAny_Call_method0_late hbase hline (thn (ho pins s σ H _ I h) fun v s1 ⟨x, H1, I1, r1, ty, q1⟩ => ?_)
  obtain ⟨h1, h2⟩ := tyV_is I1 r1 ty
  exact ⟨T, id, pa, slot, hty, h1, h2, Calls.callWith_builtin rfl (PySem.evalArgs_none (hm pins s1 σ H1 x [] v [] Q I1 r1 .nil q1))⟩
theorem pe_bm (pa : PlainAttrs T) (slot : Slot T name id) (hty : typeOf (.builtin id) = pure (.type "method_descriptor")) (hm : MtR X id r) (ho : PE X o to) (ha : PA X (e :: es) t)
    (hbase : attributeBase o name X.env (eval o X.env) = eval o X.env := by rfl)
    (hfew : ((backTo cpos (starEach (e :: es) X.env)).all (fun x => !x.1) && (backToKw cpos (keywordEach [] X.env)).all (fun x => x.1.isSome)
      && decide ((e :: es).length + ([] : List Keyword).length + (if ([] : List Keyword).isEmpty then 0 else 1) < 30)) = true := by rfl)
    (hline : (apos.endLine == cpos.line) = true := by rfl) (hs : starEach (e :: es) X.env = (false, eval e X.env) :: starEach es X.env := by rfl) (hplain : (backTo cpos (starEach es X.env)).any (·.1) = false := by rfl) :
    PE X (.Call (.Attribute o name apos) (e :: es) [] cpos) (tBM X.K T r to t) := by
  intro pins s σ H Q I h
  refine wpAny_Call_method_late hbase hfew hline rfl (thn (ho pins s σ H _ I h) fun v s1 ⟨x, H1, I1, r1, ty, q1⟩ => ?_)
  obtain ⟨h1, h2⟩ := tyV_is I1 r1 ty
  refine ⟨T, id, pa, slot, hty, h1, h2, ?_⟩
  have hA := ha cpos pins s1 σ H1 _ I1 q1
  rw [hs] at hA ⊢
  refine Calls.callWith_builtin (by show (false || (backTo cpos (starEach es X.env)).any (·.1)) = false; rw [hplain] <;> rfl) (Calls.evalArgs_plain ?_)
  exact thn hA fun us s2 ⟨vs, H2, I2, r2, q2⟩ => hm pins s2 σ H2 x vs v us Q I2 r1 r2 q2
/- xs.append(e), list.index on a module's tuple .. are MtR facts of 06m -/
end
end L2
namespace L2
open PySem PySem.Spec PyProof.Rows
def MtM (X : Cx) (id : String) (r : V → List V → Hp → VK → Prop) : Prop :=
  ∀ (pins : List (Addr × Obj)) (s : Shared) (σ : St) (H : Hp) (x : V) (xs : List V) (v : Value) (us : List Value) (Q : VK), Inv X pins σ H s → RelV x v → Vals xs us → r x xs H Q →
    wpAny (model X.prog X.w) X.A (call (.builtin id) (v :: us)) (EP X pins σ Q) X.xe s
theorem Vals.one : ∀ {x : V} {us : List Value}, Vals [x] us → ∃ u, us = [u] ∧ RelV x u
  | _, _, .cons r .nil => ⟨_, rfl, r⟩
theorem Vals.two : ∀ {x y : V} {us : List Value}, Vals [x, y] us → ∃ u v, us = [u, v] ∧ RelV x u ∧ RelV y v
  | _, _, _, .cons r (.cons q .nil) => ⟨_, _, rfl, r, q⟩
theorem Vals.zero : ∀ {us : List Value}, Vals [] us → us = []
  | _, .nil => rfl
theorem Vals.dropLast {xs : List V} {us : List Value} (h : Vals xs us) : Vals xs.dropLast us.dropLast := by
  induction h with
  | nil => exact .nil
  | cons r t ih =>
    cases t with
    | nil => exact .nil
    | cons q t' => exact .cons r ih
theorem Vals.eraseIdx : ∀ {xs : List V} {us : List Value} (i : Nat), Vals xs us → Vals (xs.eraseIdx i) (us.eraseIdx i)
  | _, _, _, .nil => .nil
  | _, _, 0, .cons _ t => t
  | _, _, i + 1, .cons r t => .cons r (Vals.eraseIdx i t)
theorem Vals.reverse {xs : List V} {us : List Value} (h : Vals xs us) : Vals xs.reverse us.reverse := by
  induction h with
  | nil => exact .nil
  | cons r t ih => rw [List.reverse_cons, List.reverse_cons]; exact Vals.append ih (.cons r .nil)
section
variable {X : Cx} {pins : List (Addr × Obj)} {σ : St} {H : Hp} {s : Shared} {l b : Addr} {xs ys zs : List V}
theorem Inv.lset {its its' : List Value} {n : Nat} {f : Array Value → Array Value} {t' : Nat} (I : Inv X pins σ H s) (hH : H l = some (.lst xs))
    (e : s.heap.get? l = some { cls := .type "list", data := .seq its.toArray n }) (hf : f its.toArray = its'.toArray) (hv : Vals ys its') (hz : ys.length ≤ sizeLine) :
    Inv X pins σ (upd H l (.lst ys)) { s with heap := s.heap.update l (Obj.mapSeq f), toks := t' } := by
  have q := PySem.IsL.update e f
  rw [hf] at q
  refine I.write (x := l) (e := l) (by rw [hH]; exact trivial) (.inl rfl) (fun b' u hb hu => (Heap.get?_update_other s.heap (Obj.mapSeq f) (Ne.symm hb)).trans hu) ⟨_, q⟩ ?_
  exact ⟨hz, its', _, hv, q⟩
theorem Inv.lnew {its : List Value} {t' : Nat} (I : Inv X pins σ H s) (hv : Vals ys its) (hz : ys.length ≤ sizeLine) :
    Inv X pins σ (upd H s.heap.objs.size (.lst ys)) { s with heap := s.heap.push { cls := .type "list", data := .seq its.toArray }, toks := t' } :=
  I.laid (fun _ _ q => Heap.get?_push_of_some _ q) (Nat.le_refl _) ⟨hz, its, 0, hv, Heap.get?_push_size _ rfl⟩
theorem Inv.fresh (I : Inv X pins σ H s) : H s.heap.objs.size = none := I.hok.fresh (Nat.le_refl _)
theorem Inv.lstM (I : Inv X pins σ H s) (hH : H l = some (.lst xs)) : xs.length ≤ sizeLine ∧ ∃ (its : List Value) (n : Nat), Vals xs its ∧ xs.length = its.length ∧ s.heap.get? l = some { cls := .type "list", data := .seq its.toArray n } := by
  obtain ⟨z, its, n, r, e⟩ := I.hok l _ hH
  exact ⟨z, its, n, r, r.length, e⟩
end
section
variable {X : Cx}
def rAppend : V → List V → Hp → VK → Prop := fun x vs H Q => ∃ l xs y, x = .ref l ∧ vs = [y] ∧ H l = some (.lst xs) ∧ xs.length < sizeLine ∧ Q .non (upd H l (.lst (xs ++ [y])))
theorem mt_append : MtM X "list.append" rAppend := by
  intro pins s σ H x vs v us Q I rx rv h
  obtain ⟨l, xs, y, rfl, rfl, hH, hz, q⟩ := h
  cases rx
  obtain ⟨u, rfl, ru⟩ := rv.one
  obtain ⟨z, its, n, r, hl, e⟩ := I.lstM hH
  refine call_meets F.slot_list_append ⟨_, e, rfl⟩ F.entry_list_append (F.args_list_append_2 _ _) (PySem.list_append l its.toArray n u (by rw [List.size_toArray]; (first | lia | omega))) ⟨e, ?_⟩
  refine ⟨.non, _, I.lset (its' := its ++ [u]) hH e (by simp) (r.append (.cons ru .nil)) ?_, rfl, q⟩
  rw [List.length_append, List.length_singleton]
  (first | lia | omega)
def rExtend : V → List V → Hp → VK → Prop := fun x vs H Q => ∃ l b xs zs, x = .ref l ∧ vs = [.ref b] ∧ H l = some (.lst xs) ∧ H b = some (.lst zs) ∧ xs.length + zs.length ≤ sizeLine ∧ Q .non (upd H l (.lst (xs ++ zs)))
def rPop : V → List V → Hp → VK → Prop := fun x vs H Q => ∃ l xs y, x = .ref l ∧ vs = [] ∧ H l = some (.lst xs) ∧ xs[xs.length - 1]? = some y ∧ Q y (upd H l (.lst xs.dropLast))
def rPopAt : V → List V → Hp → VK → Prop := fun x vs H Q => ∃ l xs i k y, x = .ref l ∧ vs = [.int i] ∧ H l = some (.lst xs) ∧ -(2 ^ 63) ≤ i ∧ i < 2 ^ 63 ∧ seqIndex? i xs.length = some k ∧ xs[k]? = some y ∧ Q y (upd H l (.lst (xs.eraseIdx k)))
def rReverse : V → List V → Hp → VK → Prop := fun x vs H Q => ∃ l xs, x = .ref l ∧ vs = [] ∧ H l = some (.lst xs) ∧ Q .non (upd H l (.lst xs.reverse))
theorem mt_reverse : MtM X "list.reverse" rReverse := by
  intro pins s σ H x vs v us Q I rx rv h
  obtain ⟨l, xs, rfl, rfl, hH, q⟩ := h
  cases rx
  have hus := rv.zero
  subst hus
  obtain ⟨z, its, n, r, hl, e⟩ := I.lstM hH
  refine call_meets F.slot_list_reverse ⟨_, e, rfl⟩ F.entry_list_reverse (F.args_list_reverse_1 _) (AutoSeq1.list_reverse_list_0 l its.toArray n (by rw [List.size_toArray]; (first | lia | omega))) ⟨e, ?_⟩
  refine ⟨.non, _, I.lset (its' := its.reverse) hH e (by simp) r.reverse ?_, rfl, q⟩
  rw [List.length_reverse]
  (first | lia | omega)
def rClear : V → List V → Hp → VK → Prop := fun x vs H Q => ∃ l xs, x = .ref l ∧ vs = [] ∧ H l = some (.lst xs) ∧ Q .non (upd H l (.lst []))
def rCat : R2 := fun x y H Q => ∃ l b xs zs, x = .ref l ∧ y = .ref b ∧ H l = some (.lst xs) ∧ H b = some (.lst zs) ∧ xs.length + zs.length ≤ sizeLine ∧ ∀ p, H p = none → Q (.ref p) (upd H p (.lst (xs ++ zs)))
theorem op_cat : OpR X (binaryOp .Add) rCat := by
  intro pins s σ H x y v u Q I rx ry h
  obtain ⟨l, b, xs, zs, rfl, rfl, hH, hB, hz, q⟩ := h
  cases rx
  cases ry
  obtain ⟨z, its, n, r, hl, e⟩ := I.lstM hH
  obtain ⟨z2, its2, n2, r2, hl2, e2⟩ := I.lstM hB
  refine PySem.P.add_list e e2 ?_ (by rw [List.size_toArray, List.size_toArray]; (first | lia | omega))
  have ea : its.toArray ++ its2.toArray = (its ++ its2).toArray := by simp
  rw [ea]
  exact ⟨.ref _, _, I.lnew (t' := s.toks) (r.append r2) (by rw [List.length_append]; (first | lia | omega)), rfl, q _ I.fresh⟩
def rRep : R2 := fun x y H Q => ∃ l k xs, x = .ref l ∧ y = .int k ∧ H l = some (.lst xs) ∧ -(2 ^ 63) ≤ k ∧ k < 2 ^ 63 ∧ xs.length * k.toNat ≤ sizeLine ∧
  ∀ p, H p = none → Q (.ref p) (upd H p (.lst (List.replicate k.toNat xs).flatten))
end
section
variable {prog : Program} {w : World} {A : Around} {E : Value → Shared → Prop} {s : Shared}
end
section
variable {X : Cx}
end
end L2
namespace Att
open PySem PySem.W PySem.Calls PyProof.Rows
theorem ints_of_wellAll {P : Params} {h : Heap} : ∀ (ns : List Int) (vs : List Value), WellAll P h vs (ns.map WData.int) → IntsAre vs ns := by
  intro ns
  induction ns with
  | nil =>
    intro vs w
    rw [List.map_nil] at w
    cases w
    exact .nil
  | cons n ns ih =>
    intro vs w
    rw [List.map_cons] at w
    cases w with
    | cons a b =>
      cases a
      exact .cons _ _ (ih _ b)
theorem script_of {l : OpenLaw} {n : Nat} (hn : l.most = some n) {P : Params} {h : Heap} {args : List WData} {vals : List Value}
    (hpre : l.row.toRowW.claim.pre args = true) (hwl : WellAll P h vals args) :
    ∃ a vs ns, vals = [Value.ref a] ∧ args = [WData.list (ns.map WData.int)] ∧ h.get? a = some { cls := .type "list", data := .seq vs.toArray } ∧ IntsAre vs ns ∧ ns.length ≤ n := by
  have hsh : WShape.hasAll [] args [.list .int] = true := (pre_splitW hpre).1
  have hc : l.pre.holds [] { args := args } = true := (pre_splitW hpre).2
  obtain ⟨d, r, rfl, h1, h2⟩ := hasAllW_cons hsh
  obtain rfl := hasAllW_nil h2
  obtain ⟨xs, rfl, h3⟩ := hasW_list h1
  obtain ⟨ns, rfl⟩ := items_int h3
  have hlen : ns.length ≤ n := by
    unfold OpenLaw.pre at hc
    have h4 : (WTm.not (.lt (.lit (.int (n : Int))) (.len (.arg 0)))).holds [] { args := [.list (ns.map .int)] } = true := by
      have h4 := (holds_andW hc).1
      rw [hn] at h4
      exact h4
    have h5 := condW_of h4 (w_not (w_lt w_lit (w_len_list (w_arg rfl))))
    rw [List.length_map] at h5
    refine Nat.le_of_not_lt fun q => ?_
    have q' : (n : Int) < ((ns.length : Nat) : Int) := by (first | lia | omega)
    first
      | (rw [decide_eq_true q'] at h5; exact absurd h5 (by decide))
      | (simp at h5; (first | lia | omega))
  cases hwl with
  | cons w1 w2 =>
    cases w2
    cases w1 with
    | list ho hall => exact ⟨_, _, ns, rfl, rfl, ho, ints_of_wellAll ns _ hall, hlen⟩
theorem post_true (l : OpenLaw) (args : List WData) : l.row.toRowW.claim.post args (.bool true) args = true :=
  postW_of (r := l.row.toRowW) (X := (true == true))
    (show WShape.has [] (.bool true) .bool = true by first | rfl | decide | simp [WShape.has, WShape.arms, WShape.armsAll])
    (show (WTm.eq .res (.lit (.bool true))).value [] { args := args, res := some (.bool true), after := args } = some (.bool (true == true)) from w_eq_bool (w_res rfl) w_lit) rfl
theorem attach_call {l : OpenLaw} {n : Nat} {q : Program} {loose : List Str} {XP : (Str → Option Value) → Heap → Prop} {YP : World → Heap → Prop} {d : DefRec}
    (hn : l.most = some n) (hdf : d.params.defaults = [])
    (call : ∀ (w : World) (s₀ s₁ : Shared) (mg mb : Str → Option Value) (fa : Addr) (o : Obj) (pm cd doc : Value) (a : Addr) (vs : List Value) (ns : List Int),
      Ground q loose [] XP w s₀ mg mb s₁.heap → YP w s₁.heap →
      s₁.heap.get? fa = some o → o.data = .func (docDef d.name d.params d.body d.scope pm cd doc) → s₁.heap.CodeRec cd d.name → mg d.name = some (.ref fa) →
      s₁.heap.get? a = some { cls := .type "list", data := .seq vs.toArray } → IntsAre vs ns → ns.length ≤ n → s₁.gens = #[] →
      codeAny (model l.prog w) callerA (.call (.ref fa) ⟨[.ref a], []⟩) (fun r s' => r = .ok (.ret (.bool true)) ∧ OldK s₁.heap s'.heap ∧ s'.os = s₁.os ∧ AllBare s'.gens) s₁) :
    WalkO q loose XP YP l.row.toRowW d [] (fun f vs => PySem.call f vs) := by
  intro w s₀ s₁ mg mb G Y fa o pm cd doc dV kV ho hd hcd hD hmg hg args vals as hpre hlay hrd hwl hlo
  obtain rfl : dV = .none := Dflts.none hD hdf
  obtain rfl : kV = .none := Dflts.noKw hD
  obtain ⟨a, vs, ns, rfl, rfl, hobj, hints, hlen⟩ := script_of hn hpre hwl
  refine enter_call (codeAny_mono (call w s₀ s₁ mg mb fa o pm cd doc a vs ns G Y ho (fd_plain hd) hcd hmg hobj hints hlen hg) fun r s' hq => ?_)
  obtain ⟨rfl, h2, h3, h4⟩ := hq
  exact ⟨.inl ⟨.bool true, .bool true, [], rfl, fun _ => rfl, .bool true, post_true l _, fun _ => ⟨List.Pairwise.nil, fun _ hm => (nomatch hm)⟩⟩, h2, h3, h4⟩
section
variable {prog : Program} {w : World} {A : Around} {E : Value → Shared → Prop} {s : Shared} {K : Frag}
def noObjs (h : Heap) : Heap := { h with objs := #[] }
def ledger (h : Heap) (L d : Addr) : List (Addr × Obj) := (List.range h.objs.size).filterMap fun a => if a = L ∨ a = d then none else (h.get? a).map fun o => (a, o)
end
end Att
namespace L2
open PySem PySem.Spec PyProof.Rows
theorem vals_ints : ∀ {vs : List Value} {ns : List Int}, IntsAre vs ns → Vals (ns.map V.int) vs
  | _, _, .nil => .nil
  | _, _, .cons n t h => .cons ⟨t, rfl⟩ (vals_ints h)
def Only (H : Hp) : Prop := ∀ b, H b = none ∨ ∃ o xs, H b = some (.frz o (.lst xs))
theorem law_call {P : Program} {w : World} {K : PySem.W.Frag} {mg mb : Str → Option Value} {CX : CXT} {k : Nat} {fa a : Addr} {fd : FuncData} {x : Str} {sp : Sp} {s₁ : Shared} {vs : List Value} {ns : List Int}
    (KX : K.In s₁.heap) (hns : s₁.heap.Ns mainGlobals mg) (hb : s₁.heap.Ns builtinsNs mb) (hbb : ∀ x : Str, x ≠ "__name__" → mb x = bootBuiltins x) (hlim : s₁.heap.NoLimit) (hg : s₁.gens = #[])
    (ha : s₁.heap.get? a = some { cls := .type "list", data := .seq vs.toArray }) (hi : IntsAre vs ns) (hl : ns.length ≤ sizeLine) (hr : Room k callerA)
    (F : ∀ base : Heap, K.In base → base.Ns mainGlobals mg → FnOk P w K mg base CX k fa fd [x] sp) (hbind : ∀ (s : Shared) (u : Value), BindsTo s fd ⟨[u], []⟩ [(x, u)])
    (hsp : ∀ H : Hp, Only H → SqL K H a (ns.map V.int) → sp [.ref a] H (fun v _ => v = .bl true) fun _ _ _ => False)
    (hCX : ∀ H e s', CX [] H s₁ (fun _ _ _ => False) e s' → False) :
    codeAny (model P w) callerA (.call (.ref fa) ⟨[.ref a], []⟩) (fun r s' => r = .ok (.ret (.bool true)) ∧ OldK s₁.heap s'.heap ∧ s'.os = s₁.os ∧ AllBare s'.gens) s₁ := by
  have rv := vals_ints hi
  have lenV := hi.length
  have core : ∀ H : Hp, Only H → SqL K H a (ns.map V.int) → HOk P w H s₁.heap → (∀ b, H b ≠ none → b = a) → (H a ≠ none → K.lookup a = none) →
      codeAny (model P w) callerA (.call (.ref fa) ⟨[.ref a], []⟩) (fun r s' => r = .ok (.ret (.bool true)) ∧ OldK s₁.heap s'.heap ∧ s'.os = s₁.os ∧ AllBare s'.gens) s₁ := by
    intro H hO hS hok hA hK
    have base_of : ∀ {b : Addr} {o : Obj}, s₁.heap.get? b = some o → H b = none → (hidT s₁.heap H).get? b = some o := fun e n => hidT_get e n
    have noA : ∀ {b : Addr} {o : Obj} {es : Array DictEntry} {ep : Nat}, s₁.heap.get? b = some o → o.data = .dict es ep → H b = none := fun {b o es ep} e d => by
      cases q : H b with
      | none => rfl
      | some u =>
        have e' : b = a := hA b (by rw [q]; simp)
        subst e'
        rw [ha] at e; cases e
        have d' : Data.seq vs.toArray _ = Data.dict es ep := d
        cases d'
    have nsK : ∀ {b : Addr} {m : Str → Option Value}, s₁.heap.Ns b m → (hidT s₁.heap H).Ns b m := fun {b m} ⟨o, es, ep, e, d, r⟩ => ⟨o, es, ep, base_of e (noA e d), d, r⟩
    have hKb : K.In (hidT s₁.heap H) := fun b o e => base_of (KX b o e) (by
      cases q : H b with
      | none => rfl
      | some u =>
        have e' : b = a := hA b (by rw [q]; simp)
        subst e'
        rw [hK (by rw [q]; simp)] at e; cases e)
    have hM : Mod K mg (hidT s₁.heap H) := ⟨hKb, nsK hns, ⟨mb, nsK hb, hbb⟩, let ⟨mc, h1, h2⟩ := hlim; ⟨mc, nsK h1, h2⟩⟩
    have e0 : Env0 P w K mg (hidT s₁.heap H) callerA [] s₁ H := ⟨rfl, hM, fun b o e => of_hidT e, Nat.le_of_eq (hidT_size _ _), trivial, fun b hb => absurd (show b ∈ ([] : List Addr) from hb) (by simp), hok, .of_eq hg⟩
    refine codeAny_mono ((F _ hKb (nsK hns)).run callerA [] s₁ H ⟨[.ref a], []⟩ [.ref a] [.ref a] _ _ hr e0 (hbind s₁ (.ref a)) (.cons rfl .nil) (hsp H hO hS)) fun r s' h => ?_
    cases r with
    | error e => exact (hCX H e s' h).elim
    | ok fl =>
      cases fl with
      | next => exact False.elim h
      | brk => exact False.elim h
      | cont => exact False.elim h
      | ret u =>
        obtain ⟨v, H', os, bare, un, hok', r', q⟩ := h
        have q' : v = .bl true := q
        subst q'
        obtain rfl : u = Value.bool true := r'
        refine ⟨rfl, OldK.of_keep fun b o e => ?_, os, bare⟩
        cases q : H b with
        | none => exact un.keep b o e q (by intro z; exact absurd (show b ∈ ([] : List Addr) from z) (by simp)) (by simp)
        | some u =>
          rcases hO b with z | ⟨ob, xs, z⟩
          · rw [q] at z; cases z
          · have z2 := un.frzs b ob _ z
            obtain ⟨e1, _⟩ := hok b _ z
            obtain ⟨e2, _⟩ := hok' b _ z2
            rw [e] at e1; cases e1
            exact e2
  cases hk : K.lookup a with
  | some o =>
    have e := KX a o hk
    rw [ha] at e
    cases e
    refine core (fun _ => none) (fun _ => .inl rfl) (.inr ⟨_, vs.toArray, _, hk, rfl, rfl, rfl, by rw [List.size_toArray, lenV]; exact hl, by simpa using rv⟩) (fun b u z => by have z' : (none : Option HO) = some u := z; cases z') (fun b z => absurd rfl z) fun z => absurd rfl z
  | none =>
    refine core (fun b => if b = a then some (.frz { cls := .type "list", data := .seq vs.toArray } (.lst (ns.map V.int))) else none) (fun b => ?_) (.inl (.inr ⟨{ cls := .type "list", data := .seq vs.toArray }, if_pos rfl⟩)) (fun b u z => ?_) (fun b z => ?_) fun _ => hk
    · by_cases hb : b = a
      · exact .inr ⟨_, _, if_pos hb⟩
      · exact .inl (if_neg hb)
    · by_cases hb : b = a
      · have z' := (if_pos hb).symm.trans z
        cases z'
        subst hb
        exact ⟨ha, by rw [List.length_map]; exact hl, vs, _, rv, ha⟩
      · have z' := (if_neg hb).symm.trans z
        cases z'
    · by_cases hb : b = a
      · exact hb
      · exact absurd (if_neg hb) z
end L2
namespace L2
open PySem PySem.Spec PyProof.Rows
abbrev KOf {K : PySem.W.Frag} {h : Heap} (_ : K.In h) : PySem.W.Frag := K
theorem walk_of {l : PySem.W.OpenLaw} {n k : Nat} {q : Program} {loose : List Str} {XP : (Str → Option Value) → Heap → Prop} {YP : World → Heap → Prop} {d : DefRec} {K : Params → PySem.W.Frag} {CX : World → CXT} {sp : World → Sp} {x : Str}
    (hn : l.most = some n) (hn2 : n ≤ sizeLine) (hdf : d.params.defaults = []) (hr : Room k callerA)
    (hY : ∀ (w : World) (h : Heap), YP w h → (K w.params).In h)
    (F : ∀ (w : World) (mg : Str → Option Value) (fa : Addr) (h : Heap), (K w.params).In h → h.Ns mainGlobals mg → mg d.name = some (.ref fa) →
      ∃ fd : FuncData, (∀ (s : Shared) (u : Value), BindsTo s fd ⟨[u], []⟩ [(x, u)]) ∧
        ∀ base : Heap, (K w.params).In base → base.Ns mainGlobals mg → FnOk l.prog w (K w.params) mg base (CX w) k fa fd [x] (sp w))
    (hsp : ∀ (w : World) (H : Hp) (a : Addr) (ns : List Int), ns.length ≤ n → Only H → SqL (K w.params) H a (ns.map V.int) → sp w [.ref a] H (fun v _ => v = .bl true) fun _ _ _ => False)
    (hCX : ∀ (w : World) (H : Hp) (s : Shared) (e : Value) (s' : Shared), CX w [] H s (fun _ _ _ => False) e s' → False) :
    PySem.W.WalkO q loose XP YP l.row.toRowW d [] (fun f vs => PySem.call f vs) := by
  refine Att.attach_call hn hdf fun w s₀ s₁ mg mb fa o pm cd doc a vs ns G Y ho hd hcd hmg hobj hints hlen hg => ?_
  have KX := hY w _ Y
  obtain ⟨fd, hb, hF⟩ := F w mg fa _ KX G.T.g hmg
  exact law_call KX G.T.g G.T.b G.T.builtins G.T.nolimit hg hobj hints (Nat.le_trans hlen hn2) hr hF hb (fun H hO hS => hsp w H a ns hlen hO hS) fun H e s' => hCX w H s₁ e s'
end L2
/- THE LAST THEOREM (shape; LID, My.* are yours):
   My.Adr: a structure of the addresses that your layer names (classes, functions); My.Txt K t: a structure (Prop) of the equations over K;
   My.txt_mk : {K} {implicit addresses ..} (e1 : nsIn K mainGlobals "law" = some (some (.ref f))) (e2 : K.lookup f = some ⟨oc, od, .func (fnOf "law" "law" params body scope dV kV doc pm an cdv ct), sl⟩) (e3 : codeIn K cdv "law" = true) .. : ∃ t, My.Txt K t
set_option maxRecDepth 100000 in
set_option maxHeartbeats 0 in
theorem PySem.Challenge.cw_LID_holds : PySem.Challenge.rw_LID.Holds := by
  w_on; o_law; k_head; (case hw => w_witness2)
  k_fill
  refine L2.walk_of (l := PySem.Challenge.rw_LID) (n := 63) (k := 40) (x := "script") (CX := fun w => ..) (sp := fun _ => My.sp_law) rfl (by decide) rfl ⟨rfl, by decide, by decide⟩ (fun w h Y => PySem.W.kIn_of Y) ?F ?S ?C
  case F =>
    intro w mg fa h KX G hmg
    have T : ∃ t, My.Txt (L2.KOf KX) t := by
      dsimp only [L2.KOf]                          -- K must stand as «<heap const> w.params» for k_is
      refine' My.txt_mk ?e1 ?e2 ?e3 ..
      (case e1 => PySem.W.k_is)                    -- in the order: a name -> its address -> its object -> its parts
      (case e2 => PySem.W.k_is)
      ..
    obtain ⟨t, T⟩ := T
    have e0 := hmg.symm.trans (PySem.W.mg_of KX G T.law)
    cases e0                                       -- fa is the law's own address
    exact ⟨_, fun s u => .of_eq rfl, fun base kb nb => My.law_fn T kb nb⟩     -- if «.of_eq rfl» comes too early: refine' ⟨_, ?b, fun base kb nb => My.law_fn T kb nb⟩; exact fun s u => .of_eq rfl
  case S => exact fun w H a ns hl hO hS => ..
  case C => exact ..
(the tactic k_is has no namespace: write k_is) -/
namespace L2
open PySem PySem.Spec PyProof.Rows
def inClass (s : Stmt) (j : Nat) : Stmt := match s with
  | .ClassDef _ _ _ body _ _ _ _ _ _ _ => body.getD j (.Pass ⟨0, 0, 0, 0⟩)
  | _ => .Pass ⟨0, 0, 0, 0⟩
def defArgs (s : Stmt) : Arguments := match s with
  | .FunctionDef _ a _ _ _ _ _ _ _ _ => a
  | _ => { posonlyargs := [], args := [], vararg := none, kwonlyargs := [], kw_defaults := [], kwarg := none, defaults := [] }
def defBody (s : Stmt) : List Stmt := match s with
  | .FunctionDef _ _ b _ _ _ _ _ _ _ => b
  | _ => []
def defScope (s : Stmt) : Scope := match s with
  | .FunctionDef _ _ _ _ _ _ sc _ _ _ => sc
  | _ => { kind := .function, names := [], isGenerator := false, isCoroutine := false }
abbrev CX0 : CXT := fun _ _ _ _ _ _ => False
abbrev E0 : XK := fun _ _ _ => False
theorem pass0 {X : Cx} : Passes CX0 X E0 := fun _ _ _ _ _ _ _ h => h.elim
structure Fun (K : PySem.W.Frag) (x qual : Str) (st : Stmt) (f : Addr) (fd : FuncData) : Prop where
  ex : ∃ (oc : Value) (od : Option Addr) (kV doc pm : Value) (an : Option Addr) (cdv ct : Value) (osl : Array (Option Value)),
    fd = PySem.W.fnOf x qual (defArgs st) (defBody st) (defScope st) .none kV doc pm an cdv ct ∧ K.lookup f = some ⟨oc, od, .func fd, osl⟩ ∧ PySem.W.codeIn K cdv qual = true
  kp : PySem.W.keepIn K (.ref f) = true
section
variable {P : Program} {w : World} {K : PySem.W.Frag} {mg : Str → Option Value} {base : Heap}
theorem Fun.ok {x qual : Str} {st : Stmt} {f : Addr} {fd : FuncData} {N ps : List Str} {k : Nat} {sp : Sp} (F : Fun K x qual st f fd) (S : FnScope N ps (defScope st)) (len : ∀ vs H Q E, sp vs H Q E → vs.length = ps.length)
    (hbody : ∀ (cdv : Value) (A : Around) (outer : List Env) (s : Shared) (H : Hp) (vs : List V) (Q : VK) (E : XK), Room k (A.deeper (envOfC qual (defScope st) s.heap.objs.size f cdv)) → sp vs H Q E →
      ∃ t, PSs (cxOf CX0 P w K mg base N qual (defScope st) f cdv A outer s H E).nox (defBody st) t ∧ t { nx := fun _ H' => Q .non H', rt := Q } (start N vs) H) : FnOk P w K mg base CX0 (k + 1) f fd ps sp := by
  obtain ⟨oc, od, kV, doc, pm, an, cdv, ct, osl, rfl, lk, hcd⟩ := F.ex
  refine fn_of lk hcd S len fun A outer s H vs Q E hr hsp => ?_
  obtain ⟨t, h, q⟩ := hbody cdv A outer s H vs Q E hr hsp
  exact ⟨t, h.nox, q⟩
theorem Fun.binds {x qual : Str} {st : Stmt} {f : Addr} {fd : FuncData} {ps : List Str} (F : Fun K x qual st f fd)
    (h : ∀ (kV doc pm : Value) (an : Option Addr) (cdv ct : Value) (us : List Value), us.length = ps.length → bindArgs (PySem.W.fnOf x qual (defArgs st) (defBody st) (defScope st) .none kV doc pm an cdv ct) ⟨us, []⟩ = pure (ps.zip us)) : Binds K fd ps [] := by
  obtain ⟨oc, od, kV, doc, pm, an, cdv, ct, osl, rfl, lk, hcd⟩ := F.ex
  exact .all (h kV doc pm an cdv ct)
theorem fun_mk {x qual : Str} {st : Stmt} {f : Addr} {oc : Value} {od an : Option Addr} {osl : Array (Option Value)} {kV doc pm cdv ct : Value} (l : K.lookup f = some ⟨oc, od, .func (PySem.W.fnOf x qual (defArgs st) (defBody st) (defScope st) .none kV doc pm an cdv ct), osl⟩)
    (c : PySem.W.codeIn K cdv qual = true) (k : PySem.W.keepIn K (.ref f) = true) : Fun K x qual st f (PySem.W.fnOf x qual (defArgs st) (defBody st) (defScope st) .none kV doc pm an cdv ct) := ⟨⟨oc, od, kV, doc, pm, an, cdv, ct, osl, rfl, l, c⟩, k⟩
end
theorem small1000 {n : Nat} (h : n ≤ 1000) : n < sizeLine := Nat.lt_of_le_of_lt h (by decide)
section
variable {X : Cx}
theorem pv (i : Nat) {x : Str} {pos : Pos} (hN : X.N[i]? = some x := by rfl) (hv : Vis X.env.scope x := by first | exact Or.inl rfl | exact Or.inr (Or.inl rfl) | exact Or.inr (Or.inr rfl)) (hd : (x == ("__debug__" : Str)) = false := by decide)
    (hcd : (x == ("__classdict__" : Str)) = false := by decide) : PE X (.Name x pos) (tVar i) := pe_var hN hv hd hcd
end
theorem iteF {A B : Prop} (h : B) : if false = true then A else B := by
  rw [if_neg Bool.false_ne_true]
  exact h
theorem iteT {A B : Prop} (h : A) : if true = true then A else B := by
  rw [if_pos rfl]
  exact h
theorem ite2 {c A B : Prop} [Decidable c] (h1 : c → A) (h2 : ¬ c → B) : if c then A else B := by
  by_cases h : c
  · rw [if_pos h]
    exact h1 h
  · rw [if_neg h]
    exact h2 h
def Same (H H' : Hp) : Prop := ∀ b o, H b = some o → H' b = some o
theorem Same.refl (H : Hp) : Same H H := fun _ _ h => h
theorem Same.trans {H H1 H2 : Hp} (a : Same H H1) (b : Same H1 H2) : Same H H2 := fun c o h => b c o (a c o h)
theorem Same.free {H H' : Hp} (e : Same H H') {l : Addr} (h : H' l = Option.none) : H l = Option.none := by
  cases q : H l with
  | none => rfl
  | some o =>
    rw [e l o q] at h
    cases h
theorem Same.seq {K : PySem.W.Frag} {H H' : Hp} {a : Addr} {xs : List V} (e : Same H H') (h : SqL K H a xs) : SqL K H' a xs := by
  rcases h with (h | ⟨o, h⟩) | h
  · exact .inl (.inl (e _ _ h))
  · exact .inl (.inr ⟨o, e _ _ h⟩)
  · exact .inr h
end L2
set_option Elab.async false
set_option linter.all false
set_option maxRecDepth 100000
set_option maxHeartbeats 4000000
namespace L2
open PySem PySem.Spec PyProof.Rows
def closOf (env : Env) : List (Str × NameKind) → List (Str × Addr) → List (Str × Addr)
  | [], cs => cs
  | (n, k) :: r, cs => closOf env r (if k == .free then (n, (env.cells.lookup n).getD 0) :: cs else cs)
theorem clos_eq {env : Env} {sc : Scope} (h : ∀ y ∈ sc.names, y.2 = .free → ∃ c, env.cells.lookup y.1 = some c) : closureFor sc env = pure (closOf env sc.names []) := by
  have go : ∀ (l : List (Str × NameKind)) (cs : List (Str × Addr)), (∀ y ∈ l, y.2 = .free → ∃ c, env.cells.lookup y.1 = some c) →
      (forIn l cs fun (x : Str × NameKind) (r : List (Str × Addr)) => match x with
        | (name, kind) => if (kind == NameKind.free) = true then do let a ← cellOf env name; pure (ForInStep.yield ((name, a) :: r)) else pure (ForInStep.yield r) : Sem (List (Str × Addr))) = pure (closOf env l cs) := by
    intro l
    induction l with
    | nil => intro cs _; rfl
    | cons y r ih =>
      obtain ⟨n, k⟩ := y
      intro cs hy
      have ih' := fun cs => ih cs fun z hz => hy z (List.mem_cons_of_mem _ hz)
      rw [List.forIn_cons]
      by_cases hk : (k == NameKind.free) = true
      · obtain ⟨c, hc⟩ := hy (n, k) List.mem_cons_self (by simpa using hk)
        have hc' : env.cells.lookup n = some c := hc
        simp only [hk, if_true, cellOf, hc', pure_bind, closOf, Option.getD_some]
        exact ih' _
      · simp only [hk, if_false, pure_bind, closOf]
        exact ih' _
  unfold closureFor
  refine Eq.trans ?_ (go sc.names [] h)
  simp only [bind_pure]
theorem clos_sub {env : Env} : ∀ (l : List (Str × NameKind)) (cs : List (Str × Addr)), (∀ y ∈ l, y.2 = .free → ∃ c, env.cells.lookup y.1 = some c) → (∀ x c, cs.lookup x = some c → env.cells.lookup x = some c) →
    ∀ x c, (closOf env l cs).lookup x = some c → env.cells.lookup x = some c
  | [], _, _, h, x, c, e => h x c e
  | (n, k) :: r, cs, hy, h, x, c, e => by
    refine clos_sub r _ (fun z hz => hy z (List.mem_cons_of_mem _ hz)) ?_ x c e
    intro x c e
    split at e
    · rename_i hk
      obtain ⟨d, hd⟩ := hy (n, k) List.mem_cons_self (by simpa using hk)
      have hd' : env.cells.lookup n = some d := hd
      rw [List.lookup_cons] at e
      split at e
      · rename_i hx
        have hx' : x = n := by simpa using hx
        subst hx'
        rw [hd'] at e ⊢
        simpa using e
      · exact h x c e
    · exact h x c e
theorem clos_has {env : Env} : ∀ (l : List (Str × NameKind)) (cs : List (Str × Addr)) (x : Str), ((x, NameKind.free) ∈ l ∨ ∃ c, cs.lookup x = some c) → ∃ c, (closOf env l cs).lookup x = some c
  | [], cs, x, h => by
    rcases h with h | h
    · cases h
    · exact h
  | (n, k) :: r, cs, x, h => by
    refine clos_has r _ x ?_
    rcases h with h | ⟨c, h⟩
    · rcases List.mem_cons.mp h with e | e
      · injection e with e1 e2
        subst e1 e2
        exact .inr ⟨(env.cells.lookup x).getD 0, by simp⟩
      · exact .inl e
    · refine .inr ?_
      split
      · rw [List.lookup_cons]
        split
        · exact ⟨_, rfl⟩
        · exact ⟨c, h⟩
      · exact ⟨c, h⟩
structure CScope (N XN : List Str) (xsc sc : Scope) (L : Nat) (ix : List Nat) : Prop where
  kind : sc.kind = .function
  nd : N.Nodup
  nocell : ∀ y ∈ sc.names, y.2 ≠ .cell
  locs : ∀ y ∈ sc.names, y.2 = .local → sc.names.lookup y.1 = some .local
  frees : ∀ y ∈ sc.names, y.2 = .free → xsc.names.lookup y.1 = some .cell
  fr : ∀ y ∈ (N.drop L).zip ix, sc.names.lookup y.1 = some .free ∧ XN[y.2]? = some y.1
  len : L + ix.length = N.length
def cst (L : Nat) (ix : List Nat) (σ : St) : St := List.replicate L none ++ ix.map fun i => σ.getD i none
def cxComp (X : Cx) (N : List Str) (sc : Scope) (C : Addr) (s₀ : Shared) (H₀ : Hp) (fp : List Addr) : Cx :=
  { X with N := N, s₀ := s₀, H₀ := H₀, env := compEnvC sc (closOf X.env sc.names []) C X.env, outer := X.stack, stack := X.stack, ex := fp, fn := fun _ => false, pn := [], xe := fun _ _ => False }
theorem relabel_kind {sc : Scope} {env : Env} {x : Str} (hn : ∀ y ∈ sc.names, y.2 ≠ .cell) (h : (relabel sc env).names.lookup x = some .cell ∨ (relabel sc env).names.lookup x = some .free) : (x, NameKind.free) ∈ sc.names := by
  have main : ∀ k, (k = NameKind.cell ∨ k = NameKind.free) → (relabel sc env).names.lookup x = some k → (x, NameKind.free) ∈ sc.names := fun k hk e => by
    have m := PySem.mem_of_lookup e
    obtain ⟨⟨n, k'⟩, hm, e'⟩ := List.mem_map.mp m
    dsimp only at e'
    split at e'
    · rename_i hc
      injection e' with e1 e2
      have : k' = NameKind.free := by
        simp only [Bool.and_eq_true, beq_iff_eq] at hc
        exact hc.1.1
      subst this e1
      exact hm
    · injection e' with e1 e2
      subst e1
      rcases hk with z | z
      · exact absurd (e2.trans z) (hn _ hm)
      · rw [e2, z] at hm; exact hm
  rcases h with h | h
  · exact main _ (.inl rfl) h
  · exact main _ (.inr rfl) h
theorem relabel_free {sc : Scope} {env : Env} : ∀ {x : Str}, sc.names.lookup x = some .free → (relabel sc env).names.lookup x = some .cell ∨ (relabel sc env).names.lookup x = some .free := by
  have go : ∀ (l : List (Str × NameKind)) (x : Str), l.lookup x = some .free →
      (l.map fun (n, k) => if (k == NameKind.free && env.scope.kind == .function && env.kindOf n == some .cell) then (n, NameKind.cell) else (n, k)).lookup x = some .cell ∨
      (l.map fun (n, k) => if (k == NameKind.free && env.scope.kind == .function && env.kindOf n == some .cell) then (n, NameKind.cell) else (n, k)).lookup x = some .free := by
    intro l
    induction l with
    | nil => intro x h; simp at h
    | cons y r ih =>
      obtain ⟨n, k⟩ := y
      intro x h
      rw [List.lookup_cons] at h
      rw [List.map_cons]
      cases hx : x == n with
      | true =>
        rw [hx] at h
        cases h
        dsimp only
        split
        · left; rw [List.lookup_cons, hx]
        · right; rw [List.lookup_cons, hx]
      | false =>
        rw [hx] at h
        have ih' := ih x h
        dsimp only
        split
        · rw [List.lookup_cons, hx]; exact ih'
        · rw [List.lookup_cons, hx]; exact ih'
  intro x h
  exact go sc.names x h
def PTs (X : Cx) (ifs : List Expr) (t : TT) : Prop :=
  ∀ (pins : List (Addr × Obj)) (s : Shared) (σ : St) (H : Hp) (Q : Bool → Hp → Prop), Inv X pins σ H s → t σ H Q →
    wpAny (model X.prog X.w) X.A (forIn ifs true fun c r => if r = true then do let ok ← isTrue c X.env (eval c X.env); pure (ForInStep.yield ok) else pure (ForInStep.yield r)) (TP X pins σ Q) X.xe s
def tYes : TT := fun _ H Q => Q true H
theorem yesT {σ : St} {H : Hp} {Q : Bool → Hp → Prop} (h : Q true H) : tYes σ H Q := h
theorem nameT {i : Nat} {v : V} {σ : St} {H : Hp} {Q : St → Hp → Prop} (h : Q (σ.set i (some v)) H) : gName i v σ H Q := h
theorem pts_nil {X : Cx} : PTs X [] tYes := fun pins s σ H Q I h => wpAny_tests_nil ⟨H, I, h⟩
theorem pts_one {X : Cx} {c : Expr} {t : TT} (h : PT X c t) : PTs X [c] t := fun pins s σ H Q I hw => wpAny_tests_one (h pins s σ H Q I hw)
section
variable {prog : Program} {w : World} {A : Around} {R : Result → Shared → Prop} {s : Shared}
theorem compLoop_go {elt target iter : Expr} {ifs : List Expr} {scope : Scope} {pos : Pos} {it acc : Value} {env : Env} (I : Nat → Shared → Prop)
    (turn : ∀ n s, I n s → wpAny (model prog w) A (pyNext it) (fun r s₁ => match r with
      | none => R (.ok .next) s₁
      | some v => wpAny (model prog w) A (letOwnedTupleGo target it v) (fun _ s₁ => wpAny (model prog w) A (assign target env v) (fun _ s₂ =>
          wpAny (model prog w) A (forIn ifs true fun c r => if r = true then do let ok ← isTrue c env (eval c env); pure (ForInStep.yield ok) else pure (ForInStep.yield r)) (fun ok s₃ =>
            if ok = true then wpAny (model prog w) A (eval elt env) (fun x s₄ =>
              wpAny (model prog w) A (call (.builtin "list.append") [acc, x]) (fun _ s₅ => ∃ m, m < n ∧ I m s₅) (fun _ _ => False) s₄) (fun _ _ => False) s₃
            else ∃ m, m < n ∧ I m s₃) (fun _ _ => False) s₂) (fun _ _ => False) s₁) (fun _ _ => False) s₁) (fun _ _ => False) s)
    (n : Nat) (h : I n s) : codeAny (model prog w) A (.compLoop (.ListComp elt [⟨target, iter, ifs, 0⟩] scope pos) 0 it acc env) R s := by
  refine codeAny_loop rfl I (fun n s hI => ?_) n h
  show wpAny _ A ((compTurn (.ListComp elt [⟨target, iter, ifs, 0⟩] scope pos) 0 it acc env).onRaise (fun x => do noteFrame x env; theTreesLotGoes x)) _ _ s
  refine wpAny_noted ?_
  rw [compTurn_list]
  refine wpAny_bind (wpAny_standAt (wpAny_bind (wpAny_mono (turn n s hI) (fun r s₁ h₁ => ?_) fun _ _ z => z.elim)))
  cases r with
  | none => exact wpAny_pure h₁
  | some v =>
    refine wpAny_bind (wpAny_mono h₁ (fun _ s₁' h₁' => ?_) fun _ _ z => z.elim)
    refine wpAny_bind (wpAny_mono h₁' (fun _ s₂ h₂ => wpAny_bind (wpAny_mono h₂ (fun ok s₃ h₃ => ?_) fun _ _ z => z.elim)) fun _ _ z => z.elim)
    cases ok with
    | false => exact wpAny_pure ⟨rfl, h₃⟩
    | true =>
      exact wpAny_bind (wpAny_bind (wpAny_mono h₃ (fun x s₄ h₄ => wpAny_bind (wpAny_mono h₄ (fun _ s₅ h₅ => wpAny_pure (wpAny_pure ⟨rfl, h₅⟩)) fun _ _ z => z.elim)) fun _ _ z => z.elim))
end
section
variable {X : Cx} {pins : List (Addr × Obj)} {σ : St} {H : Hp} {s : Shared}
theorem Inv.comp {N : List Str} {sc : Scope} {L : Nat} {ix : List Nat} {fp : List Addr} {h' : Heap} {m : Str → Option Value} {t' : Nat} (S : CScope N X.N X.env.scope sc L ix) (I : Inv X pins σ H s)
    (hf : ∀ b ∈ fp, FpOk X pins H b ∧ b < s.heap.objs.size) (hns : h'.Ns s.heap.objs.size m) (hk : ∀ b o, s.heap.get? b = some o → h'.get? b = some o) :
    Inv (cxComp X N sc s.heap.objs.size s H fp) [] (cst L ix σ) H { s with heap := h', toks := t' } := by
  have hcl : ∀ y ∈ sc.names, y.2 = .free → ∃ c, X.env.cells.lookup y.1 = some c := fun y hy e => I.ok.has y.1 (.inl (S.frees y hy e))
  have sub : ∀ x c, (closOf X.env sc.names []).lookup x = some c → X.env.cells.lookup x = some c := clos_sub sc.names [] hcl (fun x c e => by simp at e)
  refine ⟨⟨I.ok.mod, S.kind, I.ok.glob, I.ok.blt, Nat.le_refl _, fun x y c e1 e2 => I.ok.inj x y c (sub _ _ e1) (sub _ _ e2), fun x hx => ?_, (fun _ _ e _ => absurd (show false = true from e) (by decide)), I.ok.hd, I.ok.frames, .inl rfl,
    fun b hb => ⟨Nat.ne_of_lt (hf b hb).2, fun x c e => (hf b hb).1.2.2.2.2.1 x c (sub _ _ e)⟩, I.bs, Nat.le_trans I.ok.bsz I.sz, fun b o e hb => ?_, fun b hb hs => ?_, I.stack, I.stkFree⟩,
    rfl, I.bare, Un.kept hk, ⟨m, hns, fun i x v e1 e2 e3 => ?_⟩, fun x c e => ?_, I.hok.fresh (Nat.le_refl _), fun x c e => I.freeC x c (sub _ _ e), fun p hp => absurd (show p ∈ ([] : List (Addr × Obj)) from hp) (by simp), I.hok.kept hk, ?_⟩
  · have hx' : (relabel sc X.env).names.lookup x = some .cell ∨ (relabel sc X.env).names.lookup x = some .free := hx
    exact clos_has sc.names [] x (.inl (relabel_kind S.nocell hx'))
  · rcases (hf b hb).1.2.2.2.1 with z | z
    · exact I.ok.noex b o e z
    · exact absurd (Nat.lt_of_lt_of_le (Heap.lt_size e) (Nat.le_trans I.ok.bsz z)) (Nat.lt_irrefl _)
  · rcases List.mem_cons.mp (I.stkSub b hs) with z | z
    · exact (hf b hb).1.2.1 z
    · exact (hf b hb).1.2.2.1 z
  · -- the free names' values
    have e1' : N[i]? = some x := e1
    have hlen := S.len
    have hiN : i < N.length := (List.getElem?_eq_some_iff.mp e1').1
    have hiL : L ≤ i := by
      rcases Nat.lt_or_ge i L with z | z
      · unfold cst at e2
        rw [List.getElem?_append_left (by simpa using z), List.getElem?_replicate] at e2
        split at e2 <;> cases e2
      · exact z
    unfold cst at e2
    rw [List.getElem?_append_right (by simpa using hiL), List.length_replicate, List.getElem?_map] at e2
    cases hj : ix[i - L]? with
    | none => rw [hj] at e2; cases e2
    | some j =>
      rw [hj] at e2
      have e2' : σ.getD j none = some v := by simpa using e2
      have hσ : σ[j]? = some (some v) := by
        rw [List.getD_eq_getElem?_getD] at e2'
        cases hh : σ[j]? with
        | none => rw [hh] at e2'; cases e2'
        | some o => rw [hh] at e2'; simp at e2'; rw [e2']
      have hd : (N.drop L)[i - L]? = some x := by rw [List.getElem?_drop]; rw [show L + (i - L) = i by (first | lia | omega)]; exact e1'
      have hz : ((N.drop L).zip ix)[i - L]? = some (x, j) := by rw [List.getElem?_zip_eq_some]; exact ⟨hd, hj⟩
      obtain ⟨f1, f2⟩ := S.fr (x, j) (List.mem_of_getElem? hz)
      have hxf : (x, NameKind.free) ∈ sc.names := PySem.mem_of_lookup f1
      have hxc : X.env.scope.names.lookup x = some .cell := S.frees _ hxf rfl
      obtain ⟨mx, hnx, hl⟩ := I.loc
      obtain ⟨u, ru, lk⟩ := hl j x v f2 hσ (.inr (.inl hxc))
      refine ⟨u, ru, ?_⟩
      rcases lk with ⟨z, _⟩ | ⟨_, c, ec, ic⟩
      · have z' : X.env.scope.names.lookup x = some .local := z
        rw [hxc] at z'; cases z'
      · obtain ⟨c', ec'⟩ := clos_has (env := X.env) sc.names [] x (.inl hxf)
        have : X.env.cells.lookup x = some c' := sub _ _ ec'
        rw [ec] at this; cases this
        refine .inr ⟨relabel_free f1, c, ec', ?_⟩
        obtain ⟨o, ho, hd⟩ := ic
        exact ⟨o, hk _ _ ho, hd⟩
  · obtain ⟨v, o, ho, hd⟩ := I.cell x c (sub _ _ e)
    exact ⟨v, o, hk _ _ ho, hd⟩
  · unfold cst
    rw [List.length_append, List.length_replicate, List.length_map]
    exact S.len
end
def CompWalk (J : It) (L : Nat) (ix : List Nat) (g : TG) (tc : TT) (te : TE) (σ : St) (H1 : Hp) (Q : VK) : Prop :=
  ∀ D, H1 D = none → ∃ W : Nat → Nat → St → List V → Hp → Prop,
    (∃ m, W 0 m (cst L ix σ) [] (upd H1 D (.lst []))) ∧
    ∀ i m σ' ys H', W i m σ' ys H' → H' D = some (.lst ys) →
      (J.stop i H' ∧ Q (.ref D) H') ∨
      (J.go i H' ∧ ∃ N : St → List V → Hp → Prop, (∀ σ3 zs H3, N σ3 zs H3 → ∃ m', m' < m ∧ W (i + 1) m' σ3 zs H3) ∧ ∀ x H2, J.yld i H' x H2 → g x σ' H2 fun σ3 H3 => tc σ3 H3 fun b H4 =>
        if b = true then te σ3 H4 fun v H5 => ys.length < sizeLine ∧ H5 D = some (.lst ys) ∧ N σ3 (ys ++ [v]) (upd H5 D (.lst (ys ++ [v])))
        else H4 D = some (.lst ys) ∧ N σ3 ys H4)
def tComp (wi : TI) (L : Nat) (ix : List Nat) (g : TG) (tc : TT) (te : TE) : TE := fun σ H Q => wi σ H fun J H1 => CompWalk J L ix g tc te σ H1 Q
section
variable {X : Cx} {tg iter elt : Expr} {ifs : List Expr} {sc : Scope} {cpos : Pos} {N : List Str} {L : Nat} {ix : List Nat} {wi : TI} {g : TG} {tc : TT} {te : TE}
theorem comp_core (hc : X.calm = true) (S : CScope N X.N X.env.scope sc L ix) (hi : PI X tg iter wi)
    (hb : ∀ (C : Addr) (s₀ : Shared) (H₀ : Hp) (fp : List Addr), PG (cxComp X N sc C s₀ H₀ fp) tg g ∧ PTs (cxComp X N sc C s₀ H₀ fp) ifs tc ∧ PE (cxComp X N sc C s₀ H₀ fp) elt te)
    (hs : ∀ x, foldedSetIterable iter X.env x = pure x)
    {pins : List (Addr × Obj)} {s : Shared} {σ : St} {H : Hp} {Q : VK} {QQ : Value → Shared → Prop} {use : Option (Value → Sem Unit)} (I : Inv X pins σ H s) (h : tComp wi L ix g tc te σ H Q)
    (fin : ∀ (D C : Addr) (H' : Hp) (s' : Shared) (m : Str → Option Value), Inv X pins σ H' s' → Q (.ref D) H' → s'.heap.Ns C m → FpOk X pins H' C → compPost (model X.prog X.w) X.A X.xe use QQ (.ref D) C (.ok .next) s') :
    wpAny (model X.prog X.w) X.A (comprehension (.ListComp elt [⟨tg, iter, ifs, 0⟩] sc cpos) sc X.env (firstIterPos [⟨tg, iter, ifs, 0⟩] cpos) (newList []) false (eval iter X.env) use) QQ X.xe s := by
  have hcl : ∀ y ∈ sc.names, y.2 = .free → ∃ c, X.env.cells.lookup y.1 = some c := fun y hy e => I.ok.has y.1 (.inl (S.frees y hy e))
  refine wpAny_comprehension_free rfl hs (clos_eq hcl) S.kind S.locs (thn (hi pins s σ H _ I h) fun xv s1 h1 => thn h1 fun itv s2 h2 => ?_)
  obtain ⟨it, fp, tn, J, H2, rfl, I2, T, st2, f2, W⟩ := h2
  refine wpAny_newObj_type ?_ (by size_fits)
  have D0 : H2 s2.heap.objs.size = none := I2.fresh
  have I3 : Inv X pins σ (upd H2 s2.heap.objs.size (.lst [])) { s2 with heap := s2.heap.push { cls := .type "list", data := .seq ([] : List Value).toArray }, toks := s2.toks } := I2.lnew (ys := []) (its := []) .nil (Nat.zero_le _)
  obtain ⟨W, ⟨m0, w0⟩, turn⟩ := W s2.heap.objs.size D0
  generalize hD : s2.heap.objs.size = D at *
  refine wpAny_newFunctionEnv S.nocell (fun x hx => by simp at hx) (fun h4 hn4 hb4 => ?_) S.kind
  have hsz3 : (s2.heap.push { cls := .type "list", data := .seq ([] : List Value).toArray }).objs.size = D + 1 := by rw [Heap.size_push, hD]
  have hk4 : ∀ b o, (s2.heap.push { cls := .type "list", data := .seq ([] : List Value).toArray }).get? b = some o → h4.get? b = some o := fun b o e =>
    hb4.extBut b o (Nat.ne_of_lt (Heap.lt_size e)) (Heap.get?_push_of_some _ e)
  have hfp : ∀ b ∈ fp, FpOk X pins (upd H2 D (.lst [])) b ∧ b < (s2.heap.push { cls := .type "list", data := .seq ([] : List Value).toArray }).objs.size := fun b hb => by
    obtain ⟨o, ho, _⟩ := T.obj 0 _ st2 b hb
    have hlt : b < D := by rw [← hD]; exact Heap.lt_size ho
    exact ⟨⟨by rw [upd_ne (Nat.ne_of_lt hlt)]; exact (f2 b hb).1, (f2 b hb).2⟩, by rw [hsz3]; exact Nat.lt_succ_of_lt hlt⟩
  have I4 := I3.comp (t' := s2.toks + ([] : List (Str × Value)).length) S hfp hn4 hk4
  have st4 : tn 0 h4 := T.keep 0 _ _ st2 fun b hb o e => hk4 b o (Heap.get?_push_of_some _ e)
  generalize hs3 : ({ s2 with heap := s2.heap.push { cls := .type "list", data := .seq ([] : List Value).toArray }, toks := s2.toks } : Shared) = s3 at *
  have e3 : s3.heap.objs.size = (s2.heap.push { cls := .type "list", data := .seq ([] : List Value).toArray }).objs.size := by rw [← hs3]
  have ho3 : s3.os = s2.os := by rw [← hs3]
  have stat : ∀ {H' : Hp}, (∀ b ∈ fp, H' b = none) → ∀ b ∈ fp, FpOk (cxComp X N sc s3.heap.objs.size s3 (upd H2 D (.lst [])) fp) [] H' b := fun hn b hb =>
    ⟨hn b hb, by rw [show (cxComp X N sc s3.heap.objs.size s3 (upd H2 D (.lst [])) fp).env.locals = s3.heap.objs.size from rfl, e3]; exact Nat.ne_of_lt (hfp b hb).2,
      I4.ok.exfs b hb, .inl hb, (I4.ok.exf b hb).2, fun p hp => absurd (show p ∈ ([] : List (Addr × Obj)) from hp) (by simp)⟩
  obtain ⟨gG, gT, gE⟩ := hb s3.heap.objs.size s3 (upd H2 D (.lst [])) fp
  have loop : ∀ s4 : Shared, Inv (cxComp X N sc s3.heap.objs.size s3 (upd H2 D (.lst [])) fp) [] (cst L ix σ) (upd H2 D (.lst [])) s4 → tn 0 s4.heap →
      codeAny (model X.prog X.w) X.A (.compLoop (.ListComp elt [⟨tg, iter, ifs, 0⟩] sc cpos) 0 (.ref it) (.ref D) (compEnvC sc (closOf X.env sc.names []) s3.heap.objs.size X.env)) (compPost (model X.prog X.w) X.A X.xe use QQ (.ref D) s3.heap.objs.size) s4 := by
    intro s4 I4 st4
    refine compLoop_go (fun n s' => ∃ i σ' ys H', Inv (cxComp X N sc s3.heap.objs.size s3 (upd H2 D (.lst [])) fp) [] σ' H' s' ∧ tn i s'.heap ∧ (∀ b ∈ fp, H' b = none) ∧ H' D = some (.lst ys) ∧ W i n σ' ys H') ?_ m0
      ⟨0, _, [], _, I4, st4, fun b hb => (hfp b hb).1.1, upd_same, w0⟩
    rintro n s5 ⟨i, σ5, ys, H5, I5, st5, fr5, hD5, w5⟩
    rcases turn i n σ5 ys H5 w5 hD5 with ⟨stop, qn⟩ | ⟨go, NN, hNN, step⟩
    · refine wpAny_mono (T.done (cxComp X N sc s3.heap.objs.size s3 (upd H2 D (.lst [])) fp) rfl rfl rfl hc i [] s5 σ5 H5 (fun _ _ => False) I5 (stat fr5) st5 stop) (fun r s6 hr6 => ?_) fun _ _ z => z
      obtain ⟨hr, I6⟩ := hr6
      subst hr
      obtain ⟨m6, hn6, _⟩ := I6.loc
      have u6 : Un (frs X.stack) fp (upd H2 D (.lst [])) H5 s3.heap s6.heap := I6.base
      have I3' : Inv X pins σ (upd H2 D (.lst [])) s3 := I3
      have J6 : Inv X pins σ H5 s6 := I3'.call' I6.os u6 I6.hok I6.bare fun b hb => ⟨(hfp b hb).1.2.2.2.1, (hfp b hb).1.2.1, (hfp b hb).1.2.2.2.2.1, (hfp b hb).1.2.2.2.2.2⟩
      exact fin D s3.heap.objs.size H5 s6 m6 J6 qn hn6 (I3'.fpOk (Nat.le_refl _) I6.free)
    · refine wpAny_mono (T.item (cxComp X N sc s3.heap.objs.size s3 (upd H2 D (.lst [])) fp) rfl rfl rfl hc i [] s5 σ5 H5 (fun _ _ => False) I5 (stat fr5) st5 go) (fun r s6 hr6 => ?_) fun _ _ z => z
      obtain ⟨u, hr, h6⟩ := hr6
      subst hr
      refine wpAny_mono h6 (fun _ s7 h7 => ?_) fun _ _ z => z
      obtain ⟨x, H7, I7, r7, y7, st7, fr7⟩ := h7
      have I7' := I7.pinned (stat fr7) (T.obj _ _ st7)
      have again : ∀ {σ8 : St} {H8 : Hp} {s8 : Shared}, Inv (cxComp X N sc s3.heap.objs.size s3 (upd H2 D (.lst [])) fp) ([] ++ pinsAt fp s7.heap) σ8 H8 s8 → Inv (cxComp X N sc s3.heap.objs.size s3 (upd H2 D (.lst [])) fp) [] σ8 H8 s8 ∧ tn (i + 1) s8.heap ∧ ∀ b ∈ fp, H8 b = none := fun {σ8 H8 s8} I8 => by
        refine ⟨I8.unpinned, T.keep _ _ _ st7 fun b hb o e => (I8.pin (b, o) (List.mem_append_right _ (List.mem_append_right _ (mem_pinsAt hb e)))).1, fun b hb => ?_⟩
        obtain ⟨o, e, d⟩ := T.obj _ _ st7 b hb
        exact (I8.pin (b, o) (List.mem_append_right _ (List.mem_append_right _ (mem_pinsAt hb e)))).2.1
      refine wpAny_mono (gG _ s7 σ5 H7 x u _ I7' r7 (step x H7 y7)) (fun _ s8 h8 => ?_) fun _ _ z => z
      obtain ⟨σ8, H8, I8, q8⟩ := h8
      refine wpAny_mono (gT _ s8 σ8 H8 _ I8 q8) (fun ok s9 h9 => ?_) fun _ _ z => z
      obtain ⟨H9, I9, q9⟩ := h9
      cases ok with
      | false =>
        rw [if_neg (by decide)] at q9 ⊢
        obtain ⟨hD9, n9⟩ := q9
        obtain ⟨m', hm, w9⟩ := hNN _ _ _ n9
        obtain ⟨I9', st9, fr9⟩ := again I9
        exact ⟨m', hm, i + 1, σ8, ys, H9, I9', st9, fr9, hD9, w9⟩
      | true =>
        rw [if_pos rfl] at q9 ⊢
        refine wpAny_mono (gE _ s9 σ8 H9 _ I9 q9) (fun v s10 h10 => ?_) fun _ _ z => z
        obtain ⟨y, H10, I10, r10, hz, hD10, n10⟩ := h10
        obtain ⟨m', hm, w10⟩ := hNN _ _ _ n10
        refine wpAny_mono (mt_append (X := cxComp X N sc s3.heap.objs.size s3 (upd H2 D (.lst [])) fp) _ s10 σ8 H10 (.ref D) [y] (.ref D) [v] (fun _ H11 => H11 = upd H10 D (.lst (ys ++ [y]))) I10 rfl (.cons r10 .nil) ⟨D, ys, y, rfl, rfl, hD10, hz, rfl⟩) (fun _ s11 h11 => ?_) fun _ _ z => z
        obtain ⟨_, H11, I11, _, rfl⟩ := h11
        obtain ⟨I11', st11, fr11⟩ := again I11
        exact ⟨m', hm, i + 1, σ8, ys ++ [y], _, I11', st11, fr11, upd_same, w10⟩
  have e4 : s3.heap.objs.size = (s2.heap.push { cls := .type "list", data := .seq ([] : List Value).toArray }).objs.size := e3
  have l4 := loop { s3 with heap := h4, toks := s2.toks + ([] : List (Str × Value)).length } I4 st4
  subst hs3
  exact codeAny_compStart_list l4 (T.self X.A 0 _ _ _ st4 l4)
theorem pe_comp (hc : X.calm = true) (S : CScope N X.N X.env.scope sc L ix) (hi : PI X tg iter wi)
    (hb : ∀ (C : Addr) (s₀ : Shared) (H₀ : Hp) (fp : List Addr), PG (cxComp X N sc C s₀ H₀ fp) tg g ∧ PTs (cxComp X N sc C s₀ H₀ fp) ifs tc ∧ PE (cxComp X N sc C s₀ H₀ fp) elt te)
    (hs : ∀ x, foldedSetIterable iter X.env x = pure x := by intro _; rfl) : PE X (.ListComp elt [⟨tg, iter, ifs, 0⟩] sc cpos) (tComp wi L ix g tc te) := by
  intro pins s σ H Q I h
  rw [eval_ListComp]
  refine comp_core (use := none) hc S hi hb hs I h fun D C H' s' m I' q hn f => ?_
  refine ⟨m, hn, fun h' hsb => ?_⟩
  obtain ⟨f0, f1, f2, f3, f4, f5⟩ := f
  have I2 : Inv X pins σ H' { s' with heap := h', toks := s'.toks } := I'.turned (fun b o hb e => hsb.extBut b o hb e) f0 f1 f3 f4 f5
  exact ⟨.ref D, H', I2, rfl, q⟩
theorem ps_setComp {i : Nat} {y : Str} {py spos : Pos} (hc : X.calm = true) (S : CScope N X.N X.env.scope sc L ix) (hi : PI X tg iter wi)
    (hN : X.N.Nodup) (hy : X.N[i]? = some y) (hl : X.env.scope.names.lookup y = some .local)
    (hb : ∀ (C : Addr) (s₀ : Shared) (H₀ : Hp) (fp : List Addr), PG (cxComp X N sc C s₀ H₀ fp) tg g ∧ PTs (cxComp X N sc C s₀ H₀ fp) ifs tc ∧ PE (cxComp X N sc C s₀ H₀ fp) elt te)
    (hsw : swapsWith (.ListComp elt [⟨tg, iter, ifs, 0⟩] sc cpos) (some (.Name y py)) spos.line X.env = pure true := by rfl)
    (hs : ∀ x, foldedSetIterable iter X.env x = pure x := by intro _; rfl) :
    PS X (.Assign [.Name y py] (.ListComp elt [⟨tg, iter, ifs, 0⟩] sc cpos) spos) (tAsg (tComp wi L ix g tc te) (gName i)) := by
  intro pins s σ H D I h
  rw [exec_Assign_Name_used _ _ _ _ hsw]
  refine wpAny_bind (wpAny_standAt (wpAny_bind ?_))
  show wpAny _ X.A (do let _ ← comprehension (.ListComp elt [⟨tg, iter, ifs, 0⟩] sc cpos) sc X.env (firstIterPos [⟨tg, iter, ifs, 0⟩] cpos) (newList []) false (eval iter X.env) (some (assign (.Name y py) X.env))) _ _ s
  refine wpAny_bind (thn (comp_core (QQ := fun _ s' => SP X pins D .next s') (use := some (assign (.Name y py) X.env)) hc S hi hb hs I h fun D' C H' s' m I' q hn f => ?_) fun _ s' hq => wpAny_pure (wpAny_pure hq))
  obtain ⟨f0, f1, f2, f3, f4, f5⟩ := f
  show wpAny _ X.A (assign (.Name y py) X.env (.ref D')) _ _ _
  refine wpAny_assign_Name (store_ok2 I' hN hy (.inl hl) (v := .ref D') rfl (fun s2 I2 hs2 => ?_) (.inr hl))
  obtain ⟨a, hsb2, ha⟩ := hs2
  have hCa : C ≠ a := by
    rcases ha with ha | ha
    · rw [ha]; exact f1
    · exact fun z => f4 y a ha z.symm
  refine ⟨m, hn.sameBut hsb2 hCa, fun h' hsb => ?_⟩
  have I3 : Inv X pins (σ.set i (some (.ref D'))) H' { s2 with heap := h', toks := s2.toks } := I2.turned (fun b o hb e => hsb.extBut b o hb e) f0 f1 f3 f4 f5
  exact ⟨_, H', I3, q⟩
end
theorem comp_by {J : It} {n : Nat} {L : Nat} {ix : List Nat} {g : TG} {tc : TT} {te : TE} {σ : St} {H : Hp} {Q : VK}
    (Pv : Addr → Nat → St → List V → Hp → Prop)
    (h0 : ∀ D, H D = none → Pv D 0 (cst L ix σ) [] (upd H D (.lst [])))
    (hs : ∀ D i σ ys H, i < n → Pv D i σ ys H → H D = some (.lst ys) → J.go i H ∧ ∀ x H2, J.yld i H x H2 → g x σ H2 fun σ3 H3 => tc σ3 H3 fun b H4 =>
      if b = true then te σ3 H4 fun v H5 => ys.length < sizeLine ∧ H5 D = some (.lst ys) ∧ Pv D (i + 1) σ3 (ys ++ [v]) (upd H5 D (.lst (ys ++ [v])))
      else H4 D = some (.lst ys) ∧ Pv D (i + 1) σ3 ys H4)
    (hd : ∀ D σ ys H, Pv D n σ ys H → H D = some (.lst ys) → J.stop n H ∧ Q (.ref D) H) : CompWalk J L ix g tc te σ H Q := by
  intro D hD
  refine ⟨fun i m σ ys H => m = n - i ∧ i ≤ n ∧ Pv D i σ ys H, ⟨n, by simp, Nat.zero_le _, h0 D hD⟩, ?_⟩
  rintro i m σ' ys H' ⟨rfl, hi, p⟩ hD'
  by_cases hlt : i < n
  · obtain ⟨go, step⟩ := hs D i σ' ys H' hlt p hD'
    exact .inr ⟨go, fun σ3 zs H3 => Pv D (i + 1) σ3 zs H3, fun σ3 zs H3 p' => ⟨n - (i + 1), by (first | lia | omega), rfl, hlt, p'⟩, step⟩
  · have e : i = n := by (first | lia | omega)
    subst e
    exact .inl (hd D σ' ys H' p hD')
theorem for_by {J : It} {n : Nat} {g : TG} {tb : TS} {D : Ends} {σ : St} {H : Hp} (Pv : Nat → St → Hp → Prop) (h0 : Pv 0 σ H)
    (hs : ∀ i σ H, i < n → Pv i σ H → J.go i H ∧ ∀ x H', J.yld i H x H' → g x σ H' fun σ2 H2 => tb { D with nx := Pv (i + 1), ct := Pv (i + 1), bk := D.nx } σ2 H2) (hd : ∀ σ H, Pv n σ H → J.stop n H ∧ D.nx σ H) :
    ∃ W : Nat → Nat → St → Hp → Prop, (∃ m, W 0 m σ H) ∧ ∀ i m σ H, W i m σ H →
      (J.stop i H ∧ D.nx σ H) ∨ (J.go i H ∧ ∃ N : St → Hp → Prop, (∀ σ' H', N σ' H' → ∃ m', m' < m ∧ W (i + 1) m' σ' H') ∧ ∀ x H', J.yld i H x H' → g x σ H' fun σ2 H2 => tb { D with nx := N, ct := N, bk := D.nx } σ2 H2) := by
  refine ⟨fun i m σ H => m = n - i ∧ i ≤ n ∧ Pv i σ H, ⟨n, by simp, Nat.zero_le _, h0⟩, ?_⟩
  rintro i m σ H ⟨rfl, hi, p⟩
  by_cases hlt : i < n
  · obtain ⟨go, step⟩ := hs i σ H hlt p
    exact .inr ⟨go, Pv (i + 1), fun σ' H' p' => ⟨n - (i + 1), by (first | lia | omega), rfl, hlt, p'⟩, step⟩
  · have e : i = n := by (first | lia | omega)
    subst e
    exact .inl (hd σ H p)
end L2
set_option Elab.async false
set_option linter.all false
set_option maxRecDepth 100000
set_option maxHeartbeats 4000000
namespace L2
open PySem PySem.Spec PyProof.Rows
section
variable {X : Cx} {pins : List (Addr × Obj)} {σ : St} {H : Hp} {s : Shared}
theorem Inv.turnedT {h' : Heap} {t' : Nat} {ch : List Addr} {xs : List V} (I : Inv X pins σ H s)
    (hch : ∀ b ∈ ch, FpOk X pins H b) (k : ∀ b o, b ∉ ch → s.heap.get? b = some o → h'.get? b = some o) (there : ∀ b ∈ ch, ∃ o, h'.get? b = some o)
    (new : ObjOk X.prog X.w (upd H s.heap.objs.size (.tup xs)) h' s.heap.objs.size (.tup xs)) :
    Inv X pins σ (upd H s.heap.objs.size (.tup xs)) { s with heap := h', toks := t' } := by
  have hT : H s.heap.objs.size = none := I.fresh
  have nT : ∀ b o, s.heap.get? b = some o → b ≠ s.heap.objs.size := fun b o e => Nat.ne_of_lt (Heap.lt_size e)
  have nH : ∀ b u, H b = some u → b ≠ s.heap.objs.size := fun b u e => ne_of_none e hT
  refine I.step (g' := s.gens) (d' := s.drawn) (ch := ch) (fun b hb => ⟨(hch b hb).2.2.2.1, (hch b hb).2.1, (hch b hb).2.2.2.2.1, (hch b hb).2.2.2.2.2⟩) (fun b o _ _ hc e _ => k b o hc e) (fun b o _ _ hc e _ => ⟨o.slots, k b o hc e⟩)
    (fun b o _ e n => by rw [upd_ne (nT b o e)]; exact n) (fun b o hc e => ⟨o, k b o hc e⟩)
    (fun b xs e => by rw [upd_ne (nH b _ e)]; exact e) (fun b o u e => by rw [upd_ne (nH b _ e)]; exact e) (fun b ps e => ⟨#[], by rw [upd_ne (nH b _ e), e]; simp⟩) (fun m hm => ?_) (fun b u e => ?_) I.bare
  · obtain ⟨o, es, ep, ho, r⟩ := hm
    exact ⟨o, es, ep, k _ o (fun z => (hch _ z).2.1 rfl) ho, r⟩
  · by_cases hb : b = s.heap.objs.size
    · subst hb
      rw [upd_same] at e
      cases e
      exact new
    · rw [upd_ne hb] at e
      refine (I.hok b u e).stay (fun c v hc q => k c v (fun z => ?_) q) (fun c q => by rw [upd_ne (nH c _ q)]; exact q) fun c zs q => by rw [upd_ne (nH c _ q)]; exact q
      rcases hc with hc | hc
      · rw [hc] at z; rw [(hch b z).1] at e; cases e
      · rw [(hch c z).1] at hc; cases hc
theorem Inv.turnedL {h' : Heap} {t' : Nat} {ch : List Addr} (I : Inv X pins σ H s)
    (hch : ∀ b ∈ ch, FpOk X pins H b) (k : ∀ b o, b ∉ ch → s.heap.get? b = some o → h'.get? b = some o) :
    Inv X pins σ H { s with heap := h', toks := t' } := by
  refine I.step (g' := s.gens) (d' := s.drawn) (ch := ch) (fun b hb => ⟨(hch b hb).2.2.2.1, (hch b hb).2.1, (hch b hb).2.2.2.2.1, (hch b hb).2.2.2.2.2⟩) (fun b o _ _ hc e _ => k b o hc e) (fun b o _ _ hc e _ => ⟨o.slots, k b o hc e⟩)
    (fun b o _ e n => n) (fun b o hc e => ⟨o, k b o hc e⟩) (fun b xs e => e) (fun b o u e => e) (fun b ps e => ⟨#[], by rw [e]; simp⟩) (fun m hm => ?_) (fun b u e => ?_) I.bare
  · obtain ⟨o, es, ep, ho, r⟩ := hm
    exact ⟨o, es, ep, k _ o (fun z => (hch _ z).2.1 rfl) ho, r⟩
  · refine (I.hok b u e).stay (fun c v hc q => k c v (fun z => ?_) q) (fun c q => q) fun c zs q => q
    rcases hc with hc | hc
    · rw [hc] at z; rw [(hch b z).1] at e; cases e
    · rw [(hch c z).1] at hc; cases hc
end
def Ite (K : PySem.W.Frag) (a : Addr) : It :=
  ⟨fun i H => ∃ xs x, SqL K H a xs ∧ xs[i]? = some x,
   fun i H v H' => ∃ T x, H T = none ∧ v = .ref T ∧ H' = upd H T (.tup [.int i, x]) ∧ ∀ xs, SqL K H a xs → xs[i]? = some x,
   fun i H => ∃ xs, SqL K H a xs ∧ xs.length ≤ i⟩
theorem turn_enum {P : Program} {w : World} {K : PySem.W.Frag} {elts : List Expr} {k1} {pos : Pos} (a e it : Addr) (hei : e ≠ it) :
    Turn P w K (.Tuple elts k1 pos) (Ite K a) [e, it] e (fun i h => (∃ old, IsEnum h e it ((i : Nat) : Int) old) ∧ h.IsListIter it a i) where
  mem := by simp
  obj := fun i h st b hb => by
    obtain ⟨⟨old, he⟩, o, ho, c, d⟩ := st
    simp only [List.mem_cons, List.not_mem_nil, or_false] at hb
    rcases hb with rfl | rfl
    · exact ⟨_, he, fun v z => by have z' : Data.fields _ = Data.cell v := z; cases z'⟩
    · exact ⟨o, ho, fun v z => by rw [d] at z; cases z⟩
  keep := fun i h h' st k => by
    obtain ⟨⟨old, he⟩, hit⟩ := st
    exact ⟨⟨old, k e (by simp) _ he⟩, hit.at fun o x => k it (by simp) o x⟩
  item := by
    intro X hP hw hK hc i pins s σ H E I hf st hg
    subst hP hw hK
    obtain ⟨xs, x, hq, hx⟩ := hg
    obtain ⟨its, rv, p, hz⟩ := I.list hq
    obtain ⟨u, hu, ru⟩ := rv.get hx
    obtain ⟨⟨old, he⟩, hit⟩ := st
    refine wpAny_pyNext_enum_item he hit p.isList (x := u) (by simpa using hu) hei fun h' ho hit' hT hsz hk => ?_
    refine ⟨_, rfl, ?_⟩
    have hne : s.heap.objs.size ≠ e := Nat.ne_of_gt (Heap.lt_size he)
    refine wpAny_letOwnedTupleGo_enum ho fun h2 he2 hs2 => ?_
    have hT2 : h2.get? s.heap.objs.size = some { cls := .type "tuple", data := .seq #[.int i s.toks, u] } := hs2.extBut _ _ hne hT
    have hit2 : h2.IsListIter it a (i + 1) := hit'.extBut hs2.extBut hei.symm
    have I2 : Inv X pins σ (upd H s.heap.objs.size (.tup [.int i, x])) { s with heap := h2, toks := s.toks + 1 } := by
      refine I.turnedT (ch := [e, it]) hf (fun b o hb q => ?_) (fun b hb => ?_) ?_
      · simp only [List.mem_cons, List.not_mem_nil, or_false, not_or] at hb
        exact hs2.extBut b o hb.1 (hk b o hb.1 hb.2 q)
      · simp only [List.mem_cons, List.not_mem_nil, or_false] at hb
        rcases hb with rfl | rfl
        · exact ⟨_, he2⟩
        · obtain ⟨o, q, _⟩ := hit2; exact ⟨o, q⟩
      · exact ⟨by show 2 ≤ sizeLine; decide, [.int i s.toks, u], .cons ⟨_, rfl⟩ (.cons ru .nil), ⟨_, hT2, rfl, _, rfl⟩⟩
    refine ⟨.ref s.heap.objs.size, _, I2, rfl, ⟨_, x, I.fresh, rfl, rfl, fun ys hy => by rw [I.list_inj hy hq]; exact hx⟩, ⟨⟨_, by simpa using he2⟩, hit2⟩, fun b hb => ?_⟩
    obtain ⟨o, q⟩ : ∃ o, s.heap.get? b = some o := by
      simp only [List.mem_cons, List.not_mem_nil, or_false] at hb
      rcases hb with rfl | rfl
      · exact ⟨_, he⟩
      · obtain ⟨o, q, _⟩ := hit; exact ⟨o, q⟩
    rw [upd_ne (Nat.ne_of_lt (Heap.lt_size q))]
    exact (hf b hb).1
  done := by
    intro X hP hw hK hc i pins s σ H E I hf st hg
    subst hP hw hK
    obtain ⟨xs, hq, hx⟩ := hg
    obtain ⟨its, rv, p, hz⟩ := I.list hq
    obtain ⟨⟨old, he⟩, hit⟩ := st
    have hl := rv.length
    refine wpAny_pyNext_enum_end (I.ok.hd hc) he hit p.isList (by simp; (first | lia | omega)) fun h' hx' => ⟨rfl, I.turnedL (t' := s.toks) (ch := [e, it]) hf fun b o hb q => ?_⟩
    simp only [List.mem_cons, List.not_mem_nil, or_false, not_or] at hb
    exact hx' b o hb.2 q
  self := fun _ _ _ _ _ st h => by
    obtain ⟨⟨old, he⟩, _⟩ := st
    exact wpAny_pyIter_enum he h
section
variable {X : Cx}
def iEnum (K : PySem.W.Frag) (ta : TA) : TI := fun σ H R => ta σ H fun vs H1 => ∃ a, vs = [.ref a] ∧ (∃ xs, SqL K H1 a xs) ∧ R (Ite K a) H1
theorem pi_enum {a : Expr} {ta : TA} {p pos tpos : Pos} {elts : List Expr} {k1} (hg : Gl X "enumerate") (hm : X.mg "enumerate" = none) (ha : PA X [a] ta) (hs : starEach [a] X.env = [(false, eval a X.env)] := by rfl) :
    PI X (.Tuple elts k1 tpos) (.Call (.Name "enumerate" p) [a] [] pos) (iEnum X.K ta) := by
  intro pins s σ H R I h
  refine Call_ (ld_blt I hg hm boot_enumerate (PyProof.Rows.callWith_type1 (thn (ha pos pins s σ H _ I h) fun us s1 ⟨vs, H1, I1, r1, q1⟩ => ?_) hs rfl))
  obtain ⟨l, e, ⟨xs, hq⟩, q⟩ := q1
  subst e
  obtain ⟨u, rfl, ru⟩ := vals1 r1
  cases ru
  obtain ⟨its, rv, pl, hz⟩ := I1.list hq
  refine call_enumerate_list pl.isList fun h' he hit hsz hk => ?_
  refine wpAny_pyIter_enum he ?_
  have I2 : Inv X pins σ H1 { s1 with heap := h' } := I1.kept (t' := s1.toks) hk
  refine ⟨s1.heap.objs.size + 1, [s1.heap.objs.size + 1, s1.heap.objs.size], _, _, H1, rfl, I2, turn_enum l _ _ (Nat.succ_ne_self _), ⟨⟨_, he⟩, hit⟩, fun b hb => ?_, q⟩
  simp only [List.mem_cons, List.not_mem_nil, or_false] at hb
  have hb' : s1.heap.objs.size ≤ b := by rcases hb with rfl | rfl <;> (first | lia | omega)
  exact I1.fpOk hb' (I1.hok.fresh hb')
end
def Itz (K : PySem.W.Frag) (a b : Addr) : It :=
  ⟨fun i H => ∃ xs ys x y, SqL K H a xs ∧ SqL K H b ys ∧ xs[i]? = some x ∧ ys[i]? = some y,
   fun i H v H' => ∃ T x y, H T = none ∧ v = .ref T ∧ H' = upd H T (.tup [x, y]) ∧ (∀ xs, SqL K H a xs → xs[i]? = some x) ∧ ∀ ys, SqL K H b ys → ys[i]? = some y,
   fun i H => ∃ xs ys, SqL K H a xs ∧ SqL K H b ys ∧ (xs.length ≤ i ∨ ys.length ≤ i)⟩
section
variable {X : Cx}
def iZip (K : PySem.W.Frag) (ta : TA) : TI := fun σ H R => ta σ H fun vs H1 => ∃ a b, vs = [.ref a, .ref b] ∧ (∃ xs, SqL K H1 a xs) ∧ (∃ ys, SqL K H1 b ys) ∧ R (Itz K a b) H1
end
def rngN (a b c : Int) : Nat := (Builtin.Range.rangeSize a b c).toNat
def ItrS (lo c : Int) (n : Nat) : It := ⟨fun i _ => i < n, fun i H x H' => H' = H ∧ x = .int (lo + i * c), fun i _ => n ≤ i⟩
theorem turn_rangeS {P : Program} {w : World} {K : PySem.W.Frag} {tg : Expr} (it : Addr) (lo c : Int) (n : Nat) : Turn P w K tg (ItrS lo c n) [it] it (fun i h => IsRangeIter h it (lo + (i : Nat) * c) ((n : Int) - (i : Nat)) c) where
  mem := by simp
  obj := fun i h st b hb => by
    have e : b = it := by simpa using hb
    subst e
    exact ⟨_, st, fun v z => by
      have z' : Data.fields _ = Data.cell v := z
      cases z'⟩
  keep := fun i h h' st k => k it (by simp) _ st
  item := by
    intro X hP hw hK hc i pins s σ H E I hf st hg
    subst hP hw hK
    obtain ⟨f0, f1, f2, f3, f4, f5⟩ := hf it (by simp)
    have W := Walks.range (prog := X.prog) (w := X.w) (I.ok.hd hc) it lo c n
    refine W.item i s _ _ hg st fun v h' tk hv st' kk => ?_
    obtain ⟨t, rfl⟩ := hv
    have I1 : Inv X pins σ H { s with heap := h', toks := tk } := I.turned (fun b o hb e => kk b o (by simpa using hb) e) f0 f1 f3 f4 f5
    exact ⟨_, rfl, go_of (s := { s with heap := h', toks := tk }) (n := "range_iterator") st' rfl rfl (by decide) ⟨.int (lo + i * c), H, I1, ⟨t, rfl⟩, ⟨rfl, rfl⟩, st', fun b hb => (hf b hb).1⟩⟩
  done := by
    intro X hP hw hK hc i pins s σ H E I hf st hg
    subst hP hw hK
    obtain ⟨f0, f1, f2, f3, f4, f5⟩ := hf it (by simp)
    exact wpAny_pyNext_range_end (I.ok.hd hc) st (by have : n ≤ i := hg; (first | lia | omega)) fun h' eb => ⟨rfl, I.turned (t' := s.toks) (fun b o hb e => eb b o hb e) f0 f1 f3 f4 f5⟩
  self := fun _ _ _ _ _ st h => wpAny_pyIter_rangeiter st h
def RngOk (a b c : Int) : Prop := -(2 ^ 40) ≤ a ∧ a < 2 ^ 40 ∧ -(2 ^ 40) ≤ b ∧ b < 2 ^ 40 ∧ 0 < c ∧ c < 2 ^ 30
theorem RngOk.size {a b c : Int} (h : RngOk a b c) : 0 ≤ Builtin.Range.rangeSize a b c ∧ Builtin.Range.rangeSize a b c ≤ 2 ^ 42 := by
  obtain ⟨h1, h2, h3, h4, h5, h6⟩ := h
  unfold Builtin.Range.rangeSize
  rw [if_pos h5]
  split
  · have e1 : 0 ≤ (b - a - 1) / c := Int.ediv_nonneg (by (first | lia | omega)) (by (first | lia | omega))
    have e2 : (b - a - 1) / c ≤ b - a - 1 := Int.ediv_le_self _ (by (first | lia | omega))
    (first | lia | omega)
  · (first | lia | omega)
theorem RngOk.small {a b c : Int} (h : RngOk a b c) : Builtin.Range.small a b c = true := by
  have hs := h.size
  obtain ⟨h1, h2, h3, h4, h5, h6⟩ := h
  unfold Builtin.Range.small
  simp only [Builtin.Range.rangeFitsLong, Bool.and_eq_true, Bool.or_eq_true, decide_eq_true_eq, beq_iff_eq]
  refine ⟨⟨⟨⟨?_, ?_⟩, ?_⟩, ?_⟩, .inr ?_⟩
  · constructor <;> (first | lia | omega)
  · constructor <;> (first | lia | omega)
  · constructor <;> (first | lia | omega)
  · constructor <;> (first | lia | omega)
  · rw [if_pos h5]
    simp only [Bool.and_eq_true, decide_eq_true_eq]
    constructor <;> (first | lia | omega)
theorem RngOk.n {a b c : Int} (h : RngOk a b c) : Builtin.Range.rangeSize a b c = (rngN a b c : Nat) := by
  have := h.size
  unfold rngN
  (first | lia | omega)
theorem RngOk.pylong {a b c : Int} (h : RngOk a b c) : Builtin.divisionGoesByPylong (b - a) c = false := PyProof.noPylong_small (by obtain ⟨h1, h2, h3, h4, h5, h6⟩ := h; (first | lia | omega))
section
variable {X : Cx} {tg : Expr}
def iRng3 (ta : TA) : TI := fun σ H R => ta σ H fun vs H1 => ∃ i j c : Int, vs = [.int i, .int j, .int c] ∧ RngOk i j c ∧ R (ItrS i c (rngN i j c)) H1
theorem vals3 {x y z : V} {us : List Value} (r : Vals [x, y, z] us) : ∃ u v w', us = [u, v, w'] ∧ RelV x u ∧ RelV y v ∧ RelV z w' := by
  cases r with
  | cons r1 r => cases r with
    | cons r2 r => cases r with
      | cons r3 r => cases r; exact ⟨_, _, _, rfl, r1, r2, r3⟩
def RngAt (p : Addr) (lo hi c : Int) : HO := .ext fun h => ∃ t u v, IsRange h p lo hi c t u v
end
end L2
set_option Elab.async false
set_option linter.all false
set_option maxRecDepth 100000
set_option maxHeartbeats 4000000
namespace L2
open PySem PySem.Spec PyProof.Rows
section
variable {X : Cx}
theorem call_isinst : CallR X (.builtin "isinstance") (fun xs H Q => ∃ x t c b, xs = [x, .ty c] ∧ TyOf X.K H x t ∧ PySem.W.kitOne X.K t (.type c) = some b ∧ Q (.bl b) H) := by
  intro pins s σ H xs us Q I r h
  obtain ⟨x, t, c, b, rfl, ty, e, q⟩ := h
  obtain ⟨u, v, rfl, ru, rv⟩ := vals2 r
  cases rv
  exact isinst_ok I ru ty e fun tk => ⟨.bl b, H, I.tok tk, rfl, q⟩
theorem kit_same {K : PySem.W.Frag} (T : String) : PySem.W.kitOne K (.type T) (.type T) = some true := by
  unfold PySem.W.kitOne
  rw [if_pos (beq_self_eq_true _)]
def CMulB (i j : Int) : Prop := i.natAbs < 2 ^ 100000 ∧ j.natAbs < 2 ^ 100000
theorem bits_le {k : Int} {n : Nat} (h : k.natAbs < 2 ^ n) : Builtin.Int.intBits k ≤ n := by
  unfold Builtin.Int.intBits
  split
  · exact Nat.zero_le _
  · rename_i h0
    have hp : k.natAbs ≠ 0 := by
      intro z
      have hk : k = 0 := Int.natAbs_eq_zero.mp z
      simp [hk] at h0
    have := (Nat.log2_lt hp).mpr h
    (first | lia | omega)
theorem CMulB.ok {i j : Int} (h : CMulB i j) : IntMulOk i j := by
  have h1 := bits_le h.1
  have h2 := bits_le h.2
  unfold IntMulOk
  have : Builtin.Int.intTooBig (Builtin.Int.intBits i + Builtin.Int.intBits j) = false := by
    unfold Builtin.Int.intTooBig
    refine decide_eq_false ?_
    rw [bitsLine_eq]
    (first | lia | omega)
  rw [this]
  simp
theorem op_mulB : OpR X (binaryOp .Mult) (rI CMulB fun i j => .int (i * j)) := opI fun _ _ _ _ _ _ _ hc q => mul_int q hc.ok
theorem call_sumL (hc : X.calm = true) : CallR X (.builtin "sum") (fun xs H Q => ∃ (p : Addr) (ns : List Int), xs = [.ref p] ∧ SqL X.K H p (ns.map V.int) ∧ Q (.int ns.sum) H) := by
  intro pins s σ H xs us Q I r h
  obtain ⟨p, ns, rfl, hq, q⟩ := h
  obtain ⟨u, rfl, rx⟩ := vals1 r
  cases rx
  obtain ⟨its, rv, pl, hz⟩ := I.list hq
  have hi := intsAre_of rv
  obtain ⟨zs, e⟩ := hi.allInts.items
  have hl := pl.isList
  have hns : ns = zs.toList.map (·.1) := by rw [← hi.numsOf, ← nums_intItems, ← e]
  rw [e] at hl
  refine sum_intListG (I.ok.hd hc) hl fun h' tk t' hk => ⟨.int ns.sum, H, I.kept (t' := tk) hk, ⟨t', ?_⟩, q⟩
  rw [preSum_eq, List.take_of_length_le (by simp), hns]
theorem call_minL (hc : X.calm = true) : CallR X (.builtin "min") (fun xs H Q => ∃ (p : Addr) (ns : List Int), xs = [.ref p] ∧ SqL X.K H p (ns.map V.int) ∧ 0 < ns.length ∧ ∀ M, M ∈ ns → (∀ a ∈ ns, M ≤ a) → Q (.int M) H) := by
  intro pins s σ H xs us Q I r h
  obtain ⟨p, ns, rfl, hq, hne, q⟩ := h
  obtain ⟨u, rfl, rx⟩ := vals1 r
  cases rx
  obtain ⟨its, rv, pl, hz⟩ := I.list hq
  have hi := intsAre_of rv
  obtain ⟨xs, e⟩ := hi.allInts.items
  have hl := pl.isList
  have hns : ns = xs.toList.map (·.1) := by
    rw [← hi.numsOf, ← nums_intItems, ← e]
  have hsz : 0 < xs.size := by
    have h3 := hne; rw [hns, List.length_map, Array.length_toList] at h3; exact h3
  rw [e] at hl
  refine min_intList (I.ok.hd hc) hl hsz fun v h' tk hv hk => ?_
  obtain ⟨t, rfl⟩ := intItems_at hv
  obtain ⟨h1, h2⟩ := argBest_lt (numAt xs) (xs.size - 1)
  refine ⟨.int (numAt xs (argBest (fun i j => decide (numAt xs i < numAt xs j)) (xs.size - 1))), H, I.kept (t' := tk) hk, ⟨t, rfl⟩, q _ ?_ fun a ha => ?_⟩
  · rw [hns, numAt_eq]; exact getD_mem (by rw [List.length_map, Array.length_toList]; (first | lia | omega))
  · rw [hns] at ha
    obtain ⟨j, hj, rfl⟩ := mem_getD ha
    rw [List.length_map, Array.length_toList] at hj
    rw [← numAt_eq]; exact h2 j (by (first | lia | omega))
end
inductive DEq (K : PySem.W.Frag) (H : Hp) : Nat → V → V → Bool → Prop
  | same (n : Nat) (a : Addr) : DEq K H n (.ref a) (.ref a) true
  | int (n : Nat) (i j : Int) : DEq K H n (.int i) (.int j) (decide (i = j))
  | bl (n : Nat) (i j : Bool) : DEq K H n (.bl i) (.bl j) (decide (i = j))
  | lst {n : Nat} {a b : Addr} {xs ys : List V} (ha : SqL K H a xs) (hb : SqL K H b ys) (hl : xs.length = ys.length) (e : Nat → Bool) (h : ∀ (j : Nat) x y, xs[j]? = some x → ys[j]? = some y → DEq K H n x y (e j)) : DEq K H (n + 1) (.ref a) (.ref b) ((List.range xs.length).all e)
  | lstNe {n : Nat} {a b : Addr} {xs ys : List V} (ha : SqL K H a xs) (hb : SqL K H b ys) (hl : xs.length ≠ ys.length) : DEq K H (n + 1) (.ref a) (.ref b) false
  | tup {n : Nat} {a b : Addr} {xs ys : List V} (ha : SqT K H a xs) (hb : SqT K H b ys) (hl : xs.length = ys.length) (e : Nat → Bool) (h : ∀ (j : Nat) x y, xs[j]? = some x → ys[j]? = some y → DEq K H n x y (e j)) : DEq K H (n + 1) (.ref a) (.ref b) ((List.range xs.length).all e)
section
variable {X : Cx} {pins : List (Addr × Obj)} {σ : St} {H : Hp} {s : Shared}
theorem DEq.refl {n : Nat} {x y : V} {b : Bool} (I : Inv X pins σ H s) (d : DEq X.K H n x y b) : x = y → b = true := by
  induction d with
  | same => intro _; rfl
  | int n i j => intro e; cases e; simp
  | bl n i j => intro e; cases e; simp
  | @lst n a b xs ys ha hb hl e h ih =>
    intro z
    cases z
    have := I.list_inj ha hb
    subst this
    rw [List.all_eq_true]
    intro j hj
    have hj' := List.mem_range.mp hj
    exact ih j xs[j] xs[j] (by simp [hj']) (by simp [hj']) rfl
  | @lstNe n a b xs ys ha hb hl =>
    intro z
    cases z
    have := I.list_inj ha hb
    subst this
    exact absurd rfl hl
  | @tup n a b xs ys ha hb hl e h ih =>
    intro z
    cases z
    have := I.tuple_inj ha hb
    subst this
    rw [List.all_eq_true]
    intro j hj
    have hj' := List.mem_range.mp hj
    exact ih j xs[j] xs[j] (by simp [hj']) (by simp [hj']) rfl
theorem DEq.eqAt {n : Nat} {x y : V} {b : Bool} (I : Inv X pins σ H s) (d : DEq X.K H n x y b) : ∀ {A : Around} {u v : Value}, A.units + n < cLine → RelV x u → RelV y v → SeqAt.EqAt A s u v b := by
  induction d with
  | same n a =>
    intro A u w hu ru rw'
    cases ru
    cases rw'
    exact .same _
  | int n i j =>
    intro A u v hu ru rv
    obtain ⟨t, rfl⟩ := ru
    obtain ⟨t', rfl⟩ := rv
    have := SeqAt.EqAt.int_int (A := A) (s := s) i t j t'
    rwa [Bool.beq_eq_decide_eq] at this
  | bl n i j =>
    intro A u v hu ru rv
    cases ru
    cases rv
    have := SeqAt.EqAt.bool_bool (A := A) (s := s) i j
    rwa [Bool.beq_eq_decide_eq] at this
  | @lst n a b xs ys ha hb hl e h ih =>
    intro A u v hu ru rv
    cases ru
    cases rv
    by_cases hab : a = b
    · have t := DEq.refl I (DEq.lst ha hb hl e h) (by rw [hab])
      subst hab
      rw [t]
      exact .same _
    · obtain ⟨i1, r1, p1, _⟩ := I.list ha
      obtain ⟨i2, r2, p2, _⟩ := I.list hb
      have l1 := r1.length
      have l2 := r2.length
      have := SeqAt.RcAt.lists (A := A) (e := e) p1.isList p2.isList (by simp; (first | lia | omega)) (by (first | lia | omega)) (fun j h1 h2 => by
        have h1' : j < i1.length := by simpa using h1
        have h2' : j < i2.length := by simpa using h2
        have g1 : xs[j]? = some xs[j] := by simp
        have g2 : ys[j]? = some ys[j] := by simp
        obtain ⟨u1, q1, s1⟩ := r1.get g1
        obtain ⟨u2, q2, s2⟩ := r2.get g2
        have e1 : i1.toArray[j] = u1 := by simpa [h1'] using q1
        have e2 : i2.toArray[j] = u2 := by simpa [h2'] using q2
        rw [e1, e2]
        exact ih j _ _ g1 g2 (by show A.units + 1 + n < cLine; (first | lia | omega)) s1 s2)
      rw [List.size_toArray, ← l1] at this
      exact .of_refs hab this
  | @lstNe n a b xs ys ha hb hl =>
    intro A u v hu ru rv
    cases ru
    cases rv
    obtain ⟨i1, r1, p1, _⟩ := I.list ha
    obtain ⟨i2, r2, p2, _⟩ := I.list hb
    have l1 := r1.length
    have l2 := r2.length
    have hab : a ≠ b := fun z => by
      subst z
      have := I.list_inj ha hb
      subst this
      exact hl rfl
    exact .of_refs hab (SeqAt.RcAt.lists_lengths p1.isList p2.isList (by simp; (first | lia | omega)) (by (first | lia | omega)))
  | @tup n a b xs ys ha hb hl e h ih =>
    intro A u v hu ru rv
    cases ru
    cases rv
    by_cases hab : a = b
    · have t := DEq.refl I (DEq.tup ha hb hl e h) (by rw [hab])
      subst hab
      rw [t]
      exact .same _
    · obtain ⟨i1, r1, p1, _⟩ := I.tuple ha
      obtain ⟨i2, r2, p2, _⟩ := I.tuple hb
      have l1 := r1.length
      have l2 := r2.length
      have := SeqAt.RcAt.tuples (A := A) (e := e) (show s.heap.IsTuple a i1.toArray from p1) (show s.heap.IsTuple b i2.toArray from p2) (by (first | lia | omega)) (fun j h1 h2 => by
        have h1' : j < i1.length := by simpa using h1
        have h2' : j < i2.length := by simpa using h2
        have g1 : xs[j]? = some xs[j] := by simp
        have g2 : ys[j]? = some ys[j] := by simp
        obtain ⟨u1, q1, s1⟩ := r1.get g1
        obtain ⟨u2, q2, s2⟩ := r2.get g2
        have e1 : i1.toArray[j] = u1 := by simpa [h1'] using q1
        have e2 : i2.toArray[j] = u2 := by simpa [h2'] using q2
        rw [e1, e2]
        exact ih j _ _ g1 g2 (by show A.units + 1 + n < cLine; (first | lia | omega)) s1 s2)
      have z1 : min i1.toArray.size i2.toArray.size = xs.length := by simp; (first | lia | omega)
      have z2 : (i1.toArray.size == i2.toArray.size) = true := by simp; (first | lia | omega)
      rw [z1, z2, Bool.and_true] at this
      exact .of_refs hab this
end
def rEqL (K : PySem.W.Frag) (neg : Bool) : R2 := fun x y H Q => ∃ a b xs ys, x = .ref a ∧ y = .ref b ∧ SqL K H a xs ∧ SqL K H b ys ∧
  ((xs.length ≠ ys.length ∧ Q (.bl (if neg then true else false)) H) ∨
   (xs.length = ys.length ∧ ∃ e : Nat → Bool, (∀ (j : Nat) x y, xs[j]? = some x → ys[j]? = some y → DEq K H 60 x y (e j)) ∧ Q (.bl (if neg then !(List.range xs.length).all e else (List.range xs.length).all e)) H))
section
variable {X : Cx}
theorem op_eqL (hu : X.A.units + 64 < cLine) : OpR X (compareOp .Eq) (rEqL X.K false) := by
  intro pins s σ H x y v u Q I rx ry h
  obtain ⟨a, b, xs, ys, rfl, rfl, ha, hb, h⟩ := h
  cases rx
  cases ry
  obtain ⟨i1, r1, p1, _⟩ := I.list ha
  obtain ⟨i2, r2, p2, _⟩ := I.list hb
  have l1 := r1.length
  have l2 := r2.length
  rcases h with ⟨hl, q⟩ | ⟨hl, e, he, q⟩
  · exact SeqAt.eq_list_lengthsAt p1.isList p2.isList (by simp; (first | lia | omega)) (by (first | lia | omega)) ⟨.bl false, H, I, rfl, q⟩
  · refine SeqAt.eq_listAt (e := e) p1.isList p2.isList (by simp; (first | lia | omega)) (by (first | lia | omega)) (fun j h1 h2 => ?_) ⟨.bl ((List.range xs.length).all e), H, I, by rw [List.size_toArray, ← l1]; rfl, q⟩
    have h1' : j < i1.length := by simpa using h1
    have h2' : j < i2.length := by simpa using h2
    have g1 : xs[j]? = some xs[j] := by simp
    have g2 : ys[j]? = some ys[j] := by simp
    obtain ⟨u1, q1, s1⟩ := r1.get g1
    obtain ⟨u2, q2, s2⟩ := r2.get g2
    have e1 : i1.toArray[j] = u1 := by simpa [h1'] using q1
    have e2 : i2.toArray[j] = u2 := by simpa [h2'] using q2
    rw [e1, e2]
    exact (he j _ _ g1 g2).eqAt I (by show X.A.units + 1 + 60 < cLine; (first | lia | omega)) s1 s2
theorem op_neL (hu : X.A.units + 64 < cLine) : OpR X (compareOp .NotEq) (rEqL X.K true) := by
  intro pins s σ H x y v u Q I rx ry h
  obtain ⟨a, b, xs, ys, rfl, rfl, ha, hb, h⟩ := h
  cases rx
  cases ry
  obtain ⟨i1, r1, p1, _⟩ := I.list ha
  obtain ⟨i2, r2, p2, _⟩ := I.list hb
  have l1 := r1.length
  have l2 := r2.length
  rcases h with ⟨hl, q⟩ | ⟨hl, e, he, q⟩
  · exact SeqAt.RcNeAt.lists_lengths p1.isList p2.isList (by simp; (first | lia | omega)) (by (first | lia | omega)) _ _ _ _ ⟨.bl true, H, I, rfl, q⟩
  · refine SeqAt.RcNeAt.lists (e := e) p1.isList p2.isList (by simp; (first | lia | omega)) (by (first | lia | omega)) (fun j h1 h2 => ?_) _ _ _ _ ⟨.bl (!(List.range xs.length).all e), H, I, by rw [List.size_toArray, ← l1]; rfl, q⟩
    have h1' : j < i1.length := by simpa using h1
    have h2' : j < i2.length := by simpa using h2
    have g1 : xs[j]? = some xs[j] := by simp
    have g2 : ys[j]? = some ys[j] := by simp
    obtain ⟨u1, q1, s1⟩ := r1.get g1
    obtain ⟨u2, q2, s2⟩ := r2.get g2
    have e1 : i1.toArray[j] = u1 := by simpa [h1'] using q1
    have e2 : i2.toArray[j] = u2 := by simpa [h2'] using q2
    rw [e1, e2]
    exact (he j _ _ g1 g2).eqAt I (by show X.A.units + 1 + 60 < cLine; (first | lia | omega)) s1 s2
end
section
variable {X : Cx} {K : PySem.W.Frag} {pos : Pos}
theorem pg_tupK {es : List Expr} {k : Nat} {t : TGs} {n : Nat} (hK : X.K = K) (hc : X.calm = true) (h : PGs X es t)
    (hn : (assignEach es X.env).length = n := by rfl) (hst : (assignEach es X.env).findIdx? (·.1) = none := by rfl) : PG X (.Tuple es k pos) (gTup K n t) := by
  subst hK
  exact pg_tup hc h hn hst
theorem ix_listK (hK : X.K = K) : IxR X (rIxL K) := by
  subst hK
  exact ix_list
theorem ix_tupK (hK : X.K = K) : IxR X (rIxT K) := by
  subst hK
  exact ix_tup
end
end L2
set_option Elab.async false
set_option linter.all false
set_option maxRecDepth 100000
set_option maxHeartbeats 4000000
namespace L2
open PySem PySem.Spec PyProof.Rows
def DnOk (a b : Int) : Prop := -(2 ^ 40) ≤ a ∧ a < 2 ^ 40 ∧ -(2 ^ 40) ≤ b ∧ b < 2 ^ 40
theorem DnOk.size {a b : Int} (h : DnOk a b) : Builtin.Range.rangeSize a b (-1) = ((a - b).toNat : Nat) := by
  obtain ⟨h1, h2, h3, h4⟩ := h
  unfold Builtin.Range.rangeSize
  rw [if_neg (by (first | lia | omega))]
  have e : ∀ x : Int, x / (- -1) = x := fun x => by simp
  split
  · try rw [e]
    simp at *
    (first | lia | omega)
  · simp at *
    (first | lia | omega)
theorem DnOk.small {a b : Int} (h : DnOk a b) : Builtin.Range.small a b (-1) = true := by
  obtain ⟨h1, h2, h3, h4⟩ := id h
  have hs := h.size
  unfold Builtin.Range.small
  simp only [Builtin.Range.rangeFitsLong, Bool.and_eq_true, Bool.or_eq_true, decide_eq_true_eq, beq_iff_eq]
  refine ⟨⟨⟨⟨?_, ?_⟩, ?_⟩, ?_⟩, .inr ?_⟩
  · constructor <;> (first | lia | omega)
  · constructor <;> (first | lia | omega)
  · constructor <;> (first | lia | omega)
  · constructor <;> (first | lia | omega)
  · rw [if_neg (by (first | lia | omega))]
    simp only [Bool.and_eq_true, decide_eq_true_eq]
    constructor <;> (first | lia | omega)
theorem DnOk.pylong {a b : Int} (h : DnOk a b) : Builtin.divisionGoesByPylong (b - a) (-1) = false := PyProof.noPylong_small (by obtain ⟨h1, h2, h3, h4⟩ := h; (first | lia | omega))
section
variable {X : Cx} {tg : Expr}
def iRngD (ta : TA) : TI := fun σ H R => ta σ H fun vs H1 => ∃ i j : Int, vs = [.int i, .int j, .int (-1)] ∧ DnOk i j ∧ R (ItrS i (-1) (i - j).toNat) H1
theorem pi_rangeD {a b c : Expr} {ta : TA} {p pos : Pos} (hg : Gl X "range") (hm : X.mg "range" = none) (ha : PA X [a, b, c] ta)
    (hs : starEach [a, b, c] X.env = [(false, eval a X.env), (false, eval b X.env), (false, eval c X.env)] := by rfl) (hs2 : starEach [b, c] X.env = [(false, eval b X.env), (false, eval c X.env)] := by rfl) :
    PI X tg (.Call (.Name "range" p) [a, b, c] [] pos) (iRngD ta) := by
  intro pins s σ H R I h
  refine Call_ (ld_blt I hg hm boot_range (PyProof.Rows.callWith_type1 (thn (ha pos pins s σ H _ I h) fun us s1 ⟨vs, H1, I1, r1, q1⟩ => ?_) (by rw [hs, hs2]) (by rw [hs2]; rfl)))
  obtain ⟨lo, hi, e, ok, q⟩ := q1
  subst e
  obtain ⟨u, v, w', rfl, ⟨t1, rfl⟩, ⟨t2, rfl⟩, ⟨t3, rfl⟩⟩ := vals3 r1
  refine call_range_3 (by (first | lia | omega)) ?_ (.inl ok.pylong)
  refine wpAny_pyIter_range (IsRange.new ..) ok.small ?_
  have I1' : Inv X pins σ H1 { s1 with heap := s1.heap.push { cls := .type "range", data := .fields #[.int lo t1, .int hi t2, .int (-1) t3] }, toks := s1.toks } := I1.kept fun b o e => Heap.get?_push_of_some _ e
  refine ⟨(s1.heap.push { cls := .type "range", data := .fields #[.int lo t1, .int hi t2, .int (-1) t3] }).objs.size, [(s1.heap.push { cls := .type "range", data := .fields #[.int lo t1, .int hi t2, .int (-1) t3] }).objs.size], _, _, H1, rfl,
    I1'.kept (t' := s1.toks) fun b o e => Heap.get?_push_of_some _ e, turn_rangeS _ lo (-1) (lo - hi).toNat, ?_, fun b hb => ?_, q⟩
  · have e1 : lo + ((0 : Nat) : Int) * (-1) = lo := by simp
    have e2 : (((lo - hi).toNat : Nat) : Int) - ((0 : Nat) : Int) = Builtin.Range.rangeSize lo hi (-1) := by rw [ok.size]; simp
    show IsRangeIter _ _ (lo + ((0 : Nat) : Int) * (-1)) ((((lo - hi).toNat : Nat) : Int) - ((0 : Nat) : Int)) (-1)
    rw [e1, e2]
    exact Heap.get?_push_size _ rfl
  · have e : b = (s1.heap.push { cls := .type "range", data := .fields #[.int lo t1, .int hi t2, .int (-1) t3] }).objs.size := by simpa using hb
    subst e
    exact I1'.fpOk (Nat.le_refl _) (I1'.hok.fresh (Nat.le_refl _))
end
end L2
set_option Elab.async false
set_option linter.all false
set_option maxRecDepth 100000
set_option maxHeartbeats 4000000
namespace L2
open PySem PySem.Spec PyProof.Rows
section
variable {P : Program} {w : World} {A : Around} {R : Result → Shared → Prop} {I : Addr} {fp wr : List Addr} {n : Nat} {Pv : Nat → Value → Prop} {St : Nat → Heap → Prop}
def CmpAt (P : Program) (w : World) (A : Around) (g : Heap → Prop) (Pv : Nat → Value → Prop) (bt : Nat → Nat → Bool) : Prop :=
  ∀ (i j : Nat) (x y : Value) (s : Shared) (Q E : Value → Shared → Prop), g s.heap → Pv i x → Pv j y → Q (.bool (bt i j)) s → wpAny (model P w) A (richCompare .Lt x y) Q E s
theorem loop_turn (W : Walks P w A.in1 I fp wr n Pv St) {g : Heap → Prop} {bt : Nat → Nat → Bool} (hcmp : CmpAt P w A.in1 g Pv bt) (S : Addr) (hS0 : S ∉ fp)
    (hg : ∀ h h' : Heap, g h → (∀ b o, b ∉ wr → b ≠ S → h.get? b = some o → h'.get? b = some o) → g h') :
    ∀ (k j : Nat) (s : Shared) (x : Value) (c : Nat), n - (j + 1) = k → j + 1 ≤ n → g s.heap → St (j + 1) s.heap → Pv (argBest bt j) x →
    s.heap.get? S = some { cls := .type "list", dict := none, data := .seq #[x, x] c, slots := #[] } →
    (∀ y h' tk, Pv (argBest bt (n - 1)) y → (∀ b o, b ∉ wr → b ≠ S → s.heap.get? b = some o → h'.get? b = some o) → R (.ok (.ret y)) { s with heap := h', toks := tk }) →
    codeAny (model P w) A (.builtin "min.loop" ⟨[.ref I, .none, .ref S], []⟩) R s := by
  have hS1 : S ∉ wr := fun h => hS0 (W.sub _ h)
  have nm : (toString "min" ++ toString ".loop" : String) = "min.loop" := by decide
  intro k
  induction k with
  | zero =>
    intro j s x c hk hj hgs st px hS hR
    have e : j + 1 = n := by (first | lia | omega)
    refine codeAny_builtin F.entry_min_loop (by
      rw [Around.under_plainId F.plain_min_loop _]
      show wpAny (model P w) A.in1 (seqItems? (.ref S) >>= _) _ _ s
      refine wpAny_bind (wpAny_seqItems hS rfl (by
        show wpAny (model P w) A.in1 (tryCatch (pyNext (.ref I)) _ >>= _) _ _ s
        refine wpAny_bind (wpAny_tryCatch (W.done s _ _ (e ▸ st) fun h1 tk kept => ?_))
        show wpAny (model P w) A.in1 (updateSeq S (fun _ => #[]) >>= _) _ _ _
        refine wpAny_bind (wpAny_updateSeq (kept S _ hS1 hS) rfl (wpAny_bind (wpAny_letGo (wpAny_pure ?_))))
        exact hR x _ tk (by rw [← e]; exact px) fun b o b1 b2 q => (Heap.get?_update_other _ _ (Ne.symm b2)).trans (kept b o b1 q))))
  | succ k ih =>
    intro j s x c hk hj hgs st px hS hR
    have lt : j + 1 < n := by (first | lia | omega)
    refine codeAny_builtin F.entry_min_loop (by
      rw [Around.under_plainId F.plain_min_loop _]
      show wpAny (model P w) A.in1 (seqItems? (.ref S) >>= _) _ _ s
      refine wpAny_bind (wpAny_seqItems hS rfl (by
        show wpAny (model P w) A.in1 (tryCatch (pyNext (.ref I)) _ >>= _) _ _ s
        refine wpAny_bind (wpAny_tryCatch (W.item (j + 1) s _ _ lt st fun y h1 tk py st1 kept => ?_))
        have hS2 := kept S _ hS1 hS
        have g1 : g h1 := hg _ _ hgs fun b o b1 _ q => kept b o b1 q
        show wpAny (model P w) A.in1 (tryCatch (holding [y, y] (richCompare .Lt y x >>= _)) _ >>= _) _ _ _
        refine wpAny_bind (wpAny_tryCatch (wpAny_holding (wpAny_bind (hcmp (j + 1) (argBest bt j) y x _ _ _ g1 py px (wpAny_bind (wpAny_holding (wpAny_truthy_bool (wpAny_bind (wpAny_letGo (wpAny_pure ?_)))))))))) 
        cases hb : bt (j + 1) (argBest bt j) with
        | true =>
          simp only [if_true]
          refine wpAny_bind (wpAny_updateSeq hS2 rfl (wpAny_bind (wpAny_letGo ?_)))
          rw [nm]
          refine wpAny_pure ⟨plainId_quiet F.plain_min_loop _, ih (j + 1) _ y _ (by (first | lia | omega)) lt (hg _ _ g1 fun b o b1 b2 q => (Heap.get?_update_other _ _ (Ne.symm b2)).trans q) (W.frame _ _ _ st1 fun b bf o q => ?_)
            (by simp only [argBest, hb, if_true]; exact py) (Heap.get?_update_self _ hS2 rfl) fun z h2 tk2 pz kept2 => ?_⟩
          · exact (Heap.get?_update_other _ _ (fun z : S = b => hS0 (by rw [z]; exact bf))).trans q
          · exact hR z h2 tk2 pz fun b o b1 b2 q => kept2 b o b1 b2 ((Heap.get?_update_other _ _ (Ne.symm b2)).trans (kept b o b1 q))
        | false =>
          simp only [Bool.false_eq_true, if_false]
          refine wpAny_bind (wpAny_letGo (by
            rw [nm]
            exact wpAny_pure ⟨plainId_quiet F.plain_min_loop _, ih (j + 1) _ x c (by (first | lia | omega)) lt g1 st1 (by simp only [argBest, hb, Bool.false_eq_true, if_false]; exact px) hS2 fun z h2 tk2 pz kept2 =>
              hR z h2 tk2 pz fun b o b1 b2 q => kept2 b o b1 b2 (kept b o b1 q)⟩)))))
theorem loop_start (W : Walks P w A.in1 I fp wr n Pv St) {g : Heap → Prop} {bt : Nat → Nat → Bool} (hcmp : CmpAt P w A.in1 g Pv bt) (S : Addr) (hS0 : S ∉ fp)
    (hg : ∀ h h' : Heap, g h → (∀ b o, b ∉ wr → b ≠ S → h.get? b = some o → h'.get? b = some o) → g h') (hn : 0 < n) {s : Shared} {c : Nat} (hgs : g s.heap) (st : St 0 s.heap)
    (hS : s.heap.get? S = some { cls := .type "list", dict := none, data := .seq #[] c, slots := #[] })
    (hR : ∀ y h' tk, Pv (argBest bt (n - 1)) y → (∀ b o, b ∉ wr → b ≠ S → s.heap.get? b = some o → h'.get? b = some o) → R (.ok (.ret y)) { s with heap := h', toks := tk }) :
    codeAny (model P w) A (.builtin "min.loop" ⟨[.ref I, .none, .ref S], []⟩) R s := by
  have hS1 : S ∉ wr := fun h => hS0 (W.sub _ h)
  have nm : (toString "min" ++ toString ".loop" : String) = "min.loop" := by decide
  refine codeAny_builtin F.entry_min_loop (by
    rw [Around.under_plainId F.plain_min_loop _]
    show wpAny (model P w) A.in1 (seqItems? (.ref S) >>= _) _ _ s
    refine wpAny_bind (wpAny_seqItems hS rfl (by
      show wpAny (model P w) A.in1 (tryCatch (pyNext (.ref I)) _ >>= _) _ _ s
      refine wpAny_bind (wpAny_tryCatch (W.item 0 s _ _ hn st fun y h1 tk py st1 kept => ?_))
      have hS2 := kept S _ hS1 hS
      have g1 : g h1 := hg _ _ hgs fun b o b1 _ q => kept b o b1 q
      show wpAny (model P w) A.in1 (updateSeq S (fun _ => #[y, y]) >>= _) _ _ _
      refine wpAny_bind (wpAny_updateSeq hS2 rfl ?_)
      rw [nm]
      refine wpAny_pure ⟨plainId_quiet F.plain_min_loop _, loop_turn W hcmp S hS0 hg _ 0 _ y _ rfl hn (hg _ _ g1 fun b o b1 b2 q => (Heap.get?_update_other _ _ (Ne.symm b2)).trans q) (W.frame _ _ _ st1 fun b bf o q => ?_) py (Heap.get?_update_self _ hS2 rfl) fun z h2 tk2 pz kept2 => ?_⟩
      · exact (Heap.get?_update_other _ _ (fun z : S = b => hS0 (by rw [z]; exact bf))).trans q
      · exact hR z h2 tk2 pz fun b o b1 b2 q => kept2 b o b1 b2 ((Heap.get?_update_other _ _ (Ne.symm b2)).trans (kept b o b1 q)))))
end
section
variable {P : Program} {w : World} {A : Around} {E : Value → Shared → Prop} {s : Shared}
theorem call_min_at {x : Value} {Q : Value → Shared → Prop}
    (h : wpAny (model P w) A.in1 (pyIter x) (fun it s2 => ∃ I fp wr n Pv St bt, ∃ g : Heap → Prop, it = .ref I ∧ Walks P w A.in1 I fp wr n Pv St ∧ St 0 s2.heap ∧ (∀ b ∈ fp, b < s2.heap.objs.size) ∧ 0 < n ∧ CmpAt P w A.in1 g Pv bt ∧ g s2.heap ∧
      (∀ h h' : Heap, g h → (∀ b o, b ∉ wr → b ≠ s2.heap.objs.size → h.get? b = some o → h'.get? b = some o) → g h') ∧
      ∀ v h' tk, Pv (argBest bt (n - 1)) v → (∀ b o, b ∉ wr → s2.heap.get? b = some o → h'.get? b = some o) → Q v { s2 with heap := h', toks := tk }) E s) :
    wpAny (model P w) A (call (.builtin "min") [x]) Q E s := by
  have nm : (toString "min" ++ toString ".loop" : String) = "min.loop" := by decide
  refine call_function_tree F.kind_min F.plain_min F.entry_min (F.args_min1 _) (by
    show wpAny _ A.in1 (Builtin.Builtins.bindParams "min" ["key", "default"] 0 ⟨[], []⟩ >>= _) _ E s
    refine wpAny_bind (wpAny_of_eq (show Builtin.Builtins.bindParams "min" ["key", "default"] 0 ⟨[], []⟩ = pure [none, none] from rfl) (wpAny_bind (wpAny_pure (wpAny_bind (wpAny_mono h (fun it s2 q => ?_) fun _ _ e => e)))))
    obtain ⟨I, fp, wr, n, Pv, St, bt, g, rfl, W, st, hfp, hn, hcmp, hgs, hg, hQ⟩ := q
    refine wpAny_bind (wpAny_newObj_type ?_)
    have hS0 : s2.heap.objs.size ∉ fp := fun hm => Nat.lt_irrefl _ (hfp _ hm)
    rw [nm]
    exact wpAny_pure ⟨plainId_quiet F.plain_min_loop _, loop_start W hcmp s2.heap.objs.size hS0 hg hn (hg _ _ hgs fun b o _ _ q => Heap.get?_push_of_some _ q) (W.frame _ _ _ st fun b _ o e => Heap.get?_push_of_some _ e) (Heap.get?_push_size _ rfl) fun v h' tk pv kept =>
      hQ v h' tk pv fun b o b1 q => kept b o b1 (Nat.ne_of_lt (Heap.lt_size q)) (Heap.get?_push_of_some _ q)⟩)
end
def lexP (x y : Int × Int) : Bool := HT.lexLt [x.1, x.2] [y.1, y.2]
theorem lexP_iff (x y : Int × Int) : lexP x y = true ↔ (x.1 < y.1 ∨ (x.1 = y.1 ∧ x.2 < y.2)) := by
  unfold lexP
  rw [HT.lexLt_cons, HT.lexLt_cons, HT.lexLt_nil_nil]
  split
  · split <;> simp_all <;> (first | lia | omega)
  · simp_all
theorem argBest_lex (f : Nat → Int × Int) : ∀ m, argBest (fun i j => lexP (f i) (f j)) m ≤ m ∧ (∀ j, j ≤ m → lexP (f j) (f (argBest (fun i j => lexP (f i) (f j)) m)) = false) ∧ (∀ j, j < argBest (fun i j => lexP (f i) (f j)) m → lexP (f (argBest (fun i j => lexP (f i) (f j)) m)) (f j) = true)
  | 0 => by
    refine ⟨Nat.le_refl _, fun j hj => ?_, fun j hj => absurd hj (Nat.not_lt_zero _)⟩
    have e : j = 0 := by (first | lia | omega)
    subst e
    rw [Bool.eq_false_iff]
    intro z
    have z' := (lexP_iff _ _).mp z
    have : argBest (fun i j => lexP (f i) (f j)) 0 = 0 := rfl
    rw [this] at z'
    (first | lia | omega)
  | m + 1 => by
    obtain ⟨a, b, c⟩ := argBest_lex f m
    rw [argBest]
    generalize argBest (fun i j => lexP (f i) (f j)) m = t at *
    cases hb : lexP (f (m + 1)) (f t) with
    | true =>
      simp only [if_true]
      have hb' := (lexP_iff _ _).mp hb
      refine ⟨Nat.le_refl _, fun j hj => ?_, fun j hj => ?_⟩
      · rw [Bool.eq_false_iff]
        intro z
        have z' := (lexP_iff _ _).mp z
        rcases Nat.lt_or_ge j (m + 1) with y | y
        · have q := b j (by (first | lia | omega))
          rw [Bool.eq_false_iff] at q
          exact q ((lexP_iff _ _).mpr (by (first | lia | omega)))
        · have : j = m + 1 := by (first | lia | omega)
          subst this
          (first | lia | omega)
      · have q := b j (by (first | lia | omega))
        rw [Bool.eq_false_iff] at q
        refine (lexP_iff _ _).mpr ?_
        have q' : ¬ ((f j).1 < (f t).1 ∨ ((f j).1 = (f t).1 ∧ (f j).2 < (f t).2)) := fun z => q ((lexP_iff _ _).mpr z)
        (first | lia | omega)
    | false =>
      simp only [Bool.false_eq_true, if_false]
      refine ⟨by (first | lia | omega), fun j hj => ?_, c⟩
      rcases Nat.lt_or_ge j (m + 1) with y | y
      · exact b j (by (first | lia | omega))
      · have : j = m + 1 := by (first | lia | omega)
        subst this
        exact hb
abbrev Prs (H : Hp) : List Addr → List (Int × Int) → Prop := Paired fun t pl => H t = some (.tup [.int pl.1, .int pl.2])
theorem prs_get {H : Hp} : ∀ {ts : List Addr} {vs : List (Int × Int)} {i : Nat} {t : Addr}, Prs H ts vs → ts[i]? = some t → H t = some (.tup [.int (vs.getD i (0, 0)).1, .int (vs.getD i (0, 0)).2]) ∧ i < vs.length
  | _, _, _, _, .nil, h => by simp at h
  | _ :: _, _ :: _, 0, _, .cons r _, h => by cases h; exact ⟨r, by simp⟩
  | _ :: _, _ :: _, i + 1, _, .cons _ t, h => by
    obtain ⟨a, b⟩ := prs_get (i := i) t (by simpa using h)
    exact ⟨by simpa using a, by simpa using b⟩
section
variable {X : Cx}
theorem call_minT (hc : X.calm = true) (hu : X.A.units + 64 < cLine) : CallR X (.builtin "min") (fun xs H Q => ∃ (p : Addr) (ts : List Addr) (vs : List (Int × Int)), xs = [.ref p] ∧ SqL X.K H p (ts.map V.ref) ∧ Prs H ts vs ∧ 0 < vs.length ∧
    ∀ (i : Nat) (t : Addr), i < vs.length → ts[i]? = some t → H t = some (.tup [.int (vs.getD i (0, 0)).1, .int (vs.getD i (0, 0)).2]) → (∀ j, j < vs.length → lexP (vs.getD j (0, 0)) (vs.getD i (0, 0)) = false) → (∀ j, j < i → lexP (vs.getD i (0, 0)) (vs.getD j (0, 0)) = true) → Q (.ref t) H) := by
  intro pins s σ H xs us Q I r h
  obtain ⟨p, ts, vs, rfl, hq, hp, hne, q⟩ := h
  obtain ⟨u, rfl, rx⟩ := vals1 r
  cases rx
  obtain ⟨its, rv, pl, hz⟩ := I.list hq
  have hl := pl.isList
  have hlen : ts.length = its.length := by have := rv.length; simpa using this
  have htv : ts.length = vs.length := Paired.length hp
  have hlt : p < s.heap.objs.size := by obtain ⟨_, e, _⟩ := hl; exact Heap.lt_size e
  have item : ∀ {i : Nat} {v : Value}, its[i]? = some v → ∃ t, ts[i]? = some t ∧ v = .ref t := fun {i v} hv => by
    have hi : i < ts.length := by rw [hlen]; exact (List.getElem?_eq_some_iff.mp hv).1
    have e : (ts.map V.ref)[i]? = some (V.ref ts[i]) := by simp [hi]
    obtain ⟨u, hu, ru⟩ := rv.get e
    rw [hv] at hu
    cases hu
    cases ru
    exact ⟨ts[i], by simp [hi], rfl⟩
  have tups : ∀ {i : Nat} {t : Addr}, ts[i]? = some t → ∃ us' : List Value, Vals [.int (vs.getD i (0, 0)).1, .int (vs.getD i (0, 0)).2] us' ∧ IsTup s.heap t us'.toArray := fun {i t} ht => by
    obtain ⟨e, _⟩ := prs_get hp ht
    obtain ⟨us', r1, r2, _⟩ := I.tuple (SqT.of e)
    exact ⟨us', r1, r2⟩
  refine call_min_at (wpAny_pyIter_list hl ?_)
  refine ⟨_, _, _, _, _, _, fun i j => lexP (vs.getD i (0, 0)) (vs.getD j (0, 0)), fun h => ∀ b o, b < s.heap.objs.size → s.heap.get? b = some o → h.get? b = some o, rfl, Walks.list (A := X.A.in1) (I.ok.hd hc) _ p (Nat.ne_of_lt hlt) its.toArray, ⟨⟨_, Heap.get?_push_size _ rfl, rfl, rfl⟩, hl.push _⟩, fun b hb => ?_, ?_, ?_, ?_, ?_, fun v h' tk hv hk => ?_⟩
  · show b < (s.heap.push _).objs.size
    rw [Heap.size_push]
    rcases List.mem_cons.mp hb with rfl | hb
    · exact Nat.lt_succ_self _
    · have e : b = p := by simpa using hb
      rw [e]
      exact Nat.lt_succ_of_lt hlt
  · show 0 < its.toArray.size
    rw [List.size_toArray]
    (first | lia | omega)
  · intro i j x y s' Q' E' hg hx hy hQ
    obtain ⟨t1, e1, rfl⟩ := item (by simpa using hx)
    obtain ⟨t2, e2, rfl⟩ := item (by simpa using hy)
    obtain ⟨u1, r1, i1⟩ := tups e1
    obtain ⟨u2, r2, i2⟩ := tups e2
    have stay : ∀ {t : Addr} {arr : Array Value}, IsTup s.heap t arr → IsTup s'.heap t arr := fun {t arr} hT => by
      obtain ⟨o, ho, rest⟩ := hT
      exact ⟨o, hg _ _ (Heap.lt_size ho) ho, rest⟩
    exact HT.lt_tupInts (A := X.A.in1) (stay i1) (stay i2) (intsAre_of (ns := [_, _]) r1) (intsAre_of (ns := [_, _]) r2) (by show X.A.in1.units < cLine; have : X.A.in1.units = X.A.units + 1 := rfl; (first | lia | omega)) hQ
  · exact fun b o hb e => Heap.get?_push_of_some _ e
  · intro h1 h2 g1 kept b o hb e
    refine kept b o ?_ ?_ (g1 b o hb e)
    · intro z
      have : b = s.heap.objs.size := by simpa using z
      (first | lia | omega)
    · show b ≠ (s.heap.push _).objs.size
      rw [Heap.size_push]
      (first | lia | omega)
  · have hv' : its[argBest (fun i j => lexP (vs.getD i (0, 0)) (vs.getD j (0, 0))) (its.toArray.size - 1)]? = some v := by simpa using hv
    rw [List.size_toArray] at hv'
    obtain ⟨a1, a2, a3⟩ := argBest_lex (fun i => vs.getD i (0, 0)) (its.length - 1)
    obtain ⟨t, e1, rfl⟩ := item hv'
    have hk' : ∀ b o, s.heap.get? b = some o → h'.get? b = some o := fun b o e => by
      refine hk b o ?_ (Heap.get?_push_of_some _ e)
      intro z
      have z' : b = s.heap.objs.size := by simpa using z
      exact absurd (Heap.lt_size e) (by rw [z']; exact Nat.lt_irrefl _)
    have hin : argBest (fun i j => lexP (vs.getD i (0, 0)) (vs.getD j (0, 0))) (its.length - 1) < vs.length := (prs_get hp e1).2
    exact ⟨.ref t, H, I.kept (t' := tk) hk', rfl, q _ t hin e1 (prs_get hp e1).1 (fun j hj => a2 j (by (first | lia | omega))) a3⟩
end
end L2
set_option Elab.async false
set_option linter.all false
set_option maxRecDepth 100000
set_option maxHeartbeats 4000000
namespace L2
open PySem PySem.Spec PyProof.Rows
theorem mro_rev : mroOf (.type "reversed") = pure [.type "reversed", .type "object"] := by rw [mroOf_type]; kernel_rfl
theorem look_rev_new : typeLookup (.type "reversed") "__new__" = pure (some (.builtin "reversed.__new__")) := by rw [typeLookup_type, builtinLookup_eq_fast]; kernel_rfl
theorem made_rev : Bind.madeBy (.type "reversed") = pure (some "reversed.__new__") := madeBy_type mro_rev look_rev_new (by decide +kernel)
theorem typeCall_rev (a : Value) : checkTypeCall "reversed" ⟨[a], []⟩ = pure () := by kernel_rfl
theorem newCall_rev (a : Value) : checkBuiltinCall "reversed.__new__" ⟨[.type "reversed", a], []⟩ = pure () := by kernel_rfl
theorem entry_rev_new : entryFor table "reversed.__new__" = some Builtin.«reversed.__new__» := entryFor_of_tree (by kernel_rfl)
theorem can_rev : ((Manifest.find? "reversed").bind (·.mro.findSome? fun t => (Manifest.find? t).bind fun b => if b.noNew then some true else if b.attrs.any (·.1 == "__new__") then some false else none)).getD false = false := by decide +kernel
theorem sub_rev : isSubtype (.type "list_reverseiterator") (.type "reversed") = pure false := by rw [isSubtype_type]; kernel_rfl
theorem slot_lri_next : Slot "list_reverseiterator" "__next__" "list_reverseiterator.__next__" :=
  .of (owner := "list_reverseiterator") (n := "__next__") (by rw [typeLookup_type, builtinLookup_eq_fast]; kernel_rfl) (by decide +kernel) (by decide +kernel) (by decide +kernel) (by first | exact .inl (by decide +kernel) | exact .inr (by decide +kernel)) (by rw [isSubtype_type]; kernel_rfl)
theorem slot_lri_iter : Slot "list_reverseiterator" "__iter__" "list_reverseiterator.__iter__" :=
  .of (owner := "list_reverseiterator") (n := "__iter__") (by rw [typeLookup_type, builtinLookup_eq_fast]; kernel_rfl) (by decide +kernel) (by decide +kernel) (by decide +kernel) (by first | exact .inl (by decide +kernel) | exact .inr (by decide +kernel)) (by rw [isSubtype_type]; kernel_rfl)
theorem entry_lri_next : entryFor table "list_reverseiterator.__next__" = some Builtin.«list_reverseiterator.__next__» := entryFor_of_tree (by kernel_rfl)
theorem entry_lri_iter : entryFor table "list_reverseiterator.__iter__" = some Builtin.«dict_keyiterator.__iter__» :=
  entryFor_alias (id' := "dict_keyiterator.__iter__") (by kernel_rfl) (by first | rfl | decide +kernel | (unfold String.splitOn; simp +decide [String.splitOnAux])) (by decide +kernel) (by kernel_rfl)
theorem args_lri_next (a : Value) : argsOk "list_reverseiterator.__next__" ⟨[a], []⟩ := by unfold argsOk; kernel_rfl
theorem args_lri_iter (a : Value) : argsOk "list_reverseiterator.__iter__" ⟨[a], []⟩ := by unfold argsOk; kernel_rfl
def IsRevIter (h : Heap) (it l : Addr) (i : Int) : Prop := h.get? it = some { cls := .type "list_reverseiterator", dict := none, data := .fields #[.ref l, rawInt i], slots := #[] }
theorem meets_rev (l : Addr) (items : Array Value) (n : Nat) :
    Meets (Builtin.«reversed.__new__» ⟨[.type "reversed", .ref l], []⟩) (fun _ R s => s.heap.get? l = some { cls := .type "list", dict := none, data := .seq items n, slots := #[] } ∧
      R (.ok (.ret (Value.ref s.heap.objs.size))) { s with heap := s.heap.push { cls := Value.type "list_reverseiterator", data := Data.fields #[Value.ref l, rawInt (((items.size : Nat) : Int) - 1)] } }) :=
  .of_wp fun prog w A R s h => by
    obtain ⟨hp, g, d, tk, os⟩ := s; obtain ⟨hl, h⟩ := h
    have hT : Shared.TypeIs ⟨hp, g, d, tk, os⟩ (.ref l) "list" := ⟨_, hl, rfl⟩
    have hli := PySem.F.slot_list_reversed.lookup
    have hbi := PySem.F.slot_list_reversed.bind (.ref l)
    have hsub : isSubtype (.type "reversed") (.type "reversed") = pure true := by rw [isSubtype_type]; kernel_rfl
    unfold Builtin.«reversed.__new__»
    wp_walk
    have key : codeAny (model prog w) A.in1 (.call (.builtin "list.__reversed__") ⟨[.ref l], []⟩) (fun r s' => r = .ok (.ret (.ref hp.objs.size)) ∧ s' = ⟨hp.push { cls := Value.type "list_reverseiterator", data := Data.fields #[Value.ref l, rawInt (((items.size : Nat) : Int) - 1)] }, g, d, tk, os⟩) ⟨hp, g, d, tk, os⟩ :=
      codeAny_call_builtin PySem.F.slot_list_reversed.plain PySem.F.entry_list_reversed (PySem.F.slot_list_reversed.check _ _ _ _ _ _ _ _ hT (PySem.F.args_list_reversed_1 _) (by
        exact PySem.AutoListH.list___reversed___list_0 l items n prog w A.in1 (fun r s' => r = .ok (.ret (.ref hp.objs.size)) ∧ s' = ⟨hp.push { cls := Value.type "list_reverseiterator", data := Data.fields #[Value.ref l, rawInt (((items.size : Nat) : Int) - 1)] }, g, d, tk, os⟩) _ ⟨hl, rfl, rfl⟩))
    refine codeAny_mono key fun r s1 hr => ?_
    obtain ⟨rfl, rfl⟩ := hr
    exact wpAny_pure ⟨_, rfl, h⟩
section
variable {P : Program} {w : World} {A : Around} {E : Value → Shared → Prop} {s : Shared}
theorem call_rev {l : Addr} {items : Array Value} {n : Nat} {Q : Value → Shared → Prop} (hl : s.heap.get? l = some { cls := .type "list", dict := none, data := .seq items n, slots := #[] })
    (h : Q (.ref s.heap.objs.size) { s with heap := s.heap.push { cls := Value.type "list_reverseiterator", data := Data.fields #[Value.ref l, rawInt (((items.size : Nat) : Int) - 1)] } }) : wpAny (model P w) A (call (.type "reversed") [.ref l]) Q E s := by
  have hmro := mro_rev
  have hmade := made_rev
  have hcall := typeCall_rev (.ref l)
  have h1 : (Value.type "reversed" == Value.type "type") = false := by decide +kernel
  have h2 := can_rev
  refine wpAny_call (codeAny_of_tree (by
    show wpAny (model P w) _ (callAny (.type "reversed") _) _ _ _
    refine wpAny_pure ⟨Code.quiet_builtin _ (by decide +kernel), codeAny_builtin F.entry_type_call (by
      rw [Around.under_plain (weight_type_call_type "reversed" [.ref l] []) (units_type_call_type "reversed" [.ref l] [])]
      repeat (any_goals (first | assumption | wp_step))
      have key : codeAny (model P w) A.in1 (.call (.builtin "reversed.__new__") ⟨[.type "reversed", .ref l], []⟩) (fun r s' => r = .ok (.ret (.ref s.heap.objs.size)) ∧ s' = { s with heap := s.heap.push { cls := Value.type "list_reverseiterator", data := Data.fields #[Value.ref l, rawInt (((items.size : Nat) : Int) - 1)] } }) s :=
        codeAny_call_builtin (by decide +kernel) entry_rev_new (wpAny_of_eq (newCall_rev (.ref l)) (by
          exact meets_rev l items n P w A.in1 (fun r s' => r = .ok (.ret (.ref s.heap.objs.size)) ∧ s' = { s with heap := s.heap.push { cls := Value.type "list_reverseiterator", data := Data.fields #[Value.ref l, rawInt (((items.size : Nat) : Int) - 1)] } }) s ⟨hl, rfl, rfl⟩))
      refine codeAny_mono key fun r s1 hr => ?_
      obtain ⟨rfl, rfl⟩ := hr
      have hT : Shared.TypeIs { s with heap := s.heap.push { cls := Value.type "list_reverseiterator", data := Data.fields #[Value.ref l, rawInt (((items.size : Nat) : Int) - 1)] } } (.ref s.heap.objs.size) "list_reverseiterator" := ⟨_, Heap.get?_push_size _ rfl, rfl⟩
      have hsub := sub_rev
      repeat (any_goals (first | assumption | wp_step)))⟩))
theorem iter_rev {it l : Addr} {i : Int} {Q : Value → Shared → Prop} (hit : IsRevIter s.heap it l i) (h : Q (.ref it) s) : wpAny (model P w) A (pyIter (.ref it)) Q E s := by
  have hT : s.TypeIs (.ref it) "list_reverseiterator" := ⟨_, hit, rfl⟩
  refine wpAny_pyIter_slot hT slot_lri_iter (wpAny_call_entry slot_lri_iter hT entry_lri_iter (by
    show wpAny (model P w) _ (ret (.ref it)) _ _ s
    exact wpAny_pure ⟨_, rfl, "list_reverseiterator", _, hT, slot_lri_next.lookup, h⟩) (args_lri_iter _))
theorem next_rev {it l : Addr} {i : Nat} {items : Array Value} {x : Value} {Q : Option Value → Shared → Prop} (hit : IsRevIter s.heap it l (i : Int)) (hl : s.heap.IsList l items) (hx : items[i]? = some x)
    (hQ : ∀ h', IsRevIter h' it l ((i : Int) - 1) → Heap.SameBut it s.heap h' → Q (some x) { s with heap := h' }) : wpAny (model P w) A (pyNext (.ref it)) Q E s := by
  have hT : s.TypeIs (.ref it) "list_reverseiterator" := ⟨_, hit, rfl⟩
  obtain ⟨ol, hol, _, nl, hdl⟩ := hl
  unfold pyNext
  refine wpAny_bind (wpAny_attempt (wpAny_callSpecial?_slot (name := Str.ofString "__next__") hT slot_lri_next (wpAny_call_entry slot_lri_next hT entry_lri_next ?_ (args_lri_next _))))
  show wpAny (model P w) _ (field (.ref it) 1 >>= _) _ _ s
  refine wpAny_bind (wpAny_field hit rfl (x := rawInt (i : Int)) rfl ?_)
  show wpAny (model P w) _ (if (((i : Nat) : Int) < 0) then _ else _) _ _ s
  rw [if_neg (by (first | lia | omega))]
  show wpAny (model P w) _ (field (.ref it) 0 >>= _) _ _ s
  refine wpAny_bind (wpAny_field hit rfl (x := .ref l) rfl ?_)
  show wpAny (model P w) _ (seqItems? (.ref l) >>= _) _ _ s
  refine wpAny_bind (wpAny_seqItems hol hdl ?_)
  simp only [Int.toNat_natCast, hx]
  refine wpAny_bind (wpAny_setField hit rfl (by simp) (wpAny_pure ⟨x, rfl, wpAny_pure (hQ _ ?_ (Heap.SameBut.update ..))⟩))
  exact (Heap.get?_update_self _ hit rfl).trans (by rfl)
theorem end_rev {it l : Addr} {i : Int} {Q : Option Value → Shared → Prop} (hh : A.handled = none) (hit : IsRevIter s.heap it l i) (hi : i < 0)
    (hQ : ∀ h', Heap.ExtBut it s.heap h' → Q none { s with heap := h' }) : wpAny (model P w) A (pyNext (.ref it)) Q E s := by
  have hT : s.TypeIs (.ref it) "list_reverseiterator" := ⟨_, hit, rfl⟩
  unfold pyNext
  refine wpAny_bind (wpAny_attempt (wpAny_callSpecial?_slot (name := Str.ofString "__next__") hT slot_lri_next (wpAny_call_entry slot_lri_next hT entry_lri_next ?_ (args_lri_next _))))
  show wpAny (model P w) _ (field (.ref it) 1 >>= _) _ _ s
  refine wpAny_bind (wpAny_field hit rfl (x := rawInt i) rfl ?_)
  show wpAny (model P w) _ (if i < 0 then _ else _) _ _ s
  rw [if_pos hi]
  refine wpAny_bind (wpAny_rule (wpAny_bind ?_))
  show wpAny (model P w) _ (newExc (.type "StopIteration") [] >>= _) _ _ _
  refine wpAny_bind ?_; simp only [newExc, newTuple]
  refine wpAny_bind (wpAny_newObj_type ?_ (by size_fits)); refine wpAny_bind (m := firstArgMember _ _) (wpAny_of_eq (a := Value.none) (by first | rfl | (simp only [firstArgMember]; rfl)) ?_)
  refine wpAny_newObj_type ?_ (by size_fits); simp only [raiseNew]
  refine wpAny_bind (wpAny_handled ?_); first | rw [show A.in1.handled = none from hh] | rw [hh]
  refine wpAny_bind (wpAny_pure (wpAny_throw ?_)); refine wpAny_bind (wpAny_isInstance (T := "StopIteration") (b := true) ⟨_, Heap.get?_push_size _ rfl, rfl⟩ isSubtype_stop ?_)
  exact wpAny_pure (hQ _ fun b o _ e => Heap.get?_push_of_some _ (Heap.get?_push_of_some _ e))
end
def Itv (K : PySem.W.Frag) (a : Addr) (n : Nat) : It :=
  ⟨fun i H => i < n ∧ ∃ xs x, SqL K H a xs ∧ xs[n - 1 - i]? = some x, fun i H x H' => H' = H ∧ ∀ xs, SqL K H a xs → xs[n - 1 - i]? = some x, fun i H => n ≤ i⟩
theorem turn_rev {P : Program} {w : World} {K : PySem.W.Frag} {tg : Expr} (a it : Addr) (n : Nat) : Turn P w K tg (Itv K a n) [it] it (fun i h => IsRevIter h it a ((n : Int) - 1 - (i : Int))) where
  mem := by simp
  obj := fun i h st b hb => by
    have e : b = it := by simpa using hb
    subst e
    exact ⟨_, st, fun v z => by
      have z' : Data.fields _ = Data.cell v := z
      cases z'⟩
  keep := fun i h h' st k => k it (by simp) _ st
  item := by
    intro X hP hw hK hc i pins s σ H E I hf st hg
    subst hP hw hK
    obtain ⟨hi, xs, x, hq, hx⟩ := hg
    obtain ⟨its, rv, p, hz⟩ := I.list hq
    obtain ⟨u, hu, ru⟩ := rv.get hx
    obtain ⟨f0, f1, f2, f3, f4, f5⟩ := hf it (by simp)
    have e : (n : Int) - 1 - (i : Int) = ((n - 1 - i : Nat) : Int) := by (first | lia | omega)
    refine next_rev (i := n - 1 - i) (by rw [← e]; exact st) p.isList (x := u) (by simpa using hu) fun h' st' sb => ?_
    have I1 : Inv X pins σ H { s with heap := h' } := I.turned (t' := s.toks) (fun b o hb q => (sb.2 b hb).trans q) f0 f1 f3 f4 f5
    have e2 : ((n - 1 - i : Nat) : Int) - 1 = (n : Int) - 1 - ((i + 1 : Nat) : Int) := by (first | lia | omega)
    rw [e2] at st'
    exact ⟨u, rfl, go_of (s := { s with heap := h' }) (n := "list_reverseiterator") st' rfl rfl (by decide) ⟨x, H, I1, ru, ⟨rfl, fun ys hy => by rw [I.list_inj hy hq]; exact hx⟩, st', fun b hb => (hf b hb).1⟩⟩
  done := by
    intro X hP hw hK hc i pins s σ H E I hf st hg
    subst hP hw hK
    obtain ⟨f0, f1, f2, f3, f4, f5⟩ := hf it (by simp)
    exact end_rev (I.ok.hd hc) st (by have : n ≤ i := hg; (first | lia | omega)) fun h' eb => ⟨rfl, I.turned (t' := s.toks) (fun b o hb q => eb b o hb q) f0 f1 f3 f4 f5⟩
  self := fun _ _ _ _ _ st h => iter_rev st h
section
variable {X : Cx} {tg : Expr}
def iRev (K : PySem.W.Frag) (ta : TA) : TI := fun σ H R => ta σ H fun vs H1 => ∃ a xs, vs = [.ref a] ∧ H1 a = some (.lst xs) ∧ R (Itv K a xs.length) H1
theorem pi_rev {a : Expr} {ta : TA} {p pos : Pos} (hg : Gl X "reversed") (hm : X.mg "reversed" = none) (ha : PA X [a] ta) (hs : starEach [a] X.env = [(false, eval a X.env)] := by rfl) :
    PI X tg (.Call (.Name "reversed" p) [a] [] pos) (iRev X.K ta) := by
  intro pins s σ H R I h
  refine Call_ (ld_blt I hg hm boot_reversed (PyProof.Rows.callWith_type1 (thn (ha pos pins s σ H _ I h) fun us s1 ⟨vs, H1, I1, r1, q1⟩ => ?_) (by rw [hs]; rfl) (by rfl)))
  obtain ⟨l, xs, e, hl, q⟩ := q1
  subst e
  obtain ⟨u, rfl, rx⟩ := vals1 r1
  cases rx
  obtain ⟨hz, its, n, rv, hlen, ho⟩ := I1.lstM hl
  refine call_rev ho (iter_rev (it := s1.heap.objs.size) (l := l) (i := ((its.toArray.size : Nat) : Int) - 1) (Heap.get?_push_size _ rfl) ?_)
  refine ⟨s1.heap.objs.size, [s1.heap.objs.size], _, _, H1, rfl, I1.kept (t' := s1.toks) fun b o e => Heap.get?_push_of_some _ e, turn_rev l _ xs.length, ?_, fun b hb => ?_, q⟩
  · show IsRevIter _ _ _ ((xs.length : Int) - 1 - ((0 : Nat) : Int))
    have e : ((xs.length : Int) - 1 - ((0 : Nat) : Int)) = ((its.toArray.size : Nat) : Int) - 1 := by rw [List.size_toArray, ← hlen]; (first | lia | omega)
    rw [e]
    exact Heap.get?_push_size _ rfl
  · have e : b = s1.heap.objs.size := by simpa using hb
    subst e
    exact I1.fpOk (Nat.le_refl _) (I1.hok.fresh (Nat.le_refl _))
end
end L2
set_option Elab.async false
set_option linter.all false
set_option maxRecDepth 100000
set_option maxHeartbeats 4000000
namespace L2
open PySem PySem.Spec PyProof.Rows
structure CMeth (K : PySem.W.Frag) (C : Addr) (m : Str) (f : Addr) : Prop where
  ga : PySem.W.specialIn K (.ref C) "__getattribute__" = some (some (.builtin "type.__getattribute__"))
  rd : PySem.W.readsIn K C (.type "type") = true
  at' : PySem.W.findCls K (.ref C) (.type "type") m = some (.val (.ref f))
  kp : PySem.W.keepIn K (.ref f) = true
section
variable {X : Cx} {CX : CXT} {k : Nat} {f C : Addr} {fd : FuncData} {ps : List Str} {sp : Sp} {dvs : List V} {ds : List Value} {E : XK} {x m : Str} {p pos apos : Pos} {e : Expr} {es : List Expr} {t : TA}
theorem pe_cmeth {pl : Sem Bool} (hg : Gl X x) (hC : X.mg x = some (.ref C)) (hm : CMeth X.K C m f) (F : FnOk X.prog X.w X.K X.mg X.base CX k f fd ps sp) (hr : Room k X.A) (hb : Binds X.K fd ps ds) (hd : Vals dvs ds) (hx : Passes CX X E) (ha : PA X (e :: es) t)
    (hdb : (x == ("__debug__" : Str)) = false := by decide)
    (hst : starEach (e :: es) X.env = (false, eval e X.env) :: starEach es X.env := by rfl) (hpl : (backTo pos (starEach es X.env)).any (·.1) = false := by rfl)
    (ht : eval (.Call (.Attribute (.Name x p) m apos) (e :: es) [] pos) X.env = (do
      let ov ← eval (.Name x p) X.env
      standAt apos.atName
      let (f, first) ← holding [ov] (getMethod ov m pl)
      callWith pos f first (backTo pos (starEach (e :: es) X.env)) (backToKw pos (keywordEach [] X.env))) := by rfl) :
    PE X (.Call (.Attribute (.Name x p) m apos) (e :: es) [] pos) (tCall sp dvs E t) := by
  intro pins s σ H Q I h
  refine PySem.W.methodCall_KW (pl := pl) (thn ((pe_glob hg hC (v := .ref C) rfl hdb) pins s σ H (fun v H1 => v = .ref C ∧ H1 = H) I ⟨rfl, rfl⟩) fun u s1 ⟨x', H1, I1, rx, ex, eH⟩ => ?_) ht
  subst ex eH
  obtain rfl : u = Value.ref C := rx
  refine PySem.W.method_cls I1.kIn hm.ga (PySem.W.cls_value I1.kIn hm.rd hm.at' rfl ?_)
  have I2 := I1.tok (s1.toks + 1)
  refine PySem.W.callWith_K (first := []) (h₀ := X.base) I.ok.mod.kin hm.kp (thn (ha pos pins _ σ H1 _ I2 h) fun us s2 ⟨vs, H2, I3, r, q2⟩ => ⟨I3.kIn, ?_⟩) hst hpl
  exact run_fn (us := us) (vs := vs) F hr hb hd hx I3 r q2
end
section
variable {X : Cx}
end
end L2
set_option Elab.async false
set_option linter.all false
set_option maxRecDepth 100000
set_option maxHeartbeats 8000000
namespace L2
open PySem PySem.Spec PyProof.Rows
def CXE (P : Program) (w : World) : CXT := fun outer H s E e s' => ∃ (ea : Addr) (C a0 : Value) (B : Heap) (H' : Hp), e = .ref ea ∧ Heap.FlyingW B outer ea C a0 s'.heap ∧ s'.os = s.os ∧ AllBare s'.gens ∧ Un (frs outer) [] H H' s.heap s'.heap ∧ HOk P w H' s'.heap ∧
  (∀ b o, s.heap.get? b = some o → b ∉ frs outer → ∃ o', B.get? b = some o') ∧ (∀ b x, H' b = some x → ∃ o', B.get? b = some o') ∧ E C none H'
section
variable {P : Program} {w : World}
theorem ObjOk.there {H : Hp} {h : Heap} {a : Addr} {o : HO} (x : ObjOk P w H h a o) : ∃ ob, h.get? a = some ob := by
  cases o with
  | lst xs => obtain ⟨_, _, _, _, e⟩ := x; exact ⟨_, e⟩
  | tup xs => obtain ⟨_, _, _, _, e, _⟩ := x; exact ⟨_, e⟩
  | dK kvs => obtain ⟨_, _, _, _, o, _, _, e, _⟩ := x; exact ⟨_, e⟩
  | dT kvs => obtain ⟨_, _, _, _, o, _, _, e, _⟩ := x; exact ⟨_, e⟩
  | set S n => obtain ⟨o, _, _, _, e, _⟩ := x; exact ⟨_, e⟩
  | ins C dx fs => obtain ⟨_, _, _, e, _⟩ := x; exact ⟨_, e⟩
  | own y => obtain ⟨_, e⟩ := x; exact ⟨_, e⟩
  | xd fs => obtain ⟨_, ⟨_, _, _, e, _⟩, _⟩ := x; exact ⟨_, e⟩
  | rng lo hi => obtain ⟨_, _, _, e⟩ := x; exact ⟨_, e⟩
  | frz ob u => obtain ⟨e, _⟩ := x; exact ⟨_, e⟩
  | tbl ps => exact ⟨_, show h.get? a = some _ from x⟩
  | met f y => exact ⟨_, show h.get? a = some _ from x⟩
  | ext φ => obtain ⟨_, ⟨_, e⟩, _⟩ := x; exact ⟨_, e⟩
theorem fly_on {H H' : Hp} {h h1 h2 B : Heap} {l : List Env} (st1 : B.StaysIn h1) (ff : h1.FunFrames B l) (u : Un (frs l) [] H H' h h1) (ok : HOk P w H' h1)
    (old : ∀ b o, h.get? b = some o → b ∉ frs l → ∃ o', B.get? b = some o') (trk : ∀ b x, H' b = some x → ∃ o', B.get? b = some o') (st : B.StaysIn h2) (up : h1.UpToSlots h2) :
    Un (frs l) [] H H' h h2 ∧ HOk P w H' h2 := by
  have ex : ∀ b o o', h1.get? b = some o → B.get? b = some o' → h2.get? b = some o := fun b o o' e1 e2 => by
    have := st1 b o' e2
    rw [e1] at this
    cases this
    exact st b _ e2
  refine ⟨⟨fun b o e n nf nx => ?_, fun b o e n hf nx => ?_, u.free, fun b o e nx => ?_, u.tups, u.frzs, u.tbls⟩, fun a o e => (ok a o e).stay (fun b x hb q => ?_) (fun _ q => q) fun _ _ q => q⟩
  · obtain ⟨o', e'⟩ := old b o e nf
    exact ex b o o' (u.keep b o e n nf nx) e'
  · obtain ⟨sl, e1⟩ := u.slot b o e n hf nx
    obtain ⟨_, o2, e2, nd⟩ := ff.mem hf
    rw [e1] at e2
    cases e2
    obtain ⟨sl', e3⟩ := up b _ e1 nd
    exact ⟨sl', e3⟩
  · by_cases hf : b ∈ frs l
    · obtain ⟨_, o2, e2, nd⟩ := ff.mem hf
      obtain ⟨sl', e3⟩ := up b _ e2 nd
      exact ⟨_, e3⟩
    · obtain ⟨o', e'⟩ := old b o e hf
      exact ⟨_, st b _ e'⟩
  · rcases hb with rfl | hb
    · obtain ⟨o', e'⟩ := trk b o e
      exact ex b x o' q e'
    · obtain ⟨o', e'⟩ := trk b _ hb
      exact ex b x o' q e'
end
section
variable {P : Program} {w : World} {K : PySem.W.Frag} {mg : Str → Option Value} {base : Heap} {N : List Str} {qual : Str} {scope : Scope} {f : Addr} {cd : Value} {A : Around} {outer : List Env} {s0 : Shared} {H0 : Hp} {E : XK}
def Raises (X : Cx) (EE : XK) : Prop := ∀ (pins : List (Addr × Obj)) (σ : St) (H : Hp) (s : Shared) (h1 : Heap) (e : Addr) (C : Value) (args : List Value), Inv X pins σ H s → Heap.MadeExcOf s.heap h1 e C args → EE C none H → X.xe (.ref e) { s with heap := h1 }
theorem frs_cons {env : Env} {l : List Env} {L : Addr} (h : env.frame = some L) : frs (env :: l) = L :: frs l := by
  unfold frs
  rw [List.filterMap_cons, h]
theorem raisesE : Raises (cxOf (CXE P w) P w K mg base N qual scope f cd A outer s0 H0 E) E := by
  intro pins σ H s h1 e C args I hx hE
  have hfr : (envOfC qual scope s0.heap.objs.size f cd).frame = some s0.heap.objs.size := by
    rcases I.ok.stk with z | z
    · have := congrArg List.length z
      simp [cxOf] at this
    · exact z.2
  have fc := frs_cons (l := outer) hfr
  have ffS : s.heap.FunFrames (PySem.W.hideAll s.heap (frs (envOfC qual scope s0.heap.objs.size f cd :: outer))) (envOfC qual scope s0.heap.objs.size f cd :: outer) :=
    PySem.W.funFrames_hide I.stack fun env he b hb => List.mem_filterMap.mpr ⟨env, he, hb⟩
  have nL : ∀ b o, s0.heap.get? b = some o → b ∉ frs outer → b ∉ frs (envOfC qual scope s0.heap.objs.size f cd :: outer) := fun b o e nf hm => by
    rw [fc] at hm
    rcases List.mem_cons.mp hm with z | z
    · have := Heap.lt_size e
      rw [z] at this
      exact Nat.lt_irrefl _ this
    · exact nf z
  refine wpAny_leaves_madeW (base := PySem.W.hideAll s.heap (frs (envOfC qual scope s0.heap.objs.size f cd :: outer))) (h := s.heap) I.ok.frames hfr (fun b o q => PySem.W.of_hideAll _ q) ffS hx fun h' t x1 x2 x3 x4 => ?_
  have old : ∀ b o, s0.heap.get? b = some o → b ∉ frs outer → ∃ o', (PySem.W.hideAll s.heap (frs (envOfC qual scope s0.heap.objs.size f cd :: outer))).get? b = some o' := fun b o e nf => by
    obtain ⟨o', e'⟩ := I.base.there b o e (by simp [cxOf])
    exact ⟨o', PySem.W.hideAll_get _ e' (nL b o e nf)⟩
  have trk : ∀ b x, H b = some x → ∃ o', (PySem.W.hideAll s.heap (frs (envOfC qual scope s0.heap.objs.size f cd :: outer))).get? b = some o' := fun b x e => by
    obtain ⟨o', e'⟩ := (I.hok b x e).there
    refine ⟨o', PySem.W.hideAll_get _ e' fun hm => ?_⟩
    have := I.stkFree b hm
    rw [e] at this
    cases this
  obtain ⟨_, _, ff⟩ := id ffS
  obtain ⟨un, hok⟩ := fly_on (l := outer) (fun b o q => PySem.W.of_hideAll _ q) ff I.base I.hok old trk x1.1 ((Heap.UpToSlots.of_keeps hx.keeps).trans x4)
  exact ⟨e, C, .ref t, _, H, rfl, x1, I.os, I.bare, un, hok, old, trk, hE⟩
theorem passE : Passes (CXE P w) (cxOf (CXE P w) P w K mg base N qual scope f cd A outer s0 H0 E) E := by
  intro pins σ H s e s' I h
  obtain ⟨ea, C, a0, B, H', rfl, F, os, bare, un, hok, old, trk, hE⟩ := h
  have hfr : (envOfC qual scope s0.heap.objs.size f cd).frame = some s0.heap.objs.size := by
    rcases I.ok.stk with z | z
    · have := congrArg List.length z
      simp [cxOf] at this
    · exact z.2
  have fc := frs_cons (l := outer) hfr
  have nL : ∀ b o, s0.heap.get? b = some o → b ∉ frs outer → b ∉ frs (envOfC qual scope s0.heap.objs.size f cd :: outer) := fun b o e nf hm => by
    rw [fc] at hm
    rcases List.mem_cons.mp hm with z | z
    · have := Heap.lt_size e
      rw [z] at this
      exact Nat.lt_irrefl _ this
    · exact nf z
  have F' : Heap.FlyingW B (envOfC qual scope s0.heap.objs.size f cd :: outer) ea C a0 s'.heap := F
  have un' : Un (frs (envOfC qual scope s0.heap.objs.size f cd :: outer)) [] H H' s.heap s'.heap := un
  refine wpAny_leaves_onW I.ok.frames hfr F' fun h' x1 x4 => ?_
  have old' : ∀ b o, s0.heap.get? b = some o → b ∉ frs outer → ∃ o', B.get? b = some o' := fun b o e nf => by
    obtain ⟨o', e'⟩ := I.base.there b o e (by simp [cxOf])
    exact old b o' e' (nL b o e nf)
  have uE : Un (frs outer) [] H0 H' s0.heap s'.heap := by
    refine ⟨fun b o e n nf nx => ?_, fun b o e n hf nx => ?_, fun b o e n nx => ?_, fun b o e nx => ?_, fun b xs q => un'.tups _ _ (I.base.tups _ _ q), fun b o u q => un'.frzs _ _ _ (I.base.frzs _ _ _ q), fun b ps q => ?_⟩
    · exact un'.keep b o (I.base.keep b o e n nf nx) (I.base.free b o e n nx) (nL b o e nf) nx
    · obtain ⟨sl, e1⟩ := I.base.slot b o e n hf nx
      obtain ⟨sl2, e2⟩ := un'.slot b _ e1 (I.base.free b o e n nx) (by rw [fc]; exact List.mem_cons_of_mem _ hf) nx
      exact ⟨sl2, e2⟩
    · obtain ⟨o1, e1⟩ := I.base.there b o e nx
      exact un'.free b o1 e1 (I.base.free b o e n nx) nx
    · obtain ⟨o1, e1⟩ := I.base.there b o e nx
      exact un'.there b o1 e1 nx
    · obtain ⟨m1, q1⟩ := I.base.tbls _ _ q
      obtain ⟨m2, q2⟩ := un'.tbls _ _ q1
      exact ⟨m1 ++ m2, by rw [q2, Array.append_assoc]⟩
  obtain ⟨_, _, ff⟩ := id F'.2.2.1
  obtain ⟨u2, hok2⟩ := fly_on (l := outer) F'.1 ff uE hok old' trk x1.1 x4
  exact ⟨ea, C, a0, B, H', rfl, x1, os.trans I.os, bare, u2, hok2, old', trk, hE⟩
end
end L2
set_option Elab.async false
set_option linter.all false
set_option maxRecDepth 100000
set_option maxHeartbeats 8000000
namespace L2
open PySem PySem.Spec PyProof.Rows
section
variable {P : Program} {w : World} {K : PySem.W.Frag} {mg : Str → Option Value} {base : Heap}
theorem Fun.okE {x qual : Str} {st : Stmt} {f : Addr} {fd : FuncData} {N ps : List Str} {k : Nat} {sp : Sp} (F : Fun K x qual st f fd) (S : FnScope N ps (defScope st)) (len : ∀ vs H Q E, sp vs H Q E → vs.length = ps.length)
    (hbody : ∀ (cdv : Value) (A : Around) (outer : List Env) (s : Shared) (H : Hp) (vs : List V) (Q : VK) (E : XK), Room k (A.deeper (envOfC qual (defScope st) s.heap.objs.size f cdv)) → sp vs H Q E →
      ∃ t, PSs (cxOf (CXE P w) P w K mg base N qual (defScope st) f cdv A outer s H E) (defBody st) t ∧ t { nx := fun _ H' => Q .non H', rt := Q } (start N vs) H) : FnOk P w K mg base (CXE P w) (k + 1) f fd ps sp := by
  obtain ⟨oc, od, kV, doc, pm, an, cdv, ct, osl, rfl, lk, hcd⟩ := F.ex
  exact fn_of lk hcd S len fun A outer s H vs Q E hr hsp => hbody cdv A outer s H vs Q E hr hsp
theorem FnOk.calm {k : Nat} {f : Addr} {fd : FuncData} {ps : List Str} {sp sp' : Sp} (F : FnOk P w K mg base (CXE P w) k f fd ps sp) (h : ∀ vs H Q E, sp' vs H Q E → sp vs H Q E0) : FnOk P w K mg base CX0 k f fd ps sp' :=
  ⟨fun vs H Q E q => F.len _ _ _ _ (h _ _ _ _ q), fun A outer s H args us vs Q E hr he hb hv hs => codeAny_mono (F.run A outer s H args us vs Q E0 hr he hb hv (h _ _ _ _ hs)) fun r s' q => by
    cases r with
    | ok fl => cases fl <;> exact q
    | error e => obtain ⟨_, _, _, _, _, _, _, _, _, _, _, _, _, z⟩ := q; exact z.elim⟩
end
section
variable {X : Cx}
structure ExcC (K : PySem.W.Frag) (C : Addr) : Prop where
  is : PySem.W.excIn K C [.type "ValueError", .type "Exception", .type "BaseException", .type "object"] "ValueError.__new__" = true
theorem ExcC.obj {K : PySem.W.Frag} {C : Addr} (x : ExcC K C) {h : Heap} (X' : K.In h) : ∃ bm N nm q bs hdct sn sub ab col dd k0 k1 k2 k3 k5 mN, h.get? C = some (excClassObj nm q C N bs bm hdct sn sub ab col dd k0 k1 k2 k3 k5 "ValueError.__new__") ∧ h.Ns N mN ∧ mN "__init__" = none ∧
    OwnTail h [.type "ValueError", .type "Exception", .type "BaseException", .type "object"] bm := by
  have q := x.is
  unfold PySem.W.excIn at q
  split at q
  · rename_i dd cd sl ho
    split at q
    · rename_i C' bm k0 k1 k2 k3 n k5 hm hs
      simp only [Bool.and_eq_true, beq_iff_eq, Bool.not_eq_true'] at q
      obtain ⟨⟨⟨⟨⟨rfl, rfl⟩, hdel⟩, ht⟩, hok⟩, hni⟩ := q
      obtain ⟨nm, bs, mro, ns, qn, hd, sn, sub, ab, col, del⟩ := cd
      dsimp only at hm hdel hok hni
      subst hm hdel
      have hsl : sl = #[k0, k1, k2, k3, some (.builtin "ValueError.__new__"), k5] := by
        obtain ⟨l⟩ := sl
        simp only at hs
        rw [hs]
      subst hsl
      exact ⟨bm, ns, nm, qn, bs, hd, sn, sub, ab, col, dd, k0, k1, k2, k3, k5, _, X' _ _ ho, .of_isNs (PySem.W.isNs_of_in X' hok), PySem.W.nsMap_none_of_in X' hok hni, PySem.W.tail_of_in X' ht⟩
    · cases q
  · cases q
theorem ps_raise {EE : XK} {x : Str} {C : Addr} {np cpos pos : Pos} {e : Expr} {te : TE} (hR : Raises X EE) (hc : X.calm = true) (hg : Gl X x) (hm : X.mg x = some (.ref C)) (hC : ExcC X.K C) (he : PE X e te)
    (hd : (x == ("__debug__" : Str)) = false := by decide) (hst : starEach [e] X.env = (false, eval e X.env) :: starEach [] X.env := by rfl) :
    PS X (.Raise (some (.Call (.Name x np) [e] [] cpos)) none pos) (fun _ σ H => te σ H fun _ H1 => EE (.ref C) none H1) := by
  intro pins s σ H D I h
  obtain ⟨tl, N, nm, q, bs, hdct, sn, sub, ab, col, dd, k0, k1, k2, k3, k5, mN, hCo, hN, hni, T⟩ := hC.obj I.mod.kin
  refine wpAny_Raise_call_subT (C := C) (nm := nm) (q := q) (N := N) (bs := bs) (bm := tl) (hdct := hdct) (sn := sn) (sub := sub) (ab := ab) (col := col) (dd := dd) (k0 := k0) (k1 := k1) (k2 := k2) (k3 := k3) (k5 := k5)
    PySem.F.excBase_ValueError (mN := mN) (T.hasType PySem.F.excBase_ValueError.hasBase) (I.ok.hd hc) (by rw [hst]; rfl) hni ?_
  refine thn ((pe_glob hg hm (v := .ref C) rfl hd) pins s σ H (fun v H1 => v = .ref C ∧ H1 = H) I ⟨rfl, rfl⟩) fun u s1 ⟨v, H1, I1, r1, ev, eH⟩ => ?_
  subst ev eH
  obtain rfl : u = Value.ref C := r1
  refine ⟨rfl, ?_⟩
  rw [hst]
  refine Calls.evalArgs_plain (Calls.spliced_cons (thn (he pins s1 σ H1 _ I1 h) fun v2 s2 ⟨x2, H2, I2, r2, q2⟩ => Calls.spliced_nil ⟨rfl, ?_, ?_⟩))
  · show 1 ≤ sizeLine
    decide
  · exact ⟨I2.bk _ _ hCo, hN.keeps I2.bk, T.keeps I2.bk, fun h' e hmd => hR pins σ H2 s2 h' e _ _ I2 hmd q2⟩
abbrev Cx.inTry (X : Cx) (pn : List (Addr × Obj)) (W : Value → Shared → Prop) : Cx := { X with pn := pn, xe := W }
abbrev Cx.suite (X : Cx) (pn : List (Addr × Obj)) (e : Addr) : Cx := { X with pn := pn, A := X.A.mark (some (.ref e)), calm := false, xe := fun _ _ => False }
theorem Cx.Ok.inTry {X : Cx} (ok : X.Ok) (pn : List (Addr × Obj)) (W : Value → Shared → Prop) : (X.inTry pn W).Ok :=
  ⟨ok.mod, ok.kind, ok.glob, ok.blt, ok.above, ok.inj, ok.has, ok.cab, ok.hd, ok.frames, ok.stk, ok.exf, ok.bs, ok.bsz, ok.noex, ok.exfs, ok.funs, ok.frf⟩
theorem Cx.Ok.suite {X : Cx} (ok : X.Ok) (pn : List (Addr × Obj)) (e : Addr) : (X.suite pn e).Ok :=
  ⟨ok.mod, ok.kind, ok.glob, ok.blt, ok.above, ok.inj, ok.has, ok.cab, (fun z => by cases z), ok.frames, ok.stk, ok.exf, ok.bs, ok.bsz, ok.noex, ok.exfs, ok.funs, ok.frf⟩
section
variable {pins : List (Addr × Obj)} {σ : St} {H : Hp} {s : Shared}
theorem Inv.inTry (I : Inv X pins σ H s) (W : Value → Shared → Prop) : Inv (X.inTry (X.pn ++ pins) W) [] σ H s := ⟨I.ok.inTry _ W, I.os, I.bare, I.base, I.loc, I.cell, I.free, I.freeC, fun p hp => I.pin p (by simpa using hp), I.hok, I.len⟩
theorem Inv.outTry {W : Value → Shared → Prop} {pins' : List (Addr × Obj)} (ok : X.Ok) (I : Inv (X.inTry (X.pn ++ pins) W) pins' σ H s) : Inv X pins σ H s := ⟨ok, I.os, I.bare, I.base, I.loc, I.cell, I.free, I.freeC, fun p hp => I.pin p (List.mem_append_left _ hp), I.hok, I.len⟩
theorem Inv.inSuite (I : Inv X pins σ H s) (e : Addr) : Inv (X.suite (X.pn ++ pins) e) [] σ H s := ⟨I.ok.suite _ e, I.os, I.bare, I.base, I.loc, I.cell, I.free, I.freeC, fun p hp => I.pin p (by simpa using hp), I.hok, I.len⟩
theorem Inv.outSuite {e : Addr} {pins' : List (Addr × Obj)} (ok : X.Ok) (I : Inv (X.suite (X.pn ++ pins) e) pins' σ H s) : Inv X pins σ H s := ⟨ok, I.os, I.bare, I.base, I.loc, I.cell, I.free, I.freeC, fun p hp => I.pin p (List.mem_append_left _ hp), I.hok, I.len⟩
theorem SP.map {X Y : Cx} {pins pins' : List (Addr × Obj)} {D : Ends} {f : Flow} {s' : Shared} (h : SP X pins D f s') (k : ∀ σ H, Inv X pins σ H s' → Inv Y pins' σ H s') : SP Y pins' D f s' := by
  cases f with
  | next => obtain ⟨σ', H', I, q⟩ := h; exact ⟨σ', H', k _ _ I, q⟩
  | brk => obtain ⟨σ', H', I, q⟩ := h; exact ⟨σ', H', k _ _ I, q⟩
  | cont => obtain ⟨σ', H', I, q⟩ := h; exact ⟨σ', H', k _ _ I, q⟩
  | ret v => obtain ⟨u, σ', H', I, r, q⟩ := h; exact ⟨u, σ', H', k _ _ I, r, q⟩
end
end
end L2
set_option Elab.async false
set_option linter.all false
set_option maxRecDepth 100000
set_option maxHeartbeats 8000000
namespace L2
open PySem PySem.Spec PyProof.Rows PySem.W Builtin.ObjectAttr Builtin.Getset_descriptor
set_option autoImplicit false
def excAt (a C : Addr) (h : Heap) : Prop := ∃ ob, h.get? a = some ob ∧ ob.cls = .ref C
structure ExcLook (K : Frag) (C : Addr) : Prop where
  ga : findIn K (.ref C) "__getattribute__" = some (some (.builtin "BaseException.__getattribute__"))
  gh : findIn K (.ref C) "__getattr__" = some none
  cl : findIn K (.ref C) "__class__" = some (some (.builtin "object.__class__"))
  gs : specialIn K (.builtin "object.__class__") "__get__" = some (some (.builtin "getset_descriptor.__get__"))
  tk : takesIn K (.builtin "object.__class__") = some true
  mo : mroIn K C (.type "object") = some true
  mb : mroIn K C (.type "BaseException") = some true
section
variable {prog : Program} {w : World} {A : Around} {E : Value → Shared → Prop} {K : Frag} {a C : Addr} {hh : Heap} {g : Array GenState} {dr : Drawn} {t : Nat} {os : OsState}
theorem excAt.ty {M : Model} (x : excAt a C hh) : Looks M hh (typeOf (.ref a)) (.ref C) := by
  obtain ⟨ob, e, c⟩ := x
  exact c ▸ (Looks.ld e).andThen .now
theorem exc_find {M : Model} (Z : ExcLook K C) (X : K.In hh) : Looks M hh (find (.ref a) (.ref C) "__class__") (.bind (.builtin "getset_descriptor.__get__") (.builtin "object.__class__")) := by
  have l1 := looks_findIn (M := M) X Z.cl
  have l2 := looks_specialIn (M := M) X Z.gs
  have l3 := looks_takesIn (M := M) X Z.tk
  have l4 : Looks M hh (dataDescriptor? (some (.builtin "object.__class__")) (some (.builtin "getset_descriptor.__get__"))) (some (.builtin "getset_descriptor.__get__", .builtin "object.__class__")) := l3.andThen .now
  exact l1.andThen (l2.andThen (l4.andThen (Looks.tag .now)))
theorem exc_get {R : Result → Shared → Prop} {tp : Value} (Z : ExcLook K C) (X : K.In hh) (x : excAt a C hh) (h : R (.ok (.ret (.ref C))) ⟨hh, g, dr, t, os⟩) :
    codeAny (model prog w) A (.call (.builtin "getset_descriptor.__get__") ⟨[.builtin "object.__class__", .ref a, tp], []⟩) R ⟨hh, g, dr, t, os⟩ := by
  have l0 := x.ty (M := model prog w)
  have l1 := looks_mroIn (M := model prog w) X Z.mo
  refine codeAny_call_builtin KF.slot_gs.plain
    KF.entry_gs (KF.slot_gs.check
      _ _ _ _ _ _ _ _ KF.type_class
      (KF.args_gs _ _ _) ?_)
  unfold Builtin.«getset_descriptor.__get__»
  unfold descrGet
  rw [dga_obj]
  apply wpAny_bind
  apply wpAny_pure
  unfold descrGetter descrCheckInstance
  unfold descrNameAndClass isInstance
  simp only [KF.owner_class]
  repeat lk
  constructor
  · exact Code.quiet_builtin _ (by decide +kernel)
  · apply codeAny_builtin KF.entry_class
    unfold Builtin.«object.__class__»
    unfold shownTypeOf
    repeat lk
    exact h
theorem exc_check {M : Model} {nv : Value} {Q : Unit → Shared → Prop} (Z : ExcLook K C) (X : K.In hh) (x : excAt a C hh) (hq : Q () ⟨hh, g, dr, t, os⟩) : wpAny M A (checkBuiltinCall "BaseException.__getattribute__" ⟨[.ref a, nv], []⟩) Q E ⟨hh, g, dr, t, os⟩ := by
  have b1 : builtinKind "BaseException.__getattribute__" = some .slot := by decide +kernel
  have b2 : splitId "BaseException.__getattribute__" = some ("BaseException", "__getattribute__") := by decide +kernel
  have b3 := F.args_bexc_ga (.ref a) nv
  have l0 := x.ty (M := M)
  have l1 := looks_mroIn (M := M) X Z.mb
  simp only [checkBuiltinCall, b1, b2]
  apply wpAny_bind
  unfold isInstance
  apply wpAny_bind
  refine l0.at (l1.at ?_)
  repeat (first | exact hq | wp_step)
theorem exc_entry {nt : Tok} {Q : Fin → Shared → Prop} (Z : ExcLook K C) (X : K.In hh) (x : excAt a C hh) (h : Q (.done (.ret (.ref C))) ⟨hh, g, dr, t, os⟩) :
    wpAny (model prog w) A (Builtin.«object.__getattribute__» ⟨[.ref a, .str "__class__" nt], []⟩) Q E ⟨hh, g, dr, t, os⟩ := by
  have l0 := x.ty (M := model prog w)
  have l3 := exc_find (a := a) (M := model prog w) Z X
  unfold Builtin.«object.__getattribute__»
  repeat (any_goals (first | assumption | with_reducible refine l0.at ?_ | with_reducible refine l3.at ?_ | wp_step))
  refine exc_get Z X x ?_
  repeat (any_goals (first | assumption | wp_step))
theorem exc_call {nt : Tok} {R : Result → Shared → Prop} (Z : ExcLook K C) (X : K.In hh) (x : excAt a C hh) (h : R (.ok (.ret (.ref C))) ⟨hh, g, dr, t, os⟩) :
    codeAny (model prog w) A (.call (.builtin "BaseException.__getattribute__") ⟨[.ref a, .str "__class__" nt], []⟩) R ⟨hh, g, dr, t, os⟩ :=
  codeAny_call_builtin PySem.F.excAttr_ValueError.ga.plain F.entry_bexc_ga (exc_check Z X x (exc_entry Z X x h))
theorem exc_by {nt : Tok} {Q : Value → Shared → Prop} (Z : ExcLook K C) (X : K.In hh) (x : excAt a C hh) (h : Q (.ref C) ⟨hh, g, dr, t, os⟩) :
    wpAny (model prog w) A (getAttrBy (.ref a) (.str "__class__" nt) false) Q E ⟨hh, g, dr, t, os⟩ := by
  have l0 := x.ty (M := model prog w)
  have l1 := looks_findIn (M := model prog w) X Z.ga
  have l2 := looks_findIn (M := model prog w) X Z.gh
  have bs := PySem.F.excAttr_ValueError.ga.bind (.ref a)
  have d0 : (Value.builtin "BaseException.__getattribute__" == Value.builtin "object.__getattribute__") = false := by decide +kernel
  have d1 : (onTheHeap (Value.ref C) && (Value.builtin "BaseException.__getattribute__" == Value.builtin "object.__getattribute__")) = false := by rw [d0, Bool.and_false]
  have d2 : (false && onTheHeap (Value.builtin "BaseException.__getattribute__")) = false := rfl
  repeat (any_goals (first | assumption | with_reducible refine l0.at ?_ | with_reducible refine l1.at ?_ | with_reducible refine l2.at ?_ | wp_step))
  refine exc_call Z X x ?_
  repeat (any_goals (first | assumption | wp_step))
theorem exc_class {Q : Option Value → Shared → Prop} (Z : ExcLook K C) (X : K.In hh) (x : excAt a C hh) (h : Q (some (.ref C)) ⟨hh, g, dr, t + 1, os⟩) : wpAny (model prog w) A (getAttr? (.ref a) "__class__") Q E ⟨hh, g, dr, t, os⟩ := by
  unfold getAttr? getAttrBy?
  refine wpAny_bind (wpAny_mkText (wpAny_bind (wpAny_attempt (exc_by Z X x ?_))))
  exact wpAny_pure h
end
end L2
set_option Elab.async false
set_option linter.all false
set_option maxRecDepth 100000
set_option maxHeartbeats 8000000
namespace L2
open PySem PySem.Spec PyProof.Rows
set_option autoImplicit false
section
variable {K : PySem.W.Frag} {a C : Addr}
theorem kitx_exc (Z : ExcLook K C) : PySem.W.KitX K (.ref a) (.ref C) (excAt a C) := by
  obtain ⟨cd, hcd, _⟩ := Option.bind_eq_some_iff.mp Z.mo
  have own : ∃ c1 c2 c3 c4, K.lookup C = some ⟨c1, c2, .cls c3, c4⟩ := by
    unfold PySem.W.clsIn at hcd
    split at hcd
    · rename_i c1 c2 c3 c4 ho
      exact ⟨c1, c2, c3, c4, ho⟩
    · cases hcd
  obtain ⟨c1, c2, c3, c4, ho⟩ := own
  refine ⟨fun _ _ _ x => x.ty, fun M h X _ => ?_, fun h tp dd its n sl X htp => ?_, fun {_ _ _ _ _ s} X x q => ?_⟩
  · intro B Q' E' s' k q
    unfold isType
    unfold loadHead
    refine wpAny_bind ?_
    exact wpAny_loadPart (k _ _ (X _ _ ho)) (wpAny_pure q)
  · refine Bool.eq_false_iff.mpr fun z => ?_
    have e := Value.ref.inj (beq_iff_eq.mp z)
    subst e
    have y := (X _ _ ho).symm.trans htp
    cases y
  · obtain ⟨hh, g, d, t, os⟩ := s
    exact exc_class Z X x q
end
section
variable {X : Cx}
theorem call_isinstX : CallR X (.builtin "isinstance") (fun xs H Q => ∃ (a C D : Addr) (b : Bool), xs = [.ref a, .ref D] ∧ H a = some (.ext (excAt a C)) ∧ ExcLook X.K C ∧ PySem.W.kitOne X.K (.ref C) (.ref D) = some b ∧ Q (.bl b) H) := by
  intro pins s σ H xs us Q I r h
  obtain ⟨a, C, D, b, rfl, e, Z, k, q⟩ := h
  obtain ⟨u, v, rfl, ru, rv⟩ := vals2 r
  cases ru
  cases rv
  have o := (show ObjOk X.prog X.w H s.heap a (.ext (excAt a C)) from I.hok a _ e).1
  exact PySem.W.kia_one (kitx_exc Z) I.kIn o k (fun z => nomatch z) fun tk => ⟨.bl b, H, I.tok tk, rfl, q⟩
theorem call_isinstXT : CallR X (.builtin "isinstance") (fun xs H Q => ∃ (a C : Addr) (T : String) (b : Bool), xs = [.ref a, .ty T] ∧ H a = some (.ext (excAt a C)) ∧ ExcLook X.K C ∧ PySem.W.kitOne X.K (.ref C) (.type T) = some b ∧ Q (.bl b) H) := by
  intro pins s σ H xs us Q I r h
  obtain ⟨a, C, D, b, rfl, e, Z, k, q⟩ := h
  obtain ⟨u, v, rfl, ru, rv⟩ := vals2 r
  cases ru
  cases rv
  have o := (show ObjOk X.prog X.w H s.heap a (.ext (excAt a C)) from I.hok a _ e).1
  exact PySem.W.kia_one (kitx_exc Z) I.kIn o k (fun z => nomatch z) fun tk => ⟨.bl b, H, I.tok tk, rfl, q⟩
theorem call_isinstXK {K : PySem.W.Frag} (hK : X.K = K) : CallR X (.builtin "isinstance") (fun xs H Q => ∃ (a C D : Addr) (b : Bool), xs = [.ref a, .ref D] ∧ H a = some (.ext (excAt a C)) ∧ ExcLook K C ∧ PySem.W.kitOne K (.ref C) (.ref D) = some b ∧ Q (.bl b) H) := by
  subst hK
  exact call_isinstX
theorem call_isinstXTK {K : PySem.W.Frag} (hK : X.K = K) : CallR X (.builtin "isinstance") (fun xs H Q => ∃ (a C : Addr) (T : String) (b : Bool), xs = [.ref a, .ty T] ∧ H a = some (.ext (excAt a C)) ∧ ExcLook K C ∧ PySem.W.kitOne K (.ref C) (.type T) = some b ∧ Q (.bl b) H) := by
  subst hK
  exact call_isinstXT
theorem pe_dict0 {pos : Pos} : PE X (.Dict [] [] pos) (fun _ H Q => ∀ p, H p = none → Q (.ref p) (upd H p (.dK []))) := fun pins s σ H Q I h => by
  have big : sysModules < s.heap.objs.size := Nat.lt_trans (by decide) (show mainGlobals < s.heap.objs.size from (I.mod.glob.keeps I.bk).lt)
  have new : ObjOk X.prog X.w (upd H s.heap.objs.size (.dK [])) (s.heap.push { cls := .type "dict", data := .dict #[] }) s.heap.objs.size (.dK []) :=
    ⟨Nat.zero_le _, beq_eq_false_iff_ne.mpr (Ne.symm (Nat.ne_of_lt big)), [], .nil, Heap.DictOf.new _⟩
  refine wpAny_Dict_empty ⟨.ref s.heap.objs.size, _, I.laid (t' := s.toks) (fun b u z => Heap.get?_push_of_some _ z) (Nat.le_refl _) new, rfl, ?_⟩
  exact h _ (I.hok.fresh (Nat.le_refl _))
def Cal (X : Cx) (f : Addr) (r : List V → Hp → VK → Prop) : Prop := PySem.W.keepIn X.K (.ref f) = true ∧
  ∀ (pins : List (Addr × Obj)) (s : Shared) (σ : L2.St) (H : Hp) (vs : List V) (us : List Value) (Q : VK), Inv X pins σ H s → Vals vs us → r vs H Q → wpAny (model X.prog X.w) X.A (call (.ref f) us) (EP X pins σ Q) X.xe s
theorem Cal.of {CX : CXT} {k : Nat} {f : Addr} {fd : FuncData} {ps : List Str} {sp : Sp} {E : XK} (F : FnOk X.prog X.w X.K X.mg X.base CX k f fd ps sp) (hr : Room k X.A) (hk : PySem.W.keepIn X.K (.ref f) = true) (hb : Binds X.K fd ps []) (hx : Passes CX X E) :
    Cal X f fun vs H Q => sp vs H Q E := ⟨hk, fun pins s σ H vs us Q I r h => run_fn (dvs := []) F hr hb .nil hx I r (by rw [List.append_nil]; exact h)⟩
theorem pe_callF {a b e : Expr} {es : List Expr} {p pos : Pos} {tf : TE} {t : TA} (hf : PE X (.Subscript a b p) tf) (ha : PA X (e :: es) t)
    (he : starEach (e :: es) X.env = (false, eval e X.env) :: starEach es X.env := by rfl) (hpl : (backTo pos (starEach es X.env)).any (·.1) = false := by rfl)
    (ht : eval (.Call (.Subscript a b p) (e :: es) [] pos) X.env = (do
      let fv ← eval (.Subscript a b p) X.env
      callWith pos fv [] (backTo pos (starEach (e :: es) X.env)) (backToKw pos (keywordEach [] X.env))) := by rfl) :
    PE X (.Call (.Subscript a b p) (e :: es) [] pos) (fun σ H Q => tf σ H fun x H1 => ∃ f r, x = .ref f ∧ Cal X f r ∧ t σ H1 fun vs H2 => r vs H2 Q) := by
  intro pins s σ H Q I h
  rw [ht]
  refine wpAny_bind (thn (hf pins s σ H _ I h) fun u s1 ⟨x, H1, I1, rx, f, r, ex, c, q⟩ => ?_)
  subst ex
  obtain rfl : u = Value.ref f := rx
  refine PySem.W.callWith_K (h₀ := X.base) I.ok.mod.kin c.1 (thn (ha pos pins s1 σ H1 _ I1 q) fun us s2 ⟨vs, H2, I2, rv, q2⟩ => ⟨I2.kIn, ?_⟩) he hpl
  exact c.2 pins s2 σ H2 vs us Q I2 rv q2
theorem ps_tryAs {body : List Stmt} {x n : Str} {CP : Addr} {np hpos pos : Pos} {b₀ : Stmt} {suite : List Stmt} {tb : XK → TS} {ts : TS} {i : Nat}
    (hstk : X.stack = X.env :: X.outer) (hf : X.env.frame = some X.env.locals) (hg : Gl X x) (hm : X.mg x = some (.ref CP)) (hN : X.N.Nodup) (hi : X.N[i]? = some n) (hl : X.env.scope.names.lookup n = some .local)
    (hb : ∀ (pn : List (Addr × Obj)) (W : Value → Shared → Prop) (EE : XK), Passes (CXE X.prog X.w) (X.inTry pn W) EE → PSs (X.inTry pn W) body (tb EE))
    (hs : ∀ (pn : List (Addr × Obj)) (e : Addr), PSs (X.suite pn e) (b₀ :: suite) ts) (hd : (x == ("__debug__" : Str)) = false := by decide) :
    PS X (.Try body [.ExceptHandler (some (.Name x np)) (some n) (b₀ :: suite) hpos] [] [] pos)
      (fun D σ H => tb (fun C _ H' => ∃ A : Addr, C = .ref A ∧ PySem.W.exmOne X.K C (.ref CP) = some true ∧ ∀ (σ' : L2.St) (ea : Addr), σ'.length = X.N.length → H' ea = none → ts { nx := fun _ _ => False, bk := fun _ _ => False, ct := fun _ _ => False, rt := D.rt } (σ'.set i (some (.ref ea))) (upd H' ea (.ext (excAt ea A)))) D σ H) := by
  intro pins s σ H D I hw
  have hE : Passes (CXE X.prog X.w) (X.inTry (X.pn ++ pins) fun e s₁ => wpAny (model X.prog X.w) X.A (noteFrame e X.env) (fun _ s₂ => wpAny (model X.prog X.w) X.A (setFlight e none) (fun _ s₃ => wpAny (model X.prog X.w) X.A (handleBy e X.env [.ExceptHandler (some (.Name x np)) (some n) (b₀ :: suite) hpos]) (SP X pins D) X.xe s₃) X.xe s₂) X.xe s₁)
      (fun C _ H' => ∃ A : Addr, C = .ref A ∧ PySem.W.exmOne X.K C (.ref CP) = some true ∧ ∀ (σ' : L2.St) (ea : Addr), σ'.length = X.N.length → H' ea = none → ts { nx := fun _ _ => False, bk := fun _ _ => False, ct := fun _ _ => False, rt := D.rt } (σ'.set i (some (.ref ea))) (upd H' ea (.ext (excAt ea A)))) := by
    intro pins' σ' H1 s1 e s2 I1 hc
    obtain ⟨ea, C, a0, B, H', rfl, F, os, bare, un, hok, old, trk, CA, rfl, hEm, hEs⟩ := hc
    have F' : Heap.FlyingW B (X.env :: X.outer) ea (.ref CA) a0 s2.heap := hstk ▸ F
    have hfs : X.A.frames = some (X.env :: X.outer) := hstk ▸ I.ok.frames
    show wpAny (model X.prog X.w) X.A (noteFrame (.ref ea) X.env) _ _ s2
    refine wpAny_looks_onW hfs hf F' fun h4 held up4 => ?_
    refine wpAny_landsW held fun h5 F5 up5 => ?_
    have up := up4.trans up5
    have F5' : Heap.FlyingW B X.stack ea (.ref CA) a0 h5 := hstk ▸ F5
    obtain ⟨un5, hok5⟩ := fly_on (P := X.prog) (w := X.w) F.1 F.2.2.1 un hok old trk F5'.1 up
    have I5 : Inv X pins σ' H' { s2 with heap := h5 } := Inv.outTry I.ok (I1.call' (s' := { s2 with heap := h5 }) (ch := []) os un5 hok5 bare fun b z => absurd z (by simp))
    refine wpAny_handleBy_cons (codeAny_handlers_test ?_) (by intro q; cases q)
    have J5 := I5.inSuite ea
    refine ld_glob J5 hg hm ?_ hd
    obtain ⟨ob, hob, hobc⟩ := F5.there
    have LT : PySem.W.Looks (model X.prog X.w) h5 (typeOf (.ref ea)) (.ref CA) := hobc ▸ (PySem.W.Looks.ld hob).andThen .now
    refine (PySem.W.exm_one (M := model X.prog X.w) (h := h5) I5.kIn LT hEm) _ _ _ _ (fun _ _ z => z) ?_
    rw [if_pos rfl]
    show codeAny _ _ _ _ _
    refine codeAny_handlers_suite_as (lands_againW F5' fun h6 F6 up6 => ?_)
    obtain ⟨un6, hok6⟩ := fly_on (P := X.prog) (w := X.w) F.1 F.2.2.1 un hok old trk F6.1 (up.trans up6)
    have hfree : H' ea = none := by
      cases q : H' ea with
      | none => rfl
      | some o => obtain ⟨o', e'⟩ := trk ea o q; rw [F.2.1] at e'; cases e'
    have hnew : ∀ o, s1.heap.get? ea = some o → False := fun o e => by
      by_cases hm : ea ∈ frs X.stack
      · obtain ⟨_, o2, e2, nd⟩ := F.2.2.1.mem hm
        obtain ⟨_, _, _, oe, vs, _, _, _, he, _, hdt, _⟩ := F
        rw [he] at e2
        cases e2
        exact nd vs hdt
      · obtain ⟨o', e'⟩ := old ea o e hm
        rw [F.2.1] at e'
        cases e'
    have un7 : Un (frs X.stack) [] H1 (upd H' ea (.ext (excAt ea CA))) s1.heap h6 := by
      refine ⟨un6.keep, un6.slot, fun b o e n nx => ?_, un6.there, fun b xs q => ?_, fun b o u q => ?_, fun b ps q => ?_⟩
      · rw [upd_ne (fun z => by subst z; exact hnew o e)]
        exact un6.free b o e n nx
      · have := un6.tups b xs q
        rw [upd_ne (fun z => by subst z; rw [hfree] at this; cases this)]
        exact this
      · have := un6.frzs b o u q
        rw [upd_ne (fun z => by subst z; rw [hfree] at this; cases this)]
        exact this
      · obtain ⟨more, this⟩ := un6.tbls b ps q
        refine ⟨more, ?_⟩
        rw [upd_ne (fun z => by subst z; rw [hfree] at this; cases this)]
        exact this
    have mono : ∀ b o, H' b = some o → upd H' ea (.ext (excAt ea CA)) b = some o := fun b o q => by
      rw [upd_ne (fun z => by subst z; rw [hfree] at q; cases q)]
      exact q
    have hok7 : HOk X.prog X.w (upd H' ea (.ext (excAt ea CA))) h6 := fun b o q => by
      by_cases hbe : b = ea
      · subst hbe
        rw [upd_same] at q
        cases q
        obtain ⟨ob6, e6, c6⟩ := F6.there
        exact ⟨⟨ob6, e6, c6⟩, ⟨ob6, e6⟩, fun h1 h2 ⟨o, e, c⟩ k => ⟨o, k o e, c⟩⟩
      · rw [upd_ne hbe] at q
        exact (hok6 b o q).stay (fun _ _ _ z => z) (fun c z => mono _ _ z) fun c xs z => mono _ _ z
    have I6 : Inv X pins σ' (upd H' ea (.ext (excAt ea CA))) { s2 with heap := h6 } := Inv.outTry I.ok (I1.call' (s' := { s2 with heap := h6 }) (ch := []) os un7 hok7 bare fun b z => absurd z (by simp))
    refine store_ok2 (X := X.suite (X.pn ++ pins) ea) (v := .ref ea) (I6.inSuite ea) hN hi (.inl hl) rfl (fun s7 I7 _ => ?_) (.inr hl)
    refine wpAny_mono ((hs _ ea) [] _ _ _ _ I7 (hEs σ' ea I6.len hfree)) (fun fl s8 q => ?_) fun _ _ z => False.elim z
    have hloc : ∀ {σ2 : L2.St} {H2 : Hp}, Inv X pins σ2 H2 s8 → ∀ v, D.rt v H2 → ∀ u, RelV v u → wpAny (model X.prog X.w) X.A (do bindName X.env n .none; unbindBehindTheSuite X.env n hpos) (fun _ s9 => SP X pins D (.ret u) s9) X.xe s8 := fun {σ2 H2} J v hv u rv => by
      obtain ⟨m, hn, _⟩ := id J.loc
      have hk : X.env.kindOf n = some .local := hl
      have hcls : (X.env.scope.kind == .class || (X.env.scope.kind == .module && X.env.locals != X.env.globals)) = false := by rw [J.ok.kind]; rfl
      refine wpAny_nameGoes hk hn hcls fun h9 m9 hn9 sb => ?_
      refine ⟨v, List.replicate X.N.length none, H2, ?_, rv, hv⟩
      have cne := J.cne
      obtain ⟨oL, _, _, hoL, _⟩ := id hn
      have off : ∀ b o, X.s₀.heap.get? b = some o → h9.get? b = s8.heap.get? b := fun b o e => sb.2 b (Nat.ne_of_lt (Nat.lt_of_lt_of_le (Heap.lt_size e) J.ok.above))
      refine ⟨J.ok, J.os, J.bare, ⟨fun b o e n hb hx => (off b o e).trans (J.base.keep b o e n hb hx), fun b o e n hb hx => ?_, J.base.free, fun b o e hx => ?_, J.base.tups, J.base.frzs, J.base.tbls⟩, ⟨m9, hn9, fun j y v' e1 e2 e3 => ?_⟩, fun y c e => ?_, J.free, J.freeC, fun p hp => ?_, fun b ob e => ?_, by simp⟩
      · obtain ⟨sl, e1⟩ := J.base.slot b o e n hb hx
        exact ⟨sl, (off b o e).trans e1⟩
      · obtain ⟨o', e1⟩ := J.base.there b o e hx
        exact ⟨o', (off b o e).trans e1⟩
      · rw [List.getElem?_replicate] at e2
        split at e2 <;> cases e2
      · obtain ⟨w', z⟩ := J.cell y c e
        exact ⟨w', z.sameBut sb (cne y c e)⟩
      · obtain ⟨e, n', ne, nf, d⟩ := J.pin p hp
        exact ⟨(sb.2 p.1 ne).trans e, n', ne, nf, d⟩
      · refine (J.hok b ob e).stay (fun c w' hc q => (sb.2 c ?_).trans q) (fun _ q => q) fun _ _ q => q
        rintro rfl
        rcases hc with rfl | hc
        · rw [J.free] at e; cases e
        · rw [J.free] at hc; cases hc
    cases fl with
    | next => obtain ⟨_, _, _, z⟩ := q; exact z.elim
    | brk => obtain ⟨_, _, _, z⟩ := q; exact z.elim
    | cont => obtain ⟨_, _, _, z⟩ := q; exact z.elim
    | ret u =>
      obtain ⟨v, σ2, H2, J, rv, hv⟩ := q
      exact hloc (Inv.outSuite I.ok J) v hv u rv
  refine wpAny_Try_except (wpAny_mono (hb _ _ _ hE [] s σ H D (I.inTry _) hw) (fun f s1 q => ?_) fun e s1 h => h)
  have q' : SP X pins D f s1 := q.map fun σ H J => Inv.outTry I.ok J
  cases f with
  | next => exact wpAny_execs_nil q'
  | ret v => exact q'
  | brk => exact q'
  | cont => exact q'
end
end L2
set_option Elab.async false
set_option linter.all false
set_option maxRecDepth 100000
set_option maxHeartbeats 4000000
namespace L2
open PySem PySem.Spec PyProof.Rows
@[irreducible] def Irr (p : Prop) : Prop := p
theorem Irr.mk {p : Prop} (h : p) : Irr p := by unfold Irr; exact h
theorem Irr.out {p : Prop} (h : Irr p) : p := by unfold Irr at h; exact h
theorem Fun.okEI {P : Program} {w : World} {K : PySem.W.Frag} {mg : Str → Option Value} {base : Heap} {x qual : Str} {st : Stmt} {f : Addr} {fd : FuncData} {N ps : List Str} {k : Nat} {sp : Sp} (F : Fun K x qual st f fd) (S : FnScope N ps (defScope st)) (len : ∀ vs H Q E, sp vs H Q E → vs.length = ps.length)
    (hbody : ∀ (cdv : Value) (A : Around) (outer : List Env) (s : Shared) (H : Hp) (vs : List V) (Q : VK) (E : XK), Room k (A.deeper (envOfC qual (defScope st) s.heap.objs.size f cdv)) → sp vs H Q E → ∃ t, Irr (PSs (cxOf (CXE P w) P w K mg base N qual (defScope st) f cdv A outer s H E) (defBody st) t) ∧ t { nx := fun _ H' => Q .non H', rt := Q } (start N vs) H) : FnOk P w K mg base (CXE P w) (k + 1) f fd ps sp :=
  F.okE S len fun cdv A outer s H vs Q E hr h => by
    obtain ⟨t, h1, h2⟩ := hbody cdv A outer s H vs Q E hr h
    exact ⟨t, h1.out, h2⟩
section
variable {X : Cx} {pos : Pos}
theorem pss_consI {st : Stmt} {rest : List Stmt} {t u : TS} (h1 : Irr (PS X st t)) (h2 : Irr (PSs X rest u)) : Irr (PSs X (st :: rest) (tSeq t u)) := .mk (pss_cons h1.out h2.out)
theorem pss_oneI {st : Stmt} {t : TS} (h1 : Irr (PS X st t)) : Irr (PSs X [st] t) := .mk (pss_one h1.out)
theorem pss_nilI : Irr (PSs X [] tNext) := .mk pss_nil
theorem ps_setI {i : Nat} {x : Str} {e : Expr} {te : TE} {pos' : Pos} (hN : X.N.Nodup) (hi : X.N[i]? = some x) (hx : Loc X.env.scope x) (he : Irr (PE X e te)) (hs : swapsWith e (some (.Name x pos')) pos.line X.env = pure false := by rfl) (hf : X.fn x = true ∨ X.env.scope.names.lookup x = some .local := by first | exact .inl rfl | exact .inr rfl | assumption) : Irr (PS X (.Assign [.Name x pos'] e pos) (tAsg te (gName i))) := .mk (ps_set hN hi hx he.out hs hf)
theorem ps_ifI {c : Expr} {a b : List Stmt} {tc : TT} {t u : TS} (hc : Irr (PT X c tc)) (ha : Irr (PSs X a t)) (hb : Irr (PSs X b u)) : Irr (PS X (.If c a b pos) (tIfS tc t u)) := .mk (ps_if hc.out ha.out hb.out)
theorem ps_retI {e : Expr} {te : TE} (he : Irr (PE X e te)) : Irr (PS X (.Return (some e) pos) (tRet te)) := .mk (ps_ret he.out)
theorem ps_asgI {tg e : Expr} {te : TE} {g : TG} (he : Irr (PE X e te)) (hg : PG X tg g) (hs : swapsWithSole [tg] e pos.line X.env = pure false := by rfl) (hw : swappedStores [tg] e X.env = pure none := by rfl) (h1 : (assignEach [tg] X.env).map (·.2) = [assign tg X.env] := by rfl) : Irr (PS X (.Assign [tg] e pos) (tAsg te g)) := .mk (ps_asg he.out hg hs hw h1)
theorem pt_cmpRI {op : CmpOp} {r : R2} {a b : Expr} {ta tb : TE} (ho : OpR X (compareOp op) r) (ha : Irr (PE X a ta)) (hb : Irr (PE X b tb)) (hm : behindInMarks op b = false) : Irr (PT X (.Compare a [op] [b] pos) (tTest (tOp r ta tb))) := .mk (pt_cmpR ho ha.out hb.out hm)
theorem pe_ifExpI {c a b : Expr} {tA : TT} {ta tb : TE} (hc : Irr (PT X c tA)) (ha : Irr (PE X a ta)) (hb : Irr (PE X b tb)) : Irr (PE X (.IfExp c a b pos) (tIf tA ta tb)) := .mk (pe_ifExp hc.out ha.out hb.out)
theorem pe_callI {CX : CXT} {k : Nat} {f : Addr} {fd : FuncData} {ps : List Str} {sp : Sp} {dvs : List V} {ds : List Value} {E : XK} {x : Str} {p : Pos} {e : Expr} {es : List Expr} {t : TA} (F : FnOk X.prog X.w X.K X.mg X.base CX k f fd ps sp) (hr : Room k X.A) (hg : Gl X x) (hm : X.mg x = some (.ref f)) (hk : PySem.W.keepIn X.K (.ref f) = true) (hb : Binds X.K fd ps ds) (hd : Vals dvs ds) (hx : Passes CX X E) (ha : Irr (PA X (e :: es) t)) (hdb : (x == ("__debug__" : Str)) = false := by decide) (he : starEach (e :: es) X.env = (false, eval e X.env) :: starEach es X.env := by rfl) (hpl : (backTo pos (starEach es X.env)).any (·.1) = false := by rfl) : Irr (PE X (.Call (.Name x p) (e :: es) [] pos) (tCall sp dvs E t)) := .mk (pe_call F hr hg hm hk hb hd hx ha.out hdb he hpl)
theorem pe_callFI {a b e : Expr} {es : List Expr} {p : Pos} {tf : TE} {t : TA} (hf : Irr (PE X (.Subscript a b p) tf)) (ha : Irr (PA X (e :: es) t)) (he : starEach (e :: es) X.env = (false, eval e X.env) :: starEach es X.env := by rfl) (hpl : (backTo pos (starEach es X.env)).any (·.1) = false := by rfl) (ht : eval (.Call (.Subscript a b p) (e :: es) [] pos) X.env = (do let fv ← eval (.Subscript a b p) X.env; callWith pos fv [] (backTo pos (starEach (e :: es) X.env)) (backToKw pos (keywordEach [] X.env))) := by rfl) :
    Irr (PE X (.Call (.Subscript a b p) (e :: es) [] pos) (fun σ H Q => tf σ H fun x H1 => ∃ f r, x = .ref f ∧ Cal X f r ∧ t σ H1 fun vs H2 => r vs H2 Q)) := .mk (pe_callF hf.out ha.out he hpl ht)
theorem pe_ixI {r : R2} {a b : Expr} {ta tb : TE} (hr : IxR X r) (ha : Irr (PE X a ta)) (hb : Irr (PE X b tb)) (hs : PlainIx b) : Irr (PE X (.Subscript a b pos) (tOp r ta tb)) := .mk (pe_ix hr ha.out hb.out hs)
theorem pe_lstI {es : List Expr} {t : TA} (h : Irr (PA X es t)) : Irr (PE X (.List es pos) (tLst t)) := .mk (pe_lst h.out)
theorem pe_tupI {es : List Expr} {t : TA} {k : Nat} (h : Irr (PA X es t)) : Irr (PE X (.Tuple es k pos) (tTup t)) := .mk (pe_tup h.out)
theorem pe_opI {op : Operator} {r : R2} {a b : Expr} {ta tb : TE} (ho : OpR X (binaryOp op) r) (ha : Irr (PE X a ta)) (hb : Irr (PE X b tb)) : Irr (PE X (.BinOp a op b pos) (tOp r ta tb)) := .mk (pe_op ho ha.out hb.out)
theorem pe_unI {op : UnaryOp} {r : V → Hp → VK → Prop} {a : Expr} {ta : TE} (ho : UnR X (unaryOp op) r) (ha : Irr (PE X a ta)) : Irr (PE X (.UnaryOp op a pos) (tUn r ta)) := .mk (pe_un ho ha.out)
theorem pe_intI {i : Int} {j : Nat} : Irr (PE X (.Constant (.int i) j pos) (tC (.int i))) := .mk pe_int
theorem pe_blI {b : Bool} {j : Nat} : Irr (PE X (.Constant (.bool b) j pos) (tC (.bl b))) := .mk pe_bl
theorem pe_strI {x : Str} {j : Nat} : Irr (PE X (.Constant (.str x) j pos) (tC (.str x))) := .mk pe_str
theorem pe_nonI {j : Nat} : Irr (PE X (.Constant .none j pos) (tC .non)) := .mk pe_non
theorem pe_dict0I : Irr (PE X (.Dict [] [] pos) (fun _ H Q => ∀ p, H p = none → Q (.ref p) (upd H p (.dK [])))) := .mk pe_dict0
theorem pe_globI {x : Str} {v : V} {u : Value} (hg : Gl X x) (hm : X.mg x = some u) (r : RelV v u) (hd : (x == ("__debug__" : Str)) = false := by decide) : Irr (PE X (.Name x pos) (tC v)) := .mk (pe_glob hg hm r hd)
theorem pa_consI {e : Expr} {es : List Expr} {te : TE} {t : TA} (ha : Irr (PE X e te)) (hr : Irr (PA X es t)) (hs : starEach (e :: es) X.env = (false, eval e X.env) :: starEach es X.env := by rfl) : Irr (PA X (e :: es) (tCons te t)) := .mk (pa_cons ha.out hr.out hs)
theorem pa_nilI : Irr (PA X [] tNil) := .mk pa_nil
theorem pvI (i : Nat) {x : Str} (hN : X.N[i]? = some x := by rfl) (hv : Vis X.env.scope x := by first | exact Or.inl rfl | exact Or.inr (Or.inl rfl) | exact Or.inr (Or.inr rfl)) (hd : (x == ("__debug__" : Str)) = false := by decide) (hcd : (x == ("__classdict__" : Str)) = false := by decide) : Irr (PE X (.Name x pos) (tVar i)) := .mk (pe_var hN hv hd hcd)
theorem pe_compI {N : List Str} {sc : Scope} {L : Nat} {ix : List Nat} {tg iter elt : Expr} {wi : TI} {g : TG} {tc : TT} {te : TE} {ifs : List Expr} (hc : X.calm = true) (S : CScope N X.N X.env.scope sc L ix) (hi : PI X tg iter wi) (hb : ∀ (C : Addr) (s₀ : Shared) (H₀ : Hp) (fp : List Addr), PG (cxComp X N sc C s₀ H₀ fp) tg g ∧ PTs (cxComp X N sc C s₀ H₀ fp) ifs tc ∧ PE (cxComp X N sc C s₀ H₀ fp) elt te) (hs : ∀ x, foldedSetIterable iter X.env x = pure x := by intro _; rfl) :
    Irr (PE X (.ListComp elt [⟨tg, iter, ifs, 0⟩] sc pos) (tComp wi L ix g tc te)) := .mk (pe_comp hc S hi hb hs)
end
end L2
set_option linter.all false
namespace Ph
def ab (i : Int) : Int := if i < 0 then -i else i
def plc (road : List (Int × Int)) (h : Nat) : Int := (road.getD h (0, 0)).1
def let' (road : List (Int × Int)) (h : Nat) : Int := (road.getD h (0, 0)).2
def dst (road : List (Int × Int)) (ps : List Int) (h j : Nat) : Int := ab (plc road h - plc road (ps.getD j 0).toNat)
def adv (road : List (Int × Int)) (ps : List Int) (h : Nat) : Nat → Nat → Nat
  | 0, t => t
  | f + 1, t => if t + 1 < ps.length ∧ dst road ps h (t + 1) < dst road ps h t then adv road ps h f (t + 1) else t
def turns (road : List (Int × Int)) (ps : List Int) : Nat → Nat
  | 0 => 0
  | k + 1 => adv road ps k ps.length (turns road ps k)
def near (road : List (Int × Int)) (ps : List Int) : List Int := (List.range road.length).map fun h => ps.getD (turns road ps (h + 1)) 0
def wayOf (road : List (Int × Int)) (ps : List Int) : Int := ((List.range road.length).map fun h => let' road h * dst road ps h (turns road ps (h + 1))).sum
theorem adv_stop {road : List (Int × Int)} {ps : List Int} {h f t : Nat} (hc : ¬ (t + 1 < ps.length ∧ dst road ps h (t + 1) < dst road ps h t)) : adv road ps h f t = t := by
  cases f with
  | zero => rfl
  | succ f => rw [adv, if_neg hc]
theorem adv_go {road : List (Int × Int)} {ps : List Int} {h f t : Nat} (hf : ps.length ≤ f + t) (hc : t + 1 < ps.length ∧ dst road ps h (t + 1) < dst road ps h t) : ∃ f', f = f' + 1 ∧ ps.length ≤ f' + (t + 1) ∧ adv road ps h f t = adv road ps h f' (t + 1) := by
  cases f with
  | zero => (first | lia | omega)
  | succ f => exact ⟨f, rfl, by (first | lia | omega), by rw [adv, if_pos hc]⟩
def Lf (road : List (Int × Int)) (ps : List Int) (h t : Nat) : Prop := 0 < t → dst road ps h t < dst road ps h (t - 1)
theorem adv_props (road : List (Int × Int)) (ps : List Int) (h : Nat) : ∀ f t, t < ps.length → Lf road ps h t → ps.length ≤ f + t →
    t ≤ adv road ps h f t ∧ adv road ps h f t < ps.length ∧ Lf road ps h (adv road ps h f t) ∧ (adv road ps h f t + 1 < ps.length → ¬ dst road ps h (adv road ps h f t + 1) < dst road ps h (adv road ps h f t)) := by
  intro f
  induction f with
  | zero => intro t h1 h2 h3; (first | lia | omega)
  | succ f ih =>
    intro t h1 h2 h3
    by_cases hc : t + 1 < ps.length ∧ dst road ps h (t + 1) < dst road ps h t
    · rw [adv, if_pos hc]
      have l' : Lf road ps h (t + 1) := fun _ => by simpa using hc.2
      obtain ⟨a, b, c, d⟩ := ih (t + 1) hc.1 l' (by (first | lia | omega))
      exact ⟨by (first | lia | omega), b, c, d⟩
    · rw [adv, if_neg hc]
      exact ⟨Nat.le_refl _, h1, h2, fun z1 z2 => hc ⟨z1, z2⟩⟩
def Rise (ns : List Int) : Prop := ∀ j : Nat, j + 1 < ns.length → ns.getD j 0 < ns.getD (j + 1) 0
theorem Rise.lt {ns : List Int} (h : Rise ns) : ∀ {i j : Nat}, i < j → j < ns.length → ns.getD i 0 < ns.getD j 0 := by
  intro i j hij
  induction j with
  | zero => (first | lia | omega)
  | succ j ih =>
    intro hj
    rcases Nat.lt_succ_iff_lt_or_eq.mp hij with z | z
    · have := ih z (by (first | lia | omega))
      have := h j hj
      (first | lia | omega)
    · subst z; exact h i hj
theorem plc_map (road : List (Int × Int)) (h : Nat) : (road.map (·.1)).getD h 0 = plc road h := by
  unfold plc
  rw [List.getD_eq_getElem?_getD, List.getD_eq_getElem?_getD, List.getElem?_map]
  cases road[h]? <;> rfl
theorem plc_lt {road : List (Int × Int)} (hr : Rise (road.map (·.1))) {i j : Nat} (hij : i < j) (hj : j < road.length) : plc road i < plc road j := by
  have := hr.lt hij (by simpa using hj)
  rwa [plc_map, plc_map] at this
structure PostsOk (n : Nat) (ps : List Int) : Prop where
  rise : Rise ps
  lo : ∀ q ∈ ps, 0 ≤ q
  hi : ∀ q ∈ ps, q < (n : Int)
  some : 0 < n → 0 < ps.length
theorem PostsOk.at {n : Nat} {ps : List Int} (P : PostsOk n ps) {j : Nat} (h : j < ps.length) : 0 ≤ ps.getD j 0 ∧ ps.getD j 0 < (n : Int) := by
  have e : ps.getD j 0 = ps[j] := by simp [List.getD_eq_getElem?_getD, h]
  rw [e]
  exact ⟨P.lo _ (List.getElem_mem h), P.hi _ (List.getElem_mem h)⟩
theorem PostsOk.len_le {n : Nat} {ps : List Int} (P : PostsOk n ps) : ps.length ≤ n := by
  have key : ∀ j, j < ps.length → (j : Int) ≤ ps.getD j 0 := by
    intro j
    induction j with
    | zero => intro h; exact (P.at h).1
    | succ j ih =>
      intro h
      have h1 := ih (by (first | lia | omega))
      have h2 := P.rise j h
      (first | lia | omega)
  rcases Nat.eq_zero_or_pos ps.length with z | z
  · (first | lia | omega)
  · have h1 := key (ps.length - 1) (by (first | lia | omega))
    have h2 := (P.at (show ps.length - 1 < ps.length by (first | lia | omega))).2
    (first | lia | omega)
theorem lf_next {road : List (Int × Int)} {ps : List Int} (hr : Rise (road.map (·.1))) (P : PostsOk road.length ps) {h t : Nat} (hh : h + 1 < road.length) (ht : t < ps.length) (l : Lf road ps h t) : Lf road ps (h + 1) t := by
  intro h0
  have l' := l h0
  have p1 := P.at ht
  have p2 := P.at (show t - 1 < ps.length by (first | lia | omega))
  have p3 := P.rise (t - 1) (by (first | lia | omega))
  rw [show t - 1 + 1 = t by (first | lia | omega)] at p3
  have q1 : plc road h < plc road (h + 1) := plc_lt hr (by (first | lia | omega)) hh
  have q2 : plc road (ps.getD (t - 1) 0).toNat < plc road (ps.getD t 0).toNat := plc_lt hr (by (first | lia | omega)) (by (first | lia | omega))
  unfold dst ab at *
  split at l' <;> split at l' <;> split <;> split <;> (first | lia | omega)
theorem turns_props {road : List (Int × Int)} {ps : List Int} (hr : Rise (road.map (·.1))) (P : PostsOk road.length ps) : ∀ k, k ≤ road.length → 0 < road.length →
    turns road ps k < ps.length ∧ (∀ h, h + 1 = k → Lf road ps h (turns road ps k)) := by
  intro k
  induction k with
  | zero => intro _ h; exact ⟨P.some h, fun h z => by (first | lia | omega)⟩
  | succ k ih =>
    intro hk h0
    obtain ⟨i1, i2⟩ := ih (by (first | lia | omega)) h0
    have l : Lf road ps k (turns road ps k) := by
      cases k with
      | zero => intro z; exact absurd z (by show ¬ (0 < 0); (first | lia | omega))
      | succ k' => exact lf_next hr P (by (first | lia | omega)) i1 (i2 k' rfl)
    obtain ⟨a, b, c, d⟩ := adv_props road ps k ps.length (turns road ps k) i1 l (by (first | lia | omega))
    refine ⟨b, fun h z => ?_⟩
    have : h = k := by (first | lia | omega)
    subst this
    exact c
theorem turns_step {road : List (Int × Int)} {ps : List Int} (hr : Rise (road.map (·.1))) (P : PostsOk road.length ps) {k : Nat} (hk : k < road.length) :
    turns road ps k ≤ turns road ps (k + 1) ∧ turns road ps (k + 1) < ps.length ∧ Lf road ps k (turns road ps (k + 1)) ∧ (turns road ps (k + 1) + 1 < ps.length → ¬ dst road ps k (turns road ps (k + 1) + 1) < dst road ps k (turns road ps (k + 1))) := by
  obtain ⟨i1, i2⟩ := turns_props hr P k (by (first | lia | omega)) (by (first | lia | omega))
  have l : Lf road ps k (turns road ps k) := by
    cases k with
    | zero => intro z; exact absurd z (by show ¬ (0 < 0); (first | lia | omega))
    | succ k' => exact lf_next hr P (by (first | lia | omega)) i1 (i2 k' rfl)
  exact adv_props road ps k ps.length (turns road ps k) i1 l (by (first | lia | omega))
theorem near_len (road : List (Int × Int)) (ps : List Int) : (near road ps).length = road.length := by simp [near]
theorem near_at {road : List (Int × Int)} (ps : List Int) {h : Nat} (hh : h < road.length) : (near road ps).getD h 0 = ps.getD (turns road ps (h + 1)) 0 := by
  unfold near
  rw [List.getD_eq_getElem?_getD, List.getElem?_map]
  simp [hh]
end Ph
namespace Ph
theorem Rise.nil : Rise [] := fun j h => by simp at h
theorem Rise.one (y : Int) : Rise [y] := fun j h => by simp at h
structure Good (road : List (Int × Int)) : Prop where
  rise : Rise (road.map (·.1))
  letters : ∀ pl ∈ road, 0 ≤ pl.2
  small : road.length ≤ 1000
  big : ∀ pl ∈ road, pl.1.natAbs < 2 ^ 250 ∧ pl.2.natAbs < 2 ^ 250
theorem Good.at {road : List (Int × Int)} (G : Good road) {i : Nat} (h : i < road.length) : (plc road i).natAbs < 2 ^ 250 ∧ (let' road i).natAbs < 2 ^ 250 ∧ 0 ≤ let' road i := by
  have e : road.getD i (0, 0) = road[i] := by simp [List.getD_eq_getElem?_getD, h]
  unfold plc let'
  rw [e]
  exact ⟨(G.big _ (List.getElem_mem h)).1, (G.big _ (List.getElem_mem h)).2, G.letters _ (List.getElem_mem h)⟩
def remake (c d : Int) (old : List (Int × Int)) (n : Nat) : List (Int × Int) :=
  (List.range n).map fun (i : Nat) => (c * (i : Int) + plc old (i % old.length) % d, let' old (i % old.length))
structure Built (road : List (Int × Int)) (pl : Int) (i : Nat) : Prop where
  len : road.length = i
  rise : Rise (road.map (·.1))
  le : ∀ x ∈ road, x.1 ≤ pl
  lo : ∀ x ∈ road, -1000 ≤ x.1
  letters : ∀ x ∈ road, 0 ≤ x.2 ∧ x.2 < 10 ^ 25
  plo : -1000 ≤ pl
  phi : pl ≤ 1000 + (i : Int) * (10 ^ 20 + 1)
theorem Built.nil {pl : Int} (h1 : -1000 ≤ pl) (h2 : pl ≤ 1000) : Built [] pl 0 :=
  ⟨rfl, Rise.nil, fun x h => (by cases h), fun x h => (by cases h), fun x h => (by cases h), h1, by (first | lia | omega)⟩
theorem Built.good {road : List (Int × Int)} {pl : Int} {i : Nat} (B : Built road pl i) (hi : i ≤ 100) : Good road := by
  refine ⟨B.rise, fun x h => (B.letters x h).1, by rw [B.len]; (first | lia | omega), fun x h => ?_⟩
  have h1 := B.le x h
  have h2 := B.lo x h
  have h3 := B.letters x h
  have h4 := B.phi
  have h5 : (i : Int) * (10 ^ 20 + 1) ≤ 100 * (10 ^ 20 + 1) := Int.mul_le_mul_of_nonneg_right (by (first | lia | omega)) (by (first | lia | omega))
  constructor <;> (first | lia | omega)
end Ph
set_option linter.all false
namespace Ph
def sm (f : Nat → Int) : Nat → Int
  | 0 => 0
  | n + 1 => sm f n + f n
theorem sm_eq (f : Nat → Int) (n : Nat) : sm f n = ((List.range n).map f).sum := by
  induction n with
  | zero => rfl
  | succ n ih => rw [sm, ih, List.range_succ, List.map_append, List.sum_append]; simp
theorem sm_congr {f g : Nat → Int} {n : Nat} (h : ∀ i, i < n → f i = g i) : sm f n = sm g n := by
  induction n with
  | zero => rfl
  | succ n ih => rw [sm, sm, ih fun i hi => h i (by (first | lia | omega)), h n (by (first | lia | omega))]
theorem sm_le {f : Nat → Int} (h : ∀ i, 0 ≤ f i) {a b : Nat} (hab : a ≤ b) : sm f a ≤ sm f b := by
  induction b with
  | zero => have : a = 0 := by (first | lia | omega)
            subst this; exact Int.le_refl _
  | succ b ih =>
    rcases Nat.lt_or_ge a (b + 1) with z | z
    · have h1 := ih (by (first | lia | omega))
      have h2 := h b
      rw [sm]; (first | lia | omega)
    · have : a = b + 1 := by (first | lia | omega)
      subst this; exact Int.le_refl _
theorem sm_nonneg {f : Nat → Int} (h : ∀ i, 0 ≤ f i) (n : Nat) : 0 ≤ sm f n := sm_le h (Nat.zero_le n)
section
variable (p l : Nat → Int) (n : Nat)
def cst' (k : Nat) : Int := sm (fun j => l j * ab (p j - p k)) n
def bef (k : Nat) : Int := sm l k
end
section
variable {p l : Nat → Int} {n : Nat}
theorem split_step {k : Nat} (hp : ∀ i j, i < j → j < n → p i < p j) (hk : k + 1 < n) : ∀ m, m ≤ n →
    sm (fun j => l j * ab (p j - p (k + 1))) m = sm (fun j => l j * ab (p j - p k)) m + (sm l (min m (k + 1)) - (sm l m - sm l (min m (k + 1)))) * (p (k + 1) - p k) := by
  intro m
  induction m with
  | zero => intro _; simp [sm]
  | succ m ih =>
    intro hm
    have h1 := ih (by (first | lia | omega))
    rw [sm, sm, h1]
    have d : p k < p (k + 1) := hp _ _ (by (first | lia | omega)) hk
    rcases Nat.lt_or_ge m (k + 1) with z | z
    · -- behind the target
      have e1 : min m (k + 1) = m := by (first | lia | omega)
      have e2 : min (m + 1) (k + 1) = m + 1 := by (first | lia | omega)
      rw [e1, e2, sm]
      have c1 : p m ≤ p k := by
        rcases Nat.lt_or_ge m k with y | y
        · exact Int.le_of_lt (hp m k y (by (first | lia | omega)))
        · have : m = k := by (first | lia | omega)
          subst this; exact Int.le_refl _
      have a1 : ab (p m - p (k + 1)) = ab (p m - p k) + (p (k + 1) - p k) := by unfold ab; split <;> split <;> (first | lia | omega)
      rw [a1, Int.mul_add]
      have b1 : sm l m - (sm l m - sm l m) = sm l m := by (first | lia | omega)
      have b2 : sm l m + l m - (sm l m + l m - (sm l m + l m)) = sm l m + l m := by (first | lia | omega)
      rw [b1, b2, Int.add_mul]
      (first | lia | omega)
    · have e1 : min m (k + 1) = k + 1 := by (first | lia | omega)
      have e2 : min (m + 1) (k + 1) = k + 1 := by (first | lia | omega)
      have e3 : sm l (m + 1) = sm l m + l m := rfl
      rw [e1, e2, e3]
      have c1 : p (k + 1) ≤ p m := by
        rcases Nat.lt_or_ge (k + 1) m with y | y
        · exact Int.le_of_lt (hp (k + 1) m y (by (first | lia | omega)))
        · have : m = k + 1 := by (first | lia | omega)
          subst this; exact Int.le_refl _
      have a1 : ab (p m - p (k + 1)) = ab (p m - p k) - (p (k + 1) - p k) := by unfold ab; split <;> split <;> (first | lia | omega)
      rw [a1]
      have b1 : l m * (ab (p m - p k) - (p (k + 1) - p k)) = l m * ab (p m - p k) - l m * (p (k + 1) - p k) := Int.mul_sub _ _ _
      have b2 : (sm l (k + 1) - (sm l m + l m - sm l (k + 1))) * (p (k + 1) - p k) = (sm l (k + 1) - (sm l m - sm l (k + 1))) * (p (k + 1) - p k) - l m * (p (k + 1) - p k) := by
        rw [← Int.sub_mul]
        congr 1
        (first | lia | omega)
      rw [b1, b2]
      (first | lia | omega)
theorem cost_step (hp : ∀ i j, i < j → j < n → p i < p j) {k : Nat} (hk : k + 1 < n) : cst' p l n (k + 1) = cst' p l n k + (bef l (k + 1) - (bef l n - bef l (k + 1))) * (p (k + 1) - p k) := by
  have := split_step (l := l) hp hk n (Nat.le_refl _)
  rw [show min n (k + 1) = k + 1 by (first | lia | omega)] at this
  exact this
theorem cost_down (hp : ∀ i j, i < j → j < n → p i < p j) (hl : ∀ i, 0 ≤ l i) {k : Nat} (hk : k < n) (hm : 2 * bef l k ≤ bef l n) : ∀ j, j ≤ k → cst' p l n k ≤ cst' p l n j := by
  intro j hj
  have key : ∀ d, d ≤ k → cst' p l n k ≤ cst' p l n (k - d) := by
    intro d
    induction d with
    | zero => intro _; exact Int.le_refl _
    | succ d ih =>
      intro hd
      have h1 := ih (by (first | lia | omega))
      have e : k - (d + 1) + 1 = k - d := by (first | lia | omega)
      have h2 := cost_step (l := l) hp (k := k - (d + 1)) (by (first | lia | omega))
      rw [e] at h2
      have h3 : bef l (k - d) ≤ bef l k := sm_le hl (by (first | lia | omega))
      have h4 : p (k - (d + 1)) < p (k - d) := hp _ _ (by (first | lia | omega)) (by (first | lia | omega))
      have h5 : (bef l (k - d) - (bef l n - bef l (k - d))) * (p (k - d) - p (k - (d + 1))) ≤ 0 := Int.mul_nonpos_of_nonpos_of_nonneg (by (first | lia | omega)) (by (first | lia | omega))
      (first | lia | omega)
  have := key (k - j) (by (first | lia | omega))
  rwa [show k - (k - j) = j by (first | lia | omega)] at this
theorem cost_up (hp : ∀ i j, i < j → j < n → p i < p j) (hl : ∀ i, 0 ≤ l i) {k : Nat} (hm : bef l n ≤ 2 * bef l (k + 1)) : ∀ j, k ≤ j → j < n → cst' p l n k ≤ cst' p l n j := by
  intro j
  induction j with
  | zero => intro h1 h2; have : k = 0 := by (first | lia | omega)
            subst this; exact Int.le_refl _
  | succ j ih =>
    intro h1 h2
    rcases Nat.lt_or_ge k (j + 1) with z | z
    · have h3 := ih (by (first | lia | omega)) (by (first | lia | omega))
      have h4 := cost_step (l := l) hp h2
      have h5 : bef l (k + 1) ≤ bef l (j + 1) := sm_le hl (by (first | lia | omega))
      have h6 : p j < p (j + 1) := hp _ _ (by (first | lia | omega)) h2
      have h7 : 0 ≤ (bef l (j + 1) - (bef l n - bef l (j + 1))) * (p (j + 1) - p j) := Int.mul_nonneg (by (first | lia | omega)) (by (first | lia | omega))
      (first | lia | omega)
    · have : k = j + 1 := by (first | lia | omega)
      subst this; exact Int.le_refl _
def Mid (l : Nat → Int) (n k : Nat) : Prop := 2 * bef l k ≤ bef l n ∧ bef l n ≤ 2 * bef l (k + 1)
theorem mid_iff (hp : ∀ i j, i < j → j < n → p i < p j) (hl : ∀ i, 0 ≤ l i) {k : Nat} (hk : k < n) {M : Int} (hM : ∀ j, j < n → M ≤ cst' p l n j) (hM' : ∃ j, j < n ∧ cst' p l n j = M) : cst' p l n k = M ↔ Mid l n k := by
  constructor
  · intro e
    constructor
    · rcases Nat.eq_zero_or_pos k with z | z
      · subst z
        have : 0 ≤ bef l n := sm_nonneg hl n
        show 2 * sm l 0 ≤ bef l n
        simp [sm]; exact this
      · rcases Int.lt_or_le (bef l n) (2 * bef l k) with y | y
        · have h1 := cost_step (l := l) hp (k := k - 1) (by (first | lia | omega))
          rw [show k - 1 + 1 = k by (first | lia | omega)] at h1
          have h2 : p (k - 1) < p k := hp _ _ (by (first | lia | omega)) hk
          have h3 : 0 < (bef l k - (bef l n - bef l k)) * (p k - p (k - 1)) := Int.mul_pos (by (first | lia | omega)) (by (first | lia | omega))
          have h4 := hM (k - 1) (by (first | lia | omega))
          (first | lia | omega)
        · exact y
    · rcases Int.lt_or_le (2 * bef l (k + 1)) (bef l n) with y | y
      · have hk1 : k + 1 < n := by
          rcases Nat.lt_or_ge (k + 1) n with z | z
          · exact z
          · have : k + 1 = n := by (first | lia | omega)
            rw [this] at y
            have : 0 ≤ bef l n := sm_nonneg hl n
            (first | lia | omega)
        have h1 := cost_step (l := l) hp hk1
        have h2 : p k < p (k + 1) := hp _ _ (by (first | lia | omega)) hk1
        have h3 : (bef l (k + 1) - (bef l n - bef l (k + 1))) * (p (k + 1) - p k) < 0 := Int.mul_neg_of_neg_of_pos (by (first | lia | omega)) (by (first | lia | omega))
        have h4 := hM (k + 1) hk1
        (first | lia | omega)
      · exact y
  · intro m
    obtain ⟨j, hj, e⟩ := hM'
    have h1 := hM k hk
    rcases Nat.le_total j k with z | z
    · have := cost_down hp hl hk m.1 j z; (first | lia | omega)
    · have := cost_up hp hl m.2 j z hj; (first | lia | omega)
end
end Ph
namespace Ph
def mn (f : Nat → Int) : Nat → Int
  | 0 => 0
  | 1 => f 0
  | n + 2 => if f (n + 1) < mn f (n + 1) then f (n + 1) else mn f (n + 1)
theorem mn_props (f : Nat → Int) : ∀ n, 0 < n → (∀ k, k < n → mn f n ≤ f k) ∧ ∃ k, k < n ∧ f k = mn f n
  | 0, h => absurd h (Nat.lt_irrefl _)
  | 1, _ => ⟨fun k hk => by have : k = 0 := by (first | lia | omega)
                            subst this; exact Int.le_refl _, 0, by (first | lia | omega), rfl⟩
  | n + 2, _ => by
    obtain ⟨h1, k, h2, h3⟩ := mn_props f (n + 1) (by (first | lia | omega))
    rw [mn]
    split
    · rename_i hc
      refine ⟨fun j hj => ?_, n + 1, by (first | lia | omega), rfl⟩
      rcases Nat.lt_or_ge j (n + 1) with z | z
      · have := h1 j z; (first | lia | omega)
      · have : j = n + 1 := by (first | lia | omega)
        subst this; exact Int.le_refl _
    · rename_i hc
      refine ⟨fun j hj => ?_, k, by (first | lia | omega), h3⟩
      rcases Nat.lt_or_ge j (n + 1) with z | z
      · exact h1 j z
      · have : j = n + 1 := by (first | lia | omega)
        subst this; (first | lia | omega)
theorem mn_uniq {f : Nat → Int} {n : Nat} {M : Int} (hn : 0 < n) (h1 : ∀ k, k < n → M ≤ f k) (h2 : ∃ k, k < n ∧ f k = M) : M = mn f n := by
  obtain ⟨a1, j, a2, a3⟩ := mn_props f n hn
  obtain ⟨k, b1, b2⟩ := h2
  have c1 := h1 j a2
  have c2 := a1 k b1
  (first | lia | omega)
def costs (hs : List (Int × Int)) : List Int := (List.range hs.length).map (cst' (plc hs) (let' hs) hs.length)
def oneWay (hs : List (Int × Int)) : Int := mn (cst' (plc hs) (let' hs) hs.length) hs.length
def midB (hs : List (Int × Int)) (k : Nat) : Bool := decide (2 * bef (let' hs) k ≤ bef (let' hs) hs.length) && decide (bef (let' hs) hs.length ≤ 2 * bef (let' hs) (k + 1))
def cut (road : List (Int × Int)) (f e : Nat) : List (Int × Int) := (road.drop f).take (e - f)
def mids (road : List (Int × Int)) (f e : Nat) : List Int := ((List.range (e - f)).filter (midB (cut road f e))).map fun (k : Nat) => (f : Int) + (k : Int)
theorem cut_len {road : List (Int × Int)} {f e : Nat} (h : e ≤ road.length) (hf : f ≤ e) : (cut road f e).length = e - f := by
  unfold cut
  rw [List.length_take, List.length_drop]
  (first | lia | omega)
theorem cut_getD {road : List (Int × Int)} {f e i : Nat} (h : i < e - f) : (cut road f e).getD i (0, 0) = road.getD (f + i) (0, 0) := by
  unfold cut
  rw [List.getD_eq_getElem?_getD, List.getD_eq_getElem?_getD, List.getElem?_take_of_lt h, List.getElem?_drop]
theorem let_nonneg {road : List (Int × Int)} (G : Good road) (i : Nat) : 0 ≤ let' road i := by
  rcases Nat.lt_or_ge i road.length with z | z
  · exact (G.at z).2.2
  · unfold let'
    rw [List.getD_eq_getElem?_getD, List.getElem?_eq_none z]
    decide
theorem Good.places {road : List (Int × Int)} (G : Good road) : ∀ i j, i < j → j < road.length → plc road i < plc road j := fun i j h1 h2 => plc_lt G.rise h1 h2
theorem cut_good {road : List (Int × Int)} (G : Good road) {f e : Nat} (h : e ≤ road.length) (hf : f ≤ e) : Good (cut road f e) := by
  have hl := cut_len h hf
  have mem : ∀ pl ∈ cut road f e, pl ∈ road := fun pl hp => List.mem_of_mem_drop (List.mem_of_mem_take hp)
  refine ⟨fun j hj => ?_, fun pl hp => G.letters pl (mem pl hp), by rw [hl]; have := G.small; (first | lia | omega), fun pl hp => G.big pl (mem pl hp)⟩
  rw [List.length_map, hl] at hj
  rw [plc_map, plc_map]
  unfold plc
  rw [cut_getD (by (first | lia | omega)), cut_getD (by (first | lia | omega))]
  have := G.places (f + j) (f + (j + 1)) (by (first | lia | omega)) (by (first | lia | omega))
  exact this
theorem mid_costs {hs : List (Int × Int)} (G : Good hs) {k : Nat} (hk : k < hs.length) : (cst' (plc hs) (let' hs) hs.length k = oneWay hs) ↔ midB hs k = true := by
  obtain ⟨h1, h2⟩ := mn_props (cst' (plc hs) (let' hs) hs.length) hs.length (by (first | lia | omega))
  rw [show (midB hs k = true) = Mid (let' hs) hs.length k by unfold midB Mid; simp]
  exact mid_iff G.places (let_nonneg G) hk h1 h2
theorem sm_bound {f : Nat → Int} {B : Int} (h : ∀ i, -B ≤ f i ∧ f i ≤ B) : ∀ n : Nat, -(n : Int) * B ≤ sm f n ∧ sm f n ≤ (n : Int) * B
  | 0 => by simp [sm]
  | n + 1 => by
    obtain ⟨h1, h2⟩ := sm_bound h n
    obtain ⟨h3, h4⟩ := h n
    rw [sm]
    have e1 : -((n + 1 : Nat) : Int) * B = -(n : Int) * B - B := by
      rw [Int.natCast_add, Int.neg_add, Int.add_mul]; simp; (first | lia | omega)
    have e2 : ((n + 1 : Nat) : Int) * B = (n : Int) * B + B := by
      rw [Int.natCast_add, Int.add_mul]; simp
    rw [e1, e2]
    (first | lia | omega)
theorem bef_big {hs : List (Int × Int)} (G : Good hs) {k : Nat} (hk : k ≤ hs.length) : 0 ≤ bef (let' hs) k ∧ bef (let' hs) k ≤ 1000 * 2 ^ 250 := by
  refine ⟨sm_nonneg (let_nonneg G) k, ?_⟩
  have hb : ∀ i, -(2 ^ 250) ≤ let' hs i ∧ let' hs i ≤ 2 ^ 250 := fun i => by
    rcases Nat.lt_or_ge i hs.length with z | z
    · have := (G.at z).2.1; (first | lia | omega)
    · have e : let' hs i = 0 := by
        unfold let'
        rw [List.getD_eq_getElem?_getD, List.getElem?_eq_none z]
        rfl
      rw [e]
      constructor <;> (first | lia | omega)
  have h2 := (sm_bound hb k).2
  have h3 : (k : Int) * 2 ^ 250 ≤ 1000 * 2 ^ 250 := Int.mul_le_mul_of_nonneg_right (by have := G.small; (first | lia | omega)) (by (first | lia | omega))
  exact Int.le_trans h2 h3
end Ph
set_option linter.all false
namespace Ph
theorem sm_shift (f : Nat → Int) (a : Nat) : ∀ m, sm (fun i => f (a + i)) m = sm f (a + m) - sm f a
  | 0 => by simp [sm]
  | m + 1 => by
    have e : a + (m + 1) = (a + m) + 1 := by (first | lia | omega)
    rw [sm, sm_shift f a m, e, sm]
    (first | lia | omega)
def lS (road : List (Int × Int)) (k : Nat) : Int := sm (let' road) k
def lT (road : List (Int × Int)) (m k : Nat) : Int := sm (fun j => let' road j * ab (plc road j - plc road k)) m
def wW (road : List (Int × Int)) (a b : Nat) : Int := oneWay (cut road a b)
theorem lS_succ (road : List (Int × Int)) (k : Nat) : lS road (k + 1) = lS road k + let' road k := rfl
theorem lT_succ (road : List (Int × Int)) (m k : Nat) : lT road (m + 1) k = lT road m k + let' road m * ab (plc road m - plc road k) := rfl
theorem cut_let {road : List (Int × Int)} {a b i : Nat} (h : i < b - a) : let' (cut road a b) i = let' road (a + i) := by unfold let'; rw [cut_getD h]
theorem cut_plc {road : List (Int × Int)} {a b i : Nat} (h : i < b - a) : plc (cut road a b) i = plc road (a + i) := by unfold plc; rw [cut_getD h]
theorem cut_bef {road : List (Int × Int)} {a b k : Nat} (hk : k ≤ b - a) : bef (let' (cut road a b)) k = lS road (a + k) - lS road a := by
  unfold bef lS
  rw [← sm_shift (let' road) a k]
  exact sm_congr fun i hi => cut_let (by (first | lia | omega))
theorem cut_cst {road : List (Int × Int)} {a b k : Nat} (hb : b ≤ road.length) (ha : a ≤ k) (hk : k < b) : cst' (plc (cut road a b)) (let' (cut road a b)) (cut road a b).length (k - a) = lT road b k - lT road a k := by
  unfold cst' lT
  rw [cut_len hb (by (first | lia | omega))]
  have e := sm_shift (fun j => let' road j * ab (plc road j - plc road k)) a (b - a)
  rw [show a + (b - a) = b by (first | lia | omega)] at e
  rw [← e]
  refine sm_congr fun i hi => ?_
  rw [cut_let hi, cut_plc hi, cut_plc (by (first | lia | omega)), show a + (k - a) = k by (first | lia | omega)]
theorem lS_mono {road : List (Int × Int)} (G : Good road) {a b : Nat} (h : a ≤ b) : lS road a ≤ lS road b := sm_le (let_nonneg G) h
theorem lS_big {road : List (Int × Int)} (G : Good road) {k : Nat} (hk : k ≤ road.length) : 0 ≤ lS road k ∧ lS road k ≤ 1000 * 2 ^ 250 := bef_big G hk
theorem wW_mid {road : List (Int × Int)} (G : Good road) {a b k : Nat} (hb : b ≤ road.length) (ha : a ≤ k) (hk : k < b) (h1 : 2 * (lS road k - lS road a) ≤ lS road b - lS road a) (h2 : lS road b - lS road a ≤ 2 * (lS road (k + 1) - lS road a)) :
    lT road b k - lT road a k = wW road a b := by
  rw [← cut_cst hb ha hk]
  have hl := cut_len hb (show a ≤ b by (first | lia | omega))
  refine (mid_costs (cut_good G hb (by (first | lia | omega))) (by (first | lia | omega))).mpr ?_
  unfold midB
  rw [hl, cut_bef (by (first | lia | omega)), cut_bef (Nat.le_refl _), cut_bef (by (first | lia | omega)), show a + (b - a) = b by (first | lia | omega), show a + (k - a) = k by (first | lia | omega), show a + (k - a + 1) = k + 1 by (first | lia | omega)]
  simp [h1, h2]
theorem wW_le {road : List (Int × Int)} (G : Good road) {a b k : Nat} (hb : b ≤ road.length) (ha : a ≤ k) (hk : k < b) : wW road a b ≤ lT road b k - lT road a k := by
  rw [← cut_cst hb ha hk]
  have hl := cut_len hb (show a ≤ b by (first | lia | omega))
  exact (mn_props _ _ (by (first | lia | omega))).1 (k - a) (by (first | lia | omega))
theorem lT_back {road : List (Int × Int)} (G : Good road) {a b k : Nat} (hb : b ≤ road.length) (ha : a ≤ k + 1) (hk : k + 1 < b) :
    lT road b k - lT road a k = (lT road b (k + 1) - lT road a (k + 1)) - ((lS road (k + 1) - lS road a) - (lS road b - lS road (k + 1))) * (plc road (k + 1) - plc road k) := by
  have hp : ∀ i j, i < j → j < road.length → plc road i < plc road j := G.places
  have e1 := split_step (l := let' road) (p := plc road) (n := road.length) (k := k) hp (by (first | lia | omega)) b hb
  have e2 := split_step (l := let' road) (p := plc road) (n := road.length) (k := k) hp (by (first | lia | omega)) a (by (first | lia | omega))
  rw [show min b (k + 1) = k + 1 by (first | lia | omega)] at e1
  rw [show min a (k + 1) = a by (first | lia | omega)] at e2
  show sm _ b - sm _ a = _
  have f1 : lT road b (k + 1) = lT road b k + (lS road (k + 1) - (lS road b - lS road (k + 1))) * (plc road (k + 1) - plc road k) := e1
  have f2 : lT road a (k + 1) = lT road a k + (lS road a - (lS road a - lS road a)) * (plc road (k + 1) - plc road k) := e2
  rw [f1, f2]
  have d : (lS road (k + 1) - lS road a - (lS road b - lS road (k + 1))) * (plc road (k + 1) - plc road k) = (lS road (k + 1) - (lS road b - lS road (k + 1))) * (plc road (k + 1) - plc road k) - (lS road a - (lS road a - lS road a)) * (plc road (k + 1) - plc road k) := by
    rw [← Int.sub_mul]; congr 1; (first | lia | omega)
  rw [d]
  show lT road b k - lT road a k = _
  (first | lia | omega)
structure Back (road : List (Int × Int)) (b a k : Nat) : Prop where
  ak : a ≤ k
  kb : k < b
  bn : b ≤ road.length
  right : lS road b - lS road a ≤ 2 * (lS road (k + 1) - lS road a)
theorem Back.first {road : List (Int × Int)} (G : Good road) {b : Nat} (h0 : 0 < b) (hb : b ≤ road.length) : Back road b (b - 1) (b - 1) := by
  refine ⟨Nat.le_refl _, by (first | lia | omega), hb, ?_⟩
  rw [show b - 1 + 1 = b by (first | lia | omega)]
  have := lS_mono G (show b - 1 ≤ b by (first | lia | omega))
  (first | lia | omega)
theorem Back.grow {road : List (Int × Int)} (G : Good road) {b a k : Nat} (h : Back road b (a + 1) k) : Back road b a k := by
  refine ⟨by have := h.ak; (first | lia | omega), h.kb, h.bn, ?_⟩
  have := h.right
  have := lS_mono G (show a ≤ a + 1 by (first | lia | omega))
  (first | lia | omega)
theorem Back.pos {road : List (Int × Int)} (G : Good road) {b a k : Nat} (h : Back road b a k) (hc : lS road b - lS road k < lS road k - lS road a) : a < k := by
  have h1 := h.ak
  have h2 := h.kb
  rcases Nat.lt_or_ge a k with z | z
  · exact z
  · have : a = k := by (first | lia | omega)
    subst this
    have := lS_mono G (show a ≤ b by (first | lia | omega))
    (first | lia | omega)
theorem Back.step {road : List (Int × Int)} (G : Good road) {b a k : Nat} (h : Back road b a (k + 1)) (hk : a ≤ k) (hc : lS road b - lS road (k + 1) < lS road (k + 1) - lS road a) : Back road b a k :=
  ⟨hk, by have := h.kb; (first | lia | omega), h.bn, by (first | lia | omega)⟩
theorem Back.is {road : List (Int × Int)} (G : Good road) {b a k : Nat} (h : Back road b a k) (hc : ¬ lS road b - lS road k < lS road k - lS road a) : lT road b k - lT road a k = wW road a b :=
  wW_mid G h.bn h.ak h.kb (by (first | lia | omega)) h.right
theorem back_rev {α : Type} (f : Nat → α) (b : Nat) : ((List.range b).map fun j => f (b - 1 - j)).reverse = (List.range b).map f := by
  refine List.ext_getElem (by simp) fun i h1 h2 => ?_
  simp at h1 h2 ⊢
  congr 1
  (first | lia | omega)
theorem wW_last {road : List (Int × Int)} (G : Good road) {b : Nat} (h0 : 0 < b) (hb : b ≤ road.length) : wW road (b - 1) b = 0 := by
  have h := Back.first G h0 hb
  rw [← h.is G (by have := lS_mono G (show b - 1 ≤ b by (first | lia | omega)); (first | lia | omega))]
  have : lT road b (b - 1) = lT road (b - 1) (b - 1) + let' road (b - 1) * ab (plc road (b - 1) - plc road (b - 1)) := by
    have e := lT_succ road (b - 1) (b - 1)
    rwa [show b - 1 + 1 = b by (first | lia | omega)] at e
  rw [this]
  have : ab (plc road (b - 1) - plc road (b - 1)) = 0 := by unfold ab; split <;> (first | lia | omega)
  rw [this]
  (first | lia | omega)
end Ph
set_option linter.all false
namespace Ph
theorem ab_le {x y z : Int} (h1 : x ≤ y) (h2 : y ≤ z) : ab (x - y) ≤ ab (x - z) := by unfold ab; split <;> split <;> (first | lia | omega)
theorem ab_le' {x y z : Int} (h1 : z ≤ y) (h2 : y ≤ x) : ab (x - y) ≤ ab (x - z) := by unfold ab; split <;> split <;> (first | lia | omega)
theorem plc_mono {road : List (Int × Int)} (G : Good road) {i j : Nat} (h : i ≤ j) (hj : j < road.length) : plc road i ≤ plc road j := by
  rcases Nat.lt_or_ge i j with z | z
  · exact Int.le_of_lt (G.places i j z hj)
  · have : i = j := by (first | lia | omega)
    subst this; exact Int.le_refl _
theorem lT_left {road : List (Int × Int)} (G : Good road) {a m m' : Nat} (hm : m' ≤ m) (hn : m < road.length) : ∀ d, a + d ≤ m' → lT road (a + d) m' - lT road a m' ≤ lT road (a + d) m - lT road a m := by
  intro d
  induction d with
  | zero => intro _; simp
  | succ d ih =>
    intro h
    have h1 := ih (by (first | lia | omega))
    rw [show a + (d + 1) = (a + d) + 1 by (first | lia | omega), lT_succ, lT_succ]
    have h2 : let' road (a + d) * ab (plc road (a + d) - plc road m') ≤ let' road (a + d) * ab (plc road (a + d) - plc road m) :=
      Int.mul_le_mul_of_nonneg_left (ab_le (plc_mono G (by (first | lia | omega)) (by (first | lia | omega))) (plc_mono G hm hn)) (let_nonneg G _)
    (first | lia | omega)
theorem lT_right {road : List (Int × Int)} (G : Good road) {c m m' : Nat} (hm : m ≤ m') (hc : m' ≤ c) : ∀ d, c + d ≤ road.length → lT road (c + d) m' - lT road c m' ≤ lT road (c + d) m - lT road c m := by
  intro d
  induction d with
  | zero => intro _; simp
  | succ d ih =>
    intro h
    have h1 := ih (by (first | lia | omega))
    rw [show c + (d + 1) = (c + d) + 1 by (first | lia | omega), lT_succ, lT_succ]
    have h2 : let' road (c + d) * ab (plc road (c + d) - plc road m') ≤ let' road (c + d) * ab (plc road (c + d) - plc road m) :=
      Int.mul_le_mul_of_nonneg_left (ab_le' (plc_mono G hm (by (first | lia | omega))) (plc_mono G (by (first | lia | omega)) (by (first | lia | omega)))) (let_nonneg G _)
    (first | lia | omega)
theorem wW_att {road : List (Int × Int)} {a b : Nat} (hb : b ≤ road.length) (h : a < b) : ∃ k, a ≤ k ∧ k < b ∧ lT road b k - lT road a k = wW road a b := by
  have hl := cut_len hb (show a ≤ b by (first | lia | omega))
  obtain ⟨_, k, hk, e⟩ := mn_props (cst' (plc (cut road a b)) (let' (cut road a b)) (cut road a b).length) (cut road a b).length (by (first | lia | omega))
  refine ⟨a + k, by (first | lia | omega), by (first | lia | omega), ?_⟩
  rw [← cut_cst hb (show a ≤ a + k by (first | lia | omega)) (by (first | lia | omega)), show a + k - a = k by (first | lia | omega)]
  exact e
theorem wW_cross {road : List (Int × Int)} (G : Good road) {a b c d : Nat} (h1 : a ≤ b) (h2 : b < c) (h3 : c ≤ d) (h4 : d ≤ road.length) : wW road a c + wW road b d ≤ wW road a d + wW road b c := by
  obtain ⟨m, m1, m2, m3⟩ := wW_att (road := road) (a := a) (b := d) h4 (by (first | lia | omega))
  obtain ⟨m', n1, n2, n3⟩ := wW_att (road := road) (a := b) (b := c) (by (first | lia | omega)) h2
  rcases Nat.le_total m' m with z | z
  · have e1 := wW_le G (a := a) (b := c) (k := m') (by (first | lia | omega)) (by (first | lia | omega)) n2
    have e2 := wW_le G (a := b) (b := d) (k := m) h4 (by (first | lia | omega)) m2
    have e3 := lT_left G (a := a) z (by (first | lia | omega)) (b - a) (by (first | lia | omega))
    rw [show a + (b - a) = b by (first | lia | omega)] at e3
    (first | lia | omega)
  · have e1 := wW_le G (a := a) (b := c) (k := m) (by (first | lia | omega)) m1 (by (first | lia | omega))
    have e2 := wW_le G (a := b) (b := d) (k := m') h4 n1 (by (first | lia | omega))
    have e3 := lT_right G (c := c) z (by (first | lia | omega)) (d - c) (by (first | lia | omega))
    rw [show c + (d - c) = d by (first | lia | omega)] at e3
    (first | lia | omega)
def am (g : Nat → Int) (lo : Nat) : Nat → Nat
  | 0 => lo
  | m + 1 => if g (lo + (m + 1)) < g (am g lo m) then lo + (m + 1) else am g lo m
theorem am_props (g : Nat → Int) (lo : Nat) : ∀ m, lo ≤ am g lo m ∧ am g lo m ≤ lo + m ∧ (∀ i, lo ≤ i → i ≤ lo + m → g (am g lo m) ≤ g i) ∧ (∀ i, lo ≤ i → i < am g lo m → g (am g lo m) < g i)
  | 0 => by
    refine ⟨Nat.le_refl _, Nat.le_refl _, fun i h1 h2 => ?_, fun i h1 h2 => ?_⟩
    · have e : i = lo := by (first | lia | omega)
      subst e
      exact Int.le_refl _
    · exact absurd h2 (by show ¬ i < lo; (first | lia | omega))
  | m + 1 => by
    obtain ⟨a, b, c, d⟩ := am_props g lo m
    rw [am]
    split
    · rename_i hc
      refine ⟨by (first | lia | omega), Nat.le_refl _, fun i h1 h2 => ?_, fun i h1 h2 => ?_⟩
      · rcases Nat.lt_or_ge i (lo + (m + 1)) with z | z
        · have := c i h1 (by (first | lia | omega)); (first | lia | omega)
        · have : i = lo + (m + 1) := by (first | lia | omega)
          subst this; exact Int.le_refl _
      · have := c i h1 (by (first | lia | omega)); (first | lia | omega)
    · rename_i hc
      refine ⟨a, by (first | lia | omega), fun i h1 h2 => ?_, d⟩
      rcases Nat.lt_or_ge i (lo + (m + 1)) with z | z
      · exact c i h1 (by (first | lia | omega))
      · have : i = lo + (m + 1) := by (first | lia | omega)
        subst this; (first | lia | omega)
def fF (road : List (Int × Int)) : Nat → Nat → Int
  | 0, _ => 0
  | 1, j => wW road 0 j
  | k + 2, j => fF road (k + 1) (am (fun i => fF road (k + 1) i + wW road i j) (k + 1) (j - 1 - (k + 1))) + wW road (am (fun i => fF road (k + 1) i + wW road i j) (k + 1) (j - 1 - (k + 1))) j
def aA (road : List (Int × Int)) : Nat → Nat → Nat
  | 0, _ => 0
  | 1, _ => 0
  | k + 2, j => am (fun i => fF road (k + 1) i + wW road i j) (k + 1) (j - 1 - (k + 1))
theorem fF_eq (road : List (Int × Int)) (k j : Nat) : fF road (k + 2) j = fF road (k + 1) (aA road (k + 2) j) + wW road (aA road (k + 2) j) j := by rw [fF, aA]
theorem aA_props {road : List (Int × Int)} {k j : Nat} (h : k + 2 ≤ j) : k + 1 ≤ aA road (k + 2) j ∧ aA road (k + 2) j < j ∧ (∀ i, k + 1 ≤ i → i < j → fF road (k + 2) j ≤ fF road (k + 1) i + wW road i j) ∧
    (∀ i, k + 1 ≤ i → i < aA road (k + 2) j → fF road (k + 2) j < fF road (k + 1) i + wW road i j) := by
  obtain ⟨a, b, c, d⟩ := am_props (fun i => fF road (k + 1) i + wW road i j) (k + 1) (j - 1 - (k + 1))
  rw [fF_eq]
  exact ⟨a, by show am _ _ _ < j; (first | lia | omega), fun i h1 h2 => c i h1 (by (first | lia | omega)), fun i h1 h2 => d i h1 h2⟩
theorem fF_save {road : List (Int × Int)} (G : Good road) : ∀ k j j', j ≤ j' → k + 2 ≤ j → j' ≤ road.length → fF road (k + 1) j + fF road (k + 2) j' ≤ fF road (k + 2) j + fF road (k + 1) j'
  | 0, j, j', h1, h2, h3 => by
    obtain ⟨a, b, c, d⟩ := aA_props (road := road) h2
    obtain ⟨a', b', c', d'⟩ := aA_props (road := road) (show 0 + 2 ≤ j' by (first | lia | omega))
    have e := c' _ a (by (first | lia | omega))
    rw [fF_eq road 0 j]
    have q := wW_cross G (a := 0) (b := aA road (0 + 2) j) (c := j) (d := j') (by (first | lia | omega)) b h1 h3
    have f1 : ∀ x, fF road (0 + 1) x = wW road 0 x := fun x => rfl
    have f2 := f1 (aA road (0 + 2) j)
    have f3 := f1 j
    have f4 := f1 j'
    (first | lia | omega)
  | k + 1, j, j', h1, h2, h3 => by
    obtain ⟨a, b, c, d⟩ := aA_props (road := road) h2
    obtain ⟨a', b', c', d'⟩ := aA_props (road := road) (show k + 2 ≤ j' by (first | lia | omega))
    obtain ⟨_, _, c2, _⟩ := aA_props (road := road) (show k + 2 ≤ j by (first | lia | omega))
    obtain ⟨_, _, c3, _⟩ := aA_props (road := road) (show (k + 1) + 2 ≤ j' by (first | lia | omega))
    have e1 := fF_eq road (k + 1) j
    have e2 := fF_eq road k j'
    show fF road (k + 2) j + fF road (k + 1 + 2) j' ≤ fF road (k + 1 + 2) j + fF road (k + 2) j'
    rcases Nat.lt_or_ge (aA road (k + 1 + 2) j) (aA road (k + 2) j') with z | z
    · have ih := fF_save G k (aA road (k + 1 + 2) j) (aA road (k + 2) j') (by (first | lia | omega)) (by (first | lia | omega)) (by (first | lia | omega))
      have x1 := c2 (aA road (k + 1 + 2) j) (by (first | lia | omega)) b
      have x2 := c3 (aA road (k + 2) j') (by (first | lia | omega)) b'
      have e1' : fF road (k + 1 + 2) j = fF road (k + 2) (aA road (k + 1 + 2) j) + wW road (aA road (k + 1 + 2) j) j := e1
      have x2' : fF road (k + 1 + 2) j' ≤ fF road (k + 2) (aA road (k + 2) j') + wW road (aA road (k + 2) j') j' := x2
      (first | lia | omega)
    · have x1 := c2 (aA road (k + 2) j') a' (by (first | lia | omega))
      have x2 := c3 (aA road (k + 1 + 2) j) a (by (first | lia | omega))
      have q := wW_cross G (a := aA road (k + 2) j') (b := aA road (k + 1 + 2) j) (c := j) (d := j') z b h1 h3
      have e1' : fF road (k + 1 + 2) j = fF road (k + 2) (aA road (k + 1 + 2) j) + wW road (aA road (k + 1 + 2) j) j := e1
      have x2' : fF road (k + 1 + 2) j' ≤ fF road (k + 2) (aA road (k + 1 + 2) j) + wW road (aA road (k + 1 + 2) j) j' := x2
      (first | lia | omega)
theorem aA_house {road : List (Int × Int)} (G : Good road) {k j : Nat} (h : k + 2 ≤ j) (hj : j + 1 ≤ road.length) : aA road (k + 2) j ≤ aA road (k + 2) (j + 1) := by
  obtain ⟨a, b, c, d⟩ := aA_props (road := road) h
  obtain ⟨a', b', c', d'⟩ := aA_props (road := road) (show k + 2 ≤ j + 1 by (first | lia | omega))
  rcases Nat.lt_or_ge (aA road (k + 2) (j + 1)) (aA road (k + 2) j) with z | z
  · have e1 := d _ a' z
    have e2 := c' _ a (by (first | lia | omega))
    have f1 := fF_eq road k j
    have f2 := fF_eq road k (j + 1)
    have q := wW_cross G (a := aA road (k + 2) (j + 1)) (b := aA road (k + 2) j) (c := j) (d := j + 1) (by (first | lia | omega)) b (by (first | lia | omega)) hj
    (first | lia | omega)
  · exact z
theorem aA_post {road : List (Int × Int)} (G : Good road) : ∀ {k j : Nat}, k + 2 ≤ j → j ≤ road.length → aA road (k + 1) j ≤ aA road (k + 2) j
  | 0, j, _, _ => Nat.zero_le _
  | k + 1, j, h, hj => by
    obtain ⟨a, b, c, d⟩ := aA_props (road := road) (show (k + 1) + 2 ≤ j from h)
    obtain ⟨a', b', c', d'⟩ := aA_props (road := road) (show k + 2 ≤ j by (first | lia | omega))
    show aA road (k + 2) j ≤ aA road (k + 1 + 2) j
    rcases Nat.lt_or_ge (aA road (k + 1 + 2) j) (aA road (k + 2) j) with z | z
    · have e1 := d' (aA road (k + 1 + 2) j) (by (first | lia | omega)) z
      have e2 := c (aA road (k + 2) j) (by (first | lia | omega)) b'
      have f1 := fF_eq road (k + 1) j
      have f2 := fF_eq road k j
      have s := fF_save G k (aA road (k + 1 + 2) j) (aA road (k + 2) j) (by (first | lia | omega)) (by (first | lia | omega)) (by (first | lia | omega))
      have f1' : fF road (k + 1 + 2) j = fF road (k + 2) (aA road (k + 1 + 2) j) + wW road (aA road (k + 1 + 2) j) j := f1
      have e2' : fF road (k + 1 + 2) j ≤ fF road (k + 2) (aA road (k + 2) j) + wW road (aA road (k + 2) j) j := e2
      (first | lia | omega)
    · exact z
end Ph
set_option linter.all false
namespace Ph
theorem sm_part {f g : Nat → Int} {a : Nat} : ∀ d, (∀ h, a ≤ h → h < a + d → f h ≤ g h) → sm f (a + d) - sm f a ≤ sm g (a + d) - sm g a
  | 0, _ => by simp
  | d + 1, h => by
    have h1 := sm_part (f := f) (g := g) d fun i h1 h2 => h i h1 (by (first | lia | omega))
    have h2 := h (a + d) (by (first | lia | omega)) (by (first | lia | omega))
    rw [show a + (d + 1) = (a + d) + 1 by (first | lia | omega), sm, sm]
    (first | lia | omega)
theorem sm_parts {f g : Nat → Int} {a b : Nat} (hab : a ≤ b) (h : ∀ i, a ≤ i → i < b → f i ≤ g i) : sm f b - sm f a ≤ sm g b - sm g a := by
  have := sm_part (f := f) (g := g) (a := a) (b - a) fun i h1 h2 => h i h1 (by (first | lia | omega))
  rwa [show a + (b - a) = b by (first | lia | omega)] at this
section
variable {road : List (Int × Int)} {ps : List Int}
def pst (ps : List Int) (j : Nat) : Nat := (ps.getD j 0).toNat
theorem pst_lt (P : PostsOk road.length ps) {j : Nat} (h : j < ps.length) : pst ps j < road.length := by have := P.at h; unfold pst; (first | lia | omega)
theorem pst_rise (P : PostsOk road.length ps) {i j : Nat} (h : i < j) (hj : j < ps.length) : pst ps i < pst ps j := by
  have h1 := P.rise.lt h hj
  have h2 := P.at hj
  have h3 := P.at (show i < ps.length by (first | lia | omega))
  unfold pst
  (first | lia | omega)
theorem pst_plc (G : Good road) (P : PostsOk road.length ps) {i j : Nat} (h : i < j) (hj : j < ps.length) : plc road (pst ps i) < plc road (pst ps j) := G.places _ _ (pst_rise P h hj) (pst_lt P hj)
theorem dst_eq (h j : Nat) : dst road ps h j = ab (plc road h - plc road (pst ps j)) := rfl
theorem ab_far_left {y x x' x'' : Int} (h1 : x < x') (h2 : x' < x'') (h3 : ab (y - x'') < ab (y - x')) : ab (y - x'') ≤ ab (y - x) := by
  unfold ab at *
  split at h3 <;> split at h3 <;> split <;> split <;> (first | lia | omega)
theorem ab_far_right {y x x' x'' : Int} (h1 : x < x') (h2 : x' < x'') (h3 : ¬ ab (y - x') < ab (y - x)) : ab (y - x) ≤ ab (y - x'') := by
  unfold ab at *
  split at h3 <;> split at h3 <;> split <;> split <;> (first | lia | omega)
theorem turns_min (G : Good road) (P : PostsOk road.length ps) {h : Nat} (hh : h < road.length) {j : Nat} (hj : j < ps.length) : dst road ps h (turns road ps (h + 1)) ≤ dst road ps h j := by
  obtain ⟨_, tlt, lf, rt⟩ := turns_step G.rise P hh
  generalize turns road ps (h + 1) = t at *
  rw [dst_eq, dst_eq]
  rcases Nat.lt_or_ge j t with z | z
  · have l1 := lf (by (first | lia | omega))
    rw [dst_eq, dst_eq] at l1
    have x2 := pst_plc G P (show t - 1 < t by (first | lia | omega)) tlt
    rcases Nat.lt_or_ge j (t - 1) with y | y
    · exact ab_far_left (pst_plc G P y (by (first | lia | omega))) x2 l1
    · have : j = t - 1 := by (first | lia | omega)
      subst this
      (first | lia | omega)
  · rcases Nat.lt_or_ge t j with y | y
    · have r1 := rt (by (first | lia | omega))
      rw [dst_eq, dst_eq] at r1
      have x1 := pst_plc G P (show t < t + 1 by (first | lia | omega)) (by (first | lia | omega))
      rcases Nat.lt_or_ge (t + 1) j with x | x
      · exact ab_far_right x1 (pst_plc G P x hj) r1
      · have : j = t + 1 := by (first | lia | omega)
        subst this
        (first | lia | omega)
    · have : j = t := by (first | lia | omega)
      subst this
      exact Int.le_refl _
theorem turns_own (G : Good road) (P : PostsOk road.length ps) {j : Nat} (hj : j < ps.length) : turns road ps (pst ps j + 1) = j := by
  have hh := pst_lt P hj
  have h1 := turns_min G P hh hj
  obtain ⟨_, tlt, _, _⟩ := turns_step G.rise P hh
  generalize turns road ps (pst ps j + 1) = t at *
  rw [dst_eq, dst_eq] at h1
  have h2 : plc road (pst ps j) = plc road (pst ps t) := by
    unfold ab at h1
    split at h1 <;> split at h1 <;> (first | lia | omega)
  rcases Nat.lt_trichotomy t j with z | z | z
  · have := pst_plc G P z hj; (first | lia | omega)
  · exact z
  · have := pst_plc G P z tlt; (first | lia | omega)
theorem turns_mono (G : Good road) (P : PostsOk road.length ps) {a : Nat} : ∀ {d : Nat}, a + d < road.length → turns road ps (a + 1) ≤ turns road ps (a + d + 1)
  | 0, _ => Nat.le_refl _
  | d + 1, h => by
    have h1 := turns_mono G P (a := a) (d := d) (by (first | lia | omega))
    have h2 := (turns_step G.rise P (k := a + d + 1) (by (first | lia | omega))).1
    rw [show a + (d + 1) + 1 = a + d + 1 + 1 by (first | lia | omega)]
    (first | lia | omega)
end
theorem cut_ex (T : Nat → Nat) (j : Nat) : ∀ n, (∀ a b, a ≤ b → b < n → T a ≤ T b) → ∃ c, c ≤ n ∧ (∀ h, h < c → T h < j) ∧ (∀ h, c ≤ h → h < n → j ≤ T h)
  | 0, _ => ⟨0, Nat.le_refl _, fun h z => by (first | lia | omega), fun h _ z => by (first | lia | omega)⟩
  | n + 1, mono => by
    obtain ⟨c, c1, c2, c3⟩ := cut_ex T j n fun a b h1 h2 => mono a b h1 (by (first | lia | omega))
    rcases Nat.lt_or_ge c n with z | z
    · refine ⟨c, by (first | lia | omega), c2, fun h h1 h2 => ?_⟩
      have := mono c h h1 h2
      have := c3 c (Nat.le_refl _) z
      (first | lia | omega)
    · have e : c = n := by (first | lia | omega)
      subst e
      by_cases y : T c < j
      · refine ⟨c + 1, Nat.le_refl _, fun h h1 => ?_, fun h h1 h2 => by (first | lia | omega)⟩
        rcases Nat.lt_or_ge h c with x | x
        · exact c2 h x
        · have : h = c := by (first | lia | omega)
          subst this; exact y
      · refine ⟨c, by (first | lia | omega), c2, fun h h1 h2 => ?_⟩
        have : h = c := by (first | lia | omega)
        subst this; (first | lia | omega)
structure Cuts (n k : Nat) (c : Nat → Nat) : Prop where
  zero : c 0 = 0
  all : c k = n
  lt : ∀ j, j < k → c j < c (j + 1)
theorem Cuts.le {n k : Nat} {c : Nat → Nat} (C : Cuts n k c) : ∀ {j : Nat}, j ≤ k → j ≤ c j
  | 0, _ => Nat.zero_le _
  | j + 1, h => by have h1 := C.le (j := j) (by (first | lia | omega)); have h2 := C.lt j (by (first | lia | omega)); (first | lia | omega)
theorem Cuts.mono {n k : Nat} {c : Nat → Nat} (C : Cuts n k c) {i : Nat} : ∀ {d : Nat}, i + d ≤ k → c i ≤ c (i + d)
  | 0, _ => Nat.le_refl _
  | d + 1, h => by have h1 := C.mono (i := i) (d := d) (by (first | lia | omega)); have h2 := C.lt (i + d) (by (first | lia | omega)); rw [show i + (d + 1) = i + d + 1 by (first | lia | omega)]; (first | lia | omega)
theorem Cuts.bound {n k : Nat} {c : Nat → Nat} (C : Cuts n k c) {j : Nat} (h : j ≤ k) : c j ≤ n := by
  have := C.mono (i := j) (d := k - j) (by (first | lia | omega))
  rw [show j + (k - j) = k by (first | lia | omega), C.all] at this
  exact this
section
variable {road : List (Int × Int)} {ps : List Int}
def carr (road : List (Int × Int)) (ps : List Int) (h : Nat) : Int := let' road h * dst road ps h (turns road ps (h + 1))
theorem way_sm (road : List (Int × Int)) (ps : List Int) : wayOf road ps = sm (carr road ps) road.length := by rw [sm_eq]; rfl
theorem posts_cut (G : Good road) (P : PostsOk road.length ps) (hn : 0 < road.length) : ∃ c, Cuts road.length ps.length c ∧ sm (fun j => wW road (c j) (c (j + 1))) ps.length ≤ wayOf road ps := by
  have mono : ∀ a b, a ≤ b → b < road.length → turns road ps (a + 1) ≤ turns road ps (b + 1) := fun a b h1 h2 => by
    have := turns_mono G P (a := a) (d := b - a) (by (first | lia | omega))
    rwa [show a + (b - a) = b by (first | lia | omega)] at this
  have tlt : ∀ h, h < road.length → turns road ps (h + 1) < ps.length := fun h hh => (turns_step G.rise P hh).2.1
  refine ⟨fun j => Classical.choose (cut_ex (fun h => turns road ps (h + 1)) j road.length mono), ?_, ?_⟩
  all_goals
    have spec := fun j => Classical.choose_spec (cut_ex (fun h => turns road ps (h + 1)) j road.length mono)
    generalize hc : (fun j => Classical.choose (cut_ex (fun h => turns road ps (h + 1)) j road.length mono)) = c
    have hc' : ∀ j, Classical.choose (cut_ex (fun h => turns road ps (h + 1)) j road.length mono) = c j := fun j => congrFun hc j
    simp only [hc'] at spec ⊢
    clear hc hc'
    have own : ∀ j, j < ps.length → c j ≤ pst ps j ∧ pst ps j < c (j + 1) := fun j hj => by
      have e := turns_own G P hj
      have hl := pst_lt P hj
      constructor
      · rcases Nat.lt_or_ge (pst ps j) (c j) with z | z
        · have := (spec j).2.1 _ z; (first | lia | omega)
        · exact z
      · rcases Nat.lt_or_ge (pst ps j) (c (j + 1)) with z | z
        · exact z
        · have := (spec (j + 1)).2.2 _ z hl; (first | lia | omega)
    have C : Cuts road.length ps.length c := by
      refine ⟨?_, ?_, fun j hj => by have := own j hj; (first | lia | omega)⟩
      · rcases Nat.eq_zero_or_pos (c 0) with z | z
        · exact z
        · have := (spec 0).2.1 0 z; (first | lia | omega)
      · have h1 := (spec ps.length).1
        rcases Nat.lt_or_ge (c ps.length) road.length with z | z
        · have := (spec ps.length).2.2 _ (Nat.le_refl _) z
          have := tlt _ z
          (first | lia | omega)
        · (first | lia | omega)
  · exact C
  · have key : ∀ j, j ≤ ps.length → sm (fun j => wW road (c j) (c (j + 1))) j ≤ sm (carr road ps) (c j) := by
      intro j
      induction j with
      | zero => intro _; rw [C.zero]; exact Int.le_refl _
      | succ j ih =>
        intro hj
        have h1 := ih (by (first | lia | omega))
        have ow := own j (by (first | lia | omega))
        have hb := C.bound (j := j + 1) hj
        have h2 := wW_le G hb ow.1 ow.2
        have h3 : lT road (c (j + 1)) (pst ps j) - lT road (c j) (pst ps j) ≤ sm (carr road ps) (c (j + 1)) - sm (carr road ps) (c j) := by
          refine sm_parts (by (first | lia | omega)) fun h a1 a2 => ?_
          have e1 := (spec j).2.2 h a1 (by (first | lia | omega))
          have e2 := (spec (j + 1)).2.1 h a2
          have e : turns road ps (h + 1) = j := by (first | lia | omega)
          unfold carr
          rw [e, dst_eq]
          exact Int.le_refl _
        rw [sm]
        (first | lia | omega)
    have := key ps.length (Nat.le_refl _)
    rw [C.all] at this
    rw [way_sm]
    exact this
theorem cut_posts (G : Good road) {k : Nat} {c : Nat → Nat} (C : Cuts road.length k c) (hk : ps.length = k) (hin : ∀ j, j < k → ∃ q : Nat, ps.getD j 0 = (q : Int) ∧ c j ≤ q ∧ q < c (j + 1)) :
    PostsOk road.length ps ∧ wayOf road ps ≤ sm (fun j => lT road (c (j + 1)) (pst ps j) - lT road (c j) (pst ps j)) k := by
  have P : PostsOk road.length ps := by
    refine ⟨fun j hj => ?_, fun q hq => ?_, fun q hq => ?_, fun h => ?_⟩
    · obtain ⟨q, e1, _, e3⟩ := hin j (by (first | lia | omega))
      obtain ⟨q', f1, f2, _⟩ := hin (j + 1) (by (first | lia | omega))
      (first | lia | omega)
    · obtain ⟨j, hj, rfl⟩ := List.mem_iff_getElem.mp hq
      obtain ⟨q, e1, _, e3⟩ := hin j (by (first | lia | omega))
      have : ps.getD j 0 = ps[j] := by simp [List.getD_eq_getElem?_getD, hj]
      (first | lia | omega)
    · obtain ⟨j, hj, rfl⟩ := List.mem_iff_getElem.mp hq
      obtain ⟨q, e1, _, e3⟩ := hin j (by (first | lia | omega))
      have : ps.getD j 0 = ps[j] := by simp [List.getD_eq_getElem?_getD, hj]
      have := C.bound (j := j + 1) (by (first | lia | omega))
      (first | lia | omega)
    · rcases Nat.eq_zero_or_pos k with z | z
      · subst z; have h1 := C.zero; have h2 := C.all; (first | lia | omega)
      · (first | lia | omega)
  refine ⟨P, ?_⟩
  have key : ∀ j, j ≤ k → sm (carr road ps) (c j) ≤ sm (fun j => lT road (c (j + 1)) (pst ps j) - lT road (c j) (pst ps j)) j := by
    intro j
    induction j with
    | zero => intro _; rw [C.zero]; exact Int.le_refl _
    | succ j ih =>
      intro hj
      have h1 := ih (by (first | lia | omega))
      have hb := C.bound (j := j + 1) hj
      have hlt := C.lt j (by (first | lia | omega))
      have h3 : sm (carr road ps) (c (j + 1)) - sm (carr road ps) (c j) ≤ lT road (c (j + 1)) (pst ps j) - lT road (c j) (pst ps j) := by
        refine sm_parts (by (first | lia | omega)) fun h a1 a2 => ?_
        unfold carr
        rw [← dst_eq (road := road) (ps := ps) h j]
        exact Int.mul_le_mul_of_nonneg_left (turns_min G P (by (first | lia | omega)) (by (first | lia | omega))) (let_nonneg G _)
      rw [sm]
      (first | lia | omega)
  have := key k (Nat.le_refl _)
  rw [C.all] at this
  rw [way_sm]
  exact this
theorem fF_le_cuts {n k : Nat} {c : Nat → Nat} (C : Cuts n (k + 1) c) : ∀ {j : Nat}, j ≤ k → fF road (j + 1) (c (j + 1)) ≤ sm (fun j => wW road (c j) (c (j + 1))) (j + 1)
  | 0, h => by
    show wW road 0 (c 1) ≤ 0 + wW road (c 0) (c 1)
    rw [C.zero]
    (first | lia | omega)
  | j + 1, h => by
    have h1 := fF_le_cuts C (j := j) (by (first | lia | omega))
    have l1 := C.le (j := j + 1) (by (first | lia | omega))
    have l2 := C.le (j := j + 2) (by (first | lia | omega))
    have lt := C.lt (j + 1) (by (first | lia | omega))
    have h2 := (aA_props (road := road) (show j + 2 ≤ c (j + 2) from l2)).2.2.1 (c (j + 1)) l1 lt
    rw [sm]
    show fF road (j + 2) (c (j + 2)) ≤ _
    have e : c (j + 1 + 1) = c (j + 2) := rfl
    rw [e]
    (first | lia | omega)
theorem fF_le_way (G : Good road) (P : PostsOk road.length ps) {k : Nat} (hk : ps.length = k + 1) (hn : 0 < road.length) : fF road (k + 1) road.length ≤ wayOf road ps := by
  obtain ⟨c, C, h⟩ := posts_cut G P hn
  rw [hk] at C h
  have := fF_le_cuts (road := road) C (Nat.le_refl k)
  rw [C.all] at this
  (first | lia | omega)
end
end Ph
set_option linter.all false
namespace Ph
def cC (road : List (Int × Int)) : Nat → Nat → Nat → Nat
  | 0, n, _ => n
  | k + 1, n, t => if t = k + 1 then n else cC road k (aA road (k + 1) n) t
theorem cC_top (road : List (Int × Int)) (k n : Nat) : cC road (k + 1) n (k + 1) = n := by rw [cC, if_pos rfl]
theorem cC_low (road : List (Int × Int)) {k n t : Nat} (h : t ≤ k) : cC road (k + 1) n t = cC road k (aA road (k + 1) n) t := by rw [cC, if_neg (by (first | lia | omega))]
theorem cC_self (road : List (Int × Int)) : ∀ (k n : Nat), cC road k n k = n
  | 0, _ => rfl
  | k + 1, n => cC_top road k n
theorem cC_prev (road : List (Int × Int)) {k n : Nat} : cC road (k + 1) n k = aA road (k + 1) n := by rw [cC_low road (Nat.le_refl _), cC_self]
theorem cC_step (road : List (Int × Int)) : ∀ {k n t : Nat}, t < k → cC road k n t = aA road (t + 1) (cC road k n (t + 1))
  | 0, _, _, h => absurd h (Nat.not_lt_zero _)
  | k + 1, n, t, h => by
    rcases Nat.lt_or_ge t k with z | z
    · rw [cC_low road (by (first | lia | omega)), cC_low road (by (first | lia | omega))]
      exact cC_step road z
    · have e : t = k := by (first | lia | omega)
      subst e
      rw [cC_prev, cC_top]
theorem cC_cuts {road : List (Int × Int)} : ∀ {k n : Nat}, k + 1 ≤ n → Cuts n (k + 1) (cC road (k + 1) n) ∧ sm (fun j => wW road (cC road (k + 1) n j) (cC road (k + 1) n (j + 1))) (k + 1) = fF road (k + 1) n
  | 0, n, h => by
    have e0 : cC road (0 + 1) n 0 = 0 := by rw [cC_prev]; rfl
    have e1 : cC road (0 + 1) n (0 + 1) = n := cC_top road 0 n
    refine ⟨⟨e0, e1, fun j hj => ?_⟩, ?_⟩
    · have : j = 0 := by (first | lia | omega)
      subst this
      rw [e0, e1]
      (first | lia | omega)
    · show 0 + wW road (cC road (0 + 1) n 0) (cC road (0 + 1) n (0 + 1)) = wW road 0 n
      rw [e0, e1]
      (first | lia | omega)
  | k + 1, n, h => by
    obtain ⟨a, b, _, _⟩ := aA_props (road := road) (show k + 2 ≤ n from h)
    obtain ⟨C, hs⟩ := cC_cuts (road := road) (k := k) (n := aA road (k + 2) n) a
    have low : ∀ t, t ≤ k + 1 → cC road (k + 1 + 1) n t = cC road (k + 1) (aA road (k + 2) n) t := fun t ht => cC_low road ht
    have top : cC road (k + 1 + 1) n (k + 1 + 1) = n := cC_top road (k + 1) n
    refine ⟨⟨by rw [low 0 (by (first | lia | omega))]; exact C.zero, top, fun j hj => ?_⟩, ?_⟩
    · rcases Nat.lt_or_ge j (k + 1) with z | z
      · rw [low j (by (first | lia | omega)), low (j + 1) (by (first | lia | omega))]
        exact C.lt j z
      · have e : j = k + 1 := by (first | lia | omega)
        subst e
        rw [low (k + 1) (Nat.le_refl _), top, C.all]
        exact b
    · rw [sm, sm_congr (n := k + 1) (g := fun j => wW road (cC road (k + 1) (aA road (k + 2) n) j) (cC road (k + 1) (aA road (k + 2) n) (j + 1))) fun i hi => by rw [low i (by (first | lia | omega)), low (i + 1) (by (first | lia | omega))], hs, low (k + 1) (Nat.le_refl _), top, C.all]
      exact (fF_eq road k n).symm
def fm (road : List (Int × Int)) (a b : Nat) : Nat := ((mids road a b).getD 0 0).toNat
theorem mids_head {road : List (Int × Int)} (G : Good road) {a b : Nat} (hb : b ≤ road.length) (hab : a < b) : ∃ r, mids road a b = (fm road a b : Int) :: r ∧ a ≤ fm road a b ∧ fm road a b < b ∧ lT road b (fm road a b) - lT road a (fm road a b) = wW road a b := by
  have cl := cut_len hb (Nat.le_of_lt hab)
  have cg := cut_good G hb (Nat.le_of_lt hab)
  obtain ⟨_, j, hj, e⟩ := mn_props (cst' (plc (cut road a b)) (let' (cut road a b)) (cut road a b).length) (cut road a b).length (by (first | lia | omega))
  have hm := (mid_costs cg hj).mp e
  cases hf : (List.range (b - a)).filter (midB (cut road a b)) with
  | nil =>
    have : j ∈ (List.range (b - a)).filter (midB (cut road a b)) := List.mem_filter.mpr ⟨List.mem_range.mpr (by (first | lia | omega)), hm⟩
    rw [hf] at this
    cases this
  | cons x r =>
    have hx : x ∈ (List.range (b - a)).filter (midB (cut road a b)) := by rw [hf]; exact List.mem_cons_self
    obtain ⟨x1, x2⟩ := List.mem_filter.mp hx
    have x1' := List.mem_range.mp x1
    have em : mids road a b = ((a : Int) + (x : Int)) :: r.map fun (k : Nat) => (a : Int) + (k : Int) := by unfold mids; rw [hf]; rfl
    have ef : fm road a b = a + x := by unfold fm; rw [em]; show ((a : Int) + (x : Int)).toNat = _; (first | lia | omega)
    refine ⟨r.map fun (k : Nat) => (a : Int) + (k : Int), by rw [em, ef, Int.natCast_add], by (first | lia | omega), by (first | lia | omega), ?_⟩
    have := (mid_costs cg (k := x) (by (first | lia | omega))).mpr x2
    have c := cut_cst (road := road) (a := a) (b := b) (k := a + x) hb (by (first | lia | omega)) (by (first | lia | omega))
    rw [show a + x - a = x by (first | lia | omega)] at c
    rw [ef, ← c, this]
    rfl
def cps (road : List (Int × Int)) (c : Nat → Nat) (k : Nat) : List Int := (List.range k).map fun j => ((fm road (c j) (c (j + 1)) : Nat) : Int)
theorem cps_len (road : List (Int × Int)) (c : Nat → Nat) (k : Nat) : (cps road c k).length = k := by simp [cps]
theorem cps_at {road : List (Int × Int)} {c : Nat → Nat} {k j : Nat} (h : j < k) : (cps road c k).getD j 0 = ((fm road (c j) (c (j + 1)) : Nat) : Int) := by simp [cps, List.getD_eq_getElem?_getD, h]
theorem cps_ok {road : List (Int × Int)} (G : Good road) {k : Nat} {c : Nat → Nat} (C : Cuts road.length k c) : PostsOk road.length (cps road c k) ∧ wayOf road (cps road c k) ≤ sm (fun j => wW road (c j) (c (j + 1))) k := by
  have fmj : ∀ j, j < k → c j ≤ fm road (c j) (c (j + 1)) ∧ fm road (c j) (c (j + 1)) < c (j + 1) ∧ lT road (c (j + 1)) (fm road (c j) (c (j + 1))) - lT road (c j) (fm road (c j) (c (j + 1))) = wW road (c j) (c (j + 1)) := fun j hj => by
    obtain ⟨r, _, a, b, d⟩ := mids_head G (C.bound (j := j + 1) hj) (C.lt j hj)
    exact ⟨a, b, d⟩
  obtain ⟨P, h⟩ := cut_posts G (ps := cps road c k) C (cps_len road c k) fun j hj => ⟨_, cps_at hj, (fmj j hj).1, (fmj j hj).2.1⟩
  refine ⟨P, ?_⟩
  rw [sm_congr (n := k) (g := fun j => wW road (c j) (c (j + 1))) fun j hj => ?_] at h
  · exact h
  · have e : pst (cps road c k) j = fm road (c j) (c (j + 1)) := by unfold pst; rw [cps_at hj]; exact Int.toNat_natCast _
    rw [e]
    exact (fmj j hj).2.2
theorem best_way {road : List (Int × Int)} (G : Good road) {k : Nat} (h : k + 1 ≤ road.length) : PostsOk road.length (cps road (cC road (k + 1) road.length) (k + 1)) ∧ wayOf road (cps road (cC road (k + 1) road.length) (k + 1)) = fF road (k + 1) road.length := by
  obtain ⟨C, hs⟩ := cC_cuts (road := road) h
  obtain ⟨P, hw⟩ := cps_ok G C
  refine ⟨P, ?_⟩
  have := fF_le_way G P (k := k) (cps_len _ _ _) (by (first | lia | omega))
  (first | lia | omega)
theorem am_congr {g g' : Nat → Int} {lo : Nat} : ∀ {m : Nat}, (∀ i, lo ≤ i → i ≤ lo + m → g i = g' i) → am g lo m = am g' lo m
  | 0, _ => rfl
  | m + 1, h => by
    have h1 := am_congr (g := g) (g' := g') (lo := lo) (m := m) fun i a b => h i a (by (first | lia | omega))
    have b := am_props g' lo m
    rw [am, am, h1, h (lo + (m + 1)) (by (first | lia | omega)) (by (first | lia | omega)), h (am g' lo m) b.1 (by (first | lia | omega))]
def PB (road : List (Int × Int)) (fee : Int) : Nat → Nat → Int × Nat
  | 0, _ => (0, 0)
  | m + 1, j => if j = m + 1 then ((PB road fee m (am (fun i => (PB road fee m i).1 + wW road i (m + 1) + fee) 0 m)).1 + wW road (am (fun i => (PB road fee m i).1 + wW road i (m + 1) + fee) 0 m) (m + 1) + fee, am (fun i => (PB road fee m i).1 + wW road i (m + 1) + fee) 0 m) else PB road fee m j
def bP (road : List (Int × Int)) (fee : Int) (j : Nat) : Int := (PB road fee j j).1
def aP (road : List (Int × Int)) (fee : Int) (j : Nat) : Nat := (PB road fee j j).2
theorem PB_low (road : List (Int × Int)) (fee : Int) {j : Nat} : ∀ {d : Nat}, PB road fee (j + d) j = PB road fee j j
  | 0 => rfl
  | d + 1 => by rw [show j + (d + 1) = j + d + 1 by (first | lia | omega), PB, if_neg (by (first | lia | omega))]; exact PB_low road fee
theorem PB_at (road : List (Int × Int)) (fee : Int) {m j : Nat} (h : j ≤ m) : PB road fee m j = (bP road fee j, aP road fee j) := by
  have := PB_low road fee (j := j) (d := m - j)
  rw [show j + (m - j) = m by (first | lia | omega)] at this
  rw [this]
  rfl
theorem aP_eq (road : List (Int × Int)) (fee : Int) (m : Nat) : aP road fee (m + 1) = am (fun i => bP road fee i + wW road i (m + 1) + fee) 0 m ∧ bP road fee (m + 1) = bP road fee (aP road fee (m + 1)) + wW road (aP road fee (m + 1)) (m + 1) + fee := by
  have e : am (fun i => (PB road fee m i).1 + wW road i (m + 1) + fee) 0 m = am (fun i => bP road fee i + wW road i (m + 1) + fee) 0 m := am_congr fun i _ h => by rw [PB_at road fee (show i ≤ m by (first | lia | omega))]
  have h1 : aP road fee (m + 1) = am (fun i => bP road fee i + wW road i (m + 1) + fee) 0 m := by
    unfold aP
    rw [PB, if_pos rfl, e]
  refine ⟨h1, ?_⟩
  have b := am_props (fun i => bP road fee i + wW road i (m + 1) + fee) 0 m
  rw [h1]
  show (PB road fee (m + 1) (m + 1)).1 = _
  rw [PB, if_pos rfl, e, PB_at road fee (show am (fun i => bP road fee i + wW road i (m + 1) + fee) 0 m ≤ m by (first | lia | omega))]
def itP (road : List (Int × Int)) (fee : Int) (n : Nat) : Nat → Nat
  | 0 => n
  | t + 1 => aP road fee (itP road fee n t)
end Ph
set_option Elab.async false
set_option linter.all false
set_option maxRecDepth 100000
namespace Ph
open PySem PySem.Spec PyProof.Rows L2
def top (i : Nat) : Stmt := PySem.Challenge.pw_posthouses_k07_refused.main.body.getD i (.Pass ⟨0, 0, 0, 0⟩)
abbrev s__wall : Stmt := top 0
abbrev s_PostError : Stmt := top 2
abbrev s_BadRoad : Stmt := top 3
abbrev s_BadPosts : Stmt := top 4
abbrev s_BadStretch : Stmt := top 5
abbrev s_BadMany : Stmt := top 6
abbrev s_is_whole : Stmt := top 8
abbrev sWhole : Stmt := top 8
abbrev s_is_whole_from : Stmt := top 9
abbrev sFrom : Stmt := top 9
abbrev s_is_house : Stmt := top 10
abbrev sHouse : Stmt := top 10
abbrev s_is_rising : Stmt := top 11
abbrev sRising : Stmt := top 11
abbrev s_check_road : Stmt := top 12
abbrev sCheckRoad : Stmt := top 12
abbrev s_check_posts : Stmt := top 13
abbrev sCheckPosts : Stmt := top 13
abbrev s_check_stretch : Stmt := top 14
abbrev s_apart : Stmt := top 15
abbrev sApart : Stmt := top 15
abbrev s_nearest : Stmt := top 16
abbrev sNearest : Stmt := top 16
abbrev s_way : Stmt := top 17
abbrev sWay : Stmt := top 17
abbrev s_ways_to_each : Stmt := top 18
abbrev s_middle : Stmt := top 19
abbrev s_one_way : Stmt := top 20
abbrev s_one_ways_to : Stmt := top 21
abbrev s_Answer : Stmt := top 23
abbrev s_Best : Stmt := top 24
abbrev s_Paid : Stmt := top 25
abbrev s_check_many : Stmt := top 27
abbrev s_check_from_nought : Stmt := top 28
abbrev s_first_layer : Stmt := top 29
abbrev s_next_layer : Stmt := top 30
abbrev s_layers_up_to : Stmt := top 31
abbrev s_paid_steps : Stmt := top 32
abbrev s_bounds_of : Stmt := top 33
abbrev s_layered_ends : Stmt := top 34
abbrev s_paid_ends : Stmt := top 35
abbrev s_posts_between : Stmt := top 36
abbrev s_fitting_fee : Stmt := top 37
abbrev s_best : Stmt := top 38
abbrev s_ways : Stmt := top 39
abbrev s_paying : Stmt := top 40
abbrev s__law_road_asked : Stmt := top 42
abbrev s__law_others_asked : Stmt := top 43
abbrev s__law_told : Stmt := top 44
abbrev s_law : Stmt := top 45
abbrev sLaw : Stmt := top 45
end Ph
set_option Elab.async false
set_option linter.all false
set_option maxRecDepth 100000
set_option maxHeartbeats 4000000
namespace Ph
open PySem PySem.Spec PyProof.Rows L2
structure Blt (mg : Str → Option Value) : Prop where
  isinstance : mg "isinstance" = none
  len : mg "len" = none
  int : mg "int" = none
  bool : mg "bool" = none
  list : mg "list" = none
  tuple : mg "tuple" = none
  range : mg "range" = none
  abs : mg "abs" = none
  sum : mg "sum" = none
  enumerate : mg "enumerate" = none
  all : mg "all" = none
  min : mg "min" = none
  zip : mg "zip" = none
  max : mg "max" = none
  any : mg "any" = none
  reversed : mg "reversed" = none
  sorted : mg "sorted" = none
  set : mg "set" = none
theorem kit_ib {K : PySem.W.Frag} : PySem.W.kitOne K (.type "int") (.type "bool") = some false := by
  unfold PySem.W.kitOne PySem.W.kitCls PySem.W.subIn
  dsimp only
  decide +kernel
theorem getD_some {ns : List Int} {j : Nat} (h : j < ns.length) : ns[j]? = some (ns.getD j 0) := by
  simp [List.getD_eq_getElem?_getD, h]
theorem at_int {ns : List Int} {z : Int} {j : Nat} (h0 : z = (j : Int)) (h1 : j < ns.length) : atI (ns.map V.int) z = some (.int (ns.getD j 0)) := by
  subst h0
  refine atI_nat ?_
  rw [List.getElem?_map, getD_some h1]
  rfl
abbrev Tups (H : Hp) : List Addr → List (Int × Int) → Prop := Paired fun t pl => H t = some (.tup [.int pl.1, .int pl.2])
def RoadAt (H : Hp) (r : Addr) (road : List (Int × Int)) : Prop := ∃ ts : List Addr, H r = some (.lst (ts.map V.ref)) ∧ Tups H ts road
abbrev IntsAt (H : Hp) (p : Addr) (ns : List Int) : Prop := H p = some (.lst (ns.map V.int))
theorem Tups.len {H : Hp} {ts : List Addr} {road : List (Int × Int)} (h : Tups H ts road) : ts.length = road.length := Paired.length h
theorem Tups.get {H : Hp} : ∀ {ts : List Addr} {road : List (Int × Int)} {i : Nat}, Tups H ts road → i < road.length → ∃ t, ts[i]? = some t ∧ H t = some (.tup [.int (road.getD i (0, 0)).1, .int (road.getD i (0, 0)).2])
  | _, _, i, .nil, h => by simp at h
  | t :: _, _ :: _, 0, .cons r _, _ => ⟨t, rfl, r⟩
  | _, _, i + 1, .cons _ t, h => by
    obtain ⟨x, e1, e2⟩ := Tups.get (i := i) t (by simpa using h)
    exact ⟨x, by simpa using e1, by simpa using e2⟩
theorem Tups.same {H H' : Hp} (e : Same H H') : ∀ {ts : List Addr} {road : List (Int × Int)}, Tups H ts road → Tups H' ts road
  | _, _, .nil => .nil
  | _, _, .cons r t => .cons (e _ _ r) (Tups.same e t)
theorem RoadAt.same {H H' : Hp} {r : Addr} {road : List (Int × Int)} (e : Same H H') (h : RoadAt H r road) : RoadAt H' r road := by
  obtain ⟨ts, h1, h2⟩ := h
  exact ⟨ts, e _ _ h1, h2.same e⟩
theorem same_upd {H : Hp} {a : Addr} {o : HO} (h : H a = none) : Same H (upd H a o) := fun b u e => by
  rw [upd_ne (ne_of_none e h)]
  exact e
theorem same_upd2 {H H' : Hp} {a : Addr} {o : HO} (e : Same H H') (h : H a = none) : Same H (upd H' a o) := fun b u q => by
  rw [upd_ne (ne_of_none q h)]
  exact e b u q
theorem pow_big {n : Nat} (h : n < 2 ^ 250 * 2 ^ 50) : n < 2 ^ 100000 := by
  rw [← Nat.pow_add] at h
  exact Nat.lt_of_lt_of_le h (Nat.pow_le_pow_right (by decide) (by decide))
theorem Good.mul {road : List (Int × Int)} (G : Good road) {i j : Nat} (hi : i < road.length) (hj : j < road.length) : CMulB (let' road i) (ab (plc road i - plc road j)) := by
  have h1 := G.at hi
  have h2 := G.at hj
  refine ⟨pow_big (by (first | lia | omega)), pow_big ?_⟩
  unfold ab
  split <;> (first | lia | omega)
section
variable {P : Program} {w : World} {K : PySem.W.Frag} {mg : Str → Option Value} {base : Heap}
def spWhole : Sp := fun vs H Q _ => ∃ i, vs = [.int i] ∧ Q (.bl true) H
theorem scWhole : FnScope ["value"] ["value"] (defScope sWhole) := ⟨rfl, rfl, rfl, by decide +kernel, rfl, by decide +kernel, by decide +kernel⟩
theorem ok_whole {f : Addr} {fd : FuncData} (F : Fun K "is_whole" "is_whole" sWhole f fd) (B : Blt mg) : FnOk P w K mg base CX0 1 f fd ["value"] spWhole := by
  refine F.ok scWhole (fun vs H Q E h => ?_) (fun cdv A outer s H vs Q E hr h => ?_)
  · obtain ⟨i, rfl, _⟩ := h
    rfl
  · obtain ⟨i, rfl, q⟩ := h
    refine ⟨_, pss_one (ps_ret (pe_and (pe_callB call_isinst (by rfl) B.isinstance boot_isinstance (pa_cons (pv 0) (pa_cons (pe_bltn (v := .ty "int") (by rfl) B.int PyProof.Rows.boot_int rfl) pa_nil)))
      (pe_one (pe_not (pe_callB call_isinst (by rfl) B.isinstance boot_isinstance (pa_cons (pv 0) (pa_cons (pe_bltn (v := .ty "bool") (by rfl) B.bool PyProof.Rows.boot_bool rfl) pa_nil))))))), ?_⟩
    refine ⟨_, rfl, _, _, _, _, rfl, .int i, kit_same _, _, rfl, iteT ?_⟩
    exact ⟨_, rfl, _, _, _, _, rfl, .int i, kit_ib, _, rfl, q⟩
def spFrom : Sp := fun vs H Q _ => ∃ i n, vs = [.int i, .int n] ∧ Q (.bl (decide (n ≤ i))) H
theorem scFrom : FnScope ["value", "least"] ["value", "least"] (defScope sFrom) := ⟨rfl, rfl, rfl, by decide +kernel, rfl, by decide +kernel, by decide +kernel⟩
theorem ok_from {f fW : Addr} {fd fdW : FuncData} (F : Fun K "is_whole_from" "is_whole_from" sFrom f fd) (B : Blt mg) (FW : Fun K "is_whole" "is_whole" sWhole fW fdW) (bW : Binds K fdW ["value"] []) (mW : mg "is_whole" = some (.ref fW)) :
    FnOk P w K mg base CX0 2 f fd ["value", "least"] spFrom := by
  have GW : FnOk P w K mg base CX0 1 fW fdW ["value"] spWhole := ok_whole FW B
  refine F.ok scFrom (fun vs H Q E h => ?_) (fun cdv A outer s H vs Q E hr h => ?_)
  · obtain ⟨i, n, rfl, _⟩ := h
    rfl
  · obtain ⟨i, n, rfl, q⟩ := h
    refine ⟨_, pss_one (ps_ret (pe_and (pe_call GW hr (by rfl) mW FW.kp bW .nil pass0 (pa_cons (pv 0) pa_nil)) (pe_one (pe_cmpR op_ge (pv 0) (pv 1) (nomark _))))), ?_⟩
    refine ⟨_, rfl, i, rfl, _, rfl, iteT ?_⟩
    exact ⟨_, rfl, _, rfl, i, n, rfl, rfl, q⟩
structure Nums (K : PySem.W.Frag) (mg : Str → Option Value) (fW fF : Addr) (dW dF : FuncData) : Prop where
  W : Fun K "is_whole" "is_whole" sWhole fW dW
  bW : Binds K dW ["value"] []
  mW : mg "is_whole" = some (.ref fW)
  F : Fun K "is_whole_from" "is_whole_from" sFrom fF dF
  bF : Binds K dF ["value", "least"] []
  mF : mg "is_whole_from" = some (.ref fF)
def spHouse : Sp := fun vs H Q _ => ∃ (t : Addr) (p l : Int), vs = [.ref t] ∧ H t = some (.tup [.int p, .int l]) ∧ 0 ≤ l ∧ Q (.bl true) H
theorem scHouse : FnScope ["value"] ["value"] (defScope sHouse) := ⟨rfl, rfl, rfl, by decide +kernel, rfl, by decide +kernel, by decide +kernel⟩
theorem ok_house {f fW fF : Addr} {fd fdW fdF : FuncData} (F : Fun K "is_house" "is_house" sHouse f fd) (B : Blt mg) (U : Nums K mg fW fF fdW fdF) :
    FnOk P w K mg base CX0 3 f fd ["value"] spHouse := by
  have GW : FnOk P w K mg base CX0 1 fW fdW ["value"] spWhole := ok_whole U.W B
  have GF : FnOk P w K mg base CX0 2 fF fdF ["value", "least"] spFrom := ok_from U.F B U.W U.bW U.mW
  refine F.ok scHouse (fun vs H Q E h => ?_) (fun cdv A outer s H vs Q E hr h => ?_)
  · obtain ⟨t, p, l, rfl, _⟩ := h
    rfl
  · obtain ⟨t, p, l, rfl, ht, hl, q⟩ := h
    refine ⟨_, pss_cons (ps_if (PW.pt (pw_or (pt_not (pt_val (pe_callB call_isinst (by rfl) B.isinstance boot_isinstance (pa_cons (pv 0) (pa_cons (pe_bltn (v := .ty "tuple") (by rfl) B.tuple PyProof.Rows.boot_tuple rfl) pa_nil)))))
        (pw_or1 (pt_cmpR op_ne (pe_callB call_len_seq (by rfl) B.len boot_len (pa_cons (pv 0) pa_nil)) pe_int (nomark _))))) (pss_one (ps_ret pe_bl)) pss_nil)
      (pss_one (ps_ret (pe_and (pe_call GW (hr.mono (by decide)) (by rfl) U.mW U.W.kp U.bW .nil pass0 (pa_cons (pe_ix ix_tup (pv 0) pe_int (fun _ _ => rfl)) pa_nil))
        (pe_one (pe_call GF hr (by rfl) U.mF U.F.kp U.bF .nil pass0 (pa_cons (pe_ix ix_tup (pv 0) pe_int (fun _ _ => rfl)) (pa_cons pe_int pa_nil))))))), ?_⟩
    refine ⟨_, rfl, _, _, _, _, rfl, .tup ht, kit_same _, _, rfl, iteF ?_⟩
    refine ⟨_, rfl, t, _, rfl, .inr (SqT.of ht), rfl, _, rfl, iteF ?_⟩
    refine ⟨_, rfl, t, _, _, _, rfl, rfl, SqT.of ht, rfl, p, rfl, _, rfl, iteT ?_⟩
    refine ⟨_, rfl, t, _, _, _, rfl, rfl, SqT.of ht, rfl, l, 0, rfl, ?_⟩
    show Q (.bl (decide (0 ≤ l))) H
    rw [decide_eq_true hl]
    exact q
def spRising (K : PySem.W.Frag) : Sp := fun vs H Q _ => ∃ (a : Addr) (ns : List Int), vs = [.ref a] ∧ SqL K H a (ns.map V.int) ∧ ns.length ≤ 1000000 ∧ (Rise ns → Q (.bl true) H) ∧ (¬ Rise ns → Q (.bl false) H)
theorem scRising : FnScope ["numbers", "k"] ["numbers"] (defScope sRising) := ⟨rfl, rfl, rfl, by decide +kernel, rfl, by decide +kernel, by decide +kernel⟩
theorem ok_rising {f : Addr} {fd : FuncData} (F : Fun K "is_rising" "is_rising" sRising f fd) (B : Blt mg) : FnOk P w K mg base CX0 1 f fd ["numbers"] (spRising K) := by
  refine F.ok scRising (fun vs H Q E h => ?_) (fun cdv A outer s H vs Q E hr h => ?_)
  · obtain ⟨a, ns, rfl, _⟩ := h
    rfl
  · obtain ⟨a, ns, rfl, hS, hn, qT, qF⟩ := h
    refine ⟨_, pss_cons (ps_for PassesOwn.never rfl (pi_range2 (by rfl) B.range (pa_cons pe_int (pa_cons (pe_callB call_len_seq (by rfl) B.len boot_len (pa_cons (pv 0) pa_nil)) pa_nil))) (pg_name (i := 1) scRising.nd rfl (Or.inl rfl))
        (pss_one (ps_if (pt_cmpR op_ge (pe_ix ix_list (pv 0) (pe_op op_sub (pv 1) pe_int) (fun _ _ => rfl)) (pe_ix ix_list (pv 0) (pv 1) (fun _ _ => rfl)) (nomark _)) (pss_one (ps_ret pe_bl)) pss_nil)))
      (pss_one (ps_ret pe_bl)), ?_⟩
    have hl : (ns.map V.int).length = ns.length := by simp
    refine ⟨_, rfl, a, _, rfl, .inl hS, 1, _, rfl, ?_, ?_⟩
    · rw [hl]
      refine ⟨?_, ?_, ?_, ?_⟩ <;> (first | lia | omega)
    refine for_range (lo := 1) (fun i σ H' => H' = H ∧ (∃ v, σ = [some (.ref a), v]) ∧ i ≤ ns.length ∧ ∀ j, j < i → ns.getD j 0 < ns.getD (j + 1) 0) ⟨rfl, ⟨_, rfl⟩, Nat.zero_le _, fun j hj => absurd hj (Nat.not_lt_zero _)⟩ ?_ ?_
    · rintro i σ H' hi ⟨rfl, ⟨v, rfl⟩, hil, hr⟩
      rw [hl] at hi
      have hi' : i + 1 < ns.length := by (first | lia | omega)
      refine ⟨_, rfl, _, rfl, _, _, rfl, rfl, a, _, _, _, rfl, rfl, hS, at_int (j := i) (by (first | lia | omega)) (by (first | lia | omega)), _, rfl, _, rfl, a, _, _, _, rfl, rfl, hS, at_int (j := i + 1) (by (first | lia | omega)) hi', _, _, rfl, rfl, _, rfl, ?_⟩
      refine ite2 (fun hc => ?_) (fun hc => ?_)
      · have hc' : ns.getD (i + 1) 0 ≤ ns.getD i 0 := of_decide_eq_true hc
        exact qF fun z => absurd (z i hi') (by (first | lia | omega))
      · have hc' : ns.getD i 0 < ns.getD (i + 1) 0 := by
          have : ¬ (ns.getD (i + 1) 0 ≤ ns.getD i 0) := fun z => hc (decide_eq_true z)
          (first | lia | omega)
        refine ⟨rfl, ⟨_, rfl⟩, by (first | lia | omega), fun j hj => ?_⟩
        rcases Nat.lt_succ_iff_lt_or_eq.mp hj with z | z
        · exact hr j z
        · subst z; exact hc'
    · rintro σ H' ⟨rfl, ⟨v, rfl⟩, hil, hr⟩
      rw [hl] at hr
      exact qT fun j hj => hr j (by (first | lia | omega))
end
end Ph
set_option Elab.async false
set_option linter.all false
set_option maxRecDepth 100000
set_option maxHeartbeats 4000000
namespace Ph
open PySem PySem.Spec PyProof.Rows L2
theorem take_snoc {α β : Type} (f : α → β) (d : α) (l : List α) {i : Nat} (h : i < l.length) : (l.take (i + 1)).map f = (l.take i).map f ++ [f (l.getD i d)] := by
  rw [List.take_succ, List.map_append]
  congr 1
  simp [List.getD_eq_getElem?_getD, h]
theorem args3 {r : Addr} {x y : Int} {h o : Nat} (e1 : x = (h : Int)) (e2 : y = (o : Int)) : [V.ref r, .int x, .int y] ++ [] = [V.ref r, .int h, .int o] := by rw [e1, e2]; rfl
theorem range_snoc {α : Type} (f : Nat → α) (i : Nat) : (List.range (i + 1)).map f = (List.range i).map f ++ [f i] := by
  rw [List.range_succ, List.map_append]; rfl
section
variable {P : Program} {w : World} {K : PySem.W.Frag} {mg : Str → Option Value} {base : Heap}
structure Callee (K : PySem.W.Frag) (mg : Str → Option Value) (x : Str) (st : Stmt) (ps : List Str) (f : Addr) (fd : FuncData) : Prop where
  fn : Fun K x x st f fd
  b : Binds K fd ps []
  m : mg x = some (.ref f)
def spCheckRoad : Sp := fun vs H Q _ => ∃ (r : Addr) (road : List (Int × Int)), vs = [.ref r] ∧ RoadAt H r road ∧ Good road ∧ ∀ H', Same H H' → Q .non H'
theorem ndPL : (["place", "letters"] : List Str).Nodup := by decide +kernel
theorem scCR : FnScope ["road", "house"] ["road"] (defScope sCheckRoad) := ⟨rfl, rfl, rfl, by decide +kernel, rfl, by decide +kernel, by decide +kernel⟩
theorem ok_checkRoad {f fH fR fW fF : Addr} {fd fdH fdR fdW fdF : FuncData} (F : Fun K "check_road" "check_road" sCheckRoad f fd) (B : Blt mg) (U : Nums K mg fW fF fdW fdF)
    (CH : Callee K mg "is_house" sHouse ["value"] fH fdH) (CR : Callee K mg "is_rising" sRising ["numbers"] fR fdR) : FnOk P w K mg base CX0 4 f fd ["road"] spCheckRoad := by
  have GH : FnOk P w K mg base CX0 3 fH fdH ["value"] spHouse := ok_house CH.fn B U
  have GR : FnOk P w K mg base CX0 1 fR fdR ["numbers"] (spRising K) := ok_rising CR.fn B
  refine F.ok scCR (fun vs H Q E h => ?_) (fun cdv A outer s H vs Q E hr h => ?_)
  · obtain ⟨r, road, rfl, _⟩ := h
    rfl
  · obtain ⟨r, road, rfl, R, G, q⟩ := h
    obtain ⟨ts, hR, hT⟩ := id R
    have hlen := hT.len
    have hlt : (ts.map V.ref).length = road.length := by simp [hlen]
    refine ⟨_, pss_cons (ps_if (pt_not (pt_val (pe_callB call_isinst (by rfl) B.isinstance boot_isinstance (pa_cons (pv 0) (pa_cons (pe_bltn (v := .ty "list") (by rfl) B.list PyProof.Rows.boot_list rfl) pa_nil))))) pss_never pss_nil)
      (pss_cons (ps_for PassesOwn.never rfl (pi_list (pv 0)) (pg_name (i := 1) scCR.nd rfl (Or.inl rfl)) (pss_one (ps_if (pt_not (pt_val (pe_call GH hr (by rfl) CH.m CH.fn.kp CH.b .nil pass0 (pa_cons (pv 1) pa_nil)))) pss_never pss_nil)))
      (pss_one (ps_if (pt_not (pt_val (pe_call GR (hr.mono (by decide)) (by rfl) CR.m CR.fn.kp CR.b .nil pass0 (pa_cons
          (pe_comp (N := ["place", "letters"]) (L := 2) (ix := []) rfl (by show CScope _ ["road", "house"] (defScope sCheckRoad) _ _ _; exact ⟨rfl, by decide +kernel, by decide +kernel, by decide +kernel, by decide +kernel, by decide +kernel, rfl⟩) (pi_list (pv 0))
            (fun C s₀ H₀ fp => ⟨pg_tupK (K := K) (n := 2) rfl rfl (pgs_cons (pg_name (i := 0) ndPL rfl (Or.inl rfl)) (pgs_cons (pg_name (i := 1) ndPL rfl (Or.inl rfl)) pgs_nil)), pts_nil, pv 0⟩)) pa_nil)))) pss_never pss_nil))), ?_⟩
    refine ⟨_, rfl, _, _, _, _, rfl, .lst hR, kit_same _, _, rfl, iteF ?_⟩
    refine ⟨_, rfl, r, rfl, ⟨_, SqL.of hR⟩, for_list (K := K) (a := r) (xs := ts.map V.ref) (fun i σ H' => H' = H ∧ ∃ v, σ = [some (.ref r), v]) ⟨rfl, _, rfl⟩ (fun i σ H' _ z => by rw [z.1]; exact SqL.of hR) ?_ ?_⟩
    · rintro i x σ H' hx ⟨rfl, v, rfl⟩
      have hi : i < road.length := by rw [← hlt]; exact (List.getElem?_eq_some_iff.mp hx).1
      obtain ⟨t, e1, e2⟩ := hT.get hi
      rw [List.getElem?_map, e1] at hx
      have hx' := Option.some.inj hx
      subst hx'
      have hl : 0 ≤ (road.getD i (0, 0)).2 := by
        have e : road.getD i (0, 0) = road[i] := by simp [List.getD_eq_getElem?_getD, hi]
        rw [e]
        exact G.letters _ (List.getElem_mem hi)
      refine ⟨_, rfl, t, _, _, rfl, e2, hl, _, rfl, iteF ?_⟩
      exact ⟨rfl, _, rfl⟩
    · rintro σ H' ⟨rfl, v, rfl⟩
      refine ⟨_, rfl, r, rfl, ⟨_, SqL.of hR⟩, comp_by (n := road.length) (fun D i σ ys H2 => Same H' H2 ∧ H' D = none ∧ (∃ u v, σ = [u, v]) ∧ i ≤ road.length ∧ ys = (road.take i).map fun pl => V.int pl.1) ?_ ?_ ?_⟩
      · exact fun D hD => ⟨same_upd hD, hD, ⟨_, _, rfl⟩, Nat.zero_le _, by simp⟩
      · rintro D i σ ys H3 hi ⟨hs, hD, ⟨u, v, rfl⟩, _, rfl⟩ hD'
        obtain ⟨t, e1, e2⟩ := hT.get hi
        have e1' : (ts.map V.ref)[i]? = some (V.ref t) := by rw [List.getElem?_map, e1]; rfl
        refine ⟨⟨_, _, SqL.of (hs _ _ hR), e1'⟩, fun x H2 y => ?_⟩
        obtain ⟨rfl, y⟩ := y
        have hx := y _ (SqL.of (hs _ _ hR))
        rw [e1'] at hx
        have hx' := Option.some.inj hx
        subst hx'
        refine ⟨t, _, rfl, SqT.of (hs _ _ e2), rfl, _, _, rfl, _, _, rfl, rfl, yesT (iteT ?_)⟩
        refine ⟨_, rfl, ?_, hD', same_upd2 hs hD, hD, ⟨_, _, rfl⟩, hi, ?_⟩
        · refine small1000 ?_
          have := G.small
          rw [List.length_map, List.length_take]
          (first | lia | omega)
        · rw [take_snoc (fun (pl : Int × Int) => V.int pl.1) (0, 0) road hi]
      · rintro D σ ys H3 ⟨hs, hD, ⟨u, v, rfl⟩, _, rfl⟩ hD'
        refine ⟨⟨_, SqL.of (hs _ _ hR), by rw [hlt]; exact Nat.le_refl _⟩, ?_⟩
        rw [List.take_length] at hD'
        have e : (road.map fun pl => V.int pl.1) = (road.map (·.1)).map V.int := by rw [List.map_map]; rfl
        rw [e] at hD'
        refine ⟨D, road.map (·.1), rfl, SqL.of hD', by have := G.small; simp; (first | lia | omega), fun _ => ?_, fun z => absurd G.rise z⟩
        exact ⟨_, rfl, iteF (q _ hs)⟩
end
end Ph
set_option Elab.async false
set_option linter.all false
set_option maxRecDepth 100000
set_option maxHeartbeats 4000000
namespace Ph
open PySem PySem.Spec PyProof.Rows L2
section
variable {P : Program} {w : World} {K : PySem.W.Frag} {mg : Str → Option Value} {base : Heap}
def spApart : Sp := fun vs H Q _ => ∃ (r : Addr) (road : List (Int × Int)) (h o : Nat), vs = [.ref r, .int h, .int o] ∧ RoadAt H r road ∧ h < road.length ∧ o < road.length ∧ Q (.int (ab (plc road h - plc road o))) H
theorem scA : FnScope ["road", "house", "other"] ["road", "house", "other"] (defScope sApart) := ⟨rfl, rfl, rfl, by decide +kernel, rfl, by decide +kernel, by decide +kernel⟩
theorem ok_apart {f : Addr} {fd : FuncData} (F : Fun K "apart" "apart" sApart f fd) (B : Blt mg) : FnOk P w K mg base CX0 1 f fd ["road", "house", "other"] spApart := by
  refine F.ok scA (fun vs H Q E h => ?_) (fun cdv A outer s H vs Q E hr h => ?_)
  · obtain ⟨r, road, h, o, rfl, _⟩ := h
    rfl
  · obtain ⟨r, road, h, o, rfl, R, hh, ho, q⟩ := h
    obtain ⟨ts, hR, hT⟩ := R
    obtain ⟨t1, a1, a2⟩ := hT.get hh
    obtain ⟨t2, b1, b2⟩ := hT.get ho
    refine ⟨_, pss_one (ps_ret (pe_callB call_abs (by rfl) B.abs boot_abs (pa_cons (pe_op op_sub (pe_ix ix_tup (pe_ix ix_list (pv 0) (pv 1) (fun _ _ => rfl)) pe_int (fun _ _ => rfl)) (pe_ix ix_tup (pe_ix ix_list (pv 0) (pv 2) (fun _ _ => rfl)) pe_int (fun _ _ => rfl))) pa_nil))), ?_⟩
    refine ⟨_, rfl, _, rfl, r, _, _, _, rfl, rfl, SqL.of hR, atI_nat (v := .ref t1) (by rw [List.getElem?_map, a1]; rfl), t1, _, _, _, rfl, rfl, SqT.of a2, rfl, ?_⟩
    exact ⟨_, rfl, _, rfl, r, _, _, _, rfl, rfl, SqL.of hR, atI_nat (v := .ref t2) (by rw [List.getElem?_map, b1]; rfl), t2, _, _, _, rfl, rfl, SqT.of b2, rfl, _, _, rfl, rfl, _, rfl, q⟩
end
end Ph
set_option Elab.async false
set_option linter.all false
set_option maxRecDepth 100000
set_option maxHeartbeats 4000000
namespace Ph
open PySem PySem.Spec PyProof.Rows L2
section
variable {P : Program} {w : World} {K : PySem.W.Frag} {mg : Str → Option Value} {base : Heap}
def spCheckPosts (K : PySem.W.Frag) : Sp := fun vs H Q _ => ∃ (r p : Addr) (xs : List V) (ps : List Int), vs = [.ref r, .ref p] ∧ H r = some (.lst xs) ∧ IntsAt H p ps ∧ PostsOk xs.length ps ∧ ps.length ≤ 1000000 ∧ Q .non H
theorem scCP : FnScope ["road", "posts", "post"] ["road", "posts"] (defScope sCheckPosts) := ⟨rfl, rfl, rfl, by decide +kernel, rfl, by decide +kernel, by decide +kernel⟩
theorem ok_checkPosts {f fR fW fF : Addr} {fd fdR fdW fdF : FuncData} (F : Fun K "check_posts" "check_posts" sCheckPosts f fd) (B : Blt mg) (U : Nums K mg fW fF fdW fdF)
    (CR : Callee K mg "is_rising" sRising ["numbers"] fR fdR) : FnOk P w K mg base CX0 3 f fd ["road", "posts"] (spCheckPosts K) := by
  have GF : FnOk P w K mg base CX0 2 fF fdF ["value", "least"] spFrom := ok_from U.F B U.W U.bW U.mW
  have GR : FnOk P w K mg base CX0 1 fR fdR ["numbers"] (spRising K) := ok_rising CR.fn B
  refine F.ok scCP (fun vs H Q E h => ?_) (fun cdv A outer s H vs Q E hr h => ?_)
  · obtain ⟨r, p, xs, ps, rfl, _⟩ := h
    rfl
  · obtain ⟨r, p, xs, ps, rfl, hR, hP, O, hn, q⟩ := h
    refine ⟨_, pss_cons (ps_if (pt_not (pt_val (pe_callB call_isinst (by rfl) B.isinstance boot_isinstance (pa_cons (pv 1) (pa_cons (pe_bltn (v := .ty "list") (by rfl) B.list PyProof.Rows.boot_list rfl) pa_nil))))) pss_never pss_nil)
      (pss_cons (ps_for PassesOwn.never rfl (pi_list (pv 1)) (pg_name (i := 2) scCP.nd rfl (Or.inl rfl))
        (pss_one (ps_if (PW.pt (pw_or (pt_not (pt_val (pe_call GF hr (by rfl) U.mF U.F.kp U.bF .nil pass0 (pa_cons (pv 2) (pa_cons pe_int pa_nil)))))
          (pw_or1 (pt_cmpR op_ge (pv 2) (pe_callB call_len_seq (by rfl) B.len boot_len (pa_cons (pv 0) pa_nil)) (nomark _))))) pss_never pss_nil)))
      (pss_cons (ps_if (pt_not (pt_val (pe_call GR (hr.mono (by decide)) (by rfl) CR.m CR.fn.kp CR.b .nil pass0 (pa_cons (pv 1) pa_nil)))) pss_never pss_nil)
      (pss_one (ps_if (PW.pt (pw_and (pt_cmpR op_gt (pe_callB call_len_seq (by rfl) B.len boot_len (pa_cons (pv 0) pa_nil)) pe_int (nomark _))
        (pw_and1 (pt_cmpR op_eq (pe_callB call_len_seq (by rfl) B.len boot_len (pa_cons (pv 1) pa_nil)) pe_int (nomark _))))) pss_never pss_nil)))), ?_⟩
    refine ⟨_, rfl, _, _, _, _, rfl, .lst hP, kit_same _, _, rfl, iteF ?_⟩
    refine ⟨_, rfl, p, rfl, ⟨_, SqL.of hP⟩, for_list (K := K) (a := p) (xs := ps.map V.int) (fun i σ H' => H' = H ∧ ∃ v, σ = [some (.ref r), some (.ref p), v]) ⟨rfl, _, rfl⟩ (fun i σ H' _ z => by rw [z.1]; exact SqL.of hP) ?_ ?_⟩
    · rintro i x σ H' hx ⟨rfl, v, rfl⟩
      have hi : i < ps.length := by have := (List.getElem?_eq_some_iff.mp hx).1; simpa using this
      rw [List.getElem?_map, getD_some hi] at hx
      have hx' := Option.some.inj hx
      subst hx'
      obtain ⟨a1, a2⟩ := O.at hi
      refine ⟨_, rfl, _, 0, rfl, _, rfl, ?_⟩
      rw [decide_eq_true a1]
      refine iteF ⟨_, rfl, _, rfl, r, _, rfl, .inl (SqL.of hR), _, _, rfl, rfl, _, rfl, ?_⟩
      rw [decide_eq_false (by (first | lia | omega))]
      exact iteF ⟨rfl, _, rfl⟩
    · rintro σ H' ⟨rfl, v, rfl⟩
      refine ⟨_, rfl, p, ps, rfl, SqL.of hP, hn, fun _ => ⟨_, rfl, iteF ?_⟩, fun z => absurd O.rise z⟩
      refine ⟨_, rfl, r, _, rfl, .inl (SqL.of hR), _, _, rfl, rfl, _, rfl, ?_⟩
      refine ite2 (fun hc => ?_) (fun hc => iteF q)
      have hc' : 0 < xs.length := by have := of_decide_eq_true hc; (first | lia | omega)
      refine ⟨_, rfl, p, _, rfl, .inl (SqL.of hP), rfl, _, rfl, ?_⟩
      have := O.some hc'
      rw [decide_eq_false (by intro z; injection z with z; rw [List.length_map] at z; (first | lia | omega))]
      exact iteF q
end
end Ph
set_option Elab.async false
set_option linter.all false
set_option maxRecDepth 100000
set_option maxHeartbeats 4000000
namespace Ph
open PySem PySem.Spec PyProof.Rows L2
section
variable {P : Program} {w : World} {K : PySem.W.Frag} {mg : Str → Option Value} {base : Heap}
structure Roads (K : PySem.W.Frag) (mg : Str → Option Value) (fW fF fH fR fCR fCP fA : Addr) (dW dF dH dR dCR dCP dA : FuncData) : Prop where
  U : Nums K mg fW fF dW dF
  H : Callee K mg "is_house" sHouse ["value"] fH dH
  R : Callee K mg "is_rising" sRising ["numbers"] fR dR
  CR : Callee K mg "check_road" sCheckRoad ["road"] fCR dCR
  CP : Callee K mg "check_posts" sCheckPosts ["road", "posts"] fCP dCP
  A : Callee K mg "apart" sApart ["road", "house", "other"] fA dA
def spNearest : Sp := fun vs H Q _ => ∃ (r p : Addr) (road : List (Int × Int)) (ps : List Int), vs = [.ref r, .ref p] ∧ RoadAt H r road ∧ Good road ∧ IntsAt H p ps ∧ PostsOk road.length ps ∧
  ∀ (l : Addr) (H' : Hp), Same H H' → H l = none → IntsAt H' l (near road ps) → Q (.ref l) H'
theorem scN : FnScope ["road", "posts", "told", "turn", "house"] ["road", "posts"] (defScope sNearest) := ⟨rfl, rfl, rfl, by decide +kernel, rfl, by decide +kernel, by decide +kernel⟩
theorem ok_nearest {f fW fF fH fR fCR fCP fA : Addr} {fd dW dF dH dR dCR dCP dA : FuncData} (F : Fun K "nearest" "nearest" sNearest f fd) (B : Blt mg) (C : Roads K mg fW fF fH fR fCR fCP fA dW dF dH dR dCR dCP dA) :
    FnOk P w K mg base CX0 5 f fd ["road", "posts"] spNearest := by
  have GCR : FnOk P w K mg base CX0 4 fCR dCR ["road"] spCheckRoad := ok_checkRoad C.CR.fn B C.U C.H C.R
  have GCP : FnOk P w K mg base CX0 3 fCP dCP ["road", "posts"] (spCheckPosts K) := ok_checkPosts C.CP.fn B C.U C.R
  have GA : FnOk P w K mg base CX0 1 fA dA ["road", "house", "other"] spApart := ok_apart C.A.fn B
  refine F.ok scN (fun vs H Q E h => ?_) (fun cdv A outer s H vs Q E hr h => ?_)
  · obtain ⟨r, p, road, ps, rfl, _⟩ := h
    rfl
  · obtain ⟨r, p, road, ps, rfl, R, G, hP, O, q⟩ := h
    obtain ⟨ts, hR, hT⟩ := id R
    have hlen := hT.len
    have hpl := O.len_le
    have hsm := G.small
    have hr2 : Room 3 _ := hr.mono (by decide)
    have hr1 : Room 1 _ := hr.mono (by decide)
    refine ⟨_, pss_cons (ps_expr (pe_call GCR hr (by rfl) C.CR.m C.CR.fn.kp C.CR.b .nil pass0 (pa_cons (pv 0) pa_nil)))
      (pss_cons (ps_expr (pe_call GCP hr2 (by rfl) C.CP.m C.CP.fn.kp C.CP.b .nil pass0 (pa_cons (pv 0) (pa_cons (pv 1) pa_nil))))
      (pss_cons (ps_set (i := 2) scN.nd rfl (Or.inl rfl) (pe_lst pa_nil))
      (pss_cons (ps_set (i := 3) scN.nd rfl (Or.inl rfl) pe_int)
      (pss_cons (ps_for PassesOwn.never rfl (pi_range1 (by rfl) B.range (pa_cons (pe_callB call_len_seq (by rfl) B.len boot_len (pa_cons (pv 0) pa_nil)) pa_nil)) (pg_name (i := 4) scN.nd rfl (Or.inl rfl))
        (pss_cons (ps_while PassesOwn.never (PW.pt (pw_and (pt_cmpR op_lt (pe_op op_add (pv 3) pe_int) (pe_callB call_len_seq (by rfl) B.len boot_len (pa_cons (pv 1) pa_nil)) (nomark _))
            (pw_and1 (pt_cmpR op_lt (pe_call GA hr1 (by rfl) C.A.m C.A.fn.kp C.A.b .nil pass0 (pa_cons (pv 0) (pa_cons (pv 4) (pa_cons (pe_ix ix_list (pv 1) (pe_op op_add (pv 3) pe_int) (fun _ _ => rfl)) pa_nil))))
              (pe_call GA hr1 (by rfl) C.A.m C.A.fn.kp C.A.b .nil pass0 (pa_cons (pv 0) (pa_cons (pv 4) (pa_cons (pe_ix ix_list (pv 1) (pv 3) (fun _ _ => rfl)) pa_nil)))) (nomark _)))))
            (pss_one (ps_aug (i := 3) scN.nd rfl (Or.inl rfl) pe_int ip_add)))
          (pss_one (ps_expr (pe_bm PySem.F.plainAttrs_list PySem.F.slot_list_append PySem.F.type_list_append mt_append (pv 2) (pa_cons (pe_ix ix_list (pv 1) (pv 3) (fun _ _ => rfl)) pa_nil))))))
      (pss_one (ps_ret (pv 2))))))), ?_⟩
    refine ⟨_, rfl, r, road, rfl, R, G, fun H1 s1 => ?_⟩
    have hR1 := s1 _ _ hR
    have hP1 : IntsAt H1 p ps := s1 _ _ hP
    refine ⟨_, rfl, _, rfl, r, p, _, ps, rfl, hR1, hP1, by rw [List.length_map, hlen]; exact O, by (first | lia | omega), ?_⟩
    refine ⟨Nat.zero_le _, fun l hl => ?_⟩
    have hl0 : H l = none := s1.free hl
    have s2 : Same H (upd H1 l (.lst [])) := same_upd2 s1 hl0
    refine ⟨_, rfl, r, _, rfl, .inl (SqL.of (s2 _ _ hR)), _, rfl, ?_, ?_, ?_⟩
    · (first | lia | omega)
    · rw [List.length_map, hlen]; (first | lia | omega)
    have en : (((ts.map V.ref).length : Nat) : Int).toNat = road.length := by rw [List.length_map, hlen]; simp
    rw [en]
    refine for_range (lo := 0) (n := road.length) (fun i σ H2 => ∃ hv, σ = [some (.ref r), some (.ref p), some (.ref l), some (.int (turns road ps i : Nat)), hv] ∧ Same H H2 ∧ i ≤ road.length ∧
      IntsAt H2 l ((List.range i).map fun h => ps.getD (turns road ps (h + 1)) 0)) ⟨_, rfl, s2, Nat.zero_le _, upd_same⟩ ?_ ?_
    · rintro i σ H2 hi ⟨hv, rfl, s3, _, hl3⟩
      have hR3 := s3 _ _ hR
      have hP3 : IntsAt H2 p ps := s3 _ _ hP
      have R3 : RoadAt H2 r road := R.same s3
      obtain ⟨t0, tlt, _, _⟩ := turns_step G.rise O hi
      refine ⟨fun m σ H3 => ∃ t f : Nat, σ = [some (.ref r), some (.ref p), some (.ref l), some (.int (t : Nat)), some (.int (0 + (i : Nat)))] ∧ H3 = H2 ∧ t < ps.length ∧ m = ps.length - t ∧ ps.length ≤ f + t ∧ adv road ps i f t = turns road ps (i + 1),
        ⟨_, turns road ps i, ps.length, rfl, rfl, by (first | lia | omega), rfl, by (first | lia | omega), rfl⟩, ?_⟩
      rintro m σ H3 ⟨t, f, rfl, rfl, ht, rfl, hf, he⟩
      have P1 := O.at ht
      refine ⟨_, rfl, _, _, rfl, rfl, _, rfl, p, _, rfl, .inl (SqL.of hP3), _, _, rfl, rfl, _, rfl, ?_⟩
      rw [List.length_map]
      have app : t = turns road ps (i + 1) → (List.range (i + 1)).map (fun h => ps.getD (turns road ps (h + 1)) 0) = (List.range i).map (fun h => ps.getD (turns road ps (h + 1)) 0) ++ [ps.getD t 0] := fun e => by rw [range_snoc, ← e]
      have out : t = turns road ps (i + 1) → tDrop (tBM K "list" rAppend (tVar 2) (tCons (tOp (rIxL K) (tVar 1) (tVar 3)) tNil))
          { nx := fun σ H2 => ∃ hv, σ = [some (.ref r), some (.ref p), some (.ref l), some (.int (turns road ps (i + 1) : Nat)), hv] ∧ Same H H2 ∧ i + 1 ≤ road.length ∧ IntsAt H2 l ((List.range (i + 1)).map fun h => ps.getD (turns road ps (h + 1)) 0), rt := Q }
          [some (V.ref r), some (V.ref p), some (V.ref l), some (V.int (t : Nat)), some (V.int (0 + (i : Nat)))] H3 := fun e => by
        refine ⟨_, rfl, .inl ⟨rfl, _, SqL.of hl3⟩, _, rfl, _, rfl, p, _, _, _, rfl, rfl, SqL.of hP3, at_int (j := t) rfl ht, l, _, _, rfl, rfl, hl3, ?_, ?_⟩
        · refine small1000 ?_
          rw [List.length_map, List.length_map, List.length_range]
          (first | lia | omega)
        · refine ⟨some (.int (0 + (i : Nat))), ?_, same_upd2 s3 hl0, hi, ?_⟩
          · rw [e]
          · rw [IntsAt, upd_same, app e, List.map_append]; rfl
      refine ite2 (fun hc => ?_) (fun hc => iteF ?_)
      · have hc' : t + 1 < ps.length := by have := of_decide_eq_true hc; (first | lia | omega)
        have P2 := O.at hc'
        refine ⟨_, rfl, _, rfl, _, rfl, _, rfl, _, _, rfl, rfl, p, _, _, _, rfl, rfl, SqL.of hP3, at_int (j := t + 1) rfl hc', r, road, i, (ps.getD (t + 1) 0).toNat, args3 (by (first | lia | omega)) (by (first | lia | omega)), R3, hi, by (first | lia | omega), ?_⟩
        refine ⟨_, rfl, _, rfl, _, rfl, _, rfl, p, _, _, _, rfl, rfl, SqL.of hP3, at_int (j := t) rfl ht, r, road, i, (ps.getD t 0).toNat, args3 (by (first | lia | omega)) (by (first | lia | omega)), R3, hi, by (first | lia | omega), ?_⟩
        refine ⟨_, _, rfl, rfl, _, rfl, ?_⟩
        refine ite2 (fun hd => ?_) (fun hd => ?_)
        · have hd' : dst road ps i (t + 1) < dst road ps i t := of_decide_eq_true hd
          obtain ⟨f', e1, e2, e3⟩ := adv_go hf ⟨hc', hd'⟩
          refine ⟨fun σ' H' => σ' = [some (.ref r), some (.ref p), some (.ref l), some (.int ((t + 1 : Nat) : Int)), some (.int (0 + (i : Nat)))] ∧ H' = H3, fun σ' H' z => ⟨ps.length - (t + 1), by (first | lia | omega), t + 1, f', z.1, z.2, hc', rfl, e2, e3.symm.trans he⟩, ?_⟩
          exact ⟨_, rfl, _, _, rfl, rfl, rfl, rfl⟩
        · have hz : ¬ (t + 1 < ps.length ∧ dst road ps i (t + 1) < dst road ps i t) := fun z => hd (decide_eq_true z.2)
          exact out (by rw [← he, adv_stop hz])
      · have hz : ¬ (t + 1 < ps.length ∧ dst road ps i (t + 1) < dst road ps i t) := fun z => hc (decide_eq_true (by have := z.1; (first | lia | omega)))
        exact out (by rw [← he, adv_stop hz])
    · rintro σ H2 ⟨hv, rfl, s3, _, hl3⟩
      exact ⟨_, rfl, q l H2 s3 hl0 hl3⟩
def spWay : Sp := fun vs H Q _ => ∃ (r p : Addr) (road : List (Int × Int)) (ps : List Int), vs = [.ref r, .ref p] ∧ RoadAt H r road ∧ Good road ∧ IntsAt H p ps ∧ PostsOk road.length ps ∧
  ∀ (H' : Hp), Same H H' → Q (.int (wayOf road ps)) H'
theorem scY : FnScope ["road", "posts", "targets"] ["road", "posts"] (defScope sWay) := ⟨rfl, rfl, rfl, by decide +kernel, rfl, by decide +kernel, by decide +kernel⟩
theorem ndHPR : (["house", "post", "road"] : List Str).Nodup := by decide +kernel
theorem ok_way {f fW fF fH fR fCR fCP fA fN : Addr} {fd dW dF dH dR dCR dCP dA dN : FuncData} (F : Fun K "way" "way" sWay f fd) (B : Blt mg) (C : Roads K mg fW fF fH fR fCR fCP fA dW dF dH dR dCR dCP dA)
    (CN : Callee K mg "nearest" sNearest ["road", "posts"] fN dN) : FnOk P w K mg base CX0 6 f fd ["road", "posts"] spWay := by
  have GN : FnOk P w K mg base CX0 5 fN dN ["road", "posts"] spNearest := ok_nearest CN.fn B C
  have GA : FnOk P w K mg base CX0 1 fA dA ["road", "house", "other"] spApart := ok_apart C.A.fn B
  refine F.ok scY (fun vs H Q E h => ?_) (fun cdv A outer s H vs Q E hr h => ?_)
  · obtain ⟨r, p, road, ps, rfl, _⟩ := h
    rfl
  · obtain ⟨r, p, road, ps, rfl, R, G, hP, O, q⟩ := h
    obtain ⟨ts, hR, hT⟩ := id R
    have hlen := hT.len
    have hsm := G.small
    have hr1 : Room 1 _ := hr.mono (by decide)
    refine ⟨_, pss_cons (ps_set (i := 2) scY.nd rfl (Or.inl rfl) (pe_call GN hr (by rfl) CN.m CN.fn.kp CN.b .nil pass0 (pa_cons (pv 0) (pa_cons (pv 1) pa_nil))))
      (pss_one (ps_ret (pe_callB (call_sumL rfl) (by rfl) B.sum boot_sum (pa_cons
        (pe_comp (N := ["house", "post", "road"]) (L := 2) (ix := [0]) rfl (by show CScope _ ["road", "posts", "targets"] (defScope sWay) _ _ _; exact ⟨rfl, by decide +kernel, by decide +kernel, by decide +kernel, by decide +kernel, by decide +kernel, rfl⟩)
          (pi_enum (by rfl) B.enumerate (pa_cons (pv 2) pa_nil))
          (fun C' s₀ H₀ fp => ⟨pg_tupK (K := K) (n := 2) rfl rfl (pgs_cons (pg_name (i := 0) ndHPR rfl (Or.inl rfl)) (pgs_cons (pg_name (i := 1) ndHPR rfl (Or.inl rfl)) pgs_nil)), pts_nil,
            pe_op op_mulB (pe_ix (ix_tupK (K := K) rfl) (pe_ix (ix_listK (K := K) rfl) (pv 2) (pv 0) (fun _ _ => rfl)) pe_int (fun _ _ => rfl)) (pe_call GA hr1 (by rfl) C.A.m C.A.fn.kp C.A.b .nil pass0 (pa_cons (pv 2) (pa_cons (pv 0) (pa_cons (pv 1) pa_nil))))⟩)) pa_nil)))), ?_⟩
    refine ⟨_, rfl, _, rfl, r, p, road, ps, rfl, R, G, hP, O, fun l H1 s1 hl0 hl1 => ?_⟩
    have hR1 := s1 _ _ hR
    refine ⟨_, rfl, l, rfl, ⟨_, SqL.of hl1⟩, comp_by (n := road.length) (fun D i σ ys H2 => Same H1 H2 ∧ H1 D = none ∧ (∃ u v, σ = [u, v, some (.ref r)]) ∧ i ≤ road.length ∧ ys = (List.range i).map fun h => V.int (let' road h * dst road ps h (turns road ps (h + 1)))) ?_ ?_ ?_⟩
    · exact fun D hD => ⟨same_upd hD, hD, ⟨_, _, rfl⟩, Nat.zero_le _, rfl⟩
    · rintro D i σ ys H2 hi ⟨hs, hD, ⟨u, v, rfl⟩, _, rfl⟩ hD'
      have hl2 : IntsAt H2 l (near road ps) := hs _ _ hl1
      have hni : i < (near road ps).length := by rw [near_len]; exact hi
      have e1 : ((near road ps).map V.int)[i]? = some (V.int ((near road ps).getD i 0)) := by rw [List.getElem?_map, getD_some hni]; rfl
      refine ⟨⟨_, _, SqL.of hl2, e1⟩, fun x H3 y => ?_⟩
      obtain ⟨T, y1, hT3, rfl, rfl, y2⟩ := y
      have hx := y2 _ (SqL.of hl2)
      rw [e1] at hx
      have hx' := Option.some.inj hx
      subst hx'
      have s3 : Same H1 (upd H2 T (.tup [.int i, .int ((near road ps).getD i 0)])) := hs.trans (same_upd hT3)
      have s03 := s1.trans s3
      obtain ⟨t, f1, f2⟩ := hT.get hi
      obtain ⟨t0, tlt, _, _⟩ := turns_step G.rise O hi
      have P1 := O.at tlt
      have en := near_at ps hi
      have hDT : D ≠ T := ne_of_none hD' hT3
      refine ⟨T, _, rfl, SqT.of upd_same, rfl, _, _, rfl, _, _, rfl, rfl, yesT (iteT ?_)⟩
      refine ⟨_, rfl, _, rfl, r, _, _, _, rfl, rfl, SqL.of (s03 _ _ hR), atI_nat (v := .ref t) (by rw [List.getElem?_map, f1]; rfl), t, _, _, _, rfl, rfl, SqT.of (s03 _ _ f2), rfl, ?_⟩
      refine ⟨_, rfl, _, rfl, _, rfl, r, road, i, (ps.getD (turns road ps (i + 1)) 0).toNat, args3 rfl (by rw [en]; (first | lia | omega)), R.same s03, hi, by (first | lia | omega), ?_⟩
      refine ⟨_, _, rfl, rfl, ?_, ?_, by rw [upd_ne hDT]; exact hD', same_upd2 s3 hD, hD, ⟨_, _, rfl⟩, hi, ?_⟩
      · exact G.mul hi (by (first | lia | omega))
      · refine small1000 ?_
        rw [List.length_map, List.length_range]
        (first | lia | omega)
      · rw [range_snoc]; rfl
    · rintro D σ ys H2 ⟨hs, hD, ⟨u, v, rfl⟩, _, rfl⟩ hD'
      refine ⟨⟨_, SqL.of (hs _ _ hl1), by rw [List.length_map, near_len]; exact Nat.le_refl _⟩, ?_⟩
      refine ⟨D, (List.range road.length).map fun h => let' road h * dst road ps h (turns road ps (h + 1)), rfl, ?_, q _ (s1.trans hs)⟩
      rw [List.map_map]
      exact SqL.of hD'
end
end Ph
set_option Elab.async false
set_option linter.all false
set_option maxRecDepth 100000
set_option maxHeartbeats 4000000
namespace Ph
open PySem PySem.Spec PyProof.Rows L2
def flat (v : V) : Bool := match v with
  | .int _ => true
  | .ref _ => true
  | .bl _ => true
  | _ => false
theorem deq_self {K : PySem.W.Frag} {H : Hp} {n : Nat} {v : V} (h : flat v = true) : DEq K H n v v true := by
  cases v with
  | int i => have := DEq.int (K := K) (H := H) n i i; simpa using this
  | bl i => have := DEq.bl (K := K) (H := H) n i i; simpa using this
  | ref a => exact .same n a
  | _ => cases h
theorem all_true (n : Nat) : (List.range n).all (fun _ => true) = true := by simp
theorem eqAll {K : PySem.W.Frag} {H : Hp} {neg : Bool} {a b : Addr} {xs ys : List V} {Q : VK} (ha : SqL K H a xs) (hb : SqL K H b ys) (hl : xs.length = ys.length)
    (he : ∀ (j : Nat) x y, xs[j]? = some x → ys[j]? = some y → DEq K H 60 x y true) (q : Q (.bl (!neg)) H) : rEqL K neg (.ref a) (.ref b) H Q := by
  refine ⟨a, b, xs, ys, rfl, rfl, ha, hb, .inr ⟨hl, fun _ => true, he, ?_⟩⟩
  rw [all_true]
  cases neg <;> exact q
theorem Tups.lst {H : Hp} {ts : List Addr} {road : List (Int × Int)} {D : Addr} {xs : List V} {o : HO} (h : Tups H ts road) (e : H D = some (.lst xs)) : Tups (upd H D o) ts road := by
  induction h with
  | nil => exact .nil
  | cons r _ ih =>
    refine .cons ?_ ih
    rw [upd_ne (ne_of r e (by intro z; cases z))]
    exact r
theorem RoadAt.get {H : Hp} {r : Addr} {road : List (Int × Int)} (R : RoadAt H r road) : ∃ xs, H r = some (.lst xs) ∧ xs.length = road.length ∧ (∀ v ∈ xs, flat v = true) ∧ ∀ i, i < road.length → ∃ t, xs[i]? = some (.ref t) ∧ H t = some (.tup [.int (plc road i), .int (let' road i)]) := by
  obtain ⟨ts, h1, h2⟩ := R
  refine ⟨_, h1, by rw [List.length_map, h2.len], fun v hv => ?_, fun i hi => ?_⟩
  · obtain ⟨t, _, rfl⟩ := List.mem_map.mp hv
    rfl
  · obtain ⟨t, e1, e2⟩ := h2.get hi
    exact ⟨t, by rw [List.getElem?_map, e1]; rfl, e2⟩
def rLen (K : PySem.W.Frag) : List V → Hp → VK → Prop := fun xs H Q => ∃ p ys, xs = [.ref p] ∧ (SqL K H p ys ∨ SqT K H p ys) ∧ Q (.int ys.length) H
def tPick (K : PySem.W.Frag) : TE := tOp (rIxL K) (tVar 1) (tOp (rI (fun _ j => 0 < j) fun i j => .int (i % j)) (tVar 0) (tCB (rLen K) (tCons (tVar 1) tNil)))
def teRemake (K : PySem.W.Frag) (c d : Int) : TE := tTup (tCons (tOp (rI0 fun i j => .int (i + j)) (tOp (rI CMul fun i j => .int (i * j)) (tC (.int c)) (tVar 0))
  (tOp (rI (fun _ j => 0 < j) fun i j => .int (i % j)) (tOp (rIxT K) (tPick K) (tC (.int 0))) (tC (.int d)))) (tCons (tOp (rIxT K) (tPick K) (tC (.int 1))) tNil))
end Ph
set_option Elab.async false
set_option linter.all false
set_option maxRecDepth 100000
set_option maxHeartbeats 4000000
namespace Ph
open PySem PySem.Spec PyProof.Rows L2
section
variable {P : Program} {w : World} {K : PySem.W.Frag} {mg : Str → Option Value} {base : Heap}
theorem iteDF {c A B : Prop} [Decidable c] (h : ¬ c) (hB : B) : if decide c = true then A else B := by
  rw [decide_eq_false h]
  exact iteF hB
theorem cutV_nat {xs : List V} {f e : Nat} (h : e ≤ xs.length) (hf : f ≤ e) : cutV xs (some (f : Int)) (some (e : Int)) = (xs.drop f).take (e - f) := by
  unfold cutV
  rw [HT.sIx_nat, HT.sIx_nat, Nat.min_eq_left h, Nat.min_eq_left (by (first | lia | omega))]
theorem Tups.drop {H : Hp} : ∀ {ts : List Addr} {road : List (Int × Int)} (n : Nat), Tups H ts road → Tups H (ts.drop n) (road.drop n)
  | _, _, 0, h => h
  | _, _, n + 1, .nil => .nil
  | _, _, n + 1, .cons _ t => Tups.drop n t
theorem Tups.take {H : Hp} : ∀ {ts : List Addr} {road : List (Int × Int)} (n : Nat), Tups H ts road → Tups H (ts.take n) (road.take n)
  | _, _, 0, _ => .nil
  | _, _, n + 1, .nil => .nil
  | _, _, n + 1, .cons r t => .cons r (Tups.take n t)
theorem RoadAt.cut {H : Hp} {p : Addr} {ts : List Addr} {road : List (Int × Int)} {f e : Nat} (h : Tups H ts road) (he : e ≤ road.length) (hf : f ≤ e) (hp : H p = none) : RoadAt (upd H p (.lst (cutV (ts.map V.ref) (some (f : Int)) (some (e : Int))))) p (cut road f e) := by
  refine ⟨(ts.drop f).take (e - f), ?_, (h.same (same_upd hp)).drop f |>.take (e - f)⟩
  rw [upd_same, cutV_nat (by rw [List.length_map, h.len]; exact he) hf, List.map_take, List.map_drop]
def spStretch : Sp := fun vs H Q _ => ∃ (r : Addr) (xs : List V) (f e : Nat), vs = [.ref r, .int f, .int e] ∧ H r = some (.lst xs) ∧ f < e ∧ e ≤ xs.length ∧ Q .non H
theorem sc_check_stretch : FnScope ["road", "first", "end"] ["road", "first", "end"] (defScope s_check_stretch) := ⟨rfl, rfl, rfl, by decide +kernel, rfl, by decide +kernel, by decide +kernel⟩
theorem ok_check_stretch {f fW : Addr} {fd fdW : FuncData} (F : Fun K "check_stretch" "check_stretch" s_check_stretch f fd) (B : Blt mg) (Cis_whole : Callee K mg "is_whole" sWhole ["value"] fW fdW) : FnOk P w K mg base CX0 2 f fd ["road", "first", "end"] spStretch := by
  have Gis_whole : FnOk P w K mg base CX0 1 fW fdW ["value"] spWhole := ok_whole Cis_whole.fn B
  refine F.ok sc_check_stretch (fun vs H Q E h => ?_) (fun cdv A outer s H vs Q E hr h => ?_)
  · obtain ⟨r, xs, a, b, rfl, _⟩ := h
    rfl
  · obtain ⟨r, xs, a, b, rfl, hR, h1, h2, q⟩ := h
    refine ⟨_, (pss_cons (ps_if (PW.pt (pw_or (pt_not (pt_val (pe_call Gis_whole (hr.mono (by decide)) (by rfl) Cis_whole.m Cis_whole.fn.kp Cis_whole.b .nil pass0 (pa_cons (pv 1) pa_nil)))) (pw_or1 (pt_not (pt_val (pe_call Gis_whole (hr.mono (by decide)) (by rfl) Cis_whole.m Cis_whole.fn.kp Cis_whole.b .nil pass0 (pa_cons (pv 2) pa_nil)))))))
        pss_never
        pss_nil)
        (pss_one (ps_if (PW.pt (pw_or (pt_cmpR op_lt (pv 1) pe_int (nomark _)) (pw_or (pt_cmpR op_ge (pv 1) (pv 2) (nomark _)) (pw_or1 (pt_cmpR op_gt (pv 2) (pe_callB call_len_seq (by rfl) B.len boot_len (pa_cons (pv 0) pa_nil)) (nomark _))))))
        pss_never
        pss_nil))), ?_⟩
    refine ⟨_, rfl, _, rfl, _, rfl, iteF ⟨_, rfl, _, rfl, _, rfl, iteF ?_⟩⟩
    refine ⟨_, rfl, _, _, rfl, rfl, _, rfl, iteDF (by (first | lia | omega)) ?_⟩
    refine ⟨_, rfl, _, rfl, _, _, rfl, rfl, _, rfl, iteDF (by (first | lia | omega)) ?_⟩
    exact ⟨_, rfl, _, rfl, r, _, rfl, .inl (SqL.of hR), _, _, rfl, rfl, _, rfl, iteDF (by (first | lia | omega)) q⟩
def spEach : Sp := fun vs H Q _ => ∃ (r : Addr) (hs : List (Int × Int)), vs = [.ref r] ∧ RoadAt H r hs ∧ Good hs ∧ 0 < hs.length ∧ ∀ (l : Addr) (H' : Hp), Same H H' → H l = none → IntsAt H' l (costs hs) → Q (.ref l) H'
theorem nd_ways_to_each_0 : (["place", "letters"] : List Str).Nodup := by decide +kernel
theorem nd_ways_to_each_1 : (["place", "letters", "here"] : List Str).Nodup := by decide +kernel
theorem sc_ways_to_each : FnScope ["houses", "here", "behind", "ahead", "carried", "told", "place", "letters"] ["houses"] (defScope s_ways_to_each) := ⟨rfl, rfl, rfl, by decide +kernel, rfl, by decide +kernel, by decide +kernel⟩
theorem ok_each {f : Addr} {fd : FuncData} (F : Fun K "ways_to_each" "ways_to_each" s_ways_to_each f fd) (B : Blt mg) : FnOk P w K mg base CX0 1 f fd ["houses"] spEach := by
  refine F.ok sc_ways_to_each (fun vs H Q E h => ?_) (fun cdv A outer s H vs Q E hr h => ?_)
  · obtain ⟨r, hs, rfl, _⟩ := h
    rfl
  · obtain ⟨r, hs, rfl, R, G, hpos, q⟩ := h
    obtain ⟨xs, eR, eL, eF, eT⟩ := R.get
    have hsm := G.small
    obtain ⟨t0, g1, g2⟩ := eT 0 hpos
    have turn : ∀ {H2 : Hp} {x : V} {i : Nat}, Same H H2 → i < hs.length → xs[i]? = some x → ∃ t, x = .ref t ∧ SqT K H2 t [.int (plc hs i), .int (let' hs i)] := fun {H2 x i} sx hi hx => by
      obtain ⟨t, f1, f2⟩ := eT i hi
      rw [hx] at f1
      cases f1
      exact ⟨t, rfl, SqT.of (sx _ _ f2)⟩
    refine ⟨_, (pss_cons (ps_set (i := 1) sc_ways_to_each.nd rfl (Or.inr rfl) (pe_ix ix_tup (pe_ix ix_list (pv 0) pe_int (fun _ _ => rfl)) pe_int (fun _ _ => rfl)))
        (pss_cons (ps_set (i := 2) sc_ways_to_each.nd rfl (Or.inl rfl) pe_int)
        (pss_cons (ps_set (i := 3) sc_ways_to_each.nd rfl (Or.inl rfl) (pe_callB (call_sumL rfl) (by rfl) B.sum boot_sum (pa_cons (pe_comp (N := ["place", "letters"]) (L := 2) (ix := []) rfl (by show CScope _ ["houses", "here", "behind", "ahead", "carried", "told", "place", "letters"] (defScope s_ways_to_each) _ _ _; exact ⟨rfl, by decide +kernel, by decide +kernel, by decide +kernel, by decide +kernel, by decide +kernel, rfl⟩) (pi_list (pv 0)) (fun C' s₀ H₀ fp => ⟨(pg_tupK (K := K) (n := 2) rfl rfl (pgs_cons (pg_name (i := 0) nd_ways_to_each_0 rfl (Or.inl rfl)) (pgs_cons (pg_name (i := 1) nd_ways_to_each_0 rfl (Or.inl rfl)) pgs_nil))), pts_nil, (pv 1)⟩)) pa_nil)))
        (pss_cons (ps_set (i := 4) sc_ways_to_each.nd rfl (Or.inl rfl) (pe_callB (call_sumL rfl) (by rfl) B.sum boot_sum (pa_cons (pe_comp (N := ["place", "letters", "here"]) (L := 2) (ix := [1]) rfl (by show CScope _ ["houses", "here", "behind", "ahead", "carried", "told", "place", "letters"] (defScope s_ways_to_each) _ _ _; exact ⟨rfl, by decide +kernel, by decide +kernel, by decide +kernel, by decide +kernel, by decide +kernel, rfl⟩) (pi_list (pv 0)) (fun C' s₀ H₀ fp => ⟨(pg_tupK (K := K) (n := 2) rfl rfl (pgs_cons (pg_name (i := 0) nd_ways_to_each_1 rfl (Or.inl rfl)) (pgs_cons (pg_name (i := 1) nd_ways_to_each_1 rfl (Or.inl rfl)) pgs_nil))), pts_nil, (pe_op op_mulB (pv 1) (pe_op op_sub (pv 0) (pv 2)))⟩)) pa_nil)))
        (pss_cons (ps_set (i := 5) sc_ways_to_each.nd rfl (Or.inl rfl) (pe_lst pa_nil))
        (pss_cons (ps_for PassesOwn.never rfl (pi_list (pv 0)) (pg_tup rfl (pgs_cons (pg_name (i := 6) sc_ways_to_each.nd rfl (Or.inl rfl)) (pgs_cons (pg_name (i := 7) sc_ways_to_each.nd rfl (Or.inl rfl)) pgs_nil)))
        (pss_cons (ps_aug (i := 4) sc_ways_to_each.nd rfl (Or.inl rfl) (pe_op op_mulB (pe_op op_sub (pv 2) (pv 3)) (pe_op op_sub (pv 6) (pv 1))) ip_add)
        (pss_cons (ps_expr (pe_bm PySem.F.plainAttrs_list PySem.F.slot_list_append PySem.F.type_list_append mt_append (pv 5) (pa_cons (pv 4) pa_nil)))
        (pss_cons (ps_set (i := 1) sc_ways_to_each.nd rfl (Or.inr rfl) (pv 6))
        (pss_cons (ps_aug (i := 2) sc_ways_to_each.nd rfl (Or.inl rfl) (pv 7) ip_add)
        (pss_one (ps_aug (i := 3) sc_ways_to_each.nd rfl (Or.inl rfl) (pv 7) ip_sub)))))))
        (pss_one (ps_ret (pv 5))))))))), ?_⟩
    refine ⟨_, rfl, r, _, _, _, rfl, rfl, SqL.of eR, atI_nat g1, t0, _, _, _, rfl, rfl, SqT.of g2, rfl, ?_⟩
    refine ⟨_, rfl, r, rfl, ⟨_, SqL.of eR⟩, comp_by (n := hs.length) (fun D i σ ys H2 => Same H H2 ∧ H D = none ∧ (∃ u v, σ = [u, v]) ∧ i ≤ hs.length ∧ ys = (List.range i).map fun j => V.int (let' hs j)) ?_ ?_ ?_⟩
    · exact fun D hD => ⟨same_upd hD, hD, ⟨_, _, rfl⟩, Nat.zero_le _, rfl⟩
    · rintro D i σ ys H2 hi ⟨hs2, hD, ⟨u, v, rfl⟩, _, rfl⟩ hD'
      obtain ⟨t, f1, f2⟩ := eT i hi
      refine ⟨⟨_, _, SqL.of (hs2 _ _ eR), f1⟩, fun x H3 y => ?_⟩
      obtain ⟨rfl, y⟩ := y
      obtain ⟨t', rfl, hq⟩ := turn hs2 hi (y _ (SqL.of (hs2 _ _ eR)))
      refine ⟨t', _, rfl, hq, rfl, _, _, rfl, _, _, rfl, rfl, yesT (iteT ?_)⟩
      refine ⟨_, rfl, ?_, hD', same_upd2 hs2 hD, hD, ⟨_, _, rfl⟩, hi, by rw [range_snoc]⟩
      rw [List.length_map, List.length_range]
      exact small1000 (by (first | lia | omega))
    rintro D1 σ ys H2 ⟨hs2, hD1, ⟨u, v, rfl⟩, _, rfl⟩ hD1'
    refine ⟨⟨_, SqL.of (hs2 _ _ eR), by rw [eL]; exact Nat.le_refl _⟩, ?_⟩
    refine ⟨D1, (List.range hs.length).map (let' hs), rfl, by rw [List.map_map]; exact SqL.of hD1', ?_⟩
    rw [← sm_eq]
    refine ⟨_, rfl, r, rfl, ⟨_, SqL.of (hs2 _ _ eR)⟩, comp_by (n := hs.length) (fun D i σ ys H3 => Same H2 H3 ∧ H2 D = none ∧ (∃ u v, σ = [u, v, some (.int (plc hs 0))]) ∧ i ≤ hs.length ∧ ys = (List.range i).map fun j => V.int (let' hs j * (plc hs j - plc hs 0))) ?_ ?_ ?_⟩
    · exact fun D hD => ⟨same_upd hD, hD, ⟨_, _, rfl⟩, Nat.zero_le _, rfl⟩
    · rintro D i σ ys H3 hi ⟨hs3, hD, ⟨u, v, rfl⟩, _, rfl⟩ hD'
      obtain ⟨t, f1, f2⟩ := eT i hi
      have s03 := hs2.trans hs3
      refine ⟨⟨_, _, SqL.of (s03 _ _ eR), f1⟩, fun x H4 y => ?_⟩
      obtain ⟨rfl, y⟩ := y
      obtain ⟨t', rfl, hq⟩ := turn s03 hi (y _ (SqL.of (s03 _ _ eR)))
      refine ⟨t', _, rfl, hq, rfl, _, _, rfl, _, _, rfl, rfl, yesT (iteT ?_)⟩
      have b1 := G.at hi
      have b2 := G.at hpos
      refine ⟨_, rfl, _, rfl, _, rfl, _, _, rfl, rfl, _, _, rfl, rfl, ⟨pow_big (by (first | lia | omega)), pow_big (by (first | lia | omega))⟩, ?_, hD', same_upd2 hs3 hD, hD, ⟨_, _, rfl⟩, hi, by rw [range_snoc]⟩
      rw [List.length_map, List.length_range]
      exact small1000 (by (first | lia | omega))
    rintro D2 σ ys H3 ⟨hs3, hD2, ⟨u, v, rfl⟩, _, rfl⟩ hD2'
    have s03 := hs2.trans hs3
    refine ⟨⟨_, SqL.of (s03 _ _ eR), by rw [eL]; exact Nat.le_refl _⟩, ?_⟩
    refine ⟨D2, (List.range hs.length).map fun j => let' hs j * (plc hs j - plc hs 0), rfl, by rw [List.map_map]; exact SqL.of hD2', ?_⟩
    rw [← sm_eq]
    have c0 : sm (fun j => let' hs j * (plc hs j - plc hs 0)) hs.length = cst' (plc hs) (let' hs) hs.length 0 := sm_congr fun j hj => by
      have : plc hs 0 ≤ plc hs j := by
        rcases Nat.eq_zero_or_pos j with z | z
        · subst z; exact Int.le_refl _
        · exact Int.le_of_lt (G.places 0 j z hj)
      show _ = let' hs j * ab (plc hs j - plc hs 0)
      unfold ab
      rw [if_neg (by (first | lia | omega))]
    rw [c0]
    refine ⟨Nat.zero_le _, fun l hl => ?_⟩
    have hl0 : H l = none := s03.free hl
    have s4 := s03.trans (same_upd (o := .lst []) hl)
    refine ⟨_, rfl, r, rfl, ⟨_, SqL.of (s4 _ _ eR)⟩, for_list (K := K) (a := r) (xs := xs) (fun i σ H5 => ∃ y6 y7, σ = [some (.ref r), some (.int (plc hs (i - 1))), some (.int (bef (let' hs) i)), some (.int (bef (let' hs) hs.length - bef (let' hs) i)), some (.int (cst' (plc hs) (let' hs) hs.length (i - 1))), some (.ref l), y6, y7] ∧
      Same H H5 ∧ i ≤ hs.length ∧ IntsAt H5 l ((List.range i).map (cst' (plc hs) (let' hs) hs.length))) ⟨none, none, ?_, s4, Nat.zero_le _, upd_same⟩ (fun i σ H5 _ z => by obtain ⟨_, _, _, z, _⟩ := z; exact SqL.of (z _ _ eR)) ?_ ?_⟩
    · show _ = [some (V.ref r), some (V.int (plc hs 0)), some (V.int (bef (let' hs) 0)), some (V.int (bef (let' hs) hs.length - bef (let' hs) 0)), some (V.int (cst' (plc hs) (let' hs) hs.length 0)), some (V.ref l), none, none]
      have z0 : bef (let' hs) 0 = 0 := rfl
      rw [z0, Int.sub_zero]
      rfl
    · rintro i x σ H5 hx ⟨y6, y7, rfl, s5, _, hl5⟩
      have hi : i < hs.length := by rw [← eL]; exact (List.getElem?_eq_some_iff.mp hx).1
      obtain ⟨t', rfl, hq⟩ := turn s5 hi hx
      have b1 := G.at hi
      have b2 := G.at (show i - 1 < hs.length by (first | lia | omega))
      have b3 := bef_big G (Nat.le_refl hs.length)
      have b4 := bef_big G (show i ≤ hs.length by (first | lia | omega))
      refine ⟨t', _, rfl, hq, rfl, _, _, rfl, _, _, rfl, rfl, ?_⟩
      refine ⟨_, rfl, _, rfl, _, rfl, _, _, rfl, rfl, _, rfl, _, rfl, _, _, rfl, rfl, _, _, rfl, rfl, ⟨pow_big (by (first | lia | omega)), pow_big (by (first | lia | omega))⟩, _, _, rfl, rfl, ?_⟩
      have ec : cst' (plc hs) (let' hs) hs.length (i - 1) + (bef (let' hs) i - (bef (let' hs) hs.length - bef (let' hs) i)) * (plc hs i - plc hs (i - 1)) = cst' (plc hs) (let' hs) hs.length i := by
        rcases Nat.eq_zero_or_pos i with z | z
        · subst z
          show cst' (plc hs) (let' hs) hs.length 0 + _ * (plc hs 0 - plc hs 0) = _
          rw [Int.sub_self, Int.mul_zero, Int.add_zero]
        · have := cost_step (p := plc hs) (l := let' hs) (n := hs.length) G.places (k := i - 1) (by (first | lia | omega))
          rw [show i - 1 + 1 = i by (first | lia | omega)] at this
          exact this.symm
      refine ⟨_, rfl, .inl ⟨rfl, _, SqL.of hl5⟩, _, rfl, l, _, _, rfl, rfl, hl5, ?_, ?_⟩
      · rw [List.length_map, List.length_map, List.length_range]
        exact small1000 (by (first | lia | omega))
      refine ⟨_, rfl, ?_⟩
      refine ⟨_, rfl, _, rfl, _, _, rfl, rfl, ?_⟩
      refine ⟨_, rfl, _, rfl, _, _, rfl, rfl, ?_⟩
      refine ⟨some (.int (plc hs i)), some (.int (let' hs i)), ?_, same_upd2 s5 hl0, hi, ?_⟩
      · have e1 : bef (let' hs) (i + 1) = bef (let' hs) i + let' hs i := rfl
        have e2 : bef (let' hs) hs.length - bef (let' hs) i - let' hs i = bef (let' hs) hs.length - bef (let' hs) (i + 1) := by rw [e1]; (first | lia | omega)
        show [some (V.ref r), some (V.int (plc hs i)), some (V.int (bef (let' hs) i + let' hs i)), some (V.int (bef (let' hs) hs.length - bef (let' hs) i - let' hs i)), some (V.int (cst' (plc hs) (let' hs) hs.length (i - 1) + (bef (let' hs) i - (bef (let' hs) hs.length - bef (let' hs) i)) * (plc hs i - plc hs (i - 1)))), some (V.ref l), some (V.int (plc hs i)), some (V.int (let' hs i))] = _
        rw [ec, e2]
        rfl
      · show upd H5 l (.lst (((List.range i).map (cst' (plc hs) (let' hs) hs.length)).map V.int ++ [V.int (cst' (plc hs) (let' hs) hs.length (i - 1) + (bef (let' hs) i - (bef (let' hs) hs.length - bef (let' hs) i)) * (plc hs i - plc hs (i - 1)))])) l = _
        rw [upd_same, ec, range_snoc, List.map_append]
        rfl
    · rintro σ H5 ⟨y6, y7, rfl, s5, _, hl5⟩
      rw [eL] at hl5
      exact ⟨_, rfl, q l H5 s5 hl0 hl5⟩
structure Str' (H : Hp) (r : Addr) (road : List (Int × Int)) (a b : Nat) : Prop where
  at' : RoadAt H r road
  good : Good road
  lt : a < b
  le : b ≤ road.length
def spMiddle : Sp := fun vs H Q _ => ∃ (r : Addr) (road : List (Int × Int)) (a b : Nat), vs = [.ref r, .int a, .int b] ∧ Str' H r road a b ∧ ∀ (l : Addr) (H' : Hp), Same H H' → H l = none → IntsAt H' l (mids road a b) → Q (.ref l) H'
def spOneWay : Sp := fun vs H Q _ => ∃ (r : Addr) (road : List (Int × Int)) (a b : Nat), vs = [.ref r, .int a, .int b] ∧ Str' H r road a b ∧ ∀ (H' : Hp), Same H H' → Q (.int (oneWay (cut road a b))) H'
theorem nd_middle_0 : (["k", "first", "least", "carried"] : List Str).Nodup := by decide +kernel
theorem sc_middle : FnScope ["road", "first", "end", "carried", "least"] ["road", "first", "end"] (defScope s_middle) := ⟨rfl, rfl, rfl, by decide +kernel, rfl, by decide +kernel, by decide +kernel⟩
theorem ok_middle {f fCR fCS fE fW fF fH fR : Addr} {fd dCR dCS dE dW dF dH dR : FuncData} (F : Fun K "middle" "middle" s_middle f fd) (B : Blt mg) (U : Nums K mg fW fF dW dF) (CH : Callee K mg "is_house" sHouse ["value"] fH dH) (CR : Callee K mg "is_rising" sRising ["numbers"] fR dR)
    (Ccheck_road : Callee K mg "check_road" sCheckRoad ["road"] fCR dCR) (Ccheck_stretch : Callee K mg "check_stretch" s_check_stretch ["road", "first", "end"] fCS dCS) (Cways_to_each : Callee K mg "ways_to_each" s_ways_to_each ["houses"] fE dE) :
    FnOk P w K mg base CX0 5 f fd ["road", "first", "end"] spMiddle := by
  have Gcheck_road : FnOk P w K mg base CX0 4 fCR dCR ["road"] spCheckRoad := ok_checkRoad Ccheck_road.fn B U CH CR
  have Gcheck_stretch : FnOk P w K mg base CX0 2 fCS dCS ["road", "first", "end"] spStretch := ok_check_stretch Ccheck_stretch.fn B ⟨U.W, U.bW, U.mW⟩
  have Gways_to_each : FnOk P w K mg base CX0 1 fE dE ["houses"] spEach := ok_each Cways_to_each.fn B
  refine F.ok sc_middle (fun vs H Q E h => ?_) (fun cdv A outer s H vs Q E hr h => ?_)
  · obtain ⟨r, road, a, b, rfl, _⟩ := h
    rfl
  · obtain ⟨r, road, a, b, rfl, ⟨R, G, hab, hb⟩, q⟩ := h
    obtain ⟨ts, hR, hT⟩ := id R
    have hlen := hT.len
    have hsm := G.small
    have cl := cut_len hb (Nat.le_of_lt hab)
    have cg := cut_good G hb (Nat.le_of_lt hab)
    refine ⟨_, (pss_cons (ps_expr (pe_call Gcheck_road (hr.mono (by decide)) (by rfl) Ccheck_road.m Ccheck_road.fn.kp Ccheck_road.b .nil pass0 (pa_cons (pv 0) pa_nil)))
        (pss_cons (ps_expr (pe_call Gcheck_stretch (hr.mono (by decide)) (by rfl) Ccheck_stretch.m Ccheck_stretch.fn.kp Ccheck_stretch.b .nil pass0 (pa_cons (pv 0) (pa_cons (pv 1) (pa_cons (pv 2) pa_nil)))))
        (pss_cons (ps_set (i := 3) sc_middle.nd rfl (Or.inr rfl) (pe_call Gways_to_each (hr.mono (by decide)) (by rfl) Cways_to_each.m Cways_to_each.fn.kp Cways_to_each.b .nil pass0 (pa_cons (pe_slice sl_list (pv 0) (po_some (pv 1)) (po_some (pv 2))) pa_nil)))
        (pss_cons (ps_set (i := 4) sc_middle.nd rfl (Or.inr rfl) (pe_callB (call_minL rfl) (by rfl) B.min boot_min (pa_cons (pv 3) pa_nil)))
        (pss_one (ps_ret (pe_comp (N := ["k", "first", "least", "carried"]) (L := 1) (ix := [1, 4, 3]) rfl (by show CScope _ ["road", "first", "end", "carried", "least"] (defScope s_middle) _ _ _; exact ⟨rfl, by decide +kernel, by decide +kernel, by decide +kernel, by decide +kernel, by decide +kernel, rfl⟩) (pi_range1 (by rfl) B.range (pa_cons (pe_op op_sub (pv 2) (pv 1)) pa_nil)) (fun C' s₀ H₀ fp => ⟨(pg_name (i := 0) nd_middle_0 rfl (Or.inl rfl)), (pts_one (pt_cmpR op_eq (pe_ix (ix_listK (K := K) rfl) (pv 3) (pv 0) (fun _ _ => rfl)) (pv 2) (nomark _))), (pe_op op_add (pv 1) (pv 0))⟩)))))))), ?_⟩
    refine ⟨_, rfl, r, road, rfl, R, G, fun H1 s1 => ?_⟩
    refine ⟨_, rfl, _, rfl, _, rfl, r, _, a, b, rfl, s1 _ _ hR, hab, by rw [List.length_map, hlen]; exact hb, ?_⟩
    refine ⟨_, rfl, _, rfl, _, rfl, _, rfl, _, rfl, r, _, rfl, SqL.of (s1 _ _ hR), fun p hp => ?_⟩
    have s2 := s1.trans (same_upd (o := .lst (cutV (ts.map V.ref) (some (a : Int)) (some (b : Int)))) hp)
    refine ⟨p, cut road a b, rfl, RoadAt.cut (hT.same s1) hb (Nat.le_of_lt hab) hp, cg, by (first | lia | omega), fun l H3 s3 hl hI => ?_⟩
    have s03 := s2.trans s3
    have hcl : (costs (cut road a b)).length = b - a := by unfold costs; rw [List.length_map, List.length_range, cl]
    refine ⟨_, rfl, l, costs (cut road a b), rfl, SqL.of hI, by (first | lia | omega), fun M hM1 hM2 => ?_⟩
    have cat : ∀ k, k < b - a → (costs (cut road a b)).getD k 0 = cst' (plc (cut road a b)) (let' (cut road a b)) (cut road a b).length k := fun k hk => by
      unfold costs
      rw [List.getD_eq_getElem?_getD, List.getElem?_map]
      simp [cl, hk]
    have hM : M = oneWay (cut road a b) := by
      refine mn_uniq (by (first | lia | omega)) (fun k hk => ?_) ?_
      · rw [cl] at hk
        rw [← cat k hk]
        refine hM2 _ ?_
        have := getD_some (ns := costs (cut road a b)) (j := k) (by (first | lia | omega))
        exact List.mem_of_getElem? this
      · obtain ⟨k, hk, e⟩ := List.mem_iff_getElem.mp hM1
        rw [hcl] at hk
        refine ⟨k, by (first | lia | omega), ?_⟩
        rw [← cat k hk, ← e]
        simp [List.getD_eq_getElem?_getD, hcl, hk]
    subst hM
    refine ⟨_, rfl, _, rfl, _, _, rfl, rfl, _, rfl, by (first | lia | omega), by (first | lia | omega), ?_⟩
    have en : ((b : Int) - (a : Int)).toNat = b - a := by (first | lia | omega)
    rw [en]
    refine comp_by (n := b - a) (fun D i σ ys H4 => Same H3 H4 ∧ H3 D = none ∧ (∃ u, σ = [u, some (.int a), some (.int (oneWay (cut road a b))), some (.ref l)]) ∧ i ≤ b - a ∧ ys = ((List.range i).filter (midB (cut road a b))).map fun (k : Nat) => V.int ((a : Int) + (k : Int))) ?_ ?_ ?_
    · exact fun D hD => ⟨same_upd hD, hD, ⟨_, rfl⟩, Nat.zero_le _, rfl⟩
    · rintro D i σ ys H4 hi ⟨hs4, hD, ⟨u, rfl⟩, _, rfl⟩ hD'
      refine ⟨hi, fun x H5 y => ?_⟩
      obtain ⟨rfl, rfl⟩ := y
      have ml : ((List.range i).filter (midB (cut road a b))).length ≤ i := by
        have := List.length_filter_le (midB (cut road a b)) (List.range i)
        simpa using this
      refine nameT ⟨_, rfl, _, rfl, l, _, _, _, rfl, rfl, SqL.of (hs4 _ _ hI), at_int (j := i) (by (first | lia | omega)) (by (first | lia | omega)), _, rfl, rfl, _, rfl, ?_⟩
      rw [cat i hi]
      have iff := mid_costs cg (k := i) (by (first | lia | omega))
      refine ite2 (fun hc => ?_) (fun hc => ?_)
      · have hc' : midB (cut road a b) i = true := iff.mp (by have := of_decide_eq_true hc; injection this)
        refine ⟨_, rfl, _, rfl, _, _, rfl, rfl, ?_, hD', same_upd2 hs4 hD, hD, ⟨_, rfl⟩, hi, ?_⟩
        · rw [List.length_map]
          exact small1000 (by (first | lia | omega))
        · rw [List.range_succ, List.filter_append, List.map_append]
          simp [hc']
      · have hc' : ¬ (midB (cut road a b) i = true) := fun z => hc (decide_eq_true (congrArg V.int (iff.mpr z)))
        refine ⟨hD', hs4, hD, ⟨_, rfl⟩, hi, ?_⟩
        rw [List.range_succ, List.filter_append, List.map_append]
        simp [hc']
    · rintro D σ ys H4 ⟨hs4, hD, ⟨u, rfl⟩, _, rfl⟩ hD'
      refine ⟨Nat.le_refl _, q D H4 (s03.trans hs4) (s03.free hD) ?_⟩
      rw [IntsAt, mids, List.map_map]
      exact hD'
end
end Ph
set_option Elab.async false
set_option linter.all false
set_option maxRecDepth 100000
set_option maxHeartbeats 4000000
namespace Ph
open PySem PySem.Spec PyProof.Rows L2
section
variable {P : Program} {w : World} {K : PySem.W.Frag} {mg : Str → Option Value} {base : Heap}
theorem sc_one_way : FnScope ["road", "first", "end"] ["road", "first", "end"] (defScope s_one_way) := ⟨rfl, rfl, rfl, by decide +kernel, rfl, by decide +kernel, by decide +kernel⟩
end
end Ph
set_option Elab.async false
set_option linter.all false
set_option maxRecDepth 100000
set_option maxHeartbeats 4000000
namespace Ph
open PySem PySem.Spec PyProof.Rows L2
theorem road_ix {K : PySem.W.Frag} {H : Hp} {r : Addr} {road : List (Int × Int)} (R : RoadAt H r road) {i : Nat} (hi : i < road.length) {z : Int} (hz : z = (i : Int)) {Q : VK} (h : ∀ t, SqT K H t [.int (plc road i), .int (let' road i)] → Q (.ref t) H) : rIxL K (.ref r) (.int z) H Q := by
  obtain ⟨xs, e1, e2, _, e3⟩ := R.get
  obtain ⟨t, f1, f2⟩ := e3 i hi
  subst hz
  exact ⟨r, xs, _, _, rfl, rfl, SqL.of e1, atI_nat f1, h t (SqT.of f2)⟩
theorem letters_ix {K : PySem.W.Frag} {H : Hp} {r : Addr} {road : List (Int × Int)} (R : RoadAt H r road) {i : Nat} (hi : i < road.length) {z : Int} (hz : z = (i : Int)) {Q : VK} (h : Q (.int (let' road i)) H) : rIxL K (.ref r) (.int z) H fun x H1 => rIxT K x (.int 1) H1 Q :=
  road_ix R hi hz fun t ht => ⟨t, _, _, _, rfl, rfl, ht, rfl, h⟩
section
variable {P : Program} {w : World} {K : PySem.W.Frag} {mg : Str → Option Value} {base : Heap}
def ones (road : List (Int × Int)) (b : Nat) : List Int := (List.range b).map fun j => wW road j b
def spOnes : Sp := fun vs H Q _ => ∃ (r : Addr) (road : List (Int × Int)) (b : Nat), vs = [.ref r, .int b] ∧ RoadAt H r road ∧ Good road ∧ 0 < b ∧ b ≤ road.length ∧
  ∀ (l : Addr) (H' : Hp), Same H H' → H l = none → IntsAt H' l (ones road b) → Q (.ref l) H'
theorem sc_one_ways_to : FnScope ["road", "end", "post", "from_post_on", "ahead", "carried", "told", "first", "letters"] ["road", "end"] (defScope s_one_ways_to) := ⟨rfl, rfl, rfl, by decide +kernel, rfl, by decide +kernel, by decide +kernel⟩
theorem ok_ones {f fA : Addr} {fd dA : FuncData} (F : Fun K "one_ways_to" "one_ways_to" s_one_ways_to f fd) (B : Blt mg) (Capart : Callee K mg "apart" sApart ["road", "house", "other"] fA dA) :
    FnOk P w K mg base CX0 2 f fd ["road", "end"] spOnes := by
  have Gapart : FnOk P w K mg base CX0 1 fA dA ["road", "house", "other"] spApart := ok_apart Capart.fn B
  refine F.ok sc_one_ways_to (fun vs H Q E h => ?_) (fun cdv A outer s H vs Q E hr h => ?_)
  · obtain ⟨r, road, b, rfl, _⟩ := h
    rfl
  · obtain ⟨r, road, b, rfl, R, G, h0, hb, q⟩ := h
    have hsm := G.small
    refine ⟨_, (pss_cons (ps_set (i := 2) sc_one_ways_to.nd rfl (Or.inl rfl) (pe_op op_sub (pv 1) pe_int))
        (pss_cons (ps_set (i := 3) sc_one_ways_to.nd rfl (Or.inl rfl) (pe_ix ix_tup (pe_ix ix_list (pv 0) (pv 2) (fun _ _ => rfl)) pe_int (fun _ _ => rfl)))
        (pss_cons (ps_set (i := 4) sc_one_ways_to.nd rfl (Or.inl rfl) pe_int)
        (pss_cons (ps_set (i := 5) sc_one_ways_to.nd rfl (Or.inl rfl) pe_int)
        (pss_cons (ps_set (i := 6) sc_one_ways_to.nd rfl (Or.inl rfl) (pe_lst (pa_cons pe_int pa_nil)))
        (pss_cons (ps_for PassesOwn.never rfl (pi_rangeD (by rfl) B.range (pa_cons (pe_op op_sub (pv 1) pe_int) (pa_cons (pe_un un_neg pe_int) (pa_cons (pe_un un_neg pe_int) pa_nil)))) (pg_name (i := 7) sc_one_ways_to.nd rfl (Or.inl rfl))
        (pss_cons (ps_set (i := 8) sc_one_ways_to.nd rfl (Or.inl rfl) (pe_ix ix_tup (pe_ix ix_list (pv 0) (pv 7) (fun _ _ => rfl)) pe_int (fun _ _ => rfl)))
        (pss_cons (ps_aug (i := 4) sc_one_ways_to.nd rfl (Or.inl rfl) (pv 8) ip_add)
        (pss_cons (ps_aug (i := 5) sc_one_ways_to.nd rfl (Or.inl rfl) (pe_op op_mulB (pv 8) (pe_call Gapart (hr.mono (by decide)) (by rfl) Capart.m Capart.fn.kp Capart.b .nil pass0 (pa_cons (pv 0) (pa_cons (pv 7) (pa_cons (pv 2) pa_nil))))) ip_add)
        (pss_cons (ps_while PassesOwn.never (pt_cmpR op_gt (pv 4) (pv 3) (nomark _))
        (pss_cons (ps_aug (i := 5) sc_one_ways_to.nd rfl (Or.inl rfl) (pe_op op_mulB (pe_op op_sub (pv 4) (pv 3)) (pe_call Gapart (hr.mono (by decide)) (by rfl) Capart.m Capart.fn.kp Capart.b .nil pass0 (pa_cons (pv 0) (pa_cons (pe_op op_sub (pv 2) pe_int) (pa_cons (pv 2) pa_nil))))) ip_sub)
        (pss_cons (ps_aug (i := 2) sc_one_ways_to.nd rfl (Or.inl rfl) pe_int ip_sub)
        (pss_cons (ps_aug (i := 3) sc_one_ways_to.nd rfl (Or.inl rfl) (pe_ix ix_tup (pe_ix ix_list (pv 0) (pv 2) (fun _ _ => rfl)) pe_int (fun _ _ => rfl)) ip_add)
        (pss_one (ps_aug (i := 4) sc_one_ways_to.nd rfl (Or.inl rfl) (pe_ix ix_tup (pe_ix ix_list (pv 0) (pv 2) (fun _ _ => rfl)) pe_int (fun _ _ => rfl)) ip_sub))))))
        (pss_one (ps_expr (pe_bm PySem.F.plainAttrs_list PySem.F.slot_list_append PySem.F.type_list_append mt_append (pv 6) (pa_cons (pv 5) pa_nil)))))))))
        (pss_cons (ps_expr (pe_bm0 PySem.F.plainAttrs_list PySem.F.slot_list_reverse PySem.F.type_list_reverse mt_reverse (pv 6)))
        (pss_one (ps_ret (pv 6)))))))))), ?_⟩
    refine ⟨_, rfl, _, _, rfl, rfl, ?_⟩
    refine ⟨_, rfl, _, rfl, letters_ix R (i := b - 1) (by (first | lia | omega)) (by (first | lia | omega)) ?_⟩
    refine ⟨Nat.le_of_lt (small1000 (by decide)), fun l hl => ?_⟩
    have s1 : Same H (upd H l (.lst [.int 0])) := same_upd hl
    have hl1 := upd_same (H := H) (a := l) (o := .lst [.int 0])
    generalize upd H l (.lst [.int 0]) = H1 at s1 hl1
    refine ⟨_, rfl, _, _, rfl, rfl, _, rfl, _, rfl, _, _, rfl, ⟨by (first | lia | omega), by (first | lia | omega), by (first | lia | omega), by (first | lia | omega)⟩, ?_⟩
    refine for_by (n := b - 1) (fun i σ H2 => ∃ (k : Nat) (v7 v8 : Option V), σ = [some (.ref r), some (.int b), some (.int k), some (.int (lS road b - lS road k)), some (.int (lS road k - lS road (b - 1 - i))), some (.int (lT road b k - lT road (b - 1 - i) k)), some (.ref l), v7, v8] ∧
      Same H H2 ∧ i ≤ b - 1 ∧ Back road b (b - 1 - i) k ∧ IntsAt H2 l ((List.range (i + 1)).map fun j => wW road (b - 1 - j) b)) ?_ ?_ ?_
    · have bk := Back.first G h0 hb
      have e1 : let' road (b - 1) = lS road b - lS road (b - 1) := by have := lS_succ road (b - 1); rw [show b - 1 + 1 = b by (first | lia | omega)] at this; (first | lia | omega)
      have e2 : (0 : Int) = lT road b (b - 1) - lT road (b - 1 - 0) (b - 1) := by
        rw [show b - 1 - 0 = b - 1 by (first | lia | omega), bk.is G (by have := lS_mono G (show b - 1 ≤ b by (first | lia | omega)); (first | lia | omega)), wW_last G h0 hb]
      refine ⟨b - 1, none, none, ?_, s1, Nat.zero_le _, bk, ?_⟩
      · rw [← e1, ← e2, show (lS road (b - 1) - lS road (b - 1 - 0)) = 0 by rw [show b - 1 - 0 = b - 1 by (first | lia | omega)]; (first | lia | omega), show ((b - 1 : Nat) : Int) = (b : Int) - 1 by (first | lia | omega)]
        rfl
      · have e3 : (List.range (0 + 1)).map (fun j => wW road (b - 1 - j) b) = [0] := by
          show [wW road (b - 1 - 0) b] = _
          rw [show b - 1 - 0 = b - 1 by (first | lia | omega), wW_last G h0 hb]
        rw [IntsAt, e3]
        exact hl1
    · rintro i σ H2 hi ⟨k, v7, v8, rfl, s2, _, bk, hI⟩
      refine ⟨by show i < ((b : Int) - 2 - -1).toNat; (first | lia | omega), fun x H3 y => ?_⟩
      obtain ⟨rfl, rfl⟩ := y
      have R2 := R.same s2
      have ea : b - 1 - i = (b - 1 - (i + 1)) + 1 := by (first | lia | omega)
      generalize ha : b - 1 - (i + 1) = a at *
      rw [ea] at bk
      have bk2 := bk.grow G
      have hkn : k < road.length := by have := bk.kb; (first | lia | omega)
      have hva : (b : Int) - 2 + (i : Int) * (-1) = (a : Int) := by (first | lia | omega)
      have ls := lS_succ road a
      have lt := lT_succ road a k
      refine nameT ⟨_, rfl, _, rfl, letters_ix R2 (i := a) (by (first | lia | omega)) hva ?_⟩
      refine ⟨_, rfl, _, rfl, _, _, rfl, rfl, ?_⟩
      refine ⟨_, rfl, _, rfl, _, rfl, _, rfl, _, rfl, r, road, a, k, args3 hva rfl, R2, by (first | lia | omega), hkn, ?_⟩
      refine ⟨_, _, rfl, rfl, G.mul (by (first | lia | omega)) hkn, _, _, rfl, rfl, ?_⟩
      have q1 : lS road k - lS road (b - 1 - i) + let' road a = lS road k - lS road a := by rw [ea]; (first | lia | omega)
      have q2 : lT road b k - lT road (b - 1 - i) k + let' road a * ab (plc road a - plc road k) = lT road b k - lT road a k := by rw [ea]; (first | lia | omega)
      refine ⟨fun m σ H4 => ∃ k : Nat, σ = [some (.ref r), some (.int b), some (.int k), some (.int (lS road b - lS road k)), some (.int (lS road k - lS road a)), some (.int (lT road b k - lT road a k)), some (.ref l), some (.int ((b : Int) - 2 + (i : Int) * (-1))), some (.int (let' road a))] ∧ H4 = H3 ∧ m = k ∧ Back road b a k,
        ⟨_, k, ?_, rfl, rfl, bk2⟩, ?_⟩
      · show [some (V.ref r), some (V.int b), some (V.int k), some (V.int (lS road b - lS road k)), some (V.int (lS road k - lS road (b - 1 - i) + let' road a)), some (V.int (lT road b k - lT road (b - 1 - i) k + let' road a * ab (plc road a - plc road k))), some (V.ref l), _, _] = _
        rw [q1, q2]
      rintro m σ H4 ⟨k, rfl, rfl, rfl, bk3⟩
      have hkn : m < road.length := by have := bk3.kb; (first | lia | omega)
      refine ⟨_, rfl, _, rfl, _, _, rfl, rfl, _, rfl, ?_⟩
      refine ite2 (fun hc => ?_) (fun hc => ?_)
      · have hc' : lS road b - lS road m < lS road m - lS road a := of_decide_eq_true hc
        have hpos := bk3.pos G hc'
        obtain ⟨k, rfl⟩ : ∃ k, m = k + 1 := ⟨m - 1, by (first | lia | omega)⟩
        refine ⟨fun σ' H' => σ' = [some (.ref r), some (.int b), some (.int k), some (.int (lS road b - lS road k)), some (.int (lS road k - lS road a)), some (.int (lT road b k - lT road a k)), some (.ref l), some (.int ((b : Int) - 2 + (i : Int) * (-1))), some (.int (let' road a))] ∧ H' = H4, fun σ' H' z => ⟨k, by (first | lia | omega), k, z.1, z.2, rfl, bk3.step G (by (first | lia | omega)) hc'⟩, ?_⟩
        have hk1 : (((k + 1 : Nat) : Int) - 1) = (k : Int) := by (first | lia | omega)
        refine ⟨_, rfl, _, rfl, _, rfl, _, _, rfl, rfl, ?_⟩
        refine ⟨_, rfl, _, rfl, _, _, rfl, rfl, _, rfl, r, road, k, k + 1, args3 hk1 rfl, R2, by (first | lia | omega), hkn, ?_⟩
        have b1 := lS_big G (show b ≤ road.length from hb)
        have b2 := lS_big G (show k + 1 ≤ road.length by (first | lia | omega))
        have b3 := lS_big G (show a ≤ road.length by (first | lia | omega))
        have g1 := G.at (show k < road.length by (first | lia | omega))
        have g2 := G.at hkn
        have hp : plc road k < plc road (k + 1) := G.places k (k + 1) (by (first | lia | omega)) hkn
        have hab : ab (plc road k - plc road (k + 1)) = plc road (k + 1) - plc road k := by unfold ab; split <;> (first | lia | omega)
        refine ⟨_, _, rfl, rfl, ⟨pow_big (by (first | lia | omega)), pow_big (by rw [hab]; (first | lia | omega))⟩, _, _, rfl, rfl, ?_⟩
        have ls2 := lS_succ road k
        refine ⟨_, rfl, _, _, rfl, rfl, ?_⟩
        refine ⟨_, rfl, _, rfl, _, rfl, letters_ix R2 (i := k) (by (first | lia | omega)) hk1 ?_⟩
        refine ⟨_, _, rfl, rfl, ?_⟩
        refine ⟨_, rfl, _, rfl, _, rfl, letters_ix R2 (i := k) (by (first | lia | omega)) hk1 ?_⟩
        refine ⟨_, _, rfl, rfl, ?_⟩
        have lb := lT_back G hb (show a ≤ k + 1 by (first | lia | omega)) bk3.kb
        refine ⟨?_, rfl⟩
        show [some (V.ref r), some (V.int b), some (V.int (((k + 1 : Nat) : Int) - 1)), some (V.int (lS road b - lS road (k + 1) + let' road k)), some (V.int (lS road (k + 1) - lS road a - let' road k)), some (V.int (lT road b (k + 1) - lT road a (k + 1) - (lS road (k + 1) - lS road a - (lS road b - lS road (k + 1))) * ab (plc road k - plc road (k + 1)))), some (V.ref l), _, _] = _
        rw [hab, ← lb, hk1]
        rw [show lS road b - lS road (k + 1) + let' road k = lS road b - lS road k by (first | lia | omega), show lS road (k + 1) - lS road a - let' road k = lS road k - lS road a by (first | lia | omega)]
      · have hc' : ¬ lS road b - lS road m < lS road m - lS road a := fun z => hc (decide_eq_true z)
        refine ⟨_, rfl, .inl ⟨rfl, _, SqL.of hI⟩, _, rfl, l, _, _, rfl, rfl, hI, ?_, ?_⟩
        · refine small1000 ?_
          rw [List.length_map, List.length_map, List.length_range]
          (first | lia | omega)
        · refine ⟨m, _, _, rfl, same_upd2 s2 hl, by (first | lia | omega), bk3, ?_⟩
          have e : (List.range (i + 1 + 1)).map (fun j => wW road (b - 1 - j) b) = (List.range (i + 1)).map (fun j => wW road (b - 1 - j) b) ++ [lT road b m - lT road a m] := by
            rw [range_snoc]
            show _ ++ [wW road (b - 1 - (i + 1)) b] = _
            rw [ha, bk3.is G hc']
          rw [IntsAt, upd_same, e, List.map_append]
          rfl
    · rintro σ H2 ⟨k, v7, v8, rfl, s2, _, bk, hI⟩
      refine ⟨by show ((b : Int) - 2 - -1).toNat ≤ b - 1; (first | lia | omega), ?_⟩
      refine ⟨_, rfl, .inl ⟨rfl, _, SqL.of hI⟩, l, _, rfl, rfl, hI, ?_⟩
      refine ⟨_, rfl, q l _ (same_upd2 s2 hl) hl ?_⟩
      rw [IntsAt, upd_same, ← List.map_reverse, show b - 1 + 1 = b by (first | lia | omega), back_rev (fun j => wW road j b)]
      rfl
end
end Ph
set_option Elab.async false
set_option linter.all false
set_option maxRecDepth 100000
set_option maxHeartbeats 4000000
namespace Ph
open PySem PySem.Spec PyProof.Rows L2
theorem small5000 {n : Nat} (h : n ≤ 5000) : n < sizeLine := Nat.lt_of_le_of_lt h (by decide)
theorem paired_at {α β : Type} {R : α → β → Prop} : ∀ {xs : List α} {ys : List β} {i : Nat} {y : β}, Paired R xs ys → ys[i]? = some y → ∃ x, xs[i]? = some x ∧ R x y
  | _, _, _, _, .nil, h => by simp at h
  | x :: _, _ :: _, 0, _, .cons r _, h => ⟨x, rfl, by cases h; exact r⟩
  | _, _, i + 1, _, .cons _ t, h => by simpa using paired_at (i := i) t (by simpa using h)
theorem paired_imp {α β : Type} {R R' : α → β → Prop} (f : ∀ x y, R x y → R' x y) : ∀ {xs : List α} {ys : List β}, Paired R xs ys → Paired R' xs ys
  | _, _, .nil => .nil
  | _, _, .cons r t => .cons (f _ _ r) (paired_imp f t)
theorem paired_snoc {α β : Type} {R : α → β → Prop} {x : α} {y : β} : ∀ {xs : List α} {ys : List β}, Paired R xs ys → R x y → Paired R (xs ++ [x]) (ys ++ [y])
  | _, _, .nil, h => .cons h .nil
  | _, _, .cons r t, h => .cons r (paired_snoc t h)
abbrev Rows (H : Hp) : List Addr → List (List Int) → Prop := Paired fun a ns => IntsAt H a ns
def RowsAt (H : Hp) (p : Addr) (rows : List (List Int)) : Prop := ∃ as : List Addr, H p = some (.lst (as.map V.ref)) ∧ Rows H as rows
theorem RowsAt.same {H H' : Hp} {p : Addr} {rows : List (List Int)} (e : Same H H') (h : RowsAt H p rows) : RowsAt H' p rows := by
  obtain ⟨as, h1, h2⟩ := h
  exact ⟨as, e _ _ h1, paired_imp (fun a ns z => e _ _ z) h2⟩
theorem Rows.upd {H : Hp} {D : Addr} {o : HO} : ∀ {as : List Addr} {rows : List (List Int)}, Rows H as rows → D ∉ as → Rows (upd H D o) as rows
  | _, _, .nil, _ => .nil
  | a :: _, _, .cons r t, h => .cons (by rw [IntsAt, upd_ne (fun z => h (by rw [z]; exact List.mem_cons_self))]; exact r) (Rows.upd t fun z => h (List.mem_cons_of_mem _ z))
theorem Rows.same {H H' : Hp} (e : Same H H') {as : List Addr} {rows : List (List Int)} (h : Rows H as rows) : Rows H' as rows := paired_imp (fun a ns z => e _ _ z) h
def StepIs (H : Hp) (v : V) : Option (Int × Nat) → Prop
  | none => v = .non
  | some (c, k) => ∃ t, v = .ref t ∧ H t = some (.tup [.int c, .int (k : Int)])
theorem StepIs.same {H H' : Hp} (e : Same H H') {v : V} {o : Option (Int × Nat)} (h : StepIs H v o) : StepIs H' v o := by
  cases o with
  | none => exact h
  | some z => obtain ⟨t, e1, e2⟩ := h; exact ⟨t, e1, e _ _ e2⟩
abbrev Steps (H : Hp) : List V → List (Option (Int × Nat)) → Prop := Paired (StepIs H)
def StepsAt (H : Hp) (p : Addr) (os : List (Option (Int × Nat))) : Prop := ∃ vs : List V, H p = some (.lst vs) ∧ Steps H vs os
theorem Steps.same {H H' : Hp} (e : Same H H') {vs : List V} {os : List (Option (Int × Nat))} (h : Steps H vs os) : Steps H' vs os := paired_imp (fun _ _ z => z.same e) h
theorem StepsAt.same {H H' : Hp} {p : Addr} {os : List (Option (Int × Nat))} (e : Same H H') (h : StepsAt H p os) : StepsAt H' p os := by
  obtain ⟨vs, h1, h2⟩ := h
  exact ⟨vs, e _ _ h1, h2.same e⟩
theorem Steps.lst {H : Hp} {D : Addr} {xs : List V} {o : HO} (e : H D = some (.lst xs)) {vs : List V} {os : List (Option (Int × Nat))} (h : Steps H vs os) : Steps (upd H D o) vs os := by
  refine paired_imp (fun v o' z => ?_) h
  cases o' with
  | none => exact z
  | some w =>
    obtain ⟨t, e1, e2⟩ := z
    refine ⟨t, e1, ?_⟩
    rw [upd_ne (ne_of e2 e (by intro z; cases z))]
    exact e2
theorem rows_ix {K : PySem.W.Frag} {H : Hp} {p : Addr} {rows : List (List Int)} (R : RowsAt H p rows) {i : Nat} {row : List Int} (hi : rows[i]? = some row) {z : Int} (hz : z = (i : Int)) {Q : VK} (h : ∀ a, IntsAt H a row → Q (.ref a) H) : rIxL K (.ref p) (.int z) H Q := by
  obtain ⟨as, h1, h2⟩ := R
  obtain ⟨a, e1, e2⟩ := paired_at h2 hi
  subst hz
  exact ⟨p, _, _, _, rfl, rfl, SqL.of h1, atI_nat (v := .ref a) (by rw [List.getElem?_map, e1]; rfl), h a e2⟩
theorem ints_ix {K : PySem.W.Frag} {H : Hp} {a : Addr} {ns : List Int} (hI : IntsAt H a ns) {i : Nat} {y : Int} (hi : ns[i]? = some y) {z : Int} (hz : z = (i : Int)) {Q : VK} (h : Q (.int y) H) : rIxL K (.ref a) (.int z) H Q := by
  subst hz
  exact ⟨a, _, _, _, rfl, rfl, SqL.of hI, atI_nat (v := .int y) (by rw [List.getElem?_map, hi]; rfl), h⟩
theorem steps_ix {K : PySem.W.Frag} {H : Hp} {p : Addr} {os : List (Option (Int × Nat))} (R : StepsAt H p os) {i : Nat} {c : Int} {k : Nat} (hi : os[i]? = some (some (c, k))) {z : Int} (hz : z = (i : Int)) {Q : VK} (h : ∀ t, SqT K H t [.int c, .int (k : Int)] → Q (.ref t) H) : rIxL K (.ref p) (.int z) H Q := by
  obtain ⟨vs, h1, h2⟩ := R
  obtain ⟨v, e1, t, e2, e3⟩ := paired_at h2 hi
  subst hz e2
  exact ⟨p, _, _, _, rfl, rfl, SqL.of h1, atI_nat e1, h t (SqT.of e3)⟩
theorem atI_lastAt {α : Type} {xs : List α} {v : α} (h : xs[xs.length - 1]? = some v) : atI xs (-1) = some v := by
  have h0 : 0 < xs.length := by
    rcases Nat.eq_zero_or_pos xs.length with z | z
    · have := List.eq_nil_of_length_eq_zero z; subst this; simp at h
    · exact z
  have e : xs = xs.dropLast ++ [v] := by
    have h1 := List.dropLast_concat_getLast (List.ne_nil_of_length_pos h0)
    have h2 : xs.getLast (List.ne_nil_of_length_pos h0) = v := by
      rw [List.getLast_eq_getElem]
      exact (List.getElem?_eq_some_iff.mp h).2
    rw [h2] at h1
    exact h1.symm
  rw [e]
  exact atI_last _ _
def onesAll (road : List (Int × Int)) : List (List Int) := [] :: (List.range road.length).map fun e => ones road (e + 1)
theorem onesAll_len (road : List (Int × Int)) : (onesAll road).length = road.length + 1 := by simp [onesAll]
theorem onesAll_at {road : List (Int × Int)} {e : Nat} (h0 : 0 < e) (he : e ≤ road.length) : (onesAll road)[e]? = some (ones road e) := by
  obtain ⟨k, rfl⟩ : ∃ k, e = k + 1 := ⟨e - 1, by (first | lia | omega)⟩
  unfold onesAll
  rw [List.getElem?_cons_succ, List.getElem?_map, List.getElem?_range (by (first | lia | omega))]
  rfl
theorem ones_at {road : List (Int × Int)} {e j : Nat} (hj : j < e) : (ones road e)[j]? = some (wW road j e) := by
  unfold ones
  rw [List.getElem?_map, List.getElem?_range hj]
  rfl
end Ph
set_option Elab.async false
set_option linter.all false
set_option maxRecDepth 100000
set_option maxHeartbeats 4000000
namespace Ph
open PySem PySem.Spec PyProof.Rows L2
section
variable {P : Program} {w : World} {K : PySem.W.Frag} {mg : Str → Option Value} {base : Heap}
def spNought : Sp := fun vs H Q _ => ∃ n : Int, vs = [.int n] ∧ 0 ≤ n ∧ Q .non H
theorem sc_check_from_nought : FnScope ["number"] ["number"] (defScope s_check_from_nought) := ⟨rfl, rfl, rfl, by decide +kernel, rfl, by decide +kernel, by decide +kernel⟩
theorem ok_nought {f fW fF : Addr} {fd dW dF : FuncData} (F : Fun K "check_from_nought" "check_from_nought" s_check_from_nought f fd) (B : Blt mg) (U : Nums K mg fW fF dW dF) : FnOk P w K mg base CX0 3 f fd ["number"] spNought := by
  have GF : FnOk P w K mg base CX0 2 fF dF ["value", "least"] spFrom := ok_from U.F B U.W U.bW U.mW
  refine F.ok sc_check_from_nought (fun vs H Q E h => ?_) (fun cdv A outer s H vs Q E hr h => ?_)
  · obtain ⟨n, rfl, _⟩ := h
    rfl
  · obtain ⟨n, rfl, hn, q⟩ := h
    refine ⟨_, (pss_one (ps_if (pt_not (pt_val (pe_call GF (hr.mono (by decide)) (by rfl) U.mF U.F.kp U.bF .nil pass0 (pa_cons (pv 0) (pa_cons pe_int pa_nil)))))
        pss_never
        pss_nil)), ?_⟩
    refine ⟨_, rfl, n, 0, rfl, _, rfl, ?_⟩
    rw [decide_eq_true hn]
    exact iteF q
end
end Ph
set_option Elab.async false
set_option linter.all false
set_option maxRecDepth 100000
set_option maxHeartbeats 4000000
namespace Ph
open PySem PySem.Spec PyProof.Rows L2
section
variable {P : Program} {w : World} {K : PySem.W.Frag} {mg : Str → Option Value} {base : Heap}
def layer1 (road : List (Int × Int)) : List (Option (Int × Nat)) := none :: (List.range road.length).map fun e => some (wW road 0 (e + 1), 0)
def spFirst : Sp := fun vs H Q _ => ∃ (p : Addr) (road : List (Int × Int)), vs = [.ref p] ∧ RowsAt H p (onesAll road) ∧ road.length ≤ 1000 ∧ ∀ (l : Addr) (H' : Hp), Same H H' → H l = none → StepsAt H' l (layer1 road) → Q (.ref l) H'
theorem nd_first_layer_0 : (["end", "one_ways"] : List Str).Nodup := by decide +kernel
theorem sc_first_layer : FnScope ["one_ways"] ["one_ways"] (defScope s_first_layer) := ⟨rfl, rfl, rfl, by decide +kernel, rfl, by decide +kernel, by decide +kernel⟩
theorem ok_first {f : Addr} {fd : FuncData} (F : Fun K "first_layer" "first_layer" s_first_layer f fd) (B : Blt mg) : FnOk P w K mg base CX0 1 f fd ["one_ways"] spFirst := by
  refine F.ok sc_first_layer (fun vs H Q E h => ?_) (fun cdv A outer s H vs Q E hr h => ?_)
  · obtain ⟨p, road, rfl, _⟩ := h
    rfl
  · obtain ⟨p, road, rfl, R, hn, q⟩ := h
    refine ⟨_, (pss_one (ps_ret (pe_op op_cat (pe_lst (pa_cons pe_non pa_nil)) (pe_comp (N := ["end", "one_ways"]) (L := 1) (ix := [0]) rfl (by show CScope _ ["one_ways"] (defScope s_first_layer) _ _ _; exact ⟨rfl, by decide +kernel, by decide +kernel, by decide +kernel, by decide +kernel, by decide +kernel, rfl⟩) (pi_range2 (by rfl) B.range (pa_cons pe_int (pa_cons (pe_callB call_len_seq (by rfl) B.len boot_len (pa_cons (pv 0) pa_nil)) pa_nil))) (fun C' s₀ H₀ fp => ⟨(pg_name (i := 0) nd_first_layer_0 rfl (Or.inl rfl)), pts_nil, (pe_tup (pa_cons (pe_ix (ix_listK (K := K) rfl) (pe_ix (ix_listK (K := K) rfl) (pv 1) (pv 0) (fun _ _ => rfl)) pe_int (fun _ _ => rfl)) (pa_cons pe_int pa_nil)))⟩))))), ?_⟩
    refine ⟨Nat.le_of_lt (small1000 (by decide)), fun l1 hl1 => ?_⟩
    have s1 : Same H (upd H l1 (.lst [.non])) := same_upd hl1
    have h11 := upd_same (H := H) (a := l1) (o := .lst [.non])
    generalize upd H l1 (.lst [.non]) = H1 at s1 h11
    obtain ⟨as, hp, hA⟩ := id (R.same s1)
    have hlen : (as.map V.ref).length = road.length + 1 := by rw [List.length_map, Paired.length hA, onesAll_len]
    refine ⟨_, rfl, p, _, rfl, .inl (SqL.of hp), 1, _, rfl, ⟨by (first | lia | omega), by (first | lia | omega), by rw [hlen]; (first | lia | omega), by rw [hlen]; (first | lia | omega)⟩, ?_⟩
    have en : ((((as.map V.ref).length : Nat) : Int) - 1).toNat = road.length := by rw [hlen]; (first | lia | omega)
    rw [en]
    refine comp_by (n := road.length) (fun D i σ ys H2 => Same H1 H2 ∧ H1 D = none ∧ (∃ u, σ = [u, some (.ref p)]) ∧ i ≤ road.length ∧ Steps H2 ys ((List.range i).map fun e => some (wW road 0 (e + 1), 0))) ?_ ?_ ?_
    · exact fun D hD => ⟨same_upd hD, hD, ⟨_, rfl⟩, Nat.zero_le _, .nil⟩
    · rintro D i σ ys H2 hi ⟨s2, hD, ⟨u, rfl⟩, _, hS⟩ hD'
      refine ⟨hi, fun x H3 y => ?_⟩
      obtain ⟨rfl, rfl⟩ := y
      refine nameT (yesT (iteT ?_))
      refine ⟨_, rfl, _, rfl, rows_ix ((R.same s1).same s2) (onesAll_at (e := i + 1) (by (first | lia | omega)) (by (first | lia | omega))) (by (first | lia | omega)) fun a ha => ?_⟩
      refine ints_ix ha (i := 0) (ones_at (by (first | lia | omega))) rfl ?_
      refine ⟨Nat.le_of_lt (small1000 (show 2 ≤ 1000 by decide)), fun t ht => ?_⟩
      have hDt : D ≠ t := ne_of_none hD' ht
      have hD2 : upd H3 t (.tup [.int (wW road 0 (i + 1)), .int 0]) D = some (.lst ys) := by rw [upd_ne hDt]; exact hD'
      have hyl : ys.length = i := by rw [Paired.length hS, List.length_map, List.length_range]
      refine ⟨small1000 (by (first | lia | omega)), hD2, same_upd2 (s2.trans (same_upd ht)) hD, hD, ⟨_, rfl⟩, by (first | lia | omega), ?_⟩
      rw [range_snoc]
      exact paired_snoc ((hS.same (same_upd ht)).lst hD2) ⟨t, rfl, by rw [upd_ne (Ne.symm hDt), upd_same]; rfl⟩
    · rintro D σ ys H2 ⟨s2, hD, ⟨u, rfl⟩, _, hS⟩ hD'
      have hyl : ys.length = road.length := by rw [Paired.length hS, List.length_map, List.length_range]
      refine ⟨Nat.le_refl _, l1, D, _, _, rfl, rfl, s2 _ _ h11, hD', Nat.le_of_lt (small5000 (by rw [hyl]; show 1 + road.length ≤ 5000; (first | lia | omega))), fun l hl => ?_⟩
      refine q l _ ((s1.trans s2).trans (same_upd hl)) (s1.free (s2.free hl)) ⟨_, upd_same, .cons rfl (hS.same (same_upd hl))⟩
end
end Ph
set_option Elab.async false
set_option linter.all false
set_option maxRecDepth 100000
set_option maxHeartbeats 4000000
namespace Ph
open PySem PySem.Spec PyProof.Rows L2
theorem nd_layers_up_to_0 : (["end", "road"] : List Str).Nodup := by decide +kernel
theorem sc_layers_up_to : FnScope ["road", "most", "limit", "one_ways", "layers", "posts"] ["road", "most"] (defScope s_layers_up_to) := ⟨rfl, rfl, rfl, by decide +kernel, rfl, by decide +kernel, by decide +kernel⟩
end Ph
set_option Elab.async false
set_option linter.all false
set_option maxRecDepth 100000
set_option maxHeartbeats 4000000
namespace Ph
open PySem PySem.Spec PyProof.Rows L2
theorem nd_ways_0 : (["layer"] : List Str).Nodup := by decide +kernel
theorem sc_ways : FnScope ["road", "most"] ["road", "most"] (defScope s_ways) := ⟨rfl, rfl, rfl, by decide +kernel, rfl, by decide +kernel, by decide +kernel⟩
end Ph
set_option Elab.async false
set_option linter.all false
set_option maxRecDepth 100000
set_option maxHeartbeats 4000000
namespace Ph
open PySem PySem.Spec PyProof.Rows L2
def layerK (road : List (Int × Int)) (k : Nat) : List (Option (Int × Nat)) := (List.range (road.length + 1)).map fun j => if j < k then none else some (fF road k j, aA road k j)
theorem layerK_at {road : List (Int × Int)} {k j : Nat} (h1 : k ≤ j) (h2 : j ≤ road.length) : (layerK road k)[j]? = some (some (fF road k j, aA road k j)) := by
  unfold layerK
  rw [List.getElem?_map, List.getElem?_range (by (first | lia | omega))]
  show some (if j < k then none else some (fF road k j, aA road k j)) = _
  rw [if_neg (by (first | lia | omega))]
theorem layer1_eq (road : List (Int × Int)) : layer1 road = layerK road 1 := by
  unfold layer1 layerK
  rw [List.range_succ_eq_map, List.map_cons, List.map_map]
  congr 1
def layTo (road : List (Int × Int)) (k i : Nat) : List (Option (Int × Nat)) := (List.range (road.length + 1)).map fun j => if j + i ≤ road.length then none else some (fF road k j, aA road k j)
theorem layTo_end (road : List (Int × Int)) {k : Nat} (h : k ≤ road.length) : layTo road k (road.length + 1 - k) = layerK road k := by
  unfold layTo layerK
  refine List.map_congr_left fun j hj => ?_
  have := List.mem_range.mp hj
  by_cases z : j < k
  · rw [if_pos z, if_pos (by (first | lia | omega))]
  · rw [if_neg z, if_neg (by (first | lia | omega))]
theorem layTo_set {road : List (Int × Int)} {k i : Nat} (h : i ≤ road.length) : (layTo road k i).set (road.length - i) (some (fF road k (road.length - i), aA road k (road.length - i))) = layTo road k (i + 1) := by
  refine List.ext_getElem? fun j => ?_
  unfold layTo
  rw [List.getElem?_set]
  by_cases hj : j < road.length + 1
  · by_cases e : road.length - i = j
    · subst e
      rw [if_pos rfl, if_pos (by rw [List.length_map, List.length_range]; exact hj), List.getElem?_map, List.getElem?_range hj]
      show _ = some (if road.length - i + (i + 1) ≤ road.length then none else _)
      rw [if_neg (by (first | lia | omega))]
    · rw [if_neg e, List.getElem?_map, List.getElem?_map, List.getElem?_range hj]
      show some (if j + i ≤ road.length then none else _) = some (if j + (i + 1) ≤ road.length then none else _)
      by_cases z : j + (i + 1) ≤ road.length
      · rw [if_pos z, if_pos (by (first | lia | omega))]
      · rw [if_neg z, if_neg (by (first | lia | omega))]
  · have e : road.length - i ≠ j := by (first | lia | omega)
    rw [if_neg e, List.getElem?_eq_none (by rw [List.length_map, List.length_range]; (first | lia | omega)), List.getElem?_eq_none (by rw [List.length_map, List.length_range]; (first | lia | omega))]
theorem paired_set {α β : Type} {R : α → β → Prop} {x : α} {y : β} (h : R x y) : ∀ {xs : List α} {ys : List β} {j : Nat}, Paired R xs ys → Paired R (xs.set j x) (ys.set j y)
  | _, _, _, .nil => .nil
  | _, _, 0, .cons _ t => .cons h t
  | _, _, j + 1, .cons r t => .cons r (paired_set h t)
theorem ixN_nat {n j : Nat} (h : j < n) : ixN n (j : Int) = some j := by
  unfold ixN
  rw [if_pos (by (first | lia | omega)), if_pos (by (first | lia | omega))]
  simp
section
variable {P : Program} {w : World} {K : PySem.W.Frag} {mg : Str → Option Value} {base : Heap}
def spNext : Sp := fun vs H Q _ => ∃ (p b : Addr) (road : List (Int × Int)) (k : Nat), vs = [.ref p, .ref b, .int (((k + 2 : Nat) : Int))] ∧ RowsAt H p (onesAll road) ∧ StepsAt H b (layerK road (k + 1)) ∧ Good road ∧ k + 2 ≤ road.length ∧
  ∀ (l : Addr) (H' : Hp), Same H H' → H l = none → StepsAt H' l (layerK road (k + 2)) → Q (.ref l) H'
theorem nd_next_layer_0 : (["count"] : List Str).Nodup := by decide +kernel
theorem nd_next_layer_1 : (["first", "before", "one_ways", "end"] : List Str).Nodup := by decide +kernel
theorem sc_next_layer : FnScope ["one_ways", "before", "posts", "houses", "layer", "last", "end", "low", "high"] ["one_ways", "before", "posts"] (defScope s_next_layer) := ⟨rfl, rfl, rfl, by decide +kernel, rfl, by decide +kernel, by decide +kernel⟩
theorem ok_next {f : Addr} {fd : FuncData} (F : Fun K "next_layer" "next_layer" s_next_layer f fd) (B : Blt mg) : FnOk P w K mg base CX0 1 f fd ["one_ways", "before", "posts"] spNext := by
  refine F.ok sc_next_layer (fun vs H Q E h => ?_) (fun cdv A outer s H vs Q E hr h => ?_)
  · obtain ⟨p, b, road, k, rfl, _⟩ := h
    rfl
  · obtain ⟨p, b, road, k, rfl, R, Sb, G, hk, q⟩ := h
    have hsm := G.small
    refine ⟨_, (pss_cons (ps_set (i := 3) sc_next_layer.nd rfl (Or.inl rfl) (pe_op op_sub (pe_callB call_len_seq (by rfl) B.len boot_len (pa_cons (pv 0) pa_nil)) pe_int))
        (pss_cons (ps_setComp (i := 4) (N := ["count"]) (L := 1) (ix := []) rfl (by show CScope _ ["one_ways", "before", "posts", "houses", "layer", "last", "end", "low", "high"] (defScope s_next_layer) _ _ _; exact ⟨rfl, by decide +kernel, by decide +kernel, by decide +kernel, by decide +kernel, by decide +kernel, rfl⟩) (pi_range1 (by rfl) B.range (pa_cons (pe_op op_add (pv 3) pe_int) pa_nil)) sc_next_layer.nd rfl rfl (fun C' s₀ H₀ fp => ⟨(pg_name (i := 0) nd_next_layer_0 rfl (Or.inl rfl)), pts_nil, pe_non⟩))
        (pss_cons (ps_set (i := 5) sc_next_layer.nd rfl (Or.inl rfl) (pe_op op_sub (pv 3) pe_int))
        (pss_cons (ps_for PassesOwn.never rfl (pi_rangeD (by rfl) B.range (pa_cons (pv 3) (pa_cons (pe_op op_sub (pv 2) pe_int) (pa_cons (pe_un un_neg pe_int) pa_nil)))) (pg_name (i := 6) sc_next_layer.nd rfl (Or.inr rfl))
        (pss_cons (ps_set (i := 7) sc_next_layer.nd rfl (Or.inl rfl) (pe_callB (call_max2 rfl) (by rfl) B.max boot_max (pa_cons (pe_ix ix_tup (pe_ix ix_list (pv 1) (pv 6) (fun _ _ => rfl)) pe_int (fun _ _ => rfl)) (pa_cons (pe_op op_sub (pv 2) pe_int) pa_nil))))
        (pss_cons (ps_set (i := 8) sc_next_layer.nd rfl (Or.inl rfl) (pe_callB (call_min2 rfl) (by rfl) B.min boot_min (pa_cons (pv 5) (pa_cons (pe_op op_sub (pv 6) pe_int) pa_nil))))
        (pss_cons (ps_asg (pe_callB (call_minT rfl hr.units) (by rfl) B.min boot_min (pa_cons (pe_comp (N := ["first", "before", "one_ways", "end"]) (L := 1) (ix := [1, 0, 6]) rfl (by show CScope _ ["one_ways", "before", "posts", "houses", "layer", "last", "end", "low", "high"] (defScope s_next_layer) _ _ _; exact ⟨rfl, by decide +kernel, by decide +kernel, by decide +kernel, by decide +kernel, by decide +kernel, rfl⟩) (pi_range2 (by rfl) B.range (pa_cons (pv 7) (pa_cons (pe_op op_add (pv 8) pe_int) pa_nil))) (fun C' s₀ H₀ fp => ⟨(pg_name (i := 0) nd_next_layer_1 rfl (Or.inl rfl)), pts_nil, (pe_tup (pa_cons (pe_op op_add (pe_ix (ix_tupK (K := K) rfl) (pe_ix (ix_listK (K := K) rfl) (pv 1) (pv 0) (fun _ _ => rfl)) pe_int (fun _ _ => rfl)) (pe_ix (ix_listK (K := K) rfl) (pe_ix (ix_listK (K := K) rfl) (pv 2) (pv 3) (fun _ _ => rfl)) (pv 0) (fun _ _ => rfl))) (pa_cons (pv 0) pa_nil)))⟩)) pa_nil)) (pg_sub (pv 4) (pv 6) set_list))
        (pss_one (ps_set (i := 5) sc_next_layer.nd rfl (Or.inl rfl) (pe_ix ix_tup (pe_ix ix_list (pv 4) (pv 6) (fun _ _ => rfl)) pe_int (fun _ _ => rfl))))))))
        (pss_one (ps_ret (pv 4))))))), ?_⟩
    obtain ⟨as, hp, hA⟩ := id R
    have hlen : (as.map V.ref).length = road.length + 1 := by rw [List.length_map, Paired.length hA, onesAll_len]
    refine ⟨_, rfl, p, _, rfl, .inl (SqL.of hp), _, _, rfl, rfl, ?_⟩
    have en : (((as.map V.ref).length : Nat) : Int) - 1 = (road.length : Int) := by rw [hlen]; (first | lia | omega)
    show gName 3 (V.int ((((as.map V.ref).length : Nat) : Int) - 1)) _ _ _
    rw [en]
    refine ⟨_, rfl, _, _, rfl, rfl, _, rfl, by (first | lia | omega), by (first | lia | omega), ?_⟩
    show CompWalk (Itr 0 ((road.length : Int) + 1).toNat) _ _ _ _ _ _ _ _
    rw [show ((road.length : Int) + 1).toNat = road.length + 1 by (first | lia | omega)]
    refine comp_by (n := road.length + 1) (fun D i σ ys H2 => Same H H2 ∧ H D = none ∧ (∃ u, σ = [u]) ∧ i ≤ road.length + 1 ∧ ys = List.replicate i V.non) ?_ ?_ ?_
    · exact fun D hD => ⟨same_upd hD, hD, ⟨_, rfl⟩, Nat.zero_le _, rfl⟩
    · rintro D i σ ys H2 hi ⟨s2, hD, ⟨u, rfl⟩, _, rfl⟩ hD'
      refine ⟨hi, fun x H3 y => ?_⟩
      obtain ⟨rfl, rfl⟩ := y
      refine nameT (yesT (iteT ?_))
      refine ⟨small5000 (by rw [List.length_replicate]; (first | lia | omega)), hD', same_upd2 s2 hD, hD, ⟨_, rfl⟩, by (first | lia | omega), by rw [List.replicate_succ']⟩
    rintro D σ ys H2 ⟨s2, hD, ⟨u, rfl⟩, _, rfl⟩ hD'
    refine ⟨Nat.le_refl _, ?_⟩
    have S0 : StepsAt H2 D (layTo road (k + 2) 0) := by
      refine ⟨_, hD', ?_⟩
      have : ∀ m, m ≤ road.length + 1 → Steps H2 (List.replicate m V.non) ((List.range m).map fun j => if j + 0 ≤ road.length then none else some (fF road (k + 2) j, aA road (k + 2) j)) := by
        intro m
        induction m with
        | zero => intro _; exact .nil
        | succ m ih =>
          intro h
          rw [List.replicate_succ', range_snoc]
          refine paired_snoc (ih (by (first | lia | omega))) ?_
          show StepIs H2 V.non (if m + 0 ≤ road.length then none else _)
          rw [if_pos (by (first | lia | omega))]
          rfl
      exact this _ (Nat.le_refl _)
    refine ⟨_, rfl, _, _, rfl, rfl, ?_⟩
    refine ⟨_, rfl, _, rfl, _, _, rfl, rfl, _, rfl, _, _, rfl, ⟨by (first | lia | omega), by (first | lia | omega), by (first | lia | omega), by (first | lia | omega)⟩, ?_⟩
    rw [show ((road.length : Int) - (((k + 2 : Nat) : Int) - 1)).toNat = road.length - (k + 1) by (first | lia | omega)]
    refine for_by (n := road.length - (k + 1)) (fun i σ H3 => ∃ (v6 v7 v8 : Option V) (z : Nat), σ = [some (.ref p), some (.ref b), some (.int (((k + 2 : Nat) : Int))), some (.int (road.length : Int)), some (.ref D), some (.int (z : Int)), v6, v7, v8] ∧
      Same H H3 ∧ i ≤ road.length - (k + 1) ∧ StepsAt H3 D (layTo road (k + 2) i) ∧ (i = 0 → z = road.length - 1) ∧ (0 < i → z = aA road (k + 2) (road.length - i + 1))) ?_ ?_ ?_
    · refine ⟨none, none, none, road.length - 1, ?_, s2, Nat.zero_le _, S0, fun _ => rfl, fun z => absurd z (Nat.lt_irrefl _)⟩
      rw [show ((road.length - 1 : Nat) : Int) = (road.length : Int) - 1 by (first | lia | omega)]
      rfl
    · rintro i σ H3 hi ⟨v6, v7, v8, z, rfl, s3, _, SL, z1, z2⟩
      refine ⟨hi, fun x H4 y => ?_⟩
      obtain ⟨rfl, rfl⟩ := y
      have he : (road.length : Int) + (i : Int) * (-1) = ((road.length - i : Nat) : Int) := by (first | lia | omega)
      generalize hE : road.length - i = e at *
      have e1 : k + 2 ≤ e := by (first | lia | omega)
      have e2 : e ≤ road.length := by (first | lia | omega)
      obtain ⟨a1, a2, a3, a4⟩ := aA_props (road := road) e1
      have p1 := aA_post G e1 e2
      have hz : aA road (k + 2) e ≤ z := by
        rcases Nat.eq_zero_or_pos i with y | y
        · rw [z1 y]; (first | lia | omega)
        · rw [z2 y]
          exact aA_house G e1 (by (first | lia | omega))
      have R3 := R.same s3
      have Sb3 := Sb.same s3
      refine nameT ⟨_, rfl, _, rfl, steps_ix Sb3 (i := e) (layerK_at (by (first | lia | omega)) e2) he fun t ht => ⟨t, _, _, _, rfl, rfl, ht, rfl, ?_⟩⟩
      refine ⟨_, rfl, _, _, rfl, rfl, _, _, rfl, ?_⟩
      show gName 7 (V.int (if ((k + 2 : Nat) : Int) - 1 > (aA road (k + 1) e : Int) then ((k + 2 : Nat) : Int) - 1 else (aA road (k + 1) e : Int))) _ _ _
      obtain ⟨lo, hlo, hlo2⟩ : ∃ lo : Nat, (if ((k + 2 : Nat) : Int) - 1 > (aA road (k + 1) e : Int) then ((k + 2 : Nat) : Int) - 1 else (aA road (k + 1) e : Int)) = (lo : Int) ∧ lo = max (aA road (k + 1) e) (k + 1) := ⟨max (aA road (k + 1) e) (k + 1), by split <;> (first | lia | omega), rfl⟩
      rw [hlo]
      refine ⟨_, rfl, _, rfl, _, _, rfl, rfl, _, _, rfl, ?_⟩
      show gName 8 (V.int (if ((road.length : Int) + (i : Int) * (-1)) - 1 < (z : Int) then ((road.length : Int) + (i : Int) * (-1)) - 1 else (z : Int))) _ _ _
      obtain ⟨hi', hhi, hhi2⟩ : ∃ hi' : Nat, (if ((road.length : Int) + (i : Int) * (-1)) - 1 < (z : Int) then ((road.length : Int) + (i : Int) * (-1)) - 1 else (z : Int)) = (hi' : Int) ∧ hi' = min z (e - 1) := ⟨min z (e - 1), by rw [he]; split <;> (first | lia | omega), rfl⟩
      rw [hhi]
      refine ⟨_, rfl, _, rfl, _, _, rfl, rfl, _, _, rfl, ⟨by (first | lia | omega), by (first | lia | omega), by (first | lia | omega), by (first | lia | omega)⟩, ?_⟩
      show CompWalk (Itr (lo : Int) ((hi' : Int) + 1 - (lo : Int)).toNat) _ _ _ _ _ _ _ _
      have hm : ((hi' : Int) + 1 - (lo : Int)).toNat = hi' - lo + 1 := by (first | lia | omega)
      rw [hm]
      refine comp_by (n := hi' - lo + 1) (fun D2 i2 σ ys H5 => Same H4 H5 ∧ H4 D2 = none ∧ (∃ u, σ = [u, some (.ref b), some (.ref p), some (.int ((road.length : Int) + (i : Int) * (-1)))]) ∧ i2 ≤ hi' - lo + 1 ∧ ∃ ts : List Addr, ys = ts.map V.ref ∧ Prs H5 ts ((List.range i2).map fun t => (fF road (k + 1) (lo + t) + wW road (lo + t) e, ((lo + t : Nat) : Int)))) ?_ ?_ ?_
      · exact fun D2 hD2 => ⟨same_upd hD2, hD2, ⟨_, rfl⟩, Nat.zero_le _, [], rfl, .nil⟩
      · rintro D2 i2 σ ys H5 hi2 ⟨s5, hD2, ⟨u, rfl⟩, _, ts, rfl, hT⟩ hD2'
        refine ⟨hi2, fun x H6 y => ?_⟩
        obtain ⟨rfl, rfl⟩ := y
        have ef : (lo : Int) + (i2 : Int) = ((lo + i2 : Nat) : Int) := by (first | lia | omega)
        refine nameT (yesT (iteT ?_))
        refine ⟨_, rfl, _, rfl, steps_ix (Sb3.same s5) (i := lo + i2) (layerK_at (by (first | lia | omega)) (by (first | lia | omega))) ef fun t' ht' => ⟨t', _, _, _, rfl, rfl, ht', rfl, ?_⟩⟩
        refine ⟨_, rfl, _, rfl, rows_ix (R3.same s5) (onesAll_at (e := e) (by (first | lia | omega)) e2) he fun a ha => ?_⟩
        refine ⟨_, rfl, ints_ix ha (i := lo + i2) (ones_at (by (first | lia | omega))) ef ?_⟩
        refine ⟨_, _, rfl, rfl, _, rfl, ?_⟩
        refine ⟨Nat.le_of_lt (small1000 (show 2 ≤ 1000 by decide)), fun t2 ht2 => ?_⟩
        have hDt : D2 ≠ t2 := ne_of_none hD2' ht2
        have hyl : (ts.map V.ref).length = i2 := by rw [List.length_map, Paired.length hT, List.length_map, List.length_range]
        have hD3 : upd H6 t2 (.tup [V.int (fF road (k + 1) (lo + i2) + wW road (lo + i2) e), V.int ((lo : Int) + (i2 : Int))]) D2 = some (.lst (ts.map V.ref)) := by rw [upd_ne hDt]; exact hD2'
        refine ⟨small5000 (by (first | lia | omega)), hD3, same_upd2 (s5.trans (same_upd ht2)) hD2, hD2, ⟨_, rfl⟩, by (first | lia | omega), ts ++ [t2], by rw [List.map_append]; rfl, ?_⟩
        rw [range_snoc]
        refine paired_snoc ?_ ?_
        · refine paired_imp (fun t' pl hh => ?_) hT
          rw [upd_ne (ne_of (same_upd ht2 _ _ hh) hD3 (by intro y; cases y))]
          exact same_upd ht2 _ _ hh
        · rw [upd_ne (Ne.symm hDt), upd_same, ef]
      · rintro D2 σ ys H5 ⟨s5, hD2, ⟨u, rfl⟩, _, ts, rfl, hT⟩ hD2'
        refine ⟨Nat.le_refl _, ?_⟩
        have gv : ∀ t, t < hi' - lo + 1 → ((List.range (hi' - lo + 1)).map fun t => (fF road (k + 1) (lo + t) + wW road (lo + t) e, ((lo + t : Nat) : Int))).getD t (0, 0) = (fF road (k + 1) (lo + t) + wW road (lo + t) e, ((lo + t : Nat) : Int)) := fun t ht => by simp [List.getD_eq_getElem?_getD, ht]
        refine ⟨D2, ts, _, rfl, SqL.of hD2', hT, by rw [List.length_map, List.length_range]; (first | lia | omega), fun i0 t hi0 ht hH nb _ => ?_⟩
        rw [List.length_map, List.length_range] at hi0 nb
        rw [gv i0 hi0] at hH
        have hi0e : lo + i0 = aA road (k + 2) e := by
          have n1 := nb (aA road (k + 2) e - lo) (by (first | lia | omega))
          rw [gv _ (by (first | lia | omega)), gv i0 hi0, show lo + (aA road (k + 2) e - lo) = aA road (k + 2) e by (first | lia | omega), Bool.eq_false_iff] at n1
          have n1' : ¬ ((fF road (k + 1) (aA road (k + 2) e) + wW road (aA road (k + 2) e) e) < (fF road (k + 1) (lo + i0) + wW road (lo + i0) e) ∨ ((fF road (k + 1) (aA road (k + 2) e) + wW road (aA road (k + 2) e) e) = (fF road (k + 1) (lo + i0) + wW road (lo + i0) e) ∧ ((aA road (k + 2) e : Nat) : Int) < ((lo + i0 : Nat) : Int))) := fun y => n1 ((lexP_iff _ _).mpr y)
          have f1 := fF_eq road k e
          have f2 := a3 (lo + i0) (by (first | lia | omega)) (by (first | lia | omega))
          rcases Nat.lt_trichotomy (lo + i0) (aA road (k + 2) e) with y | y | y
          · have := a4 (lo + i0) (by (first | lia | omega)) y
            (first | lia | omega)
          · exact y
          · (first | lia | omega)
        rw [hi0e, ← fF_eq road k e] at hH
        have SL5 := SL.same s5
        obtain ⟨xs, hx1, hx2⟩ := id SL5
        have hxl : xs.length = road.length + 1 := by rw [Paired.length hx2]; simp [layTo]
        refine ⟨_, rfl, _, rfl, D, xs, _, e, rfl, rfl, hx1, by rw [he]; exact ixN_nat (by (first | lia | omega)), ?_⟩
        have hDn : D2 ≠ D := fun y => by rw [y] at hD2; obtain ⟨xs', h', _⟩ := SL; rw [h'] at hD2; cases hD2
        have s6 : Same H (upd H5 D (.lst (xs.set e (.ref t)))) := same_upd2 (s3.trans s5) hD
        have SL6 : StepsAt (upd H5 D (.lst (xs.set e (.ref t)))) D (layTo road (k + 2) (i + 1)) := by
          refine ⟨_, upd_same, ?_⟩
          rw [← layTo_set (k := k + 2) (show i ≤ road.length by (first | lia | omega)), hE]
          refine Steps.lst hx1 (paired_set ?_ hx2)
          exact ⟨t, rfl, hH⟩
        have hat : (layTo road (k + 2) (i + 1))[e]? = some (some (fF road (k + 2) e, aA road (k + 2) e)) := by
          unfold layTo
          rw [List.getElem?_map, List.getElem?_range (by (first | lia | omega))]
          show some (if e + (i + 1) ≤ road.length then none else _) = _
          rw [if_neg (by (first | lia | omega))]
        refine ⟨_, rfl, _, rfl, steps_ix SL6 hat he fun t3 ht3 => ⟨t3, _, _, _, rfl, rfl, ht3, rfl, ?_⟩⟩
        refine ⟨_, _, _, aA road (k + 2) e, rfl, s6, by (first | lia | omega), SL6, fun y => absurd y (by (first | lia | omega)), fun _ => ?_⟩
        rw [show road.length - (i + 1) + 1 = e by (first | lia | omega)]
    · rintro σ H3 ⟨v6, v7, v8, z, rfl, s3, _, SL, z1, z2⟩
      refine ⟨Nat.le_refl _, _, rfl, q D H3 s3 hD ?_⟩
      rw [← layTo_end road hk, show road.length + 1 - (k + 2) = road.length - (k + 1) by (first | lia | omega)]
      exact SL
end
end Ph
set_option Elab.async false
set_option linter.all false
set_option maxRecDepth 100000
set_option maxHeartbeats 4000000
namespace Ph
open PySem PySem.Spec PyProof.Rows L2
theorem StepsAt.upd {H : Hp} {a D : Addr} {os : List (Option (Int × Nat))} {xs : List V} {o : HO} (h : StepsAt H a os) (hD : H D = some (.lst xs)) (ne : a ≠ D) : StepsAt (upd H D o) a os := by
  obtain ⟨vs, h1, h2⟩ := h
  exact ⟨vs, by rw [upd_ne ne]; exact h1, h2.lst hD⟩
abbrev Lays (H : Hp) (road : List (Int × Int)) : List Addr → List Nat → Prop := Paired fun a t => StepsAt H a (layerK road (t + 1))
def LaysAt (H : Hp) (p : Addr) (road : List (Int × Int)) (k : Nat) : Prop := ∃ as : List Addr, H p = some (.lst (as.map V.ref)) ∧ Lays H road as (List.range k)
theorem Lays.same {H H' : Hp} {road : List (Int × Int)} (e : Same H H') {as : List Addr} {ts : List Nat} (h : Lays H road as ts) : Lays H' road as ts := paired_imp (fun _ _ z => z.same e) h
theorem LaysAt.same {H H' : Hp} {p : Addr} {road : List (Int × Int)} {k : Nat} (e : Same H H') (h : LaysAt H p road k) : LaysAt H' p road k := by
  obtain ⟨as, h1, h2⟩ := h
  exact ⟨as, e _ _ h1, h2.same e⟩
theorem Lays.upd {H : Hp} {road : List (Int × Int)} {D : Addr} {xs : List V} {o : HO} (hD : H D = some (.lst xs)) : ∀ {as : List Addr} {ts : List Nat}, Lays H road as ts → D ∉ as → Lays (upd H D o) road as ts
  | _, _, .nil, _ => .nil
  | a :: _, _, .cons r t, h => .cons (r.upd hD fun z => h (by rw [z]; exact List.mem_cons_self)) (Lays.upd hD t fun z => h (List.mem_cons_of_mem _ z))
section
variable {P : Program} {w : World} {K : PySem.W.Frag} {mg : Str → Option Value} {base : Heap}
def spLays : Sp := fun vs H Q _ => ∃ (r : Addr) (road : List (Int × Int)) (m : Nat), vs = [.ref r, .int (m : Int)] ∧ RoadAt H r road ∧ Good road ∧ 
    ∀ (l : Addr) (H' : Hp), Same H H' → H l = none → LaysAt H' l road (min m road.length) → Q (.ref l) H'
theorem ok_lays {f fA fO fL fN : Addr} {fd dA dO dL dN : FuncData} (F : Fun K "layers_up_to" "layers_up_to" s_layers_up_to f fd) (B : Blt mg) (Capart : Callee K mg "apart" sApart ["road", "house", "other"] fA dA)
    (Cone_ways_to : Callee K mg "one_ways_to" s_one_ways_to ["road", "end"] fO dO) (Cfirst_layer : Callee K mg "first_layer" s_first_layer ["one_ways"] fL dL) (Cnext_layer : Callee K mg "next_layer" s_next_layer ["one_ways", "before", "posts"] fN dN) : FnOk P w K mg base CX0 3 f fd ["road", "most"] spLays := by
  have Gone_ways_to : FnOk P w K mg base CX0 2 fO dO ["road", "end"] spOnes := ok_ones Cone_ways_to.fn B Capart
  have Gfirst_layer : FnOk P w K mg base CX0 1 fL dL ["one_ways"] spFirst := ok_first Cfirst_layer.fn B
  have Gnext_layer : FnOk P w K mg base CX0 1 fN dN ["one_ways", "before", "posts"] spNext := ok_next Cnext_layer.fn B
  refine F.ok sc_layers_up_to (fun vs H Q E h => ?_) (fun cdv A outer s H vs Q E hr h => ?_)
  · obtain ⟨r, road, m, rfl, _⟩ := h
    rfl
  · obtain ⟨r, road, m, rfl, R, G, q⟩ := h
    refine ⟨_, (pss_cons (ps_set (i := 2) sc_layers_up_to.nd rfl (Or.inl rfl) (pe_callB (call_min2 rfl) (by rfl) B.min boot_min (pa_cons (pv 1) (pa_cons (pe_callB call_len_seq (by rfl) B.len boot_len (pa_cons (pv 0) pa_nil)) pa_nil))))
        (pss_cons (ps_if (pt_cmpR op_eq (pv 2) pe_int (nomark _))
        (pss_one (ps_ret (pe_lst pa_nil)))
        pss_nil)
        (pss_cons (ps_set (i := 3) sc_layers_up_to.nd rfl (Or.inl rfl) (pe_op op_cat (pe_lst (pa_cons (pe_lst pa_nil) pa_nil)) (pe_comp (N := ["end", "road"]) (L := 1) (ix := [0]) rfl (by show CScope _ ["road", "most", "limit", "one_ways", "layers", "posts"] (defScope s_layers_up_to) _ _ _; exact ⟨rfl, by decide +kernel, by decide +kernel, by decide +kernel, by decide +kernel, by decide +kernel, rfl⟩) (pi_range2 (by rfl) B.range (pa_cons pe_int (pa_cons (pe_op op_add (pe_callB call_len_seq (by rfl) B.len boot_len (pa_cons (pv 0) pa_nil)) pe_int) pa_nil))) (fun C' s₀ H₀ fp => ⟨(pg_name (i := 0) nd_layers_up_to_0 rfl (Or.inl rfl)), pts_nil, (pe_call Gone_ways_to (hr.mono (by decide)) (by rfl) Cone_ways_to.m Cone_ways_to.fn.kp Cone_ways_to.b .nil pass0 (pa_cons (pv 1) (pa_cons (pv 0) pa_nil)))⟩))))
        (pss_cons (ps_set (i := 4) sc_layers_up_to.nd rfl (Or.inl rfl) (pe_lst (pa_cons (pe_call Gfirst_layer (hr.mono (by decide)) (by rfl) Cfirst_layer.m Cfirst_layer.fn.kp Cfirst_layer.b .nil pass0 (pa_cons (pv 3) pa_nil)) pa_nil)))
        (pss_cons (ps_for PassesOwn.never rfl (pi_range2 (by rfl) B.range (pa_cons pe_int (pa_cons (pe_op op_add (pv 2) pe_int) pa_nil))) (pg_name (i := 5) sc_layers_up_to.nd rfl (Or.inl rfl))
        (pss_one (ps_expr (pe_bm PySem.F.plainAttrs_list PySem.F.slot_list_append PySem.F.type_list_append mt_append (pv 4) (pa_cons (pe_call Gnext_layer (hr.mono (by decide)) (by rfl) Cnext_layer.m Cnext_layer.fn.kp Cnext_layer.b .nil pass0 (pa_cons (pv 3) (pa_cons (pe_ix ix_list (pv 4) (pe_un un_neg pe_int) (fun _ _ => rfl)) (pa_cons (pv 5) pa_nil)))) pa_nil)))))
        (pss_one (ps_ret (pv 4)))))))), ?_⟩
    have hsm := G.small
    obtain ⟨ts, hR, hT⟩ := id R
    have hlt : (ts.map V.ref).length = road.length := by rw [List.length_map, hT.len]
    refine ⟨_, rfl, _, rfl, r, _, rfl, .inl (SqL.of hR), _, _, rfl, ?_⟩
    show gName 2 (V.int (if (((ts.map V.ref).length : Nat) : Int) < (m : Int) then (((ts.map V.ref).length : Nat) : Int) else (m : Int))) _ _ _
    have e1 : (if (((ts.map V.ref).length : Nat) : Int) < (m : Int) then (((ts.map V.ref).length : Nat) : Int) else (m : Int)) = ((min m road.length : Nat) : Int) := by rw [hlt]; split <;> (first | lia | omega)
    rw [e1]
    generalize hk : min m road.length = k at *
    have hkn : k ≤ road.length := by (first | lia | omega)
    refine ⟨_, rfl, rfl, _, rfl, ?_⟩
    refine ite2 (fun hc => ?_) (fun hc => ?_)
    · have hc' : k = 0 := by have := of_decide_eq_true hc; injection this with this; (first | lia | omega)
      subst hc'
      exact ⟨Nat.zero_le _, fun l hl => q l _ (same_upd hl) hl ⟨[], upd_same, .nil⟩⟩
    have hk0 : 0 < k := by
      rcases Nat.eq_zero_or_pos k with z | z
      · exact absurd (decide_eq_true (by rw [z]; rfl)) hc
      · exact z
    refine ⟨Nat.zero_le _, fun l0 hl0 => ?_⟩
    have s1 : Same H (upd H l0 (.lst [])) := same_upd hl0
    have h10 := upd_same (H := H) (a := l0) (o := .lst [])
    generalize upd H l0 (.lst []) = H1 at s1 h10
    refine ⟨Nat.le_of_lt (small1000 (show 1 ≤ 1000 by decide)), fun l1 hl1 => ?_⟩
    have s12 : Same H1 (upd H1 l1 (.lst [.ref l0])) := same_upd hl1
    have h21 := upd_same (H := H1) (a := l1) (o := .lst [.ref l0])
    generalize upd H1 l1 (.lst [.ref l0]) = H2 at s12 h21
    have s2 := s1.trans s12
    refine ⟨_, rfl, r, _, rfl, .inl (SqL.of (s2 _ _ hR)), _, _, rfl, rfl, 1, _, rfl, ⟨by (first | lia | omega), by (first | lia | omega), by rw [hlt]; (first | lia | omega), by rw [hlt]; (first | lia | omega)⟩, ?_⟩
    show CompWalk (Itr 1 ((((ts.map V.ref).length : Nat) : Int) + 1 - 1).toNat) _ _ _ _ _ _ _ _
    have en : ((((ts.map V.ref).length : Nat) : Int) + 1 - 1).toNat = road.length := by rw [hlt]; (first | lia | omega)
    rw [en]
    refine comp_by (n := road.length) (fun D i σ ys H3 => Same H2 H3 ∧ H2 D = none ∧ (∃ u, σ = [u, some (.ref r)]) ∧ i ≤ road.length ∧ ∃ as : List Addr, ys = as.map V.ref ∧ Rows H3 as ((List.range i).map fun e => ones road (e + 1)) ∧ D ∉ as) ?_ ?_ ?_
    · exact fun D hD => ⟨same_upd hD, hD, ⟨_, rfl⟩, Nat.zero_le _, [], rfl, .nil, by simp⟩
    · rintro D i σ ys H3 hi ⟨s3, hD, ⟨u, rfl⟩, _, as, rfl, hA, hDA⟩ hD'
      refine ⟨hi, fun x H4 y => ?_⟩
      obtain ⟨rfl, rfl⟩ := y
      refine nameT (yesT (iteT ?_))
      refine ⟨_, rfl, _, rfl, r, road, i + 1, ?_, (R.same s2).same s3, G, by (first | lia | omega), by (first | lia | omega), fun l H5 s5 hl hI => ?_⟩
      · show [V.ref r, V.int (1 + (i : Int))] = [V.ref r, V.int ((i + 1 : Nat) : Int)]
        rw [show (1 + (i : Int)) = ((i + 1 : Nat) : Int) by (first | lia | omega)]
      have hal : (as.map V.ref).length = i := by rw [List.length_map, Paired.length hA, List.length_map, List.length_range]
      have hDl : l ≠ D := fun z => by rw [z] at hl; rw [hl] at hD'; cases hD'
      refine ⟨small5000 (by (first | lia | omega)), s5 _ _ hD', same_upd2 (s3.trans s5) hD, hD, ⟨_, rfl⟩, by (first | lia | omega), as ++ [l], by rw [List.map_append]; rfl, ?_, ?_⟩
      · rw [range_snoc]
        refine paired_snoc ((hA.same s5).upd hDA) ?_
        show upd H5 D _ l = _
        rw [upd_ne hDl]
        exact hI
      · rw [List.mem_append]
        rintro (z | z)
        · exact hDA z
        · exact hDl (List.mem_singleton.mp z).symm
    · rintro D σ ys H3 ⟨s3, hD, ⟨u, rfl⟩, _, as, rfl, hA, hDA⟩ hD'
      have hal : (as.map V.ref).length = road.length := by rw [List.length_map, Paired.length hA, List.length_map, List.length_range]
      refine ⟨Nat.le_refl _, l1, D, _, _, rfl, rfl, s3 _ _ h21, hD', Nat.le_of_lt (small5000 (by rw [hal]; show 1 + road.length ≤ 5000; (first | lia | omega))), fun p hp => ?_⟩
      have s34 : Same H3 (upd H3 p (.lst ([.ref l0] ++ as.map V.ref))) := same_upd hp
      have hp4 := upd_same (H := H3) (a := p) (o := .lst ([.ref l0] ++ as.map V.ref))
      generalize upd H3 p (.lst ([.ref l0] ++ as.map V.ref)) = H4 at s34 hp4
      have s24 := s3.trans s34
      have Rw : RowsAt H4 p (onesAll road) := ⟨l0 :: as, hp4, .cons (s24 _ _ (s12 _ _ h10)) (hA.same s34)⟩
      have s4 := s2.trans s24
      refine ⟨_, rfl, p, road, rfl, Rw, hsm, fun f1 H5 s45 hf1 hS => ?_⟩
      rw [layer1_eq] at hS
      refine ⟨Nat.le_of_lt (small1000 (show 1 ≤ 1000 by decide)), fun l hl => ?_⟩
      have s56 : Same H5 (upd H5 l (.lst [.ref f1])) := same_upd hl
      have hl6 := upd_same (H := H5) (a := l) (o := .lst [.ref f1])
      generalize upd H5 l (.lst [.ref f1]) = H6 at s56 hl6
      have s5 := s4.trans s45
      have hl0' : H l = none := s5.free hl
      have s6 := s5.trans s56
      have s46 := s45.trans s56
      refine ⟨_, rfl, _, _, rfl, rfl, 2, _, rfl, ⟨by (first | lia | omega), by (first | lia | omega), by (first | lia | omega), by (first | lia | omega)⟩, ?_⟩
      rw [show ((k : Int) + 1 - 2).toNat = k - 1 by (first | lia | omega)]
      refine for_by (n := k - 1) (fun i σ H7 => ∃ (v : Option V) (as : List Addr), σ = [some (.ref r), some (.int (m : Int)), some (.int (k : Int)), some (.ref p), some (.ref l), v] ∧ Same H4 H7 ∧ i ≤ k - 1 ∧ H7 l = some (.lst (as.map V.ref)) ∧ Lays H7 road as (List.range (i + 1)) ∧ l ∉ as) ?_ ?_ ?_
      · refine ⟨none, [f1], rfl, s46, Nat.zero_le _, hl6, .cons (hS.same s56) .nil, fun z => ?_⟩
        have e := List.mem_singleton.mp z
        obtain ⟨vs, hv, _⟩ := hS
        rw [← e, hl] at hv
        cases hv
      · rintro i σ H7 hi ⟨v, as, rfl, s7, _, hl7, hL, hla⟩
        refine ⟨hi, fun x H8 y => ?_⟩
        obtain ⟨rfl, rfl⟩ := y
        have hal2 : as.length = i + 1 := by rw [Paired.length hL, List.length_range]
        obtain ⟨a, ea, hSa⟩ := paired_at hL (i := i) (y := i) (List.getElem?_range (by (first | lia | omega)))
        refine nameT ⟨_, rfl, .inl ⟨rfl, _, SqL.of hl7⟩, ?_⟩
        refine ⟨_, rfl, _, rfl, _, rfl, l, _, _, _, rfl, rfl, SqL.of hl7, atI_lastAt (v := .ref a) (by rw [List.length_map, hal2, List.getElem?_map, show i + 1 - 1 = i by (first | lia | omega), ea]; rfl), _, rfl, ?_⟩
        refine ⟨p, a, road, i, ?_, Rw.same s7, hSa, G, by (first | lia | omega), fun l2 H9 s9 hl2 hS2 => ?_⟩
        · show [V.ref p, V.ref a, V.int (2 + (i : Int))] = _
          rw [show (2 + (i : Int)) = ((i + 2 : Nat) : Int) by (first | lia | omega)]
        have hne : l2 ≠ l := fun z => by rw [z, hl7] at hl2; cases hl2
        refine ⟨l, _, _, rfl, rfl, s9 _ _ hl7, small5000 (by rw [List.length_map]; (first | lia | omega)), ?_⟩
        have hl4 : H4 l = none := s45.free hl
        refine ⟨_, as ++ [l2], rfl, same_upd2 (s7.trans s9) hl4, by (first | lia | omega), by rw [upd_same, List.map_append]; rfl, ?_, ?_⟩
        · rw [List.range_succ]
          exact paired_snoc ((hL.same s9).upd (s9 _ _ hl7) hla) (hS2.upd (s9 _ _ hl7) hne)
        · rw [List.mem_append]
          rintro (z | z)
          · exact hla z
          · exact hne (List.mem_singleton.mp z).symm
      · rintro σ H7 ⟨v, as, rfl, s7, _, hl7, hL, hla⟩
        rw [show k - 1 + 1 = k by (first | lia | omega)] at hL
        exact ⟨Nat.le_refl _, _, rfl, q l H7 (s4.trans s7) hl0' ⟨as, hl7, hL⟩⟩
end
def leasts (road : List (Int × Int)) (k : Nat) : List Int := (List.range k).map fun t => fF road (t + 1) road.length
theorem layerK_len (road : List (Int × Int)) (k : Nat) : (layerK road k).length = road.length + 1 := by simp [layerK]
theorem last_ix {K : PySem.W.Frag} {H : Hp} {a : Addr} {road : List (Int × Int)} {t : Nat} (S : StepsAt H a (layerK road (t + 1))) (ht : t + 1 ≤ road.length) {Q : VK} (h : Q (.int (fF road (t + 1) road.length)) H) : rIxL K (.ref a) (.int (-1)) H fun x H1 => rIxT K x (.int 0) H1 Q := by
  obtain ⟨vs, e1, e2⟩ := S
  have hvl : vs.length = road.length + 1 := by rw [Paired.length e2, layerK_len]
  obtain ⟨v, e3, t', e4, e5⟩ := paired_at e2 (layerK_at (road := road) (k := t + 1) (j := road.length) ht (Nat.le_refl _))
  subst e4
  exact ⟨a, vs, _, _, rfl, rfl, SqL.of e1, atI_lastAt (by rw [hvl]; exact e3), t', _, _, _, rfl, rfl, SqT.of e5, rfl, h⟩
end Ph
set_option Elab.async false
set_option linter.all false
set_option maxRecDepth 100000
set_option maxHeartbeats 4000000
namespace Ph
open PySem PySem.Spec PyProof.Rows L2
section
variable {P : Program} {w : World} {K : PySem.W.Frag} {mg : Str → Option Value} {base : Heap}
def spWays : Sp := fun vs H Q _ => ∃ (r : Addr) (road : List (Int × Int)) (m : Nat), vs = [.ref r, .int (m : Int)] ∧ RoadAt H r road ∧ Good road ∧ ∀ (l : Addr) (H' : Hp), Same H H' → H l = none → IntsAt H' l (leasts road (min m road.length)) → Q (.ref l) H'
theorem ok_ways {f fA fO fL fN fLs fCR fCN fW fF fH fR : Addr} {fd dA dO dL dN dLs dCR dCN dW dF dH dR : FuncData} (F : Fun K "ways" "ways" s_ways f fd) (B : Blt mg) (U : Nums K mg fW fF dW dF) (CH : Callee K mg "is_house" sHouse ["value"] fH dH) (CR : Callee K mg "is_rising" sRising ["numbers"] fR dR) (Capart : Callee K mg "apart" sApart ["road", "house", "other"] fA dA)
    (Cone_ways_to : Callee K mg "one_ways_to" s_one_ways_to ["road", "end"] fO dO) (Cfirst_layer : Callee K mg "first_layer" s_first_layer ["one_ways"] fL dL) (Cnext_layer : Callee K mg "next_layer" s_next_layer ["one_ways", "before", "posts"] fN dN) (Clayers_up_to : Callee K mg "layers_up_to" s_layers_up_to ["road", "most"] fLs dLs)
    (Ccheck_road : Callee K mg "check_road" sCheckRoad ["road"] fCR dCR) (Ccheck_from_nought : Callee K mg "check_from_nought" s_check_from_nought ["number"] fCN dCN) : FnOk P w K mg base CX0 5 f fd ["road", "most"] spWays := by
  have Gcheck_road : FnOk P w K mg base CX0 4 fCR dCR ["road"] spCheckRoad := ok_checkRoad Ccheck_road.fn B U CH CR
  have Gcheck_from_nought : FnOk P w K mg base CX0 3 fCN dCN ["number"] spNought := ok_nought Ccheck_from_nought.fn B U
  have Glayers_up_to : FnOk P w K mg base CX0 3 fLs dLs ["road", "most"] spLays := ok_lays Clayers_up_to.fn B Capart Cone_ways_to Cfirst_layer Cnext_layer
  refine F.ok sc_ways (fun vs H Q E h => ?_) (fun cdv A outer s H vs Q E hr h => ?_)
  · obtain ⟨r, road, m, rfl, _⟩ := h
    rfl
  · obtain ⟨r, road, m, rfl, R, G, q⟩ := h
    have hsm := G.small
    refine ⟨_, (pss_cons (ps_expr (pe_call Gcheck_road (hr.mono (by decide)) (by rfl) Ccheck_road.m Ccheck_road.fn.kp Ccheck_road.b .nil pass0 (pa_cons (pv 0) pa_nil)))
        (pss_cons (ps_expr (pe_call Gcheck_from_nought (hr.mono (by decide)) (by rfl) Ccheck_from_nought.m Ccheck_from_nought.fn.kp Ccheck_from_nought.b .nil pass0 (pa_cons (pv 1) pa_nil)))
        (pss_one (ps_ret (pe_comp (N := ["layer"]) (L := 1) (ix := []) rfl (by show CScope _ ["road", "most"] (defScope s_ways) _ _ _; exact ⟨rfl, by decide +kernel, by decide +kernel, by decide +kernel, by decide +kernel, by decide +kernel, rfl⟩) (pi_list (pe_call Glayers_up_to (hr.mono (by decide)) (by rfl) Clayers_up_to.m Clayers_up_to.fn.kp Clayers_up_to.b .nil pass0 (pa_cons (pv 0) (pa_cons (pv 1) pa_nil)))) (fun C' s₀ H₀ fp => ⟨(pg_name (i := 0) nd_ways_0 rfl (Or.inl rfl)), pts_nil, (pe_ix (ix_tupK (K := K) rfl) (pe_ix (ix_listK (K := K) rfl) (pv 0) (pe_un un_neg pe_int) (fun _ _ => rfl)) pe_int (fun _ _ => rfl))⟩)))))), ?_⟩
    refine ⟨_, rfl, r, road, rfl, R, G, fun H1 s1 => ?_⟩
    refine ⟨_, rfl, (m : Int), rfl, by (first | lia | omega), ?_⟩
    refine ⟨_, rfl, _, rfl, r, road, m, rfl, R.same s1, G, fun l H2 s2 hl hL => ?_⟩
    obtain ⟨as, hl2, hA⟩ := id hL
    generalize hk : min m road.length = k at *
    have hal : as.length = k := by rw [Paired.length hA, List.length_range]
    refine ⟨l, rfl, ⟨_, SqL.of hl2⟩, comp_by (n := k) (fun D i σ ys H3 => Same H2 H3 ∧ H2 D = none ∧ (∃ u, σ = [u]) ∧ i ≤ k ∧ ys = (leasts road i).map V.int) ?_ ?_ ?_⟩
    · exact fun D hD => ⟨same_upd hD, hD, ⟨_, rfl⟩, Nat.zero_le _, rfl⟩
    · rintro D i σ ys H3 hi ⟨s3, hD, ⟨u, rfl⟩, _, rfl⟩ hD'
      obtain ⟨a, ea, hSa⟩ := paired_at (hA.same s3) (i := i) (y := i) (List.getElem?_range hi)
      have ea' : (as.map V.ref)[i]? = some (V.ref a) := by rw [List.getElem?_map, ea]; rfl
      refine ⟨⟨_, _, SqL.of (s3 _ _ hl2), ea'⟩, fun x H4 y => ?_⟩
      obtain ⟨rfl, y⟩ := y
      have hx := y _ (SqL.of (s3 _ _ hl2))
      rw [ea'] at hx
      have hx' := Option.some.inj hx
      subst hx'
      refine nameT (yesT (iteT ?_))
      refine ⟨_, rfl, _, rfl, last_ix hSa (by (first | lia | omega)) ?_⟩
      refine ⟨small5000 (by rw [List.length_map]; unfold leasts; rw [List.length_map, List.length_range]; (first | lia | omega)), hD', same_upd2 s3 hD, hD, ⟨_, rfl⟩, by (first | lia | omega), ?_⟩
      unfold leasts
      rw [range_snoc, List.map_append]
      rfl
    · rintro D σ ys H3 ⟨s3, hD, ⟨u, rfl⟩, _, rfl⟩ hD'
      exact ⟨⟨_, SqL.of (s3 _ _ hl2), by rw [List.length_map, hal]; exact Nat.le_refl _⟩, q D H3 ((s1.trans s2).trans s3) (s1.free (s2.free hD)) hD'⟩
end
end Ph
set_option Elab.async false
set_option linter.all false
set_option maxRecDepth 100000
set_option maxHeartbeats 4000000
namespace Ph
open PySem PySem.Spec PyProof.Rows L2
theorem lex_first {g : Nat → Int} {lo m i0 : Nat} (h0 : i0 ≤ m) (nb : ∀ j, j ≤ m → lexP (g (lo + j), ((lo + j : Nat) : Int)) (g (lo + i0), ((lo + i0 : Nat) : Int)) = false) : lo + i0 = am g lo m := by
  obtain ⟨a, b, c, d⟩ := am_props g lo m
  have n1 := nb (am g lo m - lo) (by (first | lia | omega))
  rw [show lo + (am g lo m - lo) = am g lo m by (first | lia | omega), Bool.eq_false_iff] at n1
  have n2 : ¬ (g (am g lo m) < g (lo + i0) ∨ (g (am g lo m) = g (lo + i0) ∧ ((am g lo m : Nat) : Int) < ((lo + i0 : Nat) : Int))) := fun y => n1 ((lexP_iff _ _).mpr y)
  have n3 := c (lo + i0) (by (first | lia | omega)) (by (first | lia | omega))
  rcases Nat.lt_trichotomy (lo + i0) (am g lo m) with y | y | y
  · have := d (lo + i0) (by (first | lia | omega)) y; (first | lia | omega)
  · exact y
  · (first | lia | omega)
def stepsP (road : List (Int × Int)) (fee : Int) (k : Nat) : List (Option (Int × Nat)) := (List.range k).map fun j => some (bP road fee j, aP road fee j)
theorem stepsP_len (road : List (Int × Int)) (fee : Int) (k : Nat) : (stepsP road fee k).length = k := by simp [stepsP]
theorem stepsP_at {road : List (Int × Int)} {fee : Int} {k j : Nat} (h : j < k) : (stepsP road fee k)[j]? = some (some (bP road fee j, aP road fee j)) := by
  unfold stepsP
  rw [List.getElem?_map, List.getElem?_range h]
  rfl
section
variable {P : Program} {w : World} {K : PySem.W.Frag} {mg : Str → Option Value} {base : Heap}
def spSteps : Sp := fun vs H Q _ => ∃ (r : Addr) (road : List (Int × Int)) (fee : Int), vs = [.ref r, .int fee] ∧ RoadAt H r road ∧ Good road ∧ ∀ (l : Addr) (H' : Hp), Same H H' → H l = none → StepsAt H' l (stepsP road fee (road.length + 1)) → Q (.ref l) H'
theorem nd_paid_steps_0 : (["first", "carried", "fee", "steps"] : List Str).Nodup := by decide +kernel
theorem sc_paid_steps : FnScope ["road", "fee", "steps", "end", "one_ways"] ["road", "fee"] (defScope s_paid_steps) := ⟨rfl, rfl, rfl, by decide +kernel, rfl, by decide +kernel, by decide +kernel⟩
theorem ok_steps {f fA fO : Addr} {fd dA dO : FuncData} (F : Fun K "paid_steps" "paid_steps" s_paid_steps f fd) (B : Blt mg) (Capart : Callee K mg "apart" sApart ["road", "house", "other"] fA dA) (Cone_ways_to : Callee K mg "one_ways_to" s_one_ways_to ["road", "end"] fO dO) :
    FnOk P w K mg base CX0 3 f fd ["road", "fee"] spSteps := by
  have Gone_ways_to : FnOk P w K mg base CX0 2 fO dO ["road", "end"] spOnes := ok_ones Cone_ways_to.fn B Capart
  refine F.ok sc_paid_steps (fun vs H Q E h => ?_) (fun cdv A outer s H vs Q E hr h => ?_)
  · obtain ⟨r, road, fee, rfl, _⟩ := h
    rfl
  · obtain ⟨r, road, fee, rfl, R, G, q⟩ := h
    have hsm := G.small
    refine ⟨_, (pss_cons (ps_set (i := 2) sc_paid_steps.nd rfl (Or.inr rfl) (pe_lst (pa_cons (pe_tup (pa_cons pe_int (pa_cons pe_int pa_nil))) pa_nil)))
        (pss_cons (ps_for PassesOwn.never rfl (pi_range2 (by rfl) B.range (pa_cons pe_int (pa_cons (pe_op op_add (pe_callB call_len_seq (by rfl) B.len boot_len (pa_cons (pv 0) pa_nil)) pe_int) pa_nil))) (pg_name (i := 3) sc_paid_steps.nd rfl (Or.inl rfl))
        (pss_cons (ps_set (i := 4) sc_paid_steps.nd rfl (Or.inl rfl) (pe_call Gone_ways_to (hr.mono (by decide)) (by rfl) Cone_ways_to.m Cone_ways_to.fn.kp Cone_ways_to.b .nil pass0 (pa_cons (pv 0) (pa_cons (pv 3) pa_nil))))
        (pss_one (ps_expr (pe_bm PySem.F.plainAttrs_list PySem.F.slot_list_append PySem.F.type_list_append mt_append (pv 2) (pa_cons (pe_callB (call_minT rfl hr.units) (by rfl) B.min boot_min (pa_cons (pe_comp (N := ["first", "carried", "fee", "steps"]) (L := 2) (ix := [1, 2]) rfl (by show CScope _ ["road", "fee", "steps", "end", "one_ways"] (defScope s_paid_steps) _ _ _; exact ⟨rfl, by decide +kernel, by decide +kernel, by decide +kernel, by decide +kernel, by decide +kernel, rfl⟩) (pi_enum (by rfl) B.enumerate (pa_cons (pv 4) pa_nil)) (fun C' s₀ H₀ fp => ⟨(pg_tupK (K := K) (n := 2) rfl rfl (pgs_cons (pg_name (i := 0) nd_paid_steps_0 rfl (Or.inl rfl)) (pgs_cons (pg_name (i := 1) nd_paid_steps_0 rfl (Or.inl rfl)) pgs_nil))), pts_nil, (pe_tup (pa_cons (pe_op op_add (pe_op op_add (pe_ix (ix_tupK (K := K) rfl) (pe_ix (ix_listK (K := K) rfl) (pv 3) (pv 0) (fun _ _ => rfl)) pe_int (fun _ _ => rfl)) (pv 1)) (pv 2)) (pa_cons (pv 0) pa_nil)))⟩)) pa_nil)) pa_nil))))))
        (pss_one (ps_ret (pv 2))))), ?_⟩
    obtain ⟨ts, hR, hT⟩ := id R
    have hlt : (ts.map V.ref).length = road.length := by rw [List.length_map, hT.len]
    refine ⟨Nat.le_of_lt (small1000 (show 2 ≤ 1000 by decide)), fun t0 ht0 => ?_⟩
    have s1 : Same H (upd H t0 (.tup [.int 0, .int 0])) := same_upd ht0
    have h10 := upd_same (H := H) (a := t0) (o := .tup [.int 0, .int 0])
    generalize upd H t0 (.tup [.int 0, .int 0]) = H1 at s1 h10
    refine ⟨Nat.le_of_lt (small1000 (show 1 ≤ 1000 by decide)), fun l hl => ?_⟩
    have s12 : Same H1 (upd H1 l (.lst [.ref t0])) := same_upd hl
    have h2l := upd_same (H := H1) (a := l) (o := .lst [.ref t0])
    generalize upd H1 l (.lst [.ref t0]) = H2 at s12 h2l
    have s2 := s1.trans s12
    have hl0 : H l = none := s1.free hl
    refine ⟨_, rfl, r, _, rfl, .inl (SqL.of (s2 _ _ hR)), _, _, rfl, rfl, 1, _, rfl, ⟨by (first | lia | omega), by (first | lia | omega), by rw [hlt]; (first | lia | omega), by rw [hlt]; (first | lia | omega)⟩, ?_⟩
    rw [show ((((ts.map V.ref).length : Nat) : Int) + 1 - 1).toNat = road.length by rw [hlt]; (first | lia | omega)]
    refine for_by (n := road.length) (fun i σ H3 => ∃ v3 v4 : Option V, σ = [some (.ref r), some (.int fee), some (.ref l), v3, v4] ∧ Same H H3 ∧ i ≤ road.length ∧ StepsAt H3 l (stepsP road fee (i + 1))) ?_ ?_ ?_
    · exact ⟨none, none, rfl, s2, Nat.zero_le _, _, h2l, .cons ⟨t0, rfl, s12 _ _ h10⟩ .nil⟩
    · rintro i σ H3 hi ⟨v3, v4, rfl, s3, _, SL⟩
      refine ⟨hi, fun x H4 y => ?_⟩
      obtain ⟨rfl, rfl⟩ := y
      refine nameT ⟨_, rfl, _, rfl, r, road, i + 1, ?_, R.same s3, G, by (first | lia | omega), by (first | lia | omega), fun ow H5 s5 how hI => ?_⟩
      · show [V.ref r, V.int (1 + (i : Int))] = [V.ref r, V.int ((i + 1 : Nat) : Int)]
        rw [show (1 + (i : Int)) = ((i + 1 : Nat) : Int) by (first | lia | omega)]
      have SL5 := SL.same s5
      obtain ⟨xs, hx1, hx2⟩ := id SL5
      have hxl : xs.length = i + 1 := by rw [Paired.length hx2, stepsP_len]
      have hol : (ones road (i + 1)).length = i + 1 := by simp [ones]
      refine ⟨_, rfl, .inl ⟨rfl, _, SqL.of hx1⟩, _, rfl, ow, rfl, ⟨_, SqL.of hI⟩, comp_by (n := i + 1) (fun D2 i2 σ ys H6 => Same H5 H6 ∧ H5 D2 = none ∧ (∃ u v, σ = [u, v, some (.int fee), some (.ref l)]) ∧ i2 ≤ i + 1 ∧ ∃ ts : List Addr, ys = ts.map V.ref ∧ Prs H6 ts ((List.range i2).map fun t => (bP road fee t + wW road t (i + 1) + fee, ((t : Nat) : Int)))) ?_ ?_ ?_⟩
      · exact fun D2 hD2 => ⟨same_upd hD2, hD2, ⟨_, _, rfl⟩, Nat.zero_le _, [], rfl, .nil⟩
      · rintro D2 i2 σ ys H6 hi2 ⟨s6, hD2, ⟨u, v, rfl⟩, _, ts', rfl, hP⟩ hD2'
        have e1 : ((ones road (i + 1)).map V.int)[i2]? = some (V.int (wW road i2 (i + 1))) := by rw [List.getElem?_map, ones_at hi2]; rfl
        have hI6 : IntsAt H6 ow (ones road (i + 1)) := s6 _ _ hI
        refine ⟨⟨_, _, SqL.of hI6, e1⟩, fun x H7 y => ?_⟩
        obtain ⟨T, y1, hT3, rfl, rfl, y2⟩ := y
        have hx := y2 _ (SqL.of hI6)
        rw [e1] at hx
        have hx' := Option.some.inj hx
        subst hx'
        have hDT : D2 ≠ T := ne_of_none hD2' hT3
        have s7 : Same H5 (upd H6 T (.tup [.int i2, .int (wW road i2 (i + 1))])) := s6.trans (same_upd hT3)
        have hP7 : Prs (upd H6 T (.tup [.int i2, .int (wW road i2 (i + 1))])) ts' ((List.range i2).map fun t => (bP road fee t + wW road t (i + 1) + fee, ((t : Nat) : Int))) := paired_imp (fun _ _ z => same_upd hT3 _ _ z) hP
        have hD7 : upd H6 T (.tup [.int i2, .int (wW road i2 (i + 1))]) D2 = some (.lst (ts'.map V.ref)) := by rw [upd_ne hDT]; exact hD2'
        refine ⟨T, _, rfl, SqT.of upd_same, rfl, _, _, rfl, _, _, rfl, rfl, yesT (iteT ?_)⟩
        generalize upd H6 T (.tup [.int i2, .int (wW road i2 (i + 1))]) = H8 at s7 hP7 hD7
        refine ⟨_, rfl, _, rfl, steps_ix (SL5.same s7) (i := i2) (stepsP_at (by (first | lia | omega))) rfl fun t' ht' => ⟨t', _, _, _, rfl, rfl, ht', rfl, ?_⟩⟩
        refine ⟨_, rfl, _, _, rfl, rfl, _, rfl, _, _, rfl, rfl, _, rfl, ?_⟩
        refine ⟨Nat.le_of_lt (small1000 (show 2 ≤ 1000 by decide)), fun t2 ht2 => ?_⟩
        have hDt : D2 ≠ t2 := ne_of_none hD7 ht2
        have hyl : (ts'.map V.ref).length = i2 := by rw [List.length_map, Paired.length hP, List.length_map, List.length_range]
        have hD9 : upd H8 t2 (.tup [V.int (bP road fee i2 + wW road i2 (i + 1) + fee), V.int ((i2 : Nat) : Int)]) D2 = some (.lst (ts'.map V.ref)) := by rw [upd_ne hDt]; exact hD7
        refine ⟨small5000 (by (first | lia | omega)), hD9, same_upd2 (s7.trans (same_upd ht2)) hD2, hD2, ⟨_, _, rfl⟩, by (first | lia | omega), ts' ++ [t2], by rw [List.map_append]; rfl, ?_⟩
        rw [range_snoc]
        refine paired_snoc ?_ ?_
        · refine paired_imp (fun t' pl hh => ?_) hP7
          rw [upd_ne (ne_of (same_upd ht2 _ _ hh) hD9 (by intro y; cases y))]
          exact same_upd ht2 _ _ hh
        · rw [upd_ne (Ne.symm hDt), upd_same]
      · rintro D2 σ ys H6 ⟨s6, hD2, ⟨u, v, rfl⟩, _, ts', rfl, hP⟩ hD2'
        refine ⟨⟨_, SqL.of (s6 _ _ hI), by rw [List.length_map, hol]; exact Nat.le_refl _⟩, ?_⟩
        have gv : ∀ t, t < i + 1 → ((List.range (i + 1)).map fun t => (bP road fee t + wW road t (i + 1) + fee, ((t : Nat) : Int))).getD t (0, 0) = (bP road fee t + wW road t (i + 1) + fee, ((t : Nat) : Int)) := fun t ht => by simp [List.getD_eq_getElem?_getD, ht]
        refine ⟨D2, ts', _, rfl, SqL.of hD2', hP, by rw [List.length_map, List.length_range]; (first | lia | omega), fun i0 t hi0 ht hH nb _ => ?_⟩
        rw [List.length_map, List.length_range] at hi0 nb
        rw [gv i0 hi0] at hH
        have e0 : i0 = aP road fee (i + 1) := by
          rw [(aP_eq road fee i).1]
          have := lex_first (g := fun i' => bP road fee i' + wW road i' (i + 1) + fee) (lo := 0) (m := i) (i0 := i0) (by (first | lia | omega)) fun j hj => by
            have q := nb j (by (first | lia | omega))
            rw [gv j (by (first | lia | omega)), gv i0 hi0] at q
            simpa using q
          simpa using this
        rw [e0, ← (aP_eq road fee i).2] at hH
        have SL6 := SL5.same s6
        obtain ⟨xs', hx1', hx2'⟩ := id SL6
        have hxl' : xs'.length = i + 1 := by rw [Paired.length hx2', stepsP_len]
        refine ⟨l, _, _, rfl, rfl, hx1', small5000 (by (first | lia | omega)), ?_⟩
        refine ⟨_, _, rfl, same_upd2 ((s3.trans s5).trans s6) hl0, by (first | lia | omega), _, upd_same, ?_⟩
        have e : stepsP road fee (i + 1 + 1) = stepsP road fee (i + 1) ++ [some (bP road fee (i + 1), aP road fee (i + 1))] := by unfold stepsP; rw [range_snoc]
        rw [e]
        exact paired_snoc (hx2'.lst hx1') ⟨t, rfl, by rw [upd_ne (ne_of hH hx1' (by intro y; cases y))]; exact hH⟩
    · rintro σ H3 ⟨v3, v4, rfl, s3, _, SL⟩
      exact ⟨Nat.le_refl _, _, rfl, q l H3 s3 hl0 SL⟩
def bnds (road : List (Int × Int)) (fee : Int) : List Int := (List.range (road.length + 1)).map (bP road fee)
def spBounds : Sp := fun vs H Q _ => ∃ (p : Addr) (road : List (Int × Int)) (fee : Int), vs = [.ref p] ∧ StepsAt H p (stepsP road fee (road.length + 1)) ∧ road.length ≤ 1000 ∧ ∀ (l : Addr) (H' : Hp), Same H H' → H l = none → IntsAt H' l (bnds road fee) → Q (.ref l) H'
theorem nd_bounds_of_0 : (["least", "first"] : List Str).Nodup := by decide +kernel
theorem sc_bounds_of : FnScope ["steps"] ["steps"] (defScope s_bounds_of) := ⟨rfl, rfl, rfl, by decide +kernel, rfl, by decide +kernel, by decide +kernel⟩
theorem ok_bounds {f : Addr} {fd : FuncData} (F : Fun K "bounds_of" "bounds_of" s_bounds_of f fd) (B : Blt mg) : FnOk P w K mg base CX0 1 f fd ["steps"] spBounds := by
  refine F.ok sc_bounds_of (fun vs H Q E h => ?_) (fun cdv A outer s H vs Q E hr h => ?_)
  · obtain ⟨p, road, fee, rfl, _⟩ := h
    rfl
  · obtain ⟨p, road, fee, rfl, S, hn, q⟩ := h
    refine ⟨_, (pss_one (ps_ret (pe_comp (N := ["least", "first"]) (L := 2) (ix := []) rfl (by show CScope _ ["steps"] (defScope s_bounds_of) _ _ _; exact ⟨rfl, by decide +kernel, by decide +kernel, by decide +kernel, by decide +kernel, by decide +kernel, rfl⟩) (pi_list (pv 0)) (fun C' s₀ H₀ fp => ⟨(pg_tupK (K := K) (n := 2) rfl rfl (pgs_cons (pg_name (i := 0) nd_bounds_of_0 rfl (Or.inl rfl)) (pgs_cons (pg_name (i := 1) nd_bounds_of_0 rfl (Or.inl rfl)) pgs_nil))), pts_nil, (pv 0)⟩)))), ?_⟩
    obtain ⟨xs, hx1, hx2⟩ := id S
    have hxl : xs.length = road.length + 1 := by rw [Paired.length hx2, stepsP_len]
    refine ⟨_, rfl, p, rfl, ⟨_, SqL.of hx1⟩, comp_by (n := road.length + 1) (fun D i σ ys H2 => Same H H2 ∧ H D = none ∧ (∃ u v, σ = [u, v]) ∧ i ≤ road.length + 1 ∧ ys = (List.range i).map fun j => V.int (bP road fee j)) ?_ ?_ ?_⟩
    · exact fun D hD => ⟨same_upd hD, hD, ⟨_, _, rfl⟩, Nat.zero_le _, rfl⟩
    · rintro D i σ ys H2 hi ⟨s2, hD, ⟨u, v, rfl⟩, _, rfl⟩ hD'
      obtain ⟨v', e1, t, e2, e3⟩ := paired_at (hx2.same s2) (stepsP_at (road := road) (fee := fee) hi)
      subst e2
      refine ⟨⟨_, _, SqL.of (s2 _ _ hx1), e1⟩, fun x H3 y => ?_⟩
      obtain ⟨rfl, y⟩ := y
      have hx := y _ (SqL.of (s2 _ _ hx1))
      rw [e1] at hx
      have hx' := Option.some.inj hx
      subst hx'
      refine ⟨t, _, rfl, SqT.of e3, rfl, _, _, rfl, _, _, rfl, rfl, yesT (iteT ?_)⟩
      refine ⟨_, rfl, small5000 (by rw [List.length_map, List.length_range]; (first | lia | omega)), hD', same_upd2 s2 hD, hD, ⟨_, _, rfl⟩, hi, by rw [range_snoc]⟩
    · rintro D σ ys H2 ⟨s2, hD, ⟨u, v, rfl⟩, _, rfl⟩ hD'
      refine ⟨⟨_, SqL.of (s2 _ _ hx1), by rw [hxl]; exact Nat.le_refl _⟩, q D H2 s2 hD ?_⟩
      rw [IntsAt, hD', bnds, List.map_map]
      rfl
end
end Ph
set_option Elab.async false
set_option linter.all false
set_option maxRecDepth 100000
set_option maxHeartbeats 4000000
namespace Ph
open PySem PySem.Spec PyProof.Rows L2
section
variable {P : Program} {w : World} {K : PySem.W.Frag} {mg : Str → Option Value} {base : Heap}
def endsOf (c : Nat → Nat) (k : Nat) : List Int := (List.range (k + 1)).map fun t => ((c (k - t) : Nat) : Int)
theorem endsOf_at {c : Nat → Nat} {k t : Nat} (h : t ≤ k) : (endsOf c k)[t]? = some (((c (k - t) : Nat) : Int)) := by
  unfold endsOf
  rw [List.getElem?_map, List.getElem?_range (by (first | lia | omega))]
  rfl
theorem endsOf_len (c : Nat → Nat) (k : Nat) : (endsOf c k).length = k + 1 := by simp [endsOf]
def spBetween : Sp := fun vs H Q _ => ∃ (r e : Addr) (road : List (Int × Int)) (k : Nat) (c : Nat → Nat), vs = [.ref r, .ref e] ∧ RoadAt H r road ∧ Good road ∧ IntsAt H e (endsOf c k) ∧ Cuts road.length k c ∧ ∀ (l : Addr) (H' : Hp), Same H H' → H l = none → IntsAt H' l (cps road c k) → Q (.ref l) H'
theorem nd_posts_between_0 : (["k", "road", "ends"] : List Str).Nodup := by decide +kernel
theorem sc_posts_between : FnScope ["road", "ends"] ["road", "ends"] (defScope s_posts_between) := ⟨rfl, rfl, rfl, by decide +kernel, rfl, by decide +kernel, by decide +kernel⟩
theorem ok_between {f fM : Addr} {fd dM : FuncData} (F : Fun K "posts_between" "posts_between" s_posts_between f fd) (B : Blt mg) (Gmiddle : FnOk P w K mg base CX0 5 fM dM ["road", "first", "end"] spMiddle) (Cmiddle : Callee K mg "middle" s_middle ["road", "first", "end"] fM dM) :
    FnOk P w K mg base CX0 6 f fd ["road", "ends"] spBetween := by
  refine F.ok sc_posts_between (fun vs H Q E h => ?_) (fun cdv A outer s H vs Q E hr h => ?_)
  · obtain ⟨r, e, road, k, c, rfl, _⟩ := h
    rfl
  · obtain ⟨r, e, road, k, c, rfl, R, G, hI, C, q⟩ := h
    have hsm := G.small
    have hkn : k ≤ road.length := by have := C.le (Nat.le_refl k); rw [C.all] at this; exact this
    refine ⟨_, (pss_one (ps_ret (pe_comp (N := ["k", "road", "ends"]) (L := 1) (ix := [0, 1]) rfl (by show CScope _ ["road", "ends"] (defScope s_posts_between) _ _ _; exact ⟨rfl, by decide +kernel, by decide +kernel, by decide +kernel, by decide +kernel, by decide +kernel, rfl⟩) (pi_rangeD (by rfl) B.range (pa_cons (pe_op op_sub (pe_callB call_len_seq (by rfl) B.len boot_len (pa_cons (pv 1) pa_nil)) pe_int) (pa_cons pe_int (pa_cons (pe_un un_neg pe_int) pa_nil)))) (fun C' s₀ H₀ fp => ⟨(pg_name (i := 0) nd_posts_between_0 rfl (Or.inl rfl)), pts_nil, (pe_ix (ix_listK (K := K) rfl) (pe_call Gmiddle (hr.mono (by decide)) (by rfl) Cmiddle.m Cmiddle.fn.kp Cmiddle.b .nil pass0 (pa_cons (pv 1) (pa_cons (pe_ix (ix_listK (K := K) rfl) (pv 2) (pv 0) (fun _ _ => rfl)) (pa_cons (pe_ix (ix_listK (K := K) rfl) (pv 2) (pe_op op_sub (pv 0) pe_int) (fun _ _ => rfl)) pa_nil)))) pe_int (fun _ _ => rfl))⟩)))), ?_⟩
    have hel : ((endsOf c k).map V.int).length = k + 1 := by rw [List.length_map, endsOf_len]
    refine ⟨_, rfl, e, _, rfl, .inl (SqL.of hI), _, _, rfl, rfl, _, rfl, _, _, rfl, ⟨by rw [hel]; (first | lia | omega), by rw [hel]; (first | lia | omega), by (first | lia | omega), by (first | lia | omega)⟩, ?_⟩
    show CompWalk (ItrS ((((endsOf c k).map V.int).length : Int) - 1) (-1) ((((endsOf c k).map V.int).length : Int) - 1 - 0).toNat) _ _ _ _ _ _ _ _
    rw [hel, show (((k + 1 : Nat) : Int) - 1 - 0).toNat = k by (first | lia | omega), show (((k + 1 : Nat) : Int) - 1) = (k : Int) by (first | lia | omega)]
    refine comp_by (n := k) (fun D i σ ys H2 => Same H H2 ∧ H D = none ∧ (∃ u, σ = [u, some (.ref r), some (.ref e)]) ∧ i ≤ k ∧ ys = (cps road c i).map V.int) ?_ ?_ ?_
    · exact fun D hD => ⟨same_upd hD, hD, ⟨_, rfl⟩, Nat.zero_le _, rfl⟩
    · rintro D i σ ys H2 hi ⟨s2, hD, ⟨u, rfl⟩, _, rfl⟩ hD'
      refine ⟨hi, fun x H3 y => ?_⟩
      obtain ⟨rfl, rfl⟩ := y
      have ez : (k : Int) + (i : Int) * (-1) = ((k - i : Nat) : Int) := by (first | lia | omega)
      have hlt := C.lt i hi
      have hb := C.bound (j := i + 1) hi
      obtain ⟨rest, m1, m2, m3, _⟩ := mids_head G hb hlt
      have hI2 : IntsAt H3 e (endsOf c k) := s2 _ _ hI
      have q1 := endsOf_at (c := c) (k := k) (t := k - i) (by (first | lia | omega))
      rw [show k - (k - i) = i by (first | lia | omega)] at q1
      have q2 := endsOf_at (c := c) (k := k) (t := k - i - 1) (by (first | lia | omega))
      rw [show k - (k - i - 1) = i + 1 by (first | lia | omega)] at q2
      refine nameT (yesT (iteT ?_))
      refine ⟨_, rfl, _, rfl, _, rfl, ints_ix hI2 q1 ez ?_⟩
      refine ⟨_, rfl, _, rfl, _, _, rfl, rfl, ints_ix hI2 q2 (by (first | lia | omega)) ?_⟩
      refine ⟨r, road, c i, c (i + 1), rfl, ⟨R.same s2, G, hlt, hb⟩, fun l H4 s4 hl hM => ?_⟩
      rw [m1] at hM
      have hh : SqL K H4 l ((((fm road (c i) (c (i + 1)) : Nat) : Int) :: rest).map V.int) := SqL.of hM
      refine ⟨l, _, 0, _, rfl, rfl, hh, atI_nat (j := 0) rfl, ?_⟩
      refine ⟨small5000 (by rw [List.length_map, cps_len]; (first | lia | omega)), s4 _ _ hD', same_upd2 (s2.trans s4) hD, hD, ⟨_, rfl⟩, hi, ?_⟩
      unfold cps
      rw [range_snoc, List.map_append]
      rfl
    · rintro D σ ys H2 ⟨s2, hD, ⟨u, rfl⟩, _, rfl⟩ hD'
      exact ⟨Nat.le_refl _, q D H2 s2 hD hD'⟩
end
end Ph
set_option Elab.async false
set_option linter.all false
set_option maxRecDepth 100000
set_option maxHeartbeats 4000000
namespace Ph
open PySem PySem.Spec PyProof.Rows L2
section
variable {P : Program} {w : World} {K : PySem.W.Frag} {mg : Str → Option Value} {base : Heap}
def spEnds : Sp := fun vs H Q _ => ∃ (p : Addr) (road : List (Int × Int)) (k : Nat), vs = [.ref p, .int (road.length : Int)] ∧ LaysAt H p road (k + 1) ∧ k + 1 ≤ road.length ∧ road.length ≤ 1000 ∧ ∀ (l : Addr) (H' : Hp), Same H H' → H l = none → IntsAt H' l (endsOf (cC road (k + 1) road.length) (k + 1)) → Q (.ref l) H'
theorem sc_layered_ends : FnScope ["layers", "houses", "ends", "layer"] ["layers", "houses"] (defScope s_layered_ends) := ⟨rfl, rfl, rfl, by decide +kernel, rfl, by decide +kernel, by decide +kernel⟩
theorem ok_ends {f : Addr} {fd : FuncData} (F : Fun K "layered_ends" "layered_ends" s_layered_ends f fd) (B : Blt mg) : FnOk P w K mg base CX0 1 f fd ["layers", "houses"] spEnds := by
  refine F.ok sc_layered_ends (fun vs H Q E h => ?_) (fun cdv A outer s H vs Q E hr h => ?_)
  · obtain ⟨p, road, k, rfl, _⟩ := h
    rfl
  · obtain ⟨p, road, k, rfl, L, hk, hn, q⟩ := h
    refine ⟨_, (pss_cons (ps_set (i := 2) sc_layered_ends.nd rfl (Or.inl rfl) (pe_lst (pa_cons (pv 1) pa_nil)))
        (pss_cons (ps_for PassesOwn.never rfl (pi_rev (by rfl) B.reversed (pa_cons (pv 0) pa_nil)) (pg_name (i := 3) sc_layered_ends.nd rfl (Or.inl rfl))
        (pss_one (ps_expr (pe_bm PySem.F.plainAttrs_list PySem.F.slot_list_append PySem.F.type_list_append mt_append (pv 2) (pa_cons (pe_ix ix_tup (pe_ix ix_list (pv 3) (pe_ix ix_list (pv 2) (pe_un un_neg pe_int) (fun _ _ => rfl)) (fun _ _ => rfl)) pe_int (fun _ _ => rfl)) pa_nil)))))
        (pss_one (ps_ret (pv 2))))), ?_⟩
    obtain ⟨C, _⟩ := cC_cuts (road := road) hk
    generalize hc : cC road (k + 1) road.length = c at C q
    have step : ∀ t, t < k + 1 → c t = aA road (t + 1) (c (t + 1)) := fun t ht => by rw [← hc]; exact cC_step road ht
    refine ⟨_, rfl, Nat.le_of_lt (small1000 (show 1 ≤ 1000 by decide)), fun l hl => ?_⟩
    have s1 : Same H (upd H l (.lst [.int (road.length : Int)])) := same_upd hl
    have h1l := upd_same (H := H) (a := l) (o := .lst [.int (road.length : Int)])
    generalize upd H l (.lst [.int (road.length : Int)]) = H1 at s1 h1l
    obtain ⟨as, hp, hA⟩ := id (L.same s1)
    have hal : as.length = k + 1 := by rw [Paired.length hA, List.length_range]
    refine ⟨_, rfl, p, _, rfl, hp, ?_⟩
    rw [List.length_map, hal]
    refine for_by (n := k + 1) (fun i σ H2 => ∃ v : Option V, σ = [some (.ref p), some (.int (road.length : Int)), some (.ref l), v] ∧ Same H H2 ∧ i ≤ k + 1 ∧ IntsAt H2 l ((List.range (i + 1)).map fun t => ((c (k + 1 - t) : Nat) : Int))) ?_ ?_ ?_
    · refine ⟨none, rfl, s1, Nat.zero_le _, ?_⟩
      rw [IntsAt, h1l]
      show _ = some (HO.lst [V.int ((c (k + 1 - 0) : Nat) : Int)])
      rw [Nat.sub_zero, C.all]
    · rintro i σ H2 hi ⟨v, rfl, s2, _, hI⟩
      obtain ⟨as2, hp2, hA2⟩ := id (L.same s2)
      have hal2 : as2.length = k + 1 := by rw [Paired.length hA2, List.length_range]
      have ei : k + 1 - 1 - i = k - i := by (first | lia | omega)
      obtain ⟨a, ea, hSa⟩ := paired_at hA2 (i := k - i) (y := k - i) (List.getElem?_range (by (first | lia | omega)))
      have ea' : (as2.map V.ref)[k + 1 - 1 - i]? = some (V.ref a) := by rw [ei, List.getElem?_map, ea]; rfl
      refine ⟨⟨hi, _, _, SqL.of hp2, ea'⟩, fun x H3 y => ?_⟩
      obtain ⟨rfl, y⟩ := y
      have hx := y _ (SqL.of hp2)
      rw [ea'] at hx
      have hx' := Option.some.inj hx
      subst hx'
      have cb := C.bound (j := k + 1 - i) (by (first | lia | omega))
      have cl := C.le (j := k + 1 - i) (by (first | lia | omega))
      have st := step (k - i) (by (first | lia | omega))
      rw [show k - i + 1 = k + 1 - i by (first | lia | omega)] at st
      refine nameT ⟨_, rfl, .inl ⟨rfl, _, SqL.of hI⟩, _, rfl, _, rfl, _, rfl, l, _, _, V.int ((c (k + 1 - i) : Nat) : Int), rfl, rfl, SqL.of hI, ?_, ?_⟩
      · refine atI_lastAt ?_
        rw [List.length_map, List.length_map, List.length_range, List.getElem?_map, List.getElem?_map, show i + 1 - 1 = i by (first | lia | omega), List.getElem?_range (by (first | lia | omega))]
        rfl
      refine steps_ix hSa (i := c (k + 1 - i)) (layerK_at (by (first | lia | omega)) cb) rfl fun t ht => ⟨t, _, _, _, rfl, rfl, ht, rfl, ?_⟩
      refine ⟨l, _, _, rfl, rfl, hI, small5000 (by rw [List.length_map, List.length_map, List.length_range]; (first | lia | omega)), ?_⟩
      refine ⟨_, rfl, same_upd2 s2 hl, by (first | lia | omega), ?_⟩
      have er := range_snoc (fun t => ((c (k + 1 - t) : Nat) : Int)) (i + 1)
      have es : c (k + 1 - (i + 1)) = aA road (k - i + 1) (c (k + 1 - i)) := by rw [show k + 1 - (i + 1) = k - i by (first | lia | omega), st, show k - i + 1 = k + 1 - i by (first | lia | omega)]
      rw [IntsAt, upd_same, er, List.map_append, es]
      rfl
    · rintro σ H2 ⟨v, rfl, s2, _, hI⟩
      exact ⟨Nat.le_refl _, _, rfl, q l H2 s2 hl hI⟩
end
end Ph
set_option Elab.async false
set_option linter.all false
set_option maxRecDepth 100000
set_option maxHeartbeats 4000000
namespace Ph
open PySem PySem.Spec PyProof.Rows L2
abbrev s_Answer_init : Stmt := inClass s_Answer 0
theorem n_pb : ¬ (("posts" : Str) = "bounds") := by decide +kernel
theorem n_pf : ¬ (("posts" : Str) = "fee") := by decide +kernel
def fldsA (p b : Addr) : List (Str × V) := putF "bounds" (.ref b) (putF "posts" (.ref p) [])
def fldsB (p b : Addr) (v : V) : List (Str × V) := putF "fee" v (fldsA p b)
theorem fldsA_p (p b : Addr) : (fldsA p b).lookup ("posts" : Str) = some (.ref p) := by unfold fldsA; rw [lookup_putF, if_neg n_pb, lookup_putF, if_pos rfl]
theorem fldsB_p (p b : Addr) (v : V) : (fldsB p b v).lookup ("posts" : Str) = some (.ref p) := by unfold fldsB; rw [lookup_putF, if_neg n_pf, fldsA_p]
theorem fldsA_len (p b : Addr) : (fldsA p b).length < 1000 := by
  have e : fldsA p b = [(("posts" : Str), V.ref p), (("bounds" : Str), V.ref b)] := by
    unfold fldsA
    show (if ("posts" : Str) = "bounds" then [(("posts" : Str), V.ref b)] else (("posts" : Str), V.ref p) :: putF "bounds" (V.ref b) []) = _
    rw [if_neg n_pb]
    rfl
  rw [e]
  show 2 < 1000
  decide
structure AnsC (K : PySem.W.Frag) (C : Addr) : Prop where
  cl : Cls K C
  nP : NoAttr K C "posts"
  nB : NoAttr K C "bounds"
section
variable {P : Program} {w : World} {K : PySem.W.Frag} {mg : Str → Option Value} {base : Heap}
def spAInit (K : PySem.W.Frag) : Sp := fun vs H Q _ => ∃ (C x dx p b : Addr) (ps bs : List V), vs = [.ref x, .ref p, .ref b] ∧ AnsC K C ∧ H x = some (.ins C dx []) ∧ H p = some (.lst ps) ∧ H b = some (.lst bs) ∧
  ∀ (p' b' : Addr) (H' : Hp), H p' = none → H b' = none → p' ≠ b' → H' x = some (.ins C dx (fldsA p' b')) → H' p' = some (.lst ps) → H' b' = some (.lst bs) → (∀ a o, H a = some o → a ≠ x → H' a = some o) → Q .non H'
theorem sc_AInit : FnScope ["self", "posts", "bounds"] ["self", "posts", "bounds"] (defScope s_Answer_init) := ⟨rfl, rfl, rfl, by decide +kernel, rfl, by decide +kernel, by decide +kernel⟩
theorem ok_AInit {f : Addr} {fd : FuncData} (F : Fun K "__init__" "Answer.__init__" s_Answer_init f fd) (B : Blt mg) : FnOk P w K mg base CX0 1 f fd ["self", "posts", "bounds"] (spAInit K) := by
  refine F.ok sc_AInit (fun vs H Q E h => ?_) (fun cdv A outer s H vs Q E hr h => ?_)
  · obtain ⟨C, x, dx, p, b, ps, bs, rfl, _⟩ := h
    rfl
  · obtain ⟨C, x, dx, p, b, ps, bs, rfl, A', hx, hp, hb, q⟩ := h
    refine ⟨_, (pss_cons (ps_fld (pv 0) (pe_callTy call_list_of (by rfl) B.list PyProof.Rows.boot_list (pa_cons (pv 1) pa_nil)) rfl)
        (pss_one (ps_fld (pv 0) (pe_callTy call_list_of (by rfl) B.list PyProof.Rows.boot_list (pa_cons (pv 2) pa_nil)) rfl))), ?_⟩
    refine ⟨_, rfl, p, _, rfl, .inl (SqL.of hp), fun p' hp' => ?_⟩
    have hxp : x ≠ p' := ne_of_none hx hp'
    refine ⟨_, rfl, x, C, dx, _, rfl, by rw [upd_ne hxp]; exact hx, A'.cl, A'.nP, by show 0 < 1000; decide, ?_⟩
    have hxb : x ≠ b := ne_of hx hb (by intro z; cases z)
    have hb1 : upd (upd H p' (.lst ps)) x (.ins C dx (putF "posts" (.ref p') [])) b = some (.lst bs) := by rw [upd_ne (Ne.symm hxb), upd_ne (ne_of_none hb hp')]; exact hb
    refine ⟨_, rfl, b, _, rfl, .inl (SqL.of hb1), fun b' hb' => ?_⟩
    have hb'x : b' ≠ x := fun z => by rw [z, upd_same] at hb'; cases hb'
    have hb'p : b' ≠ p' := fun z => by rw [z, upd_ne (Ne.symm hxp), upd_same] at hb'; cases hb'
    have hb'0 : H b' = none := by rw [upd_ne hb'x, upd_ne hb'p] at hb'; exact hb'
    refine ⟨_, rfl, x, C, dx, _, rfl, by rw [upd_ne (Ne.symm hb'x), upd_same], A'.cl, A'.nB, by show 1 < 1000; decide, ?_⟩
    refine q p' b' _ hp' hb'0 (Ne.symm hb'p) upd_same ?_ ?_ fun a o ha hax => ?_
    · rw [upd_ne (Ne.symm hxp), upd_ne (Ne.symm hb'p), upd_ne (Ne.symm hxp), upd_same]
    · rw [upd_ne hb'x, upd_same]
    · rw [upd_ne hax, upd_ne (ne_of_none ha hb'0), upd_ne hax, upd_ne (ne_of_none ha hp')]
      exact ha
end
end Ph
set_option Elab.async false
set_option linter.all false
set_option maxRecDepth 100000
set_option maxHeartbeats 4000000
namespace Ph
open PySem PySem.Spec PyProof.Rows L2
abbrev s_Best_init : Stmt := inClass s_Best 0
section
variable {P : Program} {w : World} {K : PySem.W.Frag} {mg : Str → Option Value} {base : Heap}
def spBInit (K : PySem.W.Frag) (C : Addr) : Sp := fun vs H Q _ => ∃ (x dx p b : Addr) (ps bs : List V) (v : V), vs = [.ref x, .ref p, .ref b, v] ∧ H x = some (.ins C dx []) ∧ H p = some (.lst ps) ∧ H b = some (.lst bs) ∧
  ∀ (p' b' : Addr) (H' : Hp), H p' = none → H b' = none → p' ≠ b' → H' x = some (.ins C dx (fldsB p' b' v)) → H' p' = some (.lst ps) → H' b' = some (.lst bs) → (∀ a o, H a = some o → a ≠ x → H' a = some o) → Q .non H'
theorem sc_BInit : FnScope ["self", "posts", "bounds", "fee"] ["self", "posts", "bounds", "fee"] (defScope s_Best_init) := ⟨rfl, rfl, rfl, by decide +kernel, rfl, by decide +kernel, by decide +kernel⟩
theorem ok_BInit {f fI CA C : Addr} {fd dI : FuncData} (F : Fun K "__init__" "Best.__init__" s_Best_init f fd) (B : Blt mg) (A' : AnsC K C) (nF : NoAttr K C "fee") (FI : Fun K "__init__" "Answer.__init__" s_Answer_init fI dI) (bI : Binds K dI ["self", "posts", "bounds"] []) (mA : mg "Answer" = some (.ref CA)) (cm : CMeth K CA "__init__" fI) :
    FnOk P w K mg base CX0 2 f fd ["self", "posts", "bounds", "fee"] (spBInit K C) := by
  have GI : FnOk P w K mg base CX0 1 fI dI ["self", "posts", "bounds"] (spAInit K) := ok_AInit FI B
  refine F.ok sc_BInit (fun vs H Q E h => ?_) (fun cdv A outer s H vs Q E hr h => ?_)
  · obtain ⟨x, dx, p, b, ps, bs, v, rfl, _⟩ := h
    rfl
  · obtain ⟨x, dx, p, b, ps, bs, v, rfl, hx, hp, hb, q⟩ := h
    refine ⟨_, (pss_cons (ps_expr (pe_cmeth (by rfl) mA cm GI (hr.mono (by decide)) bI .nil pass0 (pa_cons (pv 0) (pa_cons (pv 1) (pa_cons (pv 2) pa_nil)))))
        (pss_one (ps_fld (pv 0) (pv 3) rfl))), ?_⟩
    refine ⟨_, rfl, _, rfl, _, rfl, C, x, dx, p, b, ps, bs, rfl, A', hx, hp, hb, fun p' b' H1 hp' hb' hne h1x h1p h1b h1 => ?_⟩
    refine ⟨_, rfl, _, rfl, x, C, dx, _, rfl, h1x, A'.cl, nF, fldsA_len _ _, ?_⟩
    have hxp : p' ≠ x := fun z => by rw [z, hx] at hp'; cases hp'
    have hxb : b' ≠ x := fun z => by rw [z, hx] at hb'; cases hb'
    refine q p' b' _ hp' hb' hne upd_same ?_ ?_ fun a o ha hax => ?_
    · rw [upd_ne hxp]; exact h1p
    · rw [upd_ne hxb]; exact h1b
    · rw [upd_ne hax]; exact h1 a o ha hax
def spMany : Sp := fun vs H Q _ => ∃ (r : Addr) (xs : List V) (m : Nat), vs = [.ref r, .int (m : Int)] ∧ H r = some (.lst xs) ∧ 1 ≤ m ∧ m ≤ xs.length ∧ Q .non H
theorem sc_check_many : FnScope ["road", "many"] ["road", "many"] (defScope s_check_many) := ⟨rfl, rfl, rfl, by decide +kernel, rfl, by decide +kernel, by decide +kernel⟩
theorem ok_many {f fW fF : Addr} {fd dW dF : FuncData} (F : Fun K "check_many" "check_many" s_check_many f fd) (B : Blt mg) (U : Nums K mg fW fF dW dF) : FnOk P w K mg base CX0 3 f fd ["road", "many"] spMany := by
  have GF : FnOk P w K mg base CX0 2 fF dF ["value", "least"] spFrom := ok_from U.F B U.W U.bW U.mW
  refine F.ok sc_check_many (fun vs H Q E h => ?_) (fun cdv A outer s H vs Q E hr h => ?_)
  · obtain ⟨r, xs, m, rfl, _⟩ := h
    rfl
  · obtain ⟨r, xs, m, rfl, hR, h1, h2, q⟩ := h
    refine ⟨_, (pss_one (ps_if (PW.pt (pw_or (pt_not (pt_val (pe_call GF (hr.mono (by decide)) (by rfl) U.mF U.F.kp U.bF .nil pass0 (pa_cons (pv 1) (pa_cons pe_int pa_nil))))) (pw_or1 (pt_cmpR op_gt (pv 1) (pe_callB call_len_seq (by rfl) B.len boot_len (pa_cons (pv 0) pa_nil)) (nomark _)))))
        pss_never
        pss_nil)), ?_⟩
    refine ⟨_, rfl, (m : Int), 1, rfl, _, rfl, ?_⟩
    rw [decide_eq_true (show (1 : Int) ≤ (m : Int) by (first | lia | omega))]
    refine iteF ⟨_, rfl, _, rfl, r, _, rfl, .inl (SqL.of hR), _, _, rfl, rfl, _, rfl, ?_⟩
    rw [decide_eq_false (by (first | lia | omega))]
    exact iteF q
def feeOf (ns : List Int) (m : Nat) : Int := if m = ns.length then 0 else ns.getD (m - 1) 0 - ns.getD m 0
def spFee : Sp := fun vs H Q _ => ∃ (l : Addr) (ns : List Int) (m : Nat), vs = [.ref l, .int (m : Int)] ∧ IntsAt H l ns ∧ 1 ≤ m ∧ m ≤ ns.length ∧ Q (.int (feeOf ns m)) H
theorem sc_fitting_fee : FnScope ["least_ways", "many"] ["least_ways", "many"] (defScope s_fitting_fee) := ⟨rfl, rfl, rfl, by decide +kernel, rfl, by decide +kernel, by decide +kernel⟩
theorem ok_fee {f : Addr} {fd : FuncData} (F : Fun K "fitting_fee" "fitting_fee" s_fitting_fee f fd) (B : Blt mg) : FnOk P w K mg base CX0 1 f fd ["least_ways", "many"] spFee := by
  refine F.ok sc_fitting_fee (fun vs H Q E h => ?_) (fun cdv A outer s H vs Q E hr h => ?_)
  · obtain ⟨l, ns, m, rfl, _⟩ := h
    rfl
  · obtain ⟨l, ns, m, rfl, hI, h1, h2, q⟩ := h
    refine ⟨_, (pss_cons (ps_if (pt_cmpR op_eq (pv 1) (pe_callB call_len_seq (by rfl) B.len boot_len (pa_cons (pv 0) pa_nil)) (nomark _))
        (pss_one (ps_ret pe_int))
        pss_nil)
        (pss_one (ps_ret (pe_op op_sub (pe_ix ix_list (pv 0) (pe_op op_sub (pv 1) pe_int) (fun _ _ => rfl)) (pe_ix ix_list (pv 0) (pv 1) (fun _ _ => rfl)))))), ?_⟩
    refine ⟨_, rfl, _, rfl, l, _, rfl, .inl (SqL.of hI), rfl, _, rfl, ?_⟩
    refine ite2 (fun hc => ?_) (fun hc => ?_)
    · have hc' : m = ns.length := by have := of_decide_eq_true hc; injection this with this; rw [List.length_map] at this; (first | lia | omega)
      have e : feeOf ns m = 0 := by unfold feeOf; rw [if_pos hc']
      rw [e] at q
      exact q
    · have hc' : m ≠ ns.length := fun z => hc (decide_eq_true (by rw [List.length_map, z]))
      have e : feeOf ns m = ns.getD (m - 1) 0 - ns.getD m 0 := by unfold feeOf; rw [if_neg hc']
      rw [e] at q
      refine ⟨_, rfl, _, rfl, _, _, rfl, rfl, l, _, _, _, rfl, rfl, SqL.of hI, at_int (j := m - 1) (by (first | lia | omega)) (by (first | lia | omega)), ?_⟩
      exact ⟨_, rfl, _, rfl, l, _, _, _, rfl, rfl, SqL.of hI, at_int (j := m) rfl (by (first | lia | omega)), _, _, rfl, rfl, q⟩
structure BestAt (C : Addr) (H : Hp) (x p b : Addr) (fee : Int) (ps bs : List Int) : Prop where
  ob : ∃ dx, H x = some (.ins C dx (fldsB p b (.int fee)))
  ps : IntsAt H p ps
  bs : IntsAt H b bs
  ne : p ≠ b
def bestFee (road : List (Int × Int)) (k : Nat) : Int := feeOf (leasts road (min (k + 2) road.length)) (k + 1)
theorem leasts_len (road : List (Int × Int)) (k : Nat) : (leasts road k).length = k := by simp [leasts]
def bestPosts (road : List (Int × Int)) (k : Nat) : List Int := cps road (cC road (k + 1) road.length) (k + 1)
def spBest (C : Addr) : Sp := fun vs H Q _ => ∃ (r : Addr) (road : List (Int × Int)) (k : Nat), vs = [.ref r, .int (((k + 1 : Nat) : Int))] ∧ RoadAt H r road ∧ Good road ∧ k + 1 ≤ road.length ∧
  ∀ (x p b : Addr) (H' : Hp), Same H H' → H x = none → H p = none → H b = none → BestAt C H' x p b (bestFee road k) (bestPosts road k) (bnds road (bestFee road k)) → Q (.ref x) H'
theorem nd_best_0 : (["layer"] : List Str).Nodup := by decide +kernel
theorem sc_best : FnScope ["road", "many", "layers", "fee", "posts"] ["road", "many"] (defScope s_best) := ⟨rfl, rfl, rfl, by decide +kernel, rfl, by decide +kernel, by decide +kernel⟩
structure FnsB (P : Program) (w : World) (K : PySem.W.Frag) (mg : Str → Option Value) (base : Heap) (C fCR fCM fLs fFe fPb fLe fBo fSt fBi : Addr) (dCR dCM dLs dFe dPb dLe dBo dSt dBi : FuncData) : Prop where
  gCR : FnOk P w K mg base CX0 4 fCR dCR ["road"] spCheckRoad
  gCM : FnOk P w K mg base CX0 3 fCM dCM ["road", "many"] spMany
  gLs : FnOk P w K mg base CX0 3 fLs dLs ["road", "most"] spLays
  gFe : FnOk P w K mg base CX0 1 fFe dFe ["least_ways", "many"] spFee
  gPb : FnOk P w K mg base CX0 6 fPb dPb ["road", "ends"] spBetween
  gLe : FnOk P w K mg base CX0 1 fLe dLe ["layers", "houses"] spEnds
  gBo : FnOk P w K mg base CX0 1 fBo dBo ["steps"] spBounds
  gSt : FnOk P w K mg base CX0 3 fSt dSt ["road", "fee"] spSteps
  gBi : FnOk P w K mg base CX0 2 fBi dBi ["self", "posts", "bounds", "fee"] (spBInit K C)
  cCR : Callee K mg "check_road" sCheckRoad ["road"] fCR dCR
  cCM : Callee K mg "check_many" s_check_many ["road", "many"] fCM dCM
  cLs : Callee K mg "layers_up_to" s_layers_up_to ["road", "most"] fLs dLs
  cFe : Callee K mg "fitting_fee" s_fitting_fee ["least_ways", "many"] fFe dFe
  cPb : Callee K mg "posts_between" s_posts_between ["road", "ends"] fPb dPb
  cLe : Callee K mg "layered_ends" s_layered_ends ["layers", "houses"] fLe dLe
  cBo : Callee K mg "bounds_of" s_bounds_of ["steps"] fBo dBo
  cSt : Callee K mg "paid_steps" s_paid_steps ["road", "fee"] fSt dSt
  mak : Mk K C fBi
  bBi : Binds K dBi ["self", "posts", "bounds", "fee"] []
  mgC : mg "Best" = some (.ref C)
theorem ok_best {C fCR fCM fLs fFe fPb fLe fBo fSt fBi f : Addr} {dCR dCM dLs dFe dPb dLe dBo dSt dBi fd : FuncData} (F : Fun K "best" "best" s_best f fd) (B : Blt mg) (T : FnsB P w K mg base C fCR fCM fLs fFe fPb fLe fBo fSt fBi dCR dCM dLs dFe dPb dLe dBo dSt dBi) :
    FnOk P w K mg base CX0 7 f fd ["road", "many"] (spBest C) := by
  refine F.ok sc_best (fun vs H Q E h => ?_) (fun cdv A outer s H vs Q E hr h => ?_)
  · obtain ⟨r, road, k, rfl, _⟩ := h
    rfl
  · obtain ⟨r, road, k, rfl, R, G, hk, q⟩ := h
    have hsm := G.small
    refine ⟨_, (pss_cons (ps_expr (pe_call T.gCR (hr.mono (by decide)) (by rfl) T.cCR.m T.cCR.fn.kp T.cCR.b .nil pass0 (pa_cons (pv 0) pa_nil)))
        (pss_cons (ps_expr (pe_call T.gCM (hr.mono (by decide)) (by rfl) T.cCM.m T.cCM.fn.kp T.cCM.b .nil pass0 (pa_cons (pv 0) (pa_cons (pv 1) pa_nil))))
        (pss_cons (ps_set (i := 2) sc_best.nd rfl (Or.inl rfl) (pe_call T.gLs (hr.mono (by decide)) (by rfl) T.cLs.m T.cLs.fn.kp T.cLs.b .nil pass0 (pa_cons (pv 0) (pa_cons (pe_op op_add (pv 1) pe_int) pa_nil))))
        (pss_cons (ps_set (i := 3) sc_best.nd rfl (Or.inl rfl) (pe_call T.gFe (hr.mono (by decide)) (by rfl) T.cFe.m T.cFe.fn.kp T.cFe.b .nil pass0 (pa_cons (pe_comp (N := ["layer"]) (L := 1) (ix := []) rfl (by show CScope _ ["road", "many", "layers", "fee", "posts"] (defScope s_best) _ _ _; exact ⟨rfl, by decide +kernel, by decide +kernel, by decide +kernel, by decide +kernel, by decide +kernel, rfl⟩) (pi_list (pv 2)) (fun C' s₀ H₀ fp => ⟨(pg_name (i := 0) nd_best_0 rfl (Or.inl rfl)), pts_nil, (pe_ix (ix_tupK (K := K) rfl) (pe_ix (ix_listK (K := K) rfl) (pv 0) (pe_un un_neg pe_int) (fun _ _ => rfl)) pe_int (fun _ _ => rfl))⟩)) (pa_cons (pv 1) pa_nil))))
        (pss_cons (ps_set (i := 4) sc_best.nd rfl (Or.inl rfl) (pe_call T.gPb (hr.mono (by decide)) (by rfl) T.cPb.m T.cPb.fn.kp T.cPb.b .nil pass0 (pa_cons (pv 0) (pa_cons (pe_call T.gLe (hr.mono (by decide)) (by rfl) T.cLe.m T.cLe.fn.kp T.cLe.b .nil pass0 (pa_cons (pe_slice sl_list (pv 2) po_none (po_some (pv 1))) (pa_cons (pe_callB call_len_seq (by rfl) B.len boot_len (pa_cons (pv 0) pa_nil)) pa_nil))) pa_nil))))
        (pss_one (ps_ret (pe_make T.mak T.gBi (hr.mono (by decide)) (by rfl) T.mgC T.bBi .nil pass0 (pa_cons (pv 4) (pa_cons (pe_call T.gBo (hr.mono (by decide)) (by rfl) T.cBo.m T.cBo.fn.kp T.cBo.b .nil pass0 (pa_cons (pe_call T.gSt (hr.mono (by decide)) (by rfl) T.cSt.m T.cSt.fn.kp T.cSt.b .nil pass0 (pa_cons (pv 0) (pa_cons (pv 3) pa_nil))) pa_nil)) (pa_cons (pv 3) pa_nil))))))))))), ?_⟩
    refine ⟨_, rfl, r, road, rfl, R, G, fun H1 s1 => ?_⟩
    obtain ⟨ts, hR1, hT1⟩ := id (R.same s1)
    have hlt : (ts.map V.ref).length = road.length := by rw [List.length_map, hT1.len]
    refine ⟨_, rfl, _, rfl, r, _, k + 1, rfl, hR1, by (first | lia | omega), by rw [hlt]; exact hk, ?_⟩
    refine ⟨_, rfl, _, rfl, _, _, rfl, rfl, r, road, k + 2, ?_, R.same s1, G, fun ls H2 s2 hls hL => ?_⟩
    · show [V.ref r, V.int (((k + 1 : Nat) : Int) + 1)] = [V.ref r, V.int ((k + 2 : Nat) : Int)]
      rw [show (((k + 1 : Nat) : Int) + 1) = ((k + 2 : Nat) : Int) by (first | lia | omega)]
    obtain ⟨as, hl2, hA⟩ := id hL
    generalize hm : min (k + 2) road.length = m at hL hA
    have hal : as.length = m := by rw [Paired.length hA, List.length_range]
    have hkm : k + 1 ≤ m := by (first | lia | omega)
    have hmn : m ≤ road.length := by (first | lia | omega)
    refine ⟨_, rfl, ls, rfl, ⟨_, SqL.of hl2⟩, comp_by (n := m) (fun D i σ ys H3 => Same H2 H3 ∧ H2 D = none ∧ (∃ u, σ = [u]) ∧ i ≤ m ∧ ys = (leasts road i).map V.int) ?_ ?_ ?_⟩
    · exact fun D hD => ⟨same_upd hD, hD, ⟨_, rfl⟩, Nat.zero_le _, rfl⟩
    · rintro D i σ ys H3 hi ⟨s3, hD, ⟨u, rfl⟩, _, rfl⟩ hD'
      obtain ⟨a, ea, hSa⟩ := paired_at (hA.same s3) (i := i) (y := i) (List.getElem?_range hi)
      have ea' : (as.map V.ref)[i]? = some (V.ref a) := by rw [List.getElem?_map, ea]; rfl
      refine ⟨⟨_, _, SqL.of (s3 _ _ hl2), ea'⟩, fun x H4 y => ?_⟩
      obtain ⟨rfl, y⟩ := y
      have hx := y _ (SqL.of (s3 _ _ hl2))
      rw [ea'] at hx
      have hx' := Option.some.inj hx
      subst hx'
      refine nameT (yesT (iteT ?_))
      refine ⟨_, rfl, _, rfl, last_ix hSa (by (first | lia | omega)) ?_⟩
      refine ⟨small5000 (by rw [List.length_map, leasts_len]; (first | lia | omega)), hD', same_upd2 s3 hD, hD, ⟨_, rfl⟩, by (first | lia | omega), ?_⟩
      unfold leasts
      rw [range_snoc, List.map_append]
      rfl
    · rintro D σ ys H3 ⟨s3, hD, ⟨u, rfl⟩, _, rfl⟩ hD'
      refine ⟨⟨_, SqL.of (s3 _ _ hl2), by rw [List.length_map, hal]; exact Nat.le_refl _⟩, ?_⟩
      refine ⟨_, rfl, D, leasts road m, k + 1, rfl, hD', by (first | lia | omega), by rw [leasts_len]; exact hkm, ?_⟩
      have ef : feeOf (leasts road m) (k + 1) = bestFee road k := by unfold bestFee; rw [hm]
      show gName 3 (V.int (feeOf (leasts road m) (k + 1))) _ _ _
      rw [ef]
      have s13 := s1.trans (s2.trans s3)
      refine ⟨_, rfl, _, rfl, _, rfl, _, rfl, ls, _, rfl, SqL.of (s3 _ _ hl2), fun sl hsl => ?_⟩
      have ecut : cutV (as.map V.ref) none (some ((k + 1 : Nat) : Int)) = (as.take (k + 1)).map V.ref := by
        unfold cutV
        rw [HT.sIx_none, HT.sIx_nat, List.length_map, hal, Nat.min_eq_left hkm, List.drop_zero, Nat.sub_zero, List.map_take]
      have s34 : Same H3 (upd H3 sl (.lst (cutV (as.map V.ref) none (some ((k + 1 : Nat) : Int))))) := same_upd hsl
      have h4s := upd_same (H := H3) (a := sl) (o := .lst (cutV (as.map V.ref) none (some ((k + 1 : Nat) : Int))))
      generalize upd H3 sl (.lst (cutV (as.map V.ref) none (some ((k + 1 : Nat) : Int)))) = H4 at s34 h4s
      rw [ecut] at h4s
      have LT : LaysAt H4 sl road (k + 1) := by
        refine ⟨as.take (k + 1), h4s, ?_⟩
        have tk : ∀ {α β : Type} {R : α → β → Prop} {xs : List α} {ys : List β} (n : Nat), Paired R xs ys → Paired R (xs.take n) (ys.take n) := by
          intro α β R xs ys n h
          induction h generalizing n with
          | nil => cases n <;> exact .nil
          | cons r _ ih => cases n with
            | zero => exact .nil
            | succ n => exact .cons r (ih n)
        have e : List.range (k + 1) = (List.range m).take (k + 1) := by rw [List.take_range, Nat.min_eq_left hkm]
        rw [e]
        exact tk (k + 1) (hA.same (s3.trans s34))
      have s14 := s13.trans s34
      obtain ⟨ts4, hR4, hT4⟩ := id (R.same s14)
      have hlt4 : (ts4.map V.ref).length = road.length := by rw [List.length_map, hT4.len]
      refine ⟨_, rfl, r, _, rfl, .inl (SqL.of hR4), sl, road, k, ?_, LT, hk, hsm, fun en H5 s45 hen hE => ?_⟩
      · rw [hlt4]; rfl
      obtain ⟨C', _⟩ := cC_cuts (road := road) hk
      have s15 := s14.trans s45
      refine ⟨r, en, road, k + 1, cC road (k + 1) road.length, rfl, R.same s15, G, hE, C', fun pl H6 s56 hpl hP => ?_⟩
      have s16 := s15.trans s56
      refine ⟨_, rfl, _, rfl, _, rfl, r, road, bestFee road k, rfl, R.same s16, G, fun st H7 s67 hst hS => ?_⟩
      refine ⟨st, road, bestFee road k, rfl, hS, hsm, fun bl H8 s78 hbl hB => ?_⟩
      have s18 := (s16.trans s67).trans s78
      refine ⟨_, rfl, fun x dx nx ndx nex => ?_⟩
      have hx9 : upd (upd H8 dx (.own x)) x (.ins C dx []) x = some (.ins C dx []) := upd_same
      have s89 : Same H8 (upd (upd H8 dx (.own x)) x (.ins C dx [])) := fun a o e => by
        rw [upd_ne (ne_of_none e nx), upd_ne (ne_of_none e ndx)]
        exact e
      generalize upd (upd H8 dx (.own x)) x (.ins C dx []) = H9 at hx9 s89
      have hP9 : H9 pl = some (.lst ((bestPosts road k).map V.int)) := s89 _ _ ((s67.trans s78) _ _ hP)
      have hB9 : H9 bl = some (.lst ((bnds road (bestFee road k)).map V.int)) := s89 _ _ hB
      refine ⟨x, dx, pl, bl, _, _, _, rfl, hx9, hP9, hB9, fun p' b' HA hp' hb' hne hx' hp2 hb2 hk2 => ⟨rfl, ?_⟩⟩
      have s8A : Same H8 HA := fun a o e => hk2 a o (s89 a o e) (ne_of_none e nx)
      exact q x p' b' HA (s18.trans s8A) (s18.free nx) (s18.free (s89.free hp')) (s18.free (s89.free hb')) ⟨⟨dx, hx'⟩, hp2, hb2, hne⟩
end
end Ph
set_option Elab.async false
set_option linter.all false
set_option maxRecDepth 100000
set_option maxHeartbeats 4000000
namespace Ph
open PySem PySem.Spec PyProof.Rows L2
theorem RoadAt.upd {H : Hp} {r D : Addr} {road : List (Int × Int)} {xs : List V} {o : HO} (R : RoadAt H r road) (hD : H D = some (.lst xs)) (ne : r ≠ D) : RoadAt (upd H D o) r road := by
  obtain ⟨ts, h1, h2⟩ := R
  exact ⟨ts, by rw [upd_ne ne]; exact h1, h2.lst hD⟩
theorem flatInts (ns : List Int) : ∀ v ∈ ns.map V.int, flat v = true := fun v hv => by
  obtain ⟨z, _, rfl⟩ := List.mem_map.mp hv
  rfl
theorem sameInts {K : PySem.W.Frag} {neg : Bool} {H : Hp} {a b : Addr} {ns : List Int} {Q : VK} (ha : IntsAt H a ns) (hb : IntsAt H b ns) (q : Q (.bl (!neg)) H) : rEqL K neg (.ref a) (.ref b) H Q :=
  eqAll (SqL.of ha) (SqL.of hb) rfl (fun j x y e1 e2 => by rw [e1] at e2; cases e2; exact deq_self (flatInts _ _ (List.mem_of_getElem? e1))) q
theorem sameRefs {K : PySem.W.Frag} {neg : Bool} {H : Hp} {a b : Addr} {xs : List V} {Q : VK} (hf : ∀ v ∈ xs, flat v = true) (ha : H a = some (.lst xs)) (hb : H b = some (.lst xs)) (q : Q (.bl (!neg)) H) : rEqL K neg (.ref a) (.ref b) H Q :=
  eqAll (SqL.of ha) (SqL.of hb) rfl (fun j x y e1 e2 => by rw [e1] at e2; cases e2; exact deq_self (hf _ (List.mem_of_getElem? e1))) q
end Ph
set_option Elab.async false
set_option linter.all false
set_option maxRecDepth 100000
set_option maxHeartbeats 4000000
namespace Ph
open PySem PySem.Spec PyProof.Rows L2
structure IsC (K : PySem.W.Frag) (CA CB CP : Addr) : Prop where
  pa : PySem.W.kitOne K (.ref CP) (.ref CA) = some true
  pp : PySem.W.kitOne K (.ref CP) (.ref CP) = some true
  pb : PySem.W.kitOne K (.ref CP) (.ref CB) = some false
  t1 : PySem.W.findIn K (.ref CP) "__class__" = some (some (.builtin "object.__class__"))
  t2 : PySem.W.specialIn K (.builtin "object.__class__") "__get__" = some (some (.builtin "getset_descriptor.__get__"))
  t3 : PySem.W.takesIn K (.builtin "object.__class__") = some true
  t4 : PySem.W.mroIn K CP (.type "object") = some true
theorem kit_ref {K : PySem.W.Frag} {C D : Addr} {b : Bool} (h1 : PySem.W.mroIn K C (.ref D) = some b) (h2 : PySem.W.mroIn K D (.ref D) = some true) (h4 : PySem.W.typeIn K (.ref D) = some (.type "type")) : PySem.W.kitOne K (.ref C) (.ref D) = some b := by
  have hc : (PySem.W.clsIn K D).isSome = true := by
    unfold PySem.W.mroIn at h2
    cases e : PySem.W.clsIn K D with
    | none => rw [e] at h2; cases h2
    | some cd => rfl
  unfold PySem.W.kitOne
  by_cases hCD : C = D
  · subst hCD
    rw [h1] at h2
    cases h2
    rw [if_pos (by simp)]
  · rw [if_neg (by simpa using hCD)]
    unfold PySem.W.kitCls
    simp only [hc, h4, beq_self_eq_true, Bool.and_self, if_true]
    exact h1
def forBody (s : Stmt) : List Stmt := match s with
  | .For _ _ b _ _ => b
  | _ => []
theorem good_nil : Good [] := ⟨fun j h => by simp at h, fun pl h => by simp at h, by decide, fun pl h => by simp at h⟩
end Ph
set_option Elab.async false
set_option linter.all false
set_option maxRecDepth 100000
set_option maxHeartbeats 4000000
namespace Ph
open PySem PySem.Spec PyProof.Rows L2
theorem FnOk.orE {P : Program} {w : World} {K : PySem.W.Frag} {mg : Str → Option Value} {base : Heap} {CX : CXT} {k : Nat} {f : Addr} {fd : FuncData} {ps : List Str} {sp sp' : Sp} (F : FnOk P w K mg base CX k f fd ps sp) (G : FnOk P w K mg base CX k f fd ps sp') :
    FnOk P w K mg base CX k f fd ps (fun vs H Q E => sp vs H Q E ∨ sp' vs H Q E) :=
  ⟨fun vs H Q E h => h.elim (F.len vs H Q E) (G.len vs H Q E), fun A outer s H args us vs Q E hr he hb hv hs => hs.elim (F.run A outer s H args us vs Q E hr he hb hv) (G.run A outer s H args us vs Q E hr he hb hv)⟩
theorem exm_ref {K : PySem.W.Frag} {C D : Addr} (h0 : PySem.W.mroIn K D (.type "BaseException") = some true) (h1 : PySem.W.mroIn K C (.ref D) = some true) (h4 : PySem.W.typeIn K (.ref D) = some (.type "type")) : PySem.W.exmOne K (.ref C) (.ref D) = some true := by
  have hc : (PySem.W.clsIn K D).isSome = true := by
    unfold PySem.W.mroIn at h0
    cases e : PySem.W.clsIn K D with
    | none => rw [e] at h0; cases h0
    | some cd => rfl
  unfold PySem.W.exmOne PySem.W.subIn
  simp only [h0, beq_self_eq_true, if_true]
  unfold PySem.W.kitCls
  simp only [hc, h4, beq_self_eq_true, Bool.and_self, if_true]
  exact h1
structure ErrC (K : PySem.W.Frag) (mg : Str → Option Value) (CP CBP : Addr) : Prop where
  bp : ExcC K CBP
  mP : mg "PostError" = some (.ref CP)
  mBP : mg "BadPosts" = some (.ref CBP)
  exm : PySem.W.exmOne K (.ref CBP) (.ref CP) = some true
section
variable {P : Program} {w : World} {K : PySem.W.Frag} {mg : Str → Option Value} {base : Heap} {CP CBP : Addr}
def spCPBad (CBP : Addr) : Sp := fun vs H Q E => ∃ (r p : Addr) (xs : List V) (ps : List Int), vs = [.ref r, .ref p] ∧ H r = some (.lst xs) ∧ IntsAt H p ps ∧ ¬ PostsOk xs.length ps ∧ ps.length ≤ 1000000 ∧ E (.ref CBP) none H
theorem ok_cpBad {f fR fW fF : Addr} {fd fdR fdW fdF : FuncData} (F : Fun K "check_posts" "check_posts" sCheckPosts f fd) (B : Blt mg) (U : Nums K mg fW fF fdW fdF) (CR : Callee K mg "is_rising" sRising ["numbers"] fR fdR) (X : ErrC K mg CP CBP) :
    FnOk P w K mg base (CXE P w) 3 f fd ["road", "posts"] (spCPBad CBP) := by
  have GF : FnOk P w K mg base CX0 2 fF fdF ["value", "least"] spFrom := ok_from U.F B U.W U.bW U.mW
  have GR : FnOk P w K mg base CX0 1 fR fdR ["numbers"] (spRising K) := ok_rising CR.fn B
  refine F.okE scCP (fun vs H Q E h => ?_) (fun cdv A outer s H vs Q E hr h => ?_)
  · obtain ⟨r, p, xs, ps, rfl, _⟩ := h
    rfl
  · obtain ⟨r, p, xs, ps, rfl, hR, hP, nO, hn, q⟩ := h
    refine ⟨_, pss_cons (ps_if (pt_not (pt_val (pe_callB call_isinst (by rfl) B.isinstance boot_isinstance (pa_cons (pv 1) (pa_cons (pe_bltn (v := .ty "list") (by rfl) B.list PyProof.Rows.boot_list rfl) pa_nil))))) pss_never pss_nil)
      (pss_cons (ps_for PassesOwn.leaving rfl (pi_list (pv 1)) (pg_name (i := 2) scCP.nd rfl (Or.inl rfl))
        (pss_one (ps_if (PW.pt (pw_or (pt_not (pt_val (pe_call GF hr (by rfl) U.mF U.F.kp U.bF .nil pass0 (pa_cons (pv 2) (pa_cons pe_int pa_nil)))))
          (pw_or1 (pt_cmpR op_ge (pv 2) (pe_callB call_len_seq (by rfl) B.len boot_len (pa_cons (pv 0) pa_nil)) (nomark _))))) (pss_one (ps_raise raisesE rfl (by rfl) X.mBP X.bp pe_str)) pss_nil)))
      (pss_cons (ps_if (pt_not (pt_val (pe_call GR (hr.mono (by decide)) (by rfl) CR.m CR.fn.kp CR.b .nil pass0 (pa_cons (pv 1) pa_nil)))) (pss_one (ps_raise raisesE rfl (by rfl) X.mBP X.bp pe_str)) pss_nil)
      (pss_one (ps_if (PW.pt (pw_and (pt_cmpR op_gt (pe_callB call_len_seq (by rfl) B.len boot_len (pa_cons (pv 0) pa_nil)) pe_int (nomark _))
        (pw_and1 (pt_cmpR op_eq (pe_callB call_len_seq (by rfl) B.len boot_len (pa_cons (pv 1) pa_nil)) pe_int (nomark _))))) (pss_one (ps_raise raisesE rfl (by rfl) X.mBP X.bp pe_str)) pss_nil)))), ?_⟩
    refine ⟨_, rfl, _, _, _, _, rfl, .lst hP, kit_same _, _, rfl, iteF ?_⟩
    refine ⟨_, rfl, p, rfl, ⟨_, SqL.of hP⟩, for_list (K := K) (a := p) (xs := ps.map V.int) (fun i σ H' => H' = H ∧ (∃ v, σ = [some (.ref r), some (.ref p), v]) ∧ ∀ j, j < i → 0 ≤ ps.getD j 0 ∧ ps.getD j 0 < (xs.length : Int)) ⟨rfl, ⟨_, rfl⟩, fun j hj => by (first | lia | omega)⟩ (fun i σ H' _ z => by rw [z.1]; exact SqL.of hP) ?_ ?_⟩
    · rintro i x σ H' hx ⟨rfl, ⟨v, rfl⟩, hin⟩
      have hi : i < ps.length := by have := (List.getElem?_eq_some_iff.mp hx).1; simpa using this
      rw [List.getElem?_map, getD_some hi] at hx
      have hx' := Option.some.inj hx
      subst hx'
      refine ⟨_, rfl, _, 0, rfl, _, rfl, ?_⟩
      by_cases a1 : (0 : Int) ≤ ps.getD i 0
      · rw [decide_eq_true a1]
        refine iteF ⟨_, rfl, _, rfl, r, _, rfl, .inl (SqL.of hR), _, _, rfl, rfl, _, rfl, ?_⟩
        refine ite2 (fun hc => q) (fun hc => ⟨rfl, ⟨_, rfl⟩, fun j hj => ?_⟩)
        have hc' : ¬ ((xs.length : Int) ≤ ps.getD i 0) := fun z => hc (decide_eq_true z)
        rcases Nat.lt_succ_iff_lt_or_eq.mp hj with z | z
        · exact hin j z
        · subst z; (first | lia | omega)
      · rw [decide_eq_false a1]
        exact iteT q
    · rintro σ H' ⟨rfl, ⟨v, rfl⟩, hin⟩
      rw [List.length_map] at hin
      have hall : ∀ z ∈ ps, 0 ≤ z ∧ z < (xs.length : Int) := fun z hz => by
        obtain ⟨j, hj, rfl⟩ := List.mem_iff_getElem.mp hz
        have := hin j hj
        simpa [List.getD_eq_getElem?_getD, hj] using this
      refine ⟨_, rfl, p, ps, rfl, SqL.of hP, hn, fun hrise => ⟨_, rfl, iteF ?_⟩, fun nr => ⟨_, rfl, iteT q⟩⟩
      refine ⟨_, rfl, r, _, rfl, .inl (SqL.of hR), _, _, rfl, rfl, _, rfl, ?_⟩
      refine ite2 (fun hc => ?_) (fun hc => ?_)
      · refine ⟨_, rfl, p, _, rfl, .inl (SqL.of hP), rfl, _, rfl, ?_⟩
        refine ite2 (fun hc2 => q) (fun hc2 => ?_)
        refine absurd ⟨hrise, fun z hz => (hall z hz).1, fun z hz => (hall z hz).2, fun _ => ?_⟩ nO
        rw [dec_int, List.length_map] at hc2
        have : ps.length ≠ 0 := fun z => hc2 (by rw [z]; rfl)
        (first | lia | omega)
      · refine absurd ⟨hrise, fun z hz => (hall z hz).1, fun z hz => (hall z hz).2, fun h0 => ?_⟩ nO
        exact absurd (decide_eq_true (by (first | lia | omega))) hc
def spNBad (CBP : Addr) : Sp := fun vs H Q E => ∃ (r p : Addr) (road : List (Int × Int)) (ps : List Int), vs = [.ref r, .ref p] ∧ RoadAt H r road ∧ Good road ∧ IntsAt H p ps ∧ ¬ PostsOk road.length ps ∧ ps.length ≤ 1000000 ∧ ∀ H', Same H H' → E (.ref CBP) none H'
end
end Ph
set_option Elab.async false
set_option linter.all false
set_option maxRecDepth 100000
set_option maxHeartbeats 4000000
namespace Ph
open PySem PySem.Spec PyProof.Rows L2
def IsK (K : PySem.W.Frag) (H : Hp) (v : V) (T : String) (b : Bool) : Prop := ∃ t, TyOf K H v t ∧ PySem.W.kitOne K t (.type T) = some b
theorem IsK.same {K : PySem.W.Frag} {H H' : Hp} {v : V} {T : String} {b : Bool} (e : Same H H') (h : IsK K H v T b) : IsK K H' v T b := by
  obtain ⟨t, ty, k⟩ := h
  refine ⟨t, ?_, k⟩
  cases ty with
  | non => exact .non
  | bl x => exact .bl x
  | int i => exact .int i
  | str x => exact .str x
  | flt x => exact .flt x
  | lst q => exact .lst (e _ _ q)
  | frz q => exact .frz (e _ _ q)
  | tup q => exact .tup (e _ _ q)
  | dK q => exact .dK (e _ _ q)
  | dT q => exact .dT (e _ _ q)
  | ins q c1 c2 c3 c4 c5 => exact .ins (e _ _ q) c1 c2 c3 c4 c5
section
variable {K : PySem.W.Frag} {H : Hp}
theorem is_non_int : IsK K H .non "int" false := ⟨_, .non, by unfold PySem.W.kitOne PySem.W.kitCls PySem.W.subIn; dsimp only; decide +kernel⟩
theorem is_str_int (x : Str) : IsK K H (.str x) "int" false := ⟨_, .str x, by unfold PySem.W.kitOne PySem.W.kitCls PySem.W.subIn; dsimp only; decide +kernel⟩
theorem is_lst_int {a : Addr} {xs : List V} (h : H a = some (.lst xs)) : IsK K H (.ref a) "int" false := ⟨_, .lst h, by unfold PySem.W.kitOne PySem.W.kitCls PySem.W.subIn; dsimp only; decide +kernel⟩
theorem is_tup_int {a : Addr} {xs : List V} (h : H a = some (.tup xs)) : IsK K H (.ref a) "int" false := ⟨_, .tup h, by unfold PySem.W.kitOne PySem.W.kitCls PySem.W.subIn; dsimp only; decide +kernel⟩
theorem is_dct_int {a : Addr} {xs : List (Key × V)} (h : H a = some (.dK xs)) : IsK K H (.ref a) "int" false := ⟨_, .dK h, by unfold PySem.W.kitOne PySem.W.kitCls PySem.W.subIn; dsimp only; decide +kernel⟩
theorem is_bl_int (b : Bool) : IsK K H (.bl b) "int" true := ⟨_, .bl b, by unfold PySem.W.kitOne PySem.W.kitCls PySem.W.subIn; dsimp only; decide +kernel⟩
theorem is_bl_bl (b : Bool) : IsK K H (.bl b) "bool" true := ⟨_, .bl b, kit_same _⟩
theorem is_non_tup : IsK K H .non "tuple" false := ⟨_, .non, by unfold PySem.W.kitOne PySem.W.kitCls PySem.W.subIn; dsimp only; decide +kernel⟩
theorem is_int_tup (i : Int) : IsK K H (.int i) "tuple" false := ⟨_, .int i, by unfold PySem.W.kitOne PySem.W.kitCls PySem.W.subIn; dsimp only; decide +kernel⟩
theorem is_lst_tup {a : Addr} {xs : List V} (h : H a = some (.lst xs)) : IsK K H (.ref a) "tuple" false := ⟨_, .lst h, by unfold PySem.W.kitOne PySem.W.kitCls PySem.W.subIn; dsimp only; decide +kernel⟩
theorem is_non_lst : IsK K H .non "list" false := ⟨_, .non, by unfold PySem.W.kitOne PySem.W.kitCls PySem.W.subIn; dsimp only; decide +kernel⟩
theorem is_int_lst (i : Int) : IsK K H (.int i) "list" false := ⟨_, .int i, by unfold PySem.W.kitOne PySem.W.kitCls PySem.W.subIn; dsimp only; decide +kernel⟩
theorem is_str_lst (x : Str) : IsK K H (.str x) "list" false := ⟨_, .str x, by unfold PySem.W.kitOne PySem.W.kitCls PySem.W.subIn; dsimp only; decide +kernel⟩
theorem is_tup_lst {a : Addr} {xs : List V} (h : H a = some (.tup xs)) : IsK K H (.ref a) "list" false := ⟨_, .tup h, by unfold PySem.W.kitOne PySem.W.kitCls PySem.W.subIn; dsimp only; decide +kernel⟩
theorem is_dct_lst {a : Addr} {xs : List (Key × V)} (h : H a = some (.dK xs)) : IsK K H (.ref a) "list" false := ⟨_, .dK h, by unfold PySem.W.kitOne PySem.W.kitCls PySem.W.subIn; dsimp only; decide +kernel⟩
end
def NoWhole (K : PySem.W.Frag) (H : Hp) (v : V) : Prop := IsK K H v "int" false ∨ (IsK K H v "int" true ∧ IsK K H v "bool" true)
theorem NoWhole.same {K : PySem.W.Frag} {H H' : Hp} {v : V} (e : Same H H') (h : NoWhole K H v) : NoWhole K H' v := h.imp (·.same e) fun z => ⟨z.1.same e, z.2.same e⟩
theorem noW_bl {K : PySem.W.Frag} {H : Hp} (b : Bool) : NoWhole K H (.bl b) := .inr ⟨is_bl_int b, is_bl_bl b⟩
def HouseAt (H : Hp) (v : V) : Prop := ∃ (t : Addr) (p l : Int), v = .ref t ∧ H t = some (.tup [.int p, .int l]) ∧ 0 ≤ l
def NoHouse (K : PySem.W.Frag) (H : Hp) (v : V) : Prop := IsK K H v "tuple" false ∨ ∃ (t : Addr) (xs : List V), v = .ref t ∧ H t = some (.tup xs) ∧
  (xs.length ≠ 2 ∨ ∃ x y, xs = [x, y] ∧ (NoWhole K H x ∨ ∃ i, x = .int i ∧ (NoWhole K H y ∨ ∃ l, y = .int l ∧ l < 0)))
theorem HouseAt.same {H H' : Hp} {v : V} (e : Same H H') (h : HouseAt H v) : HouseAt H' v := by
  obtain ⟨t, p, l, h1, h2, h3⟩ := h
  exact ⟨t, p, l, h1, e _ _ h2, h3⟩
theorem NoHouse.same {K : PySem.W.Frag} {H H' : Hp} {v : V} (e : Same H H') (h : NoHouse K H v) : NoHouse K H' v := by
  rcases h with h | ⟨t, xs, h1, h2, h3⟩
  · exact .inl (h.same e)
  · refine .inr ⟨t, xs, h1, e _ _ h2, h3.imp id ?_⟩
    rintro ⟨x, y, h4, h5⟩
    refine ⟨x, y, h4, h5.imp (·.same e) ?_⟩
    rintro ⟨i, h6, h7⟩
    exact ⟨i, h6, h7.imp (·.same e) id⟩
def BadRoad (K : PySem.W.Frag) (H : Hp) (v : V) : Prop := IsK K H v "list" false ∨
  (∃ (r : Addr) (xs : List V) (j : Nat) (x : V), v = .ref r ∧ H r = some (.lst xs) ∧ xs[j]? = some x ∧ NoHouse K H x ∧ ∀ i y, i < j → xs[i]? = some y → HouseAt H y) ∨
  ∃ (r : Addr) (road : List (Int × Int)), v = .ref r ∧ RoadAt H r road ∧ (∀ pl ∈ road, 0 ≤ pl.2) ∧ road.length ≤ 1000 ∧ ¬ Rise (road.map (·.1))
theorem BadRoad.same {K : PySem.W.Frag} {H H' : Hp} {v : V} (h : BadRoad K H v) (e : Same H H') : BadRoad K H' v := by
  rcases h with h | ⟨r, xs, j, x, h1, h2, h3, h4, h5⟩ | ⟨r, road, h1, h2, h3⟩
  · exact .inl (h.same e)
  · exact .inr (.inl ⟨r, xs, j, x, h1, e _ _ h2, h3, h4.same e, fun i y hi hy => (h5 i y hi hy).same e⟩)
  · exact .inr (.inr ⟨r, road, h1, h2.same e, h3⟩)
section
variable {P : Program} {w : World} {K : PySem.W.Frag} {mg : Str → Option Value} {base : Heap}
def spWholeV (K : PySem.W.Frag) : Sp := fun vs H Q _ => ∃ v, vs = [v] ∧ NoWhole K H v ∧ Q (.bl false) H
theorem ok_wholeV {f : Addr} {fd : FuncData} (F : Fun K "is_whole" "is_whole" sWhole f fd) (B : Blt mg) : FnOk P w K mg base CX0 1 f fd ["value"] (spWholeV K) := by
  refine F.ok scWhole (fun vs H Q E h => ?_) (fun cdv A outer s H vs Q E hr h => ?_)
  · obtain ⟨v, rfl, _⟩ := h
    rfl
  · obtain ⟨v, rfl, hn, q⟩ := h
    refine ⟨_, pss_one (ps_ret (pe_and (pe_callB call_isinst (by rfl) B.isinstance boot_isinstance (pa_cons (pv 0) (pa_cons (pe_bltn (v := .ty "int") (by rfl) B.int PyProof.Rows.boot_int rfl) pa_nil)))
      (pe_one (pe_not (pe_callB call_isinst (by rfl) B.isinstance boot_isinstance (pa_cons (pv 0) (pa_cons (pe_bltn (v := .ty "bool") (by rfl) B.bool PyProof.Rows.boot_bool rfl) pa_nil))))))), ?_⟩
    rcases hn with ⟨t, ty, k⟩ | ⟨⟨t, ty, k⟩, t', ty', k'⟩
    · exact ⟨_, rfl, _, _, _, _, rfl, ty, k, _, rfl, iteF q⟩
    · exact ⟨_, rfl, _, _, _, _, rfl, ty, k, _, rfl, iteT ⟨_, rfl, _, _, _, _, rfl, ty', k', _, rfl, q⟩⟩
def spWholeA (K : PySem.W.Frag) : Sp := fun vs H Q E => spWhole vs H Q E ∨ spWholeV K vs H Q E
def spFromV (K : PySem.W.Frag) : Sp := fun vs H Q _ => ∃ v n, vs = [v, .int n] ∧ NoWhole K H v ∧ Q (.bl false) H
theorem ok_fromV {f fW : Addr} {fd fdW : FuncData} (F : Fun K "is_whole_from" "is_whole_from" sFrom f fd) (B : Blt mg) (FW : Fun K "is_whole" "is_whole" sWhole fW fdW) (bW : Binds K fdW ["value"] []) (mW : mg "is_whole" = some (.ref fW)) :
    FnOk P w K mg base CX0 2 f fd ["value", "least"] (spFromV K) := by
  have GW : FnOk P w K mg base CX0 1 fW fdW ["value"] (spWholeV K) := ok_wholeV FW B
  refine F.ok scFrom (fun vs H Q E h => ?_) (fun cdv A outer s H vs Q E hr h => ?_)
  · obtain ⟨v, n, rfl, _⟩ := h
    rfl
  · obtain ⟨v, n, rfl, hn, q⟩ := h
    refine ⟨_, pss_one (ps_ret (pe_and (pe_call GW hr (by rfl) mW FW.kp bW .nil pass0 (pa_cons (pv 0) pa_nil)) (pe_one (pe_cmpR op_ge (pv 0) (pv 1) (nomark _))))), ?_⟩
    exact ⟨_, rfl, v, rfl, hn, _, rfl, iteF q⟩
def spFromA (K : PySem.W.Frag) : Sp := fun vs H Q E => spFrom vs H Q E ∨ spFromV K vs H Q E
theorem ok_wholeA {f fW fF : Addr} {dW dF : FuncData} (U : Nums K mg fW fF dW dF) (B : Blt mg) : FnOk P w K mg base CX0 1 fW dW ["value"] (spWholeA K) := FnOk.orE (ok_whole U.W B) (ok_wholeV U.W B)
theorem ok_fromA {fW fF : Addr} {dW dF : FuncData} (U : Nums K mg fW fF dW dF) (B : Blt mg) : FnOk P w K mg base CX0 2 fF dF ["value", "least"] (spFromA K) := FnOk.orE (ok_from U.F B U.W U.bW U.mW) (ok_fromV U.F B U.W U.bW U.mW)
def spHouseBad (K : PySem.W.Frag) : Sp := fun vs H Q _ => ∃ v, vs = [v] ∧ NoHouse K H v ∧ Q (.bl false) H
theorem ok_houseBad {f fW fF : Addr} {fd fdW fdF : FuncData} (F : Fun K "is_house" "is_house" sHouse f fd) (B : Blt mg) (U : Nums K mg fW fF fdW fdF) :
    FnOk P w K mg base CX0 3 f fd ["value"] (spHouseBad K) := by
  have GW : FnOk P w K mg base CX0 1 fW fdW ["value"] (spWholeA K) := ok_wholeA (f := f) U B
  have GF : FnOk P w K mg base CX0 2 fF fdF ["value", "least"] (spFromA K) := ok_fromA U B
  refine F.ok scHouse (fun vs H Q E h => ?_) (fun cdv A outer s H vs Q E hr h => ?_)
  · obtain ⟨v, rfl, _⟩ := h
    rfl
  · obtain ⟨v, rfl, hn, q⟩ := h
    refine ⟨_, pss_cons (ps_if (PW.pt (pw_or (pt_not (pt_val (pe_callB call_isinst (by rfl) B.isinstance boot_isinstance (pa_cons (pv 0) (pa_cons (pe_bltn (v := .ty "tuple") (by rfl) B.tuple PyProof.Rows.boot_tuple rfl) pa_nil)))))
        (pw_or1 (pt_cmpR op_ne (pe_callB call_len_seq (by rfl) B.len boot_len (pa_cons (pv 0) pa_nil)) pe_int (nomark _))))) (pss_one (ps_ret pe_bl)) pss_nil)
      (pss_one (ps_ret (pe_and (pe_call GW (hr.mono (by decide)) (by rfl) U.mW U.W.kp U.bW .nil pass0 (pa_cons (pe_ix ix_tup (pv 0) pe_int (fun _ _ => rfl)) pa_nil))
        (pe_one (pe_call GF hr (by rfl) U.mF U.F.kp U.bF .nil pass0 (pa_cons (pe_ix ix_tup (pv 0) pe_int (fun _ _ => rfl)) (pa_cons pe_int pa_nil))))))), ?_⟩
    rcases hn with ⟨t, ty, k⟩ | ⟨t, xs, rfl, ht, h3⟩
    · exact ⟨_, rfl, _, _, _, _, rfl, ty, k, _, rfl, iteT q⟩
    · refine ⟨_, rfl, _, _, _, _, rfl, .tup ht, kit_same _, _, rfl, iteF ⟨_, rfl, t, _, rfl, .inr (SqT.of ht), rfl, _, rfl, ?_⟩⟩
      rw [dec_int]
      rcases h3 with h3 | ⟨x, y, rfl, h3⟩
      · have e : (!((xs.length : Int) == 2)) = true := by
          have : ¬ ((xs.length : Int) = 2) := by (first | lia | omega)
          simpa using this
        rw [e]
        exact iteT q
      · refine iteF ?_
        rcases h3 with h3 | ⟨i, rfl, h3⟩
        · exact ⟨_, rfl, t, _, _, _, rfl, rfl, SqT.of ht, rfl, .inr ⟨x, rfl, h3, _, rfl, iteF q⟩⟩
        · refine ⟨_, rfl, t, _, _, _, rfl, rfl, SqT.of ht, rfl, .inl ⟨i, rfl, _, rfl, iteT ?_⟩⟩
          rcases h3 with h3 | ⟨l, rfl, h3⟩
          · exact ⟨_, rfl, t, _, _, _, rfl, rfl, SqT.of ht, rfl, .inr ⟨y, 0, rfl, h3, q⟩⟩
          · refine ⟨_, rfl, t, _, _, _, rfl, rfl, SqT.of ht, rfl, .inl ⟨l, 0, rfl, ?_⟩⟩
            have e : decide ((0 : Int) ≤ l) = false := decide_eq_false (by (first | lia | omega))
            show Q (.bl (decide ((0 : Int) ≤ l))) H
            rw [e]
            exact q
end
end Ph
set_option Elab.async false
set_option linter.all false
set_option maxRecDepth 100000
set_option maxHeartbeats 4000000
namespace Ph
open PySem PySem.Spec PyProof.Rows L2
structure ErrN (K : PySem.W.Frag) (mg : Str → Option Value) (x : Str) (C : Addr) : Prop where
  ex : ExcC K C
  m : mg x = some (.ref C)
section
variable {P : Program} {w : World} {K : PySem.W.Frag} {mg : Str → Option Value} {base : Heap} {CR' : Addr}
def spCRBad (K : PySem.W.Frag) (C : Addr) : Sp := fun vs H Q E => ∃ v, vs = [v] ∧ BadRoad K H v ∧ ∀ H', Same H H' → E (.ref C) none H'
theorem ok_crBad {f fH fR fW fF C : Addr} {fd fdH fdR fdW fdF : FuncData} (F : Fun K "check_road" "check_road" sCheckRoad f fd) (B : Blt mg) (U : Nums K mg fW fF fdW fdF)
    (CH : Callee K mg "is_house" sHouse ["value"] fH fdH) (CR : Callee K mg "is_rising" sRising ["numbers"] fR fdR) (X : ErrN K mg "BadRoad" C) : FnOk P w K mg base (CXE P w) 4 f fd ["road"] (spCRBad K C) := by
  have GH : FnOk P w K mg base CX0 3 fH fdH ["value"] (fun vs H Q E => spHouse vs H Q E ∨ spHouseBad K vs H Q E) := FnOk.orE (ok_house CH.fn B U) (ok_houseBad CH.fn B U)
  have GR : FnOk P w K mg base CX0 1 fR fdR ["numbers"] (spRising K) := ok_rising CR.fn B
  refine F.okE scCR (fun vs H Q E h => ?_) (fun cdv A outer s H vs Q E hr h => ?_)
  · obtain ⟨v, rfl, _⟩ := h
    rfl
  · obtain ⟨v, rfl, bad, q⟩ := h
    refine ⟨_, pss_cons (ps_if (pt_not (pt_val (pe_callB call_isinst (by rfl) B.isinstance boot_isinstance (pa_cons (pv 0) (pa_cons (pe_bltn (v := .ty "list") (by rfl) B.list PyProof.Rows.boot_list rfl) pa_nil))))) (pss_one (ps_raise raisesE rfl (by rfl) X.m X.ex pe_str)) pss_nil)
      (pss_cons (ps_for PassesOwn.leaving rfl (pi_list (pv 0)) (pg_name (i := 1) scCR.nd rfl (Or.inl rfl)) (pss_one (ps_if (pt_not (pt_val (pe_call GH hr (by rfl) CH.m CH.fn.kp CH.b .nil pass0 (pa_cons (pv 1) pa_nil)))) (pss_one (ps_raise raisesE rfl (by rfl) X.m X.ex pe_str)) pss_nil)))
      (pss_one (ps_if (pt_not (pt_val (pe_call GR (hr.mono (by decide)) (by rfl) CR.m CR.fn.kp CR.b .nil pass0 (pa_cons
          (pe_comp (N := ["place", "letters"]) (L := 2) (ix := []) rfl (by show CScope _ ["road", "house"] (defScope sCheckRoad) _ _ _; exact ⟨rfl, by decide +kernel, by decide +kernel, by decide +kernel, by decide +kernel, by decide +kernel, rfl⟩) (pi_list (pv 0))
            (fun C s₀ H₀ fp => ⟨pg_tupK (K := K) (n := 2) rfl rfl (pgs_cons (pg_name (i := 0) ndPL rfl (Or.inl rfl)) (pgs_cons (pg_name (i := 1) ndPL rfl (Or.inl rfl)) pgs_nil)), pts_nil, pv 0⟩)) pa_nil)))) (pss_one (ps_raise raisesE rfl (by rfl) X.m X.ex pe_str)) pss_nil))), ?_⟩
    rcases bad with ⟨t, ty, k⟩ | ⟨r, xs, j, x, rfl, hR, hj, nh, hb⟩ | ⟨r, road, rfl, R, hlet, hsm, nr⟩
    · exact ⟨_, rfl, _, _, _, _, rfl, ty, k, _, rfl, iteT (q H (Same.refl _))⟩
    · refine ⟨_, rfl, _, _, _, _, rfl, .lst hR, kit_same _, _, rfl, iteF ?_⟩
      have hjl : j < xs.length := (List.getElem?_eq_some_iff.mp hj).1
      refine ⟨_, rfl, r, rfl, ⟨_, SqL.of hR⟩, for_list (K := K) (a := r) (xs := xs) (fun i σ H' => H' = H ∧ i ≤ j ∧ ∃ v, σ = [some (.ref r), v]) ⟨rfl, Nat.zero_le _, _, rfl⟩ (fun i σ H' _ z => by rw [z.1]; exact SqL.of hR) ?_ ?_⟩
      · rintro i y σ H' hy ⟨rfl, hij, v, rfl⟩
        rcases Nat.lt_or_ge i j with z | z
        · obtain ⟨t, p, l, rfl, h2, h3⟩ := hb i y z hy
          exact ⟨_, rfl, .inl ⟨t, p, l, rfl, h2, h3, _, rfl, iteF ⟨rfl, z, _, rfl⟩⟩⟩
        · have e : i = j := by (first | lia | omega)
          subst e
          rw [hj] at hy
          cases hy
          exact ⟨_, rfl, .inr ⟨x, rfl, nh, _, rfl, iteT (q _ (Same.refl _))⟩⟩
      · rintro σ H' ⟨rfl, hij, v, rfl⟩
        (first | lia | omega)
    · obtain ⟨ts, hR, hT⟩ := id R
      have hlen := hT.len
      have hlt : (ts.map V.ref).length = road.length := by simp [hlen]
      refine ⟨_, rfl, _, _, _, _, rfl, .lst hR, kit_same _, _, rfl, iteF ?_⟩
      refine ⟨_, rfl, r, rfl, ⟨_, SqL.of hR⟩, for_list (K := K) (a := r) (xs := ts.map V.ref) (fun i σ H' => H' = H ∧ ∃ v, σ = [some (.ref r), v]) ⟨rfl, _, rfl⟩ (fun i σ H' _ z => by rw [z.1]; exact SqL.of hR) ?_ ?_⟩
      · rintro i x σ H' hx ⟨rfl, v, rfl⟩
        have hi : i < road.length := by rw [← hlt]; exact (List.getElem?_eq_some_iff.mp hx).1
        obtain ⟨t, e1, e2⟩ := hT.get hi
        rw [List.getElem?_map, e1] at hx
        have hx' := Option.some.inj hx
        subst hx'
        have hl : 0 ≤ (road.getD i (0, 0)).2 := by
          have e : road.getD i (0, 0) = road[i] := by simp [List.getD_eq_getElem?_getD, hi]
          rw [e]
          exact hlet _ (List.getElem_mem hi)
        exact ⟨_, rfl, .inl ⟨t, _, _, rfl, e2, hl, _, rfl, iteF ⟨rfl, _, rfl⟩⟩⟩
      · rintro σ H' ⟨rfl, v, rfl⟩
        refine ⟨_, rfl, r, rfl, ⟨_, SqL.of hR⟩, comp_by (n := road.length) (fun D i σ ys H2 => Same H' H2 ∧ H' D = none ∧ (∃ u v, σ = [u, v]) ∧ i ≤ road.length ∧ ys = (road.take i).map fun pl => V.int pl.1) ?_ ?_ ?_⟩
        · exact fun D hD => ⟨same_upd hD, hD, ⟨_, _, rfl⟩, Nat.zero_le _, by simp⟩
        · rintro D i σ ys H3 hi ⟨hs, hD, ⟨u, v, rfl⟩, _, rfl⟩ hD'
          obtain ⟨t, e1, e2⟩ := hT.get hi
          have e1' : (ts.map V.ref)[i]? = some (V.ref t) := by rw [List.getElem?_map, e1]; rfl
          refine ⟨⟨_, _, SqL.of (hs _ _ hR), e1'⟩, fun x H2 y => ?_⟩
          obtain ⟨rfl, y⟩ := y
          have hx := y _ (SqL.of (hs _ _ hR))
          rw [e1'] at hx
          have hx' := Option.some.inj hx
          subst hx'
          refine ⟨t, _, rfl, SqT.of (hs _ _ e2), rfl, _, _, rfl, _, _, rfl, rfl, yesT (iteT ?_)⟩
          refine ⟨_, rfl, ?_, hD', same_upd2 hs hD, hD, ⟨_, _, rfl⟩, hi, ?_⟩
          · refine small1000 ?_
            rw [List.length_map, List.length_take]
            (first | lia | omega)
          · rw [take_snoc (fun (pl : Int × Int) => V.int pl.1) (0, 0) road hi]
        · rintro D σ ys H3 ⟨hs, hD, ⟨u, v, rfl⟩, _, rfl⟩ hD'
          refine ⟨⟨_, SqL.of (hs _ _ hR), by rw [hlt]; exact Nat.le_refl _⟩, ?_⟩
          rw [List.take_length] at hD'
          have e : (road.map fun pl => V.int pl.1) = (road.map (·.1)).map V.int := by rw [List.map_map]; rfl
          rw [e] at hD'
          refine ⟨D, road.map (·.1), rfl, SqL.of hD', by simp; (first | lia | omega), fun z => absurd z nr, fun _ => ?_⟩
          exact ⟨_, rfl, iteT (q _ hs)⟩
def spCPBadV (K : PySem.W.Frag) (C : Addr) : Sp := fun vs H Q E => ∃ (r : Addr) (v : V), vs = [.ref r, v] ∧ (IsK K H v "list" false ∨ ∃ (p : Addr) (x : V) (xs : List V), v = .ref p ∧ H p = some (.lst (x :: xs)) ∧ NoWhole K H x) ∧ E (.ref C) none H
theorem ok_cpBadV {f fR fW fF C : Addr} {fd fdR fdW fdF : FuncData} (F : Fun K "check_posts" "check_posts" sCheckPosts f fd) (B : Blt mg) (U : Nums K mg fW fF fdW fdF) (CR : Callee K mg "is_rising" sRising ["numbers"] fR fdR) (X : ErrN K mg "BadPosts" C) :
    FnOk P w K mg base (CXE P w) 3 f fd ["road", "posts"] (spCPBadV K C) := by
  have GF : FnOk P w K mg base CX0 2 fF fdF ["value", "least"] (spFromV K) := ok_fromV U.F B U.W U.bW U.mW
  refine F.okE scCP (fun vs H Q E h => ?_) (fun cdv A outer s H vs Q E hr h => ?_)
  · obtain ⟨r, v, rfl, _⟩ := h
    rfl
  · obtain ⟨r, v, rfl, bad, q⟩ := h
    refine ⟨_, pss_cons (ps_if (pt_not (pt_val (pe_callB call_isinst (by rfl) B.isinstance boot_isinstance (pa_cons (pv 1) (pa_cons (pe_bltn (v := .ty "list") (by rfl) B.list PyProof.Rows.boot_list rfl) pa_nil))))) (pss_one (ps_raise raisesE rfl (by rfl) X.m X.ex pe_str)) pss_nil)
      (pss_cons (ps_for PassesOwn.leaving rfl (pi_list (pv 1)) (pg_name (i := 2) scCP.nd rfl (Or.inl rfl))
        (pss_one (ps_if (PW.pt (pw_or (pt_not (pt_val (pe_call GF hr (by rfl) U.mF U.F.kp U.bF .nil pass0 (pa_cons (pv 2) (pa_cons pe_int pa_nil)))))
          (pw_or1 (pt_cmpR op_ge (pv 2) (pe_callB call_len_seq (by rfl) B.len boot_len (pa_cons (pv 0) pa_nil)) (nomark _))))) (pss_one (ps_raise raisesE rfl (by rfl) X.m X.ex pe_str)) pss_nil))) pss_never), ?_⟩
    rcases bad with ⟨t, ty, k⟩ | ⟨p, x, xs, rfl, hP, nw⟩
    · exact ⟨_, rfl, _, _, _, _, rfl, ty, k, _, rfl, iteT q⟩
    · refine ⟨_, rfl, _, _, _, _, rfl, .lst hP, kit_same _, _, rfl, iteF ?_⟩
      refine ⟨_, rfl, p, rfl, ⟨_, SqL.of hP⟩, for_list (K := K) (a := p) (xs := x :: xs) (fun i σ H' => H' = H ∧ i = 0 ∧ ∃ v, σ = [some (.ref r), some (.ref p), v]) ⟨rfl, rfl, _, rfl⟩ (fun i σ H' _ z => by rw [z.1]; exact SqL.of hP) ?_ ?_⟩
      · rintro i y σ H' hy ⟨rfl, rfl, v, rfl⟩
        cases hy
        exact ⟨_, rfl, x, 0, rfl, nw, _, rfl, iteT q⟩
      · rintro σ H' ⟨rfl, z, v, rfl⟩
        cases z
def spStBad (K : PySem.W.Frag) (C : Addr) : Sp := fun vs H Q E => ∃ (r : Addr) (xs : List V) (a b : V), vs = [.ref r, a, b] ∧ H r = some (.lst xs) ∧
  (NoWhole K H a ∨ ∃ i, a = .int i ∧ (NoWhole K H b ∨ ∃ j, b = .int j ∧ (i < 0 ∨ j ≤ i ∨ (xs.length : Int) < j))) ∧ E (.ref C) none H
theorem ok_stBad {f fW fF C : Addr} {fd fdW fdF : FuncData} (F : Fun K "check_stretch" "check_stretch" s_check_stretch f fd) (B : Blt mg) (U : Nums K mg fW fF fdW fdF) (X : ErrN K mg "BadStretch" C) :
    FnOk P w K mg base (CXE P w) 2 f fd ["road", "first", "end"] (spStBad K C) := by
  have GW : FnOk P w K mg base CX0 1 fW fdW ["value"] (spWholeA K) := ok_wholeA (f := f) U B
  refine F.okE sc_check_stretch (fun vs H Q E h => ?_) (fun cdv A outer s H vs Q E hr h => ?_)
  · obtain ⟨r, xs, a, b, rfl, _⟩ := h
    rfl
  · obtain ⟨r, xs, a, b, rfl, hR, bad, q⟩ := h
    refine ⟨_, (pss_cons (ps_if (PW.pt (pw_or (pt_not (pt_val (pe_call GW (hr.mono (by decide)) (by rfl) U.mW U.W.kp U.bW .nil pass0 (pa_cons (pv 1) pa_nil)))) (pw_or1 (pt_not (pt_val (pe_call GW (hr.mono (by decide)) (by rfl) U.mW U.W.kp U.bW .nil pass0 (pa_cons (pv 2) pa_nil)))))))
        (pss_one (ps_raise raisesE rfl (by rfl) X.m X.ex pe_str)) pss_nil)
        (pss_one (ps_if (PW.pt (pw_or (pt_cmpR op_lt (pv 1) pe_int (nomark _)) (pw_or (pt_cmpR op_ge (pv 1) (pv 2) (nomark _)) (pw_or1 (pt_cmpR op_gt (pv 2) (pe_callB call_len_seq (by rfl) B.len boot_len (pa_cons (pv 0) pa_nil)) (nomark _))))))
        (pss_one (ps_raise raisesE rfl (by rfl) X.m X.ex pe_str)) pss_nil))), ?_⟩
    rcases bad with bad | ⟨i, rfl, bad⟩
    · exact ⟨_, rfl, .inr ⟨a, rfl, bad, _, rfl, iteT q⟩⟩
    · refine ⟨_, rfl, .inl ⟨i, rfl, _, rfl, iteF ?_⟩⟩
      rcases bad with bad | ⟨j, rfl, bad⟩
      · exact ⟨_, rfl, .inr ⟨b, rfl, bad, _, rfl, iteT q⟩⟩
      · refine ⟨_, rfl, .inl ⟨j, rfl, _, rfl, iteF ?_⟩⟩
        refine ⟨_, rfl, _, _, rfl, rfl, _, rfl, ?_⟩
        refine ite2 (fun _ => iteT q) (fun h1 => ?_)
        refine ⟨_, rfl, _, rfl, _, _, rfl, rfl, _, rfl, ?_⟩
        refine ite2 (fun _ => iteT q) (fun h2 => ?_)
        refine ⟨_, rfl, _, rfl, r, _, rfl, .inl (SqL.of hR), _, _, rfl, rfl, _, rfl, ?_⟩
        refine ite2 (fun _ => q) (fun h3 => ?_)
        have g1 : ¬ i < 0 := fun z => h1 (decide_eq_true z)
        have g2 : ¬ j ≤ i := fun z => h2 (decide_eq_true z)
        have g3 : ¬ (xs.length : Int) < j := fun z => h3 (decide_eq_true z)
        (first | lia | omega)
def spMaBad (K : PySem.W.Frag) (C : Addr) : Sp := fun vs H Q E => ∃ (r : Addr) (xs : List V) (v : V), vs = [.ref r, v] ∧ H r = some (.lst xs) ∧ (NoWhole K H v ∨ ∃ i, v = .int i ∧ (i < 1 ∨ (xs.length : Int) < i)) ∧ E (.ref C) none H
theorem ok_maBad {f fW fF C : Addr} {fd dW dF : FuncData} (F : Fun K "check_many" "check_many" s_check_many f fd) (B : Blt mg) (U : Nums K mg fW fF dW dF) (X : ErrN K mg "BadMany" C) (sc : FnScope ["road", "many"] ["road", "many"] (defScope s_check_many)) : FnOk P w K mg base (CXE P w) 3 f fd ["road", "many"] (spMaBad K C) := by
  have GF : FnOk P w K mg base CX0 2 fF dF ["value", "least"] (spFromA K) := ok_fromA U B
  refine F.okE sc (fun vs H Q E h => ?_) (fun cdv A outer s H vs Q E hr h => ?_)
  · obtain ⟨r, xs, v, rfl, _⟩ := h
    rfl
  · obtain ⟨r, xs, v, rfl, hR, bad, q⟩ := h
    refine ⟨_, (pss_one (ps_if (PW.pt (pw_or (pt_not (pt_val (pe_call GF (hr.mono (by decide)) (by rfl) U.mF U.F.kp U.bF .nil pass0 (pa_cons (pv 1) (pa_cons pe_int pa_nil))))) (pw_or1 (pt_cmpR op_gt (pv 1) (pe_callB call_len_seq (by rfl) B.len boot_len (pa_cons (pv 0) pa_nil)) (nomark _)))))
        (pss_one (ps_raise raisesE rfl (by rfl) X.m X.ex pe_str))
        pss_nil)), ?_⟩
    rcases bad with bad | ⟨i, rfl, bad⟩
    · exact ⟨_, rfl, .inr ⟨v, 1, rfl, bad, _, rfl, iteT q⟩⟩
    · refine ⟨_, rfl, .inl ⟨i, 1, rfl, _, rfl, ?_⟩⟩
      by_cases h1 : (1 : Int) ≤ i
      · rw [decide_eq_true h1]
        refine iteF ⟨_, rfl, _, rfl, r, _, rfl, .inl (SqL.of hR), _, _, rfl, rfl, _, rfl, ?_⟩
        rw [decide_eq_true (show (xs.length : Int) < i by (first | lia | omega))]
        exact iteT q
      · rw [decide_eq_false h1]
        exact iteT q
def spNoBad (K : PySem.W.Frag) (C : Addr) : Sp := fun vs H Q E => ∃ v, vs = [v] ∧ (NoWhole K H v ∨ ∃ i, v = .int i ∧ i < 0) ∧ E (.ref C) none H
theorem ok_noBad {f fW fF C : Addr} {fd dW dF : FuncData} (F : Fun K "check_from_nought" "check_from_nought" s_check_from_nought f fd) (B : Blt mg) (U : Nums K mg fW fF dW dF) (X : ErrN K mg "BadMany" C) (sc : FnScope ["number"] ["number"] (defScope s_check_from_nought)) : FnOk P w K mg base (CXE P w) 3 f fd ["number"] (spNoBad K C) := by
  have GF : FnOk P w K mg base CX0 2 fF dF ["value", "least"] (spFromA K) := ok_fromA U B
  refine F.okE sc (fun vs H Q E h => ?_) (fun cdv A outer s H vs Q E hr h => ?_)
  · obtain ⟨v, rfl, _⟩ := h
    rfl
  · obtain ⟨v, rfl, bad, q⟩ := h
    refine ⟨_, (pss_one (ps_if (pt_not (pt_val (pe_call GF (hr.mono (by decide)) (by rfl) U.mF U.F.kp U.bF .nil pass0 (pa_cons (pv 0) (pa_cons pe_int pa_nil)))))
        (pss_one (ps_raise raisesE rfl (by rfl) X.m X.ex pe_str))
        pss_nil)), ?_⟩
    rcases bad with bad | ⟨i, rfl, bad⟩
    · exact ⟨_, rfl, .inr ⟨v, 0, rfl, bad, _, rfl, iteT q⟩⟩
    · refine ⟨_, rfl, .inl ⟨i, 0, rfl, _, rfl, ?_⟩⟩
      rw [decide_eq_false (show ¬ (0 : Int) ≤ i by (first | lia | omega))]
      exact iteT q
end
end Ph
set_option Elab.async false
set_option linter.all false
set_option maxRecDepth 100000
set_option maxHeartbeats 4000000
namespace Ph
open PySem PySem.Spec PyProof.Rows L2
def BadPosts (K : PySem.W.Frag) (H : Hp) (n : Nat) (v : V) : Prop := (IsK K H v "list" false ∨ ∃ (p : Addr) (x : V) (xs : List V), v = .ref p ∧ H p = some (.lst (x :: xs)) ∧ NoWhole K H x) ∨ ∃ (p : Addr) (ps : List Int), v = .ref p ∧ IntsAt H p ps ∧ ¬ PostsOk n ps ∧ ps.length ≤ 1000000
def BadStr (K : PySem.W.Frag) (H : Hp) (n : Nat) (a b : V) : Prop := NoWhole K H a ∨ ∃ i, a = .int i ∧ (NoWhole K H b ∨ ∃ j, b = .int j ∧ (i < 0 ∨ j ≤ i ∨ (n : Int) < j))
def BadMany (K : PySem.W.Frag) (H : Hp) (n : Nat) (v : V) : Prop := NoWhole K H v ∨ ∃ i, v = .int i ∧ (i < 1 ∨ (n : Int) < i)
def BadNo (K : PySem.W.Frag) (H : Hp) (v : V) : Prop := NoWhole K H v ∨ ∃ i, v = .int i ∧ i < 0
theorem BadStr.same {K : PySem.W.Frag} {H H' : Hp} {n : Nat} {a b : V} (e : Same H H') (h : BadStr K H n a b) : BadStr K H' n a b := by
  rcases h with h | ⟨i, h1, h2⟩
  · exact .inl (h.same e)
  · exact .inr ⟨i, h1, h2.imp (·.same e) id⟩
theorem BadMany.same {K : PySem.W.Frag} {H H' : Hp} {n : Nat} {v : V} (e : Same H H') (h : BadMany K H n v) : BadMany K H' n v := h.imp (·.same e) id
theorem BadNo.same {K : PySem.W.Frag} {H H' : Hp} {v : V} (e : Same H H') (h : BadNo K H v) : BadNo K H' v := h.imp (·.same e) id
structure Doors (K : PySem.W.Frag) (mg : Str → Option Value) (CP CR CB CS CM fW fF fH fR fCR fCP fA fCS fCM fCN fN : Addr) (dW dF dH dR dCR dCP dA dCS dCM dCN dN : FuncData) : Prop where
  R : Roads K mg fW fF fH fR fCR fCP fA dW dF dH dR dCR dCP dA
  cs : Callee K mg "check_stretch" s_check_stretch ["road", "first", "end"] fCS dCS
  cm : Callee K mg "check_many" s_check_many ["road", "many"] fCM dCM
  cn : Callee K mg "check_from_nought" s_check_from_nought ["number"] fCN dCN
  n : Callee K mg "nearest" sNearest ["road", "posts"] fN dN
  xr : ErrN K mg "BadRoad" CR
  xb : ErrC K mg CP CB
  xs : ErrN K mg "BadStretch" CS
  xm : ErrN K mg "BadMany" CM
theorem sc_paying' : FnScope ["road", "fee", "steps"] ["road", "fee"] (defScope s_paying) := ⟨rfl, rfl, rfl, by decide +kernel, rfl, by decide +kernel, by decide +kernel⟩
section
variable {P : Program} {w : World} {K : PySem.W.Frag} {mg : Str → Option Value} {base : Heap} {CP CR CB CS CM fW fF fH fR fCR fCP fA fCS fCM fCN fN : Addr} {dW dF dH dR dCR dCP dA dCS dCM dCN dN : FuncData}
def spD2 (K : PySem.W.Frag) (C : Addr) : Sp := fun vs H Q E => ∃ v u, vs = [v, u] ∧ BadRoad K H v ∧ ∀ H', Same H H' → E (.ref C) none H'
def spD3 (K : PySem.W.Frag) (C : Addr) : Sp := fun vs H Q E => ∃ v u u', vs = [v, u, u'] ∧ BadRoad K H v ∧ ∀ H', Same H H' → E (.ref C) none H'
theorem ok_cr7 (B : Blt mg) (T : Doors K mg CP CR CB CS CM fW fF fH fR fCR fCP fA fCS fCM fCN fN dW dF dH dR dCR dCP dA dCS dCM dCN dN) : FnOk P w K mg base (CXE P w) 4 fCR dCR ["road"] (spCRBad K CR) := ok_crBad T.R.CR.fn B T.R.U T.R.H T.R.R T.xr
def spN7 (K : PySem.W.Frag) (CR CB : Addr) : Sp := fun vs H Q E => spD2 K CR vs H Q E ∨ ∃ (r : Addr) (road : List (Int × Int)) (v : V), vs = [.ref r, v] ∧ RoadAt H r road ∧ Good road ∧ BadPosts K H road.length v ∧ ∀ H', Same H H' → E (.ref CB) none H'
theorem ok_n7 {f : Addr} {fd : FuncData} (F : Fun K "nearest" "nearest" sNearest f fd) (B : Blt mg) (T : Doors K mg CP CR CB CS CM fW fF fH fR fCR fCP fA fCS fCM fCN fN dW dF dH dR dCR dCP dA dCS dCM dCN dN) : FnOk P w K mg base (CXE P w) 5 f fd ["road", "posts"] (spN7 K CR CB) := by
  have GB : FnOk P w K mg base (CXE P w) 4 fCR dCR ["road"] (spCRBad K CR) := ok_cr7 B T
  have g1 : FnOk P w K mg base (CXE P w) 5 f fd ["road", "posts"] (spD2 K CR) := by
    refine F.okE scN (fun vs H Q E h => ?_) (fun cdv A outer s H vs Q E hr h => ?_)
    · obtain ⟨v, u, rfl, _⟩ := h
      rfl
    · obtain ⟨v, u, rfl, bad, q⟩ := h
      exact ⟨_, pss_cons (ps_expr (pe_call GB hr (by rfl) T.R.CR.m T.R.CR.fn.kp T.R.CR.b .nil passE (pa_cons (pv 0) pa_nil))) pss_never, _, rfl, v, rfl, bad, q⟩
  have g2 : FnOk P w K mg base (CXE P w) 5 f fd ["road", "posts"] (fun vs H Q E => ∃ (r : Addr) (road : List (Int × Int)) (v : V), vs = [.ref r, v] ∧ RoadAt H r road ∧ Good road ∧ BadPosts K H road.length v ∧ ∀ H', Same H H' → E (.ref CB) none H') := by
    have GCR : FnOk P w K mg base CX0 4 fCR dCR ["road"] spCheckRoad := ok_checkRoad T.R.CR.fn B T.R.U T.R.H T.R.R
    have GCP : FnOk P w K mg base (CXE P w) 3 fCP dCP ["road", "posts"] (fun vs H Q E => spCPBad CB vs H Q E ∨ spCPBadV K CB vs H Q E) := FnOk.orE (ok_cpBad T.R.CP.fn B T.R.U T.R.R T.xb) (ok_cpBadV T.R.CP.fn B T.R.U T.R.R ⟨T.xb.bp, T.xb.mBP⟩)
    refine F.okE scN (fun vs H Q E h => ?_) (fun cdv A outer s H vs Q E hr h => ?_)
    · obtain ⟨r, road, v, rfl, _⟩ := h
      rfl
    · obtain ⟨r, road, v, rfl, R, G, bad, q⟩ := h
      refine ⟨_, pss_cons (ps_expr (pe_call GCR hr (by rfl) T.R.CR.m T.R.CR.fn.kp T.R.CR.b .nil pass0 (pa_cons (pv 0) pa_nil)))
        (pss_cons (ps_expr (pe_call GCP (hr.mono (by decide)) (by rfl) T.R.CP.m T.R.CP.fn.kp T.R.CP.b .nil passE (pa_cons (pv 0) (pa_cons (pv 1) pa_nil)))) pss_never), ?_⟩
      refine ⟨_, rfl, r, road, rfl, R, G, fun H1 s1 => ?_⟩
      obtain ⟨ts, hR1, hT1⟩ := id (R.same s1)
      refine ⟨_, rfl, _, rfl, ?_⟩
      rcases bad with bad | ⟨p, ps, rfl, hP, nO, hn⟩
      · refine .inr ⟨r, v, rfl, ?_, q H1 s1⟩
        rcases bad with bad | ⟨p, x, xs, e, hP, nw⟩
        · exact .inl (bad.same s1)
        · exact .inr ⟨p, x, xs, e, s1 _ _ hP, nw.same s1⟩
      · refine .inl ⟨r, p, _, ps, rfl, hR1, s1 _ _ hP, ?_, hn, q H1 s1⟩
        rw [List.length_map, hT1.len]
        exact nO
  exact FnOk.orE g1 g2
theorem ok_w7 {f : Addr} {fd : FuncData} (F : Fun K "way" "way" sWay f fd) (B : Blt mg) (T : Doors K mg CP CR CB CS CM fW fF fH fR fCR fCP fA fCS fCM fCN fN dW dF dH dR dCR dCP dA dCS dCM dCN dN) : FnOk P w K mg base (CXE P w) 6 f fd ["road", "posts"] (spN7 K CR CB) := by
  have GN : FnOk P w K mg base (CXE P w) 5 fN dN ["road", "posts"] (spN7 K CR CB) := ok_n7 T.n.fn B T
  refine F.okE scY (fun vs H Q E h => ?_) (fun cdv A outer s H vs Q E hr h => ?_)
  · rcases h with ⟨v, u, rfl, _⟩ | ⟨r, road, v, rfl, _⟩ <;> rfl
  · refine ⟨_, pss_cons (ps_set (i := 2) scY.nd rfl (Or.inl rfl) (pe_call GN hr (by rfl) T.n.m T.n.fn.kp T.n.b .nil passE (pa_cons (pv 0) (pa_cons (pv 1) pa_nil)))) pss_never, ?_⟩
    rcases h with ⟨v, u, rfl, h⟩ | ⟨r, road, v, rfl, h⟩
    · exact ⟨_, rfl, _, rfl, .inl ⟨v, u, rfl, h⟩⟩
    · exact ⟨_, rfl, _, rfl, .inr ⟨r, road, v, rfl, h⟩⟩
def spM7 (K : PySem.W.Frag) (CR CS : Addr) : Sp := fun vs H Q E => spD3 K CR vs H Q E ∨ ∃ (r : Addr) (road : List (Int × Int)) (a b : V), vs = [.ref r, a, b] ∧ RoadAt H r road ∧ Good road ∧ BadStr K H road.length a b ∧ ∀ H', Same H H' → E (.ref CS) none H'
theorem ok_m7 {f : Addr} {fd : FuncData} (F : Fun K "middle" "middle" s_middle f fd) (B : Blt mg) (T : Doors K mg CP CR CB CS CM fW fF fH fR fCR fCP fA fCS fCM fCN fN dW dF dH dR dCR dCP dA dCS dCM dCN dN) : FnOk P w K mg base (CXE P w) 5 f fd ["road", "first", "end"] (spM7 K CR CS) := by
  have GB : FnOk P w K mg base (CXE P w) 4 fCR dCR ["road"] (spCRBad K CR) := ok_cr7 B T
  have g1 : FnOk P w K mg base (CXE P w) 5 f fd ["road", "first", "end"] (spD3 K CR) := by
    refine F.okE sc_middle (fun vs H Q E h => ?_) (fun cdv A outer s H vs Q E hr h => ?_)
    · obtain ⟨v, u, u', rfl, _⟩ := h
      rfl
    · obtain ⟨v, u, u', rfl, bad, q⟩ := h
      exact ⟨_, pss_cons (ps_expr (pe_call GB hr (by rfl) T.R.CR.m T.R.CR.fn.kp T.R.CR.b .nil passE (pa_cons (pv 0) pa_nil))) pss_never, _, rfl, v, rfl, bad, q⟩
  have g2 : FnOk P w K mg base (CXE P w) 5 f fd ["road", "first", "end"] (fun vs H Q E => ∃ (r : Addr) (road : List (Int × Int)) (a b : V), vs = [.ref r, a, b] ∧ RoadAt H r road ∧ Good road ∧ BadStr K H road.length a b ∧ ∀ H', Same H H' → E (.ref CS) none H') := by
    have GCR : FnOk P w K mg base CX0 4 fCR dCR ["road"] spCheckRoad := ok_checkRoad T.R.CR.fn B T.R.U T.R.H T.R.R
    have GS : FnOk P w K mg base (CXE P w) 2 fCS dCS ["road", "first", "end"] (spStBad K CS) := ok_stBad T.cs.fn B T.R.U T.xs
    refine F.okE sc_middle (fun vs H Q E h => ?_) (fun cdv A outer s H vs Q E hr h => ?_)
    · obtain ⟨r, road, a, b, rfl, _⟩ := h
      rfl
    · obtain ⟨r, road, a, b, rfl, R, G, bad, q⟩ := h
      refine ⟨_, pss_cons (ps_expr (pe_call GCR hr (by rfl) T.R.CR.m T.R.CR.fn.kp T.R.CR.b .nil pass0 (pa_cons (pv 0) pa_nil)))
        (pss_cons (ps_expr (pe_call GS (hr.mono (by decide)) (by rfl) T.cs.m T.cs.fn.kp T.cs.b .nil passE (pa_cons (pv 0) (pa_cons (pv 1) (pa_cons (pv 2) pa_nil))))) pss_never), ?_⟩
      refine ⟨_, rfl, r, road, rfl, R, G, fun H1 s1 => ?_⟩
      obtain ⟨ts, hR1, hT1⟩ := id (R.same s1)
      refine ⟨_, rfl, _, rfl, _, rfl, r, _, a, b, rfl, hR1, ?_, q H1 s1⟩
      rw [List.length_map, hT1.len]
      exact bad.same s1
  exact FnOk.orE g1 g2
theorem ok_o7 {f : Addr} {fd : FuncData} (F : Fun K "one_way" "one_way" s_one_way f fd) (B : Blt mg) (T : Doors K mg CP CR CB CS CM fW fF fH fR fCR fCP fA fCS fCM fCN fN dW dF dH dR dCR dCP dA dCS dCM dCN dN) : FnOk P w K mg base (CXE P w) 5 f fd ["road", "first", "end"] (spM7 K CR CS) := by
  have GB : FnOk P w K mg base (CXE P w) 4 fCR dCR ["road"] (spCRBad K CR) := ok_cr7 B T
  have g1 : FnOk P w K mg base (CXE P w) 5 f fd ["road", "first", "end"] (spD3 K CR) := by
    refine F.okE sc_one_way (fun vs H Q E h => ?_) (fun cdv A outer s H vs Q E hr h => ?_)
    · obtain ⟨v, u, u', rfl, _⟩ := h
      rfl
    · obtain ⟨v, u, u', rfl, bad, q⟩ := h
      exact ⟨_, pss_cons (ps_expr (pe_call GB hr (by rfl) T.R.CR.m T.R.CR.fn.kp T.R.CR.b .nil passE (pa_cons (pv 0) pa_nil))) pss_never, _, rfl, v, rfl, bad, q⟩
  have g2 : FnOk P w K mg base (CXE P w) 5 f fd ["road", "first", "end"] (fun vs H Q E => ∃ (r : Addr) (road : List (Int × Int)) (a b : V), vs = [.ref r, a, b] ∧ RoadAt H r road ∧ Good road ∧ BadStr K H road.length a b ∧ ∀ H', Same H H' → E (.ref CS) none H') := by
    have GCR : FnOk P w K mg base CX0 4 fCR dCR ["road"] spCheckRoad := ok_checkRoad T.R.CR.fn B T.R.U T.R.H T.R.R
    have GS : FnOk P w K mg base (CXE P w) 2 fCS dCS ["road", "first", "end"] (spStBad K CS) := ok_stBad T.cs.fn B T.R.U T.xs
    refine F.okE sc_one_way (fun vs H Q E h => ?_) (fun cdv A outer s H vs Q E hr h => ?_)
    · obtain ⟨r, road, a, b, rfl, _⟩ := h
      rfl
    · obtain ⟨r, road, a, b, rfl, R, G, bad, q⟩ := h
      refine ⟨_, pss_cons (ps_expr (pe_call GCR hr (by rfl) T.R.CR.m T.R.CR.fn.kp T.R.CR.b .nil pass0 (pa_cons (pv 0) pa_nil)))
        (pss_cons (ps_expr (pe_call GS (hr.mono (by decide)) (by rfl) T.cs.m T.cs.fn.kp T.cs.b .nil passE (pa_cons (pv 0) (pa_cons (pv 1) (pa_cons (pv 2) pa_nil))))) pss_never), ?_⟩
      refine ⟨_, rfl, r, road, rfl, R, G, fun H1 s1 => ?_⟩
      obtain ⟨ts, hR1, hT1⟩ := id (R.same s1)
      refine ⟨_, rfl, _, rfl, _, rfl, r, _, a, b, rfl, hR1, ?_, q H1 s1⟩
      rw [List.length_map, hT1.len]
      exact bad.same s1
  exact FnOk.orE g1 g2
theorem ok_b7 {f : Addr} {fd : FuncData} (F : Fun K "best" "best" s_best f fd) (B : Blt mg) (T : Doors K mg CP CR CB CS CM fW fF fH fR fCR fCP fA fCS fCM fCN fN dW dF dH dR dCR dCP dA dCS dCM dCN dN) : FnOk P w K mg base (CXE P w) 5 f fd ["road", "many"] (fun vs H Q E => spD2 K CR vs H Q E ∨ ∃ (r : Addr) (road : List (Int × Int)) (v : V), vs = [.ref r, v] ∧ RoadAt H r road ∧ Good road ∧ BadMany K H road.length v ∧ ∀ H', Same H H' → E (.ref CM) none H') := by
  have GB : FnOk P w K mg base (CXE P w) 4 fCR dCR ["road"] (spCRBad K CR) := ok_cr7 B T
  have g1 : FnOk P w K mg base (CXE P w) 5 f fd ["road", "many"] (spD2 K CR) := by
    refine F.okE sc_best (fun vs H Q E h => ?_) (fun cdv A outer s H vs Q E hr h => ?_)
    · obtain ⟨v, u, rfl, _⟩ := h
      rfl
    · obtain ⟨v, u, rfl, bad, q⟩ := h
      exact ⟨_, pss_cons (ps_expr (pe_call GB hr (by rfl) T.R.CR.m T.R.CR.fn.kp T.R.CR.b .nil passE (pa_cons (pv 0) pa_nil))) pss_never, _, rfl, v, rfl, bad, q⟩
  have g2 : FnOk P w K mg base (CXE P w) 5 f fd ["road", "many"] (fun vs H Q E => ∃ (r : Addr) (road : List (Int × Int)) (v : V), vs = [.ref r, v] ∧ RoadAt H r road ∧ Good road ∧ BadMany K H road.length v ∧ ∀ H', Same H H' → E (.ref CM) none H') := by
    have GCR : FnOk P w K mg base CX0 4 fCR dCR ["road"] spCheckRoad := ok_checkRoad T.R.CR.fn B T.R.U T.R.H T.R.R
    have GS : FnOk P w K mg base (CXE P w) 3 fCM dCM ["road", "many"] (spMaBad K CM) := ok_maBad T.cm.fn B T.R.U T.xm sc_check_many
    refine F.okE sc_best (fun vs H Q E h => ?_) (fun cdv A outer s H vs Q E hr h => ?_)
    · obtain ⟨r, road, v, rfl, _⟩ := h
      rfl
    · obtain ⟨r, road, v, rfl, R, G, bad, q⟩ := h
      refine ⟨_, pss_cons (ps_expr (pe_call GCR hr (by rfl) T.R.CR.m T.R.CR.fn.kp T.R.CR.b .nil pass0 (pa_cons (pv 0) pa_nil)))
        (pss_cons (ps_expr (pe_call GS (hr.mono (by decide)) (by rfl) T.cm.m T.cm.fn.kp T.cm.b .nil passE (pa_cons (pv 0) (pa_cons (pv 1) pa_nil)))) pss_never), ?_⟩
      refine ⟨_, rfl, r, road, rfl, R, G, fun H1 s1 => ?_⟩
      obtain ⟨ts, hR1, hT1⟩ := id (R.same s1)
      refine ⟨_, rfl, _, rfl, r, _, v, rfl, hR1, ?_, q H1 s1⟩
      rw [List.length_map, hT1.len]
      exact bad.same s1
  exact FnOk.orE g1 g2
theorem ok_ws7 {f : Addr} {fd : FuncData} (F : Fun K "ways" "ways" s_ways f fd) (B : Blt mg) (T : Doors K mg CP CR CB CS CM fW fF fH fR fCR fCP fA fCS fCM fCN fN dW dF dH dR dCR dCP dA dCS dCM dCN dN) : FnOk P w K mg base (CXE P w) 5 f fd ["road", "most"] (fun vs H Q E => spD2 K CR vs H Q E ∨ ∃ (r : Addr) (road : List (Int × Int)) (v : V), vs = [.ref r, v] ∧ RoadAt H r road ∧ Good road ∧ BadNo K H v ∧ ∀ H', Same H H' → E (.ref CM) none H') := by
  have GB : FnOk P w K mg base (CXE P w) 4 fCR dCR ["road"] (spCRBad K CR) := ok_cr7 B T
  have g1 : FnOk P w K mg base (CXE P w) 5 f fd ["road", "most"] (spD2 K CR) := by
    refine F.okE sc_ways (fun vs H Q E h => ?_) (fun cdv A outer s H vs Q E hr h => ?_)
    · obtain ⟨v, u, rfl, _⟩ := h
      rfl
    · obtain ⟨v, u, rfl, bad, q⟩ := h
      exact ⟨_, pss_cons (ps_expr (pe_call GB hr (by rfl) T.R.CR.m T.R.CR.fn.kp T.R.CR.b .nil passE (pa_cons (pv 0) pa_nil))) pss_never, _, rfl, v, rfl, bad, q⟩
  have g2 : FnOk P w K mg base (CXE P w) 5 f fd ["road", "most"] (fun vs H Q E => ∃ (r : Addr) (road : List (Int × Int)) (v : V), vs = [.ref r, v] ∧ RoadAt H r road ∧ Good road ∧ BadNo K H v ∧ ∀ H', Same H H' → E (.ref CM) none H') := by
    have GCR : FnOk P w K mg base CX0 4 fCR dCR ["road"] spCheckRoad := ok_checkRoad T.R.CR.fn B T.R.U T.R.H T.R.R
    have GS : FnOk P w K mg base (CXE P w) 3 fCN dCN ["number"] (spNoBad K CM) := ok_noBad T.cn.fn B T.R.U T.xm sc_check_from_nought
    refine F.okE sc_ways (fun vs H Q E h => ?_) (fun cdv A outer s H vs Q E hr h => ?_)
    · obtain ⟨r, road, v, rfl, _⟩ := h
      rfl
    · obtain ⟨r, road, v, rfl, R, G, bad, q⟩ := h
      refine ⟨_, pss_cons (ps_expr (pe_call GCR hr (by rfl) T.R.CR.m T.R.CR.fn.kp T.R.CR.b .nil pass0 (pa_cons (pv 0) pa_nil)))
        (pss_cons (ps_expr (pe_call GS (hr.mono (by decide)) (by rfl) T.cn.m T.cn.fn.kp T.cn.b .nil passE (pa_cons (pv 1) pa_nil))) pss_never), ?_⟩
      refine ⟨_, rfl, r, road, rfl, R, G, fun H1 s1 => ?_⟩
      exact ⟨_, rfl, v, rfl, bad.same s1, q H1 s1⟩
  exact FnOk.orE g1 g2
theorem ok_p7 {f : Addr} {fd : FuncData} (F : Fun K "paying" "paying" s_paying f fd) (B : Blt mg) (T : Doors K mg CP CR CB CS CM fW fF fH fR fCR fCP fA fCS fCM fCN fN dW dF dH dR dCR dCP dA dCS dCM dCN dN) : FnOk P w K mg base (CXE P w) 5 f fd ["road", "fee"] (fun vs H Q E => spD2 K CR vs H Q E ∨ ∃ (r : Addr) (road : List (Int × Int)) (v : V), vs = [.ref r, v] ∧ RoadAt H r road ∧ Good road ∧ BadNo K H v ∧ ∀ H', Same H H' → E (.ref CM) none H') := by
  have GB : FnOk P w K mg base (CXE P w) 4 fCR dCR ["road"] (spCRBad K CR) := ok_cr7 B T
  have g1 : FnOk P w K mg base (CXE P w) 5 f fd ["road", "fee"] (spD2 K CR) := by
    refine F.okE sc_paying' (fun vs H Q E h => ?_) (fun cdv A outer s H vs Q E hr h => ?_)
    · obtain ⟨v, u, rfl, _⟩ := h
      rfl
    · obtain ⟨v, u, rfl, bad, q⟩ := h
      exact ⟨_, pss_cons (ps_expr (pe_call GB hr (by rfl) T.R.CR.m T.R.CR.fn.kp T.R.CR.b .nil passE (pa_cons (pv 0) pa_nil))) pss_never, _, rfl, v, rfl, bad, q⟩
  have g2 : FnOk P w K mg base (CXE P w) 5 f fd ["road", "fee"] (fun vs H Q E => ∃ (r : Addr) (road : List (Int × Int)) (v : V), vs = [.ref r, v] ∧ RoadAt H r road ∧ Good road ∧ BadNo K H v ∧ ∀ H', Same H H' → E (.ref CM) none H') := by
    have GCR : FnOk P w K mg base CX0 4 fCR dCR ["road"] spCheckRoad := ok_checkRoad T.R.CR.fn B T.R.U T.R.H T.R.R
    have GS : FnOk P w K mg base (CXE P w) 3 fCN dCN ["number"] (spNoBad K CM) := ok_noBad T.cn.fn B T.R.U T.xm sc_check_from_nought
    refine F.okE sc_paying' (fun vs H Q E h => ?_) (fun cdv A outer s H vs Q E hr h => ?_)
    · obtain ⟨r, road, v, rfl, _⟩ := h
      rfl
    · obtain ⟨r, road, v, rfl, R, G, bad, q⟩ := h
      refine ⟨_, pss_cons (ps_expr (pe_call GCR hr (by rfl) T.R.CR.m T.R.CR.fn.kp T.R.CR.b .nil pass0 (pa_cons (pv 0) pa_nil)))
        (pss_cons (ps_expr (pe_call GS (hr.mono (by decide)) (by rfl) T.cn.m T.cn.fn.kp T.cn.b .nil passE (pa_cons (pv 1) pa_nil))) pss_never), ?_⟩
      refine ⟨_, rfl, r, road, rfl, R, G, fun H1 s1 => ?_⟩
      exact ⟨_, rfl, v, rfl, bad.same s1, q H1 s1⟩
  exact FnOk.orE g1 g2
end
end Ph
set_option Elab.async false
set_option linter.all false
set_option maxRecDepth 100000
set_option maxHeartbeats 16000000
namespace Ph
open PySem PySem.Spec PyProof.Rows L2
theorem houses_at {K : PySem.W.Frag} {H : Hp} {t0 t1 t2 t3 t4 t5 t6 t7 : Addr} {more i : Int} (e0 : H t0 = some (.tup [.int 0, .int (-1 - more)])) (e1 : H t1 = some (.tup [.bl true, .int 1])) (e2 : H t2 = some (.tup [.int 0, .bl true])) (e3 : H t3 = some (.tup [.str "0", .int 1])) (e4 : H t4 = some (.tup [.int 0, .non]))
    (e5 : H t5 = some (.lst [.int 0, .int 1])) (e6 : H t6 = some (.tup [.int 0])) (e7 : H t7 = some (.tup [.int 0, .int 1, .int 2])) (hm : 0 ≤ more) (h0 : 0 ≤ i) (h1 : i < 10) :
    ∃ v, atI [.ref t0, .ref t1, .ref t2, .ref t3, .ref t4, .ref t5, .ref t6, .ref t7, .non, .int 5] i = some v ∧ NoHouse K H v := by
  have c : i = 0 ∨ i = 1 ∨ i = 2 ∨ i = 3 ∨ i = 4 ∨ i = 5 ∨ i = 6 ∨ i = 7 ∨ i = 8 ∨ i = 9 := by (first | lia | omega)
  rcases c with rfl | rfl | rfl | rfl | rfl | rfl | rfl | rfl | rfl | rfl
  · exact ⟨_, rfl, .inr ⟨t0, _, rfl, e0, .inr ⟨_, _, rfl, .inr ⟨0, rfl, .inr ⟨_, rfl, by (first | lia | omega)⟩⟩⟩⟩⟩
  · exact ⟨_, rfl, .inr ⟨t1, _, rfl, e1, .inr ⟨_, _, rfl, .inl (noW_bl _)⟩⟩⟩
  · exact ⟨_, rfl, .inr ⟨t2, _, rfl, e2, .inr ⟨_, _, rfl, .inr ⟨0, rfl, .inl (noW_bl _)⟩⟩⟩⟩
  · exact ⟨_, rfl, .inr ⟨t3, _, rfl, e3, .inr ⟨_, _, rfl, .inl (.inl (is_str_int _))⟩⟩⟩
  · exact ⟨_, rfl, .inr ⟨t4, _, rfl, e4, .inr ⟨_, _, rfl, .inr ⟨0, rfl, .inl (.inl is_non_int)⟩⟩⟩⟩
  · exact ⟨_, rfl, .inl (is_lst_tup e5)⟩
  · exact ⟨_, rfl, .inr ⟨t6, _, rfl, e6, .inl (by show 1 ≠ 2; decide)⟩⟩
  · exact ⟨_, rfl, .inr ⟨t7, _, rfl, e7, .inl (by show 3 ≠ 2; decide)⟩⟩
  · exact ⟨_, rfl, .inl is_non_tup⟩
  · exact ⟨_, rfl, .inl (is_int_tup 5)⟩
theorem not_rise {a b : Int} (h : b ≤ a) : ¬ Rise ([(a, 1), (b, 1)].map (·.1)) := fun z => by
  have := z 0 (by show 1 < 2; decide)
  have h2 : a < b := this
  (first | lia | omega)
def Houses (H : Hp) (ys : List V) : Prop := ∀ y ∈ ys, HouseAt H y
theorem Houses.same {H H' : Hp} {ys : List V} (h : Houses H ys) (e : Same H H') : Houses H' ys := fun y hy => (h y hy).same e
theorem roads_at {K : PySem.W.Frag} {H : Hp} {hv : V} {ys : List V} {c0 c1 c2 c4 c5 c6 c8 u0 u1 u2 u3 u4 u5 u6 u7 : Addr} {more i : Int} (nh : NoHouse K H hv) (ec0 : H c0 = some (.lst (ys ++ [hv]))) (hh : Houses H ys)
    (eu0 : H u0 = some (.tup [.int 3, .int 1])) (eu1 : H u1 = some (.tup [.int 3, .int 1])) (ec1 : H c1 = some (.lst [.ref u0, .ref u1])) (eu2 : H u2 = some (.tup [.int 3, .int 1])) (eu3 : H u3 = some (.tup [.int (2 - more), .int 1])) (ec2 : H c2 = some (.lst [.ref u2, .ref u3]))
    (ec4 : H c4 = some (.tup [.ref u4])) (eu5 : H u5 = some (.tup [.int 9, .int 1])) (ec5 : H c5 = some (.lst ([hv] ++ [.ref u5]))) (eu6 : H u6 = some (.tup [.int 0, .int 1])) (eu7 : H u7 = some (.tup [.int 9, .int 2])) (ec6 : H c6 = some (.lst [.ref u6, hv, .ref u7])) (ec8 : H c8 = some (.dK []))
    (hm : 0 ≤ more) (h0 : 0 ≤ i) (h1 : i < 9) : ∃ v, atI (([.ref c0, .ref c1, .ref c2] ++ [.non, .ref c4]) ++ [.ref c5, .ref c6, .str "01", .ref c8]) i = some v ∧ BadRoad K H v := by
  have c : i = 0 ∨ i = 1 ∨ i = 2 ∨ i = 3 ∨ i = 4 ∨ i = 5 ∨ i = 6 ∨ i = 7 ∨ i = 8 := by (first | lia | omega)
  rcases c with rfl | rfl | rfl | rfl | rfl | rfl | rfl | rfl | rfl
  · refine ⟨_, rfl, .inr (.inl ⟨c0, _, ys.length, hv, rfl, ec0, by simp, nh, fun k y hk hy => ?_⟩)⟩
    rw [List.getElem?_append_left hk] at hy
    exact hh y (List.mem_of_getElem? hy)
  · refine ⟨_, rfl, .inr (.inr ⟨c1, [(3, 1), (3, 1)], rfl, ⟨[u0, u1], ec1, .cons eu0 (.cons eu1 .nil)⟩, fun pl h => ?_, by decide, not_rise (by decide)⟩)⟩
    simp at h
    subst h
    decide
  · refine ⟨_, rfl, .inr (.inr ⟨c2, [(3, 1), (2 - more, 1)], rfl, ⟨[u2, u3], ec2, .cons eu2 (.cons eu3 .nil)⟩, fun pl h => ?_, by show 2 ≤ 1000; decide, not_rise (by (first | lia | omega))⟩)⟩
    simp at h
    rcases h with rfl | rfl <;> (show (0 : Int) ≤ 1; decide)
  · exact ⟨_, rfl, .inl is_non_lst⟩
  · exact ⟨_, rfl, .inl (is_tup_lst ec4)⟩
  · exact ⟨_, rfl, .inr (.inl ⟨c5, _, 0, hv, rfl, ec5, rfl, nh, fun k y hk => by (first | lia | omega)⟩)⟩
  · refine ⟨_, rfl, .inr (.inl ⟨c6, _, 1, hv, rfl, ec6, rfl, nh, fun k y hk hy => ?_⟩)⟩
    have : k = 0 := by (first | lia | omega)
    subst this
    cases hy
    exact ⟨u6, 0, 1, rfl, eu6, by decide⟩
  · exact ⟨_, rfl, .inl (is_str_lst _)⟩
  · exact ⟨_, rfl, .inl (is_dct_lst ec8)⟩
theorem compH {n : Nat} {σ : L2.St} {H : Hp} {Q : VK} (hn : n ≤ 900) (q : ∀ (D : Addr) (H' : Hp) (ys : List V), Same H H' → H D = none → H' D = some (.lst ys) → ys.length ≤ n → Houses H' ys → Q (.ref D) H') :
    CompWalk (Itr 0 n) 1 [] (gName 0) tYes (tTup (tCons (tVar 0) (tCons (tC (V.int 1)) tNil))) σ H Q := by
  refine comp_by (n := n) (fun D i σ ys H2 => Same H H2 ∧ H D = none ∧ (∃ u, σ = [u]) ∧ ys.length = i ∧ Houses H2 ys) ?_ ?_ ?_
  · exact fun D hD => ⟨same_upd hD, hD, ⟨_, rfl⟩, rfl, fun y h => by simp at h⟩
  · rintro D i σ ys H2 hi ⟨hs, hD, ⟨u, rfl⟩, hl, hh⟩ hD'
    refine ⟨hi, fun x H3 y => ?_⟩
    obtain ⟨rfl, rfl⟩ := y
    refine nameT (yesT (iteT ?_))
    refine ⟨_, rfl, by show 2 ≤ sizeLine; decide, fun p hp => ?_⟩
    have hDp : D ≠ p := ne_of_none hD' hp
    refine ⟨small1000 (by (first | lia | omega)), by rw [upd_ne hDp]; exact hD', same_upd2 (hs.trans (same_upd hp)) hD, hD, ⟨_, rfl⟩, by rw [List.length_append, hl]; rfl, fun y hy => ?_⟩
    rcases List.mem_append.mp hy with hy | hy
    · obtain ⟨t, a, b, e1, e2, e3⟩ := hh y hy
      refine ⟨t, a, b, e1, ?_, e3⟩
      rw [upd_ne (ne_of e2 hD' (by intro z; cases z)), upd_ne (ne_of_none e2 hp)]
      exact e2
    · have : y = .ref p := by simpa using hy
      exact ⟨p, _, 1, this, by rw [upd_ne (Ne.symm hDp), upd_same], by decide⟩
  · rintro D σ ys H2 ⟨hs, hD, ⟨u, rfl⟩, hl, hh⟩ hD'
    exact ⟨Nat.le_refl _, q D H2 ys hs hD hD' (by (first | lia | omega)) hh⟩
structure Asks (K : PySem.W.Frag) (mg : Str → Option Value) (CP CR CB CS CM fW fF fH fR fCR fCP fA fCS fCM fCN fN fY fM fO fBe fWs fPa : Addr) (dW dF dH dR dCR dCP dA dCS dCM dCN dN dY dM dO dBe dWs dPa : FuncData) : Prop where
  T : Doors K mg CP CR CB CS CM fW fF fH fR fCR fCP fA fCS fCM fCN fN dW dF dH dR dCR dCP dA dCS dCM dCN dN
  y : Callee K mg "way" sWay ["road", "posts"] fY dY
  m : Callee K mg "middle" s_middle ["road", "first", "end"] fM dM
  o : Callee K mg "one_way" s_one_way ["road", "first", "end"] fO dO
  be : Callee K mg "best" s_best ["road", "many"] fBe dBe
  ws : Callee K mg "ways" s_ways ["road", "most"] fWs dWs
  pa : Callee K mg "paying" s_paying ["road", "fee"] fPa dPa
section
variable {P : Program} {w : World} {K : PySem.W.Frag} {mg : Str → Option Value} {base : Heap} {CP CR CB CS CM fW fF fH fR fCR fCP fA fCS fCM fCN fN fY fM fO fBe fWs fPa : Addr} {dW dF dH dR dCR dCP dA dCS dCM dCN dN dY dM dO dBe dWs dPa : FuncData}
theorem nd_law_road_asked_0 : (["_law_at"] : List Str).Nodup := by decide +kernel
theorem sc_law_road_asked : FnScope ["_law_which", "_law_more", "_law_house", "_law_roads", "_law_bad", "_law_door"] ["_law_which", "_law_more"] (defScope s__law_road_asked) := ⟨rfl, rfl, rfl, by decide +kernel, rfl, by decide +kernel, by decide +kernel⟩
def spRoadAsk (C : Addr) : Sp := fun vs H Q E => ∃ which more : Int, vs = [.int which, .int more] ∧ 0 ≤ which ∧ 0 ≤ more ∧ ∀ H', Same H H' → E (.ref C) none H'
theorem ok_roadAsk {f : Addr} {fd : FuncData} (F : Fun K "_law_road_asked" "_law_road_asked" s__law_road_asked f fd) (B : Blt mg) (S' : Asks K mg CP CR CB CS CM fW fF fH fR fCR fCP fA fCS fCM fCN fN fY fM fO fBe fWs fPa dW dF dH dR dCR dCP dA dCS dCM dCN dN dY dM dO dBe dWs dPa) :
    FnOk P w K mg base (CXE P w) 7 f fd ["_law_which", "_law_more"] (spRoadAsk CR) := by
  have T := S'.T
  have Cway := S'.y
  have Cmiddle := S'.m
  have Cone_way := S'.o
  have Cbest := S'.be
  have Cways := S'.ws
  have Cpaying := S'.pa
  have Gn : FnOk P w K mg base (CXE P w) 5 fN dN ["road", "posts"] (spN7 K CR CB) := ok_n7 T.n.fn B T
  have Gy : FnOk P w K mg base (CXE P w) 6 fY dY ["road", "posts"] (spN7 K CR CB) := ok_w7 Cway.fn B T
  have Gm : FnOk P w K mg base (CXE P w) 5 fM dM ["road", "first", "end"] (spM7 K CR CS) := ok_m7 Cmiddle.fn B T
  have Go : FnOk P w K mg base (CXE P w) 5 fO dO ["road", "first", "end"] (spM7 K CR CS) := ok_o7 Cone_way.fn B T
  have Gb := ok_b7 (P := P) (w := w) (base := base) Cbest.fn B T
  have Gw := ok_ws7 (P := P) (w := w) (base := base) Cways.fn B T
  have Gp := ok_p7 (P := P) (w := w) (base := base) Cpaying.fn B T
  refine F.okEI sc_law_road_asked (fun vs H Q E h => ?_) (fun cdv A outer s H vs Q E hr h => ?_)
  · obtain ⟨which, more, rfl, _⟩ := h
    rfl
  · obtain ⟨which, more, rfl, hw, hm, q⟩ := h
    refine ⟨_, (pss_consI (ps_setI (i := 2) sc_law_road_asked.nd rfl (Or.inl rfl) (pe_ixI ix_list (pe_lstI (pa_consI (pe_tupI (pa_consI pe_intI (pa_consI (pe_opI op_sub (pe_unI un_neg pe_intI) (pvI 1)) pa_nilI))) (pa_consI (pe_tupI (pa_consI pe_blI (pa_consI pe_intI pa_nilI))) (pa_consI (pe_tupI (pa_consI pe_intI (pa_consI pe_blI pa_nilI))) (pa_consI (pe_tupI (pa_consI pe_strI (pa_consI pe_intI pa_nilI))) (pa_consI (pe_tupI (pa_consI pe_intI (pa_consI pe_nonI pa_nilI))) (pa_consI (pe_lstI (pa_consI pe_intI (pa_consI pe_intI pa_nilI))) (pa_consI (pe_tupI (pa_consI pe_intI pa_nilI)) (pa_consI (pe_tupI (pa_consI pe_intI (pa_consI pe_intI (pa_consI pe_intI pa_nilI)))) (pa_consI pe_nonI (pa_consI pe_intI pa_nilI))))))))))) (pe_opI op_mod (pvI 0) pe_intI) (fun _ _ => rfl)))
        (pss_consI (ps_setI (i := 3) sc_law_road_asked.nd rfl (Or.inl rfl) (pe_lstI (pa_consI (pe_opI op_cat (pe_compI (N := ["_law_at"]) (L := 1) (ix := []) rfl (by show CScope _ ["_law_which", "_law_more", "_law_house", "_law_roads", "_law_bad", "_law_door"] (defScope s__law_road_asked) _ _ _; exact ⟨rfl, by decide +kernel, by decide +kernel, by decide +kernel, by decide +kernel, by decide +kernel, rfl⟩) (pi_range1 (by rfl) B.range (pa_cons (pe_op op_mod (pv 1) pe_int) pa_nil)) (fun C' s₀ H₀ fp => ⟨(pg_name (i := 0) nd_law_road_asked_0 rfl (Or.inl rfl)), pts_nil, (pe_tup (pa_cons (pv 0) (pa_cons pe_int pa_nil)))⟩)) (pe_lstI (pa_consI (pvI 2) pa_nilI))) (pa_consI (pe_lstI (pa_consI (pe_tupI (pa_consI pe_intI (pa_consI pe_intI pa_nilI))) (pa_consI (pe_tupI (pa_consI pe_intI (pa_consI pe_intI pa_nilI))) pa_nilI))) (pa_consI (pe_lstI (pa_consI (pe_tupI (pa_consI pe_intI (pa_consI pe_intI pa_nilI))) (pa_consI (pe_tupI (pa_consI (pe_opI op_sub pe_intI (pvI 1)) (pa_consI pe_intI pa_nilI))) pa_nilI))) pa_nilI)))))
        (pss_consI (ps_setI (i := 3) sc_law_road_asked.nd rfl (Or.inl rfl) (pe_opI op_cat (pvI 3) (pe_lstI (pa_consI pe_nonI (pa_consI (pe_tupI (pa_consI (pe_tupI (pa_consI pe_intI (pa_consI pe_intI pa_nilI))) pa_nilI)) pa_nilI)))))
        (pss_consI (ps_setI (i := 4) sc_law_road_asked.nd rfl (Or.inl rfl) (pe_ixI ix_list (pe_opI op_cat (pvI 3) (pe_lstI (pa_consI (pe_opI op_cat (pe_lstI (pa_consI (pvI 2) pa_nilI)) (pe_lstI (pa_consI (pe_tupI (pa_consI pe_intI (pa_consI pe_intI pa_nilI))) pa_nilI))) (pa_consI (pe_lstI (pa_consI (pe_tupI (pa_consI pe_intI (pa_consI pe_intI pa_nilI))) (pa_consI (pvI 2) (pa_consI (pe_tupI (pa_consI pe_intI (pa_consI pe_intI pa_nilI))) pa_nilI)))) (pa_consI pe_strI (pa_consI pe_dict0I pa_nilI)))))) (pe_opI op_mod (pe_opI op_fdiv (pvI 0) pe_intI) pe_intI) (fun _ _ => rfl)))
        (pss_consI (ps_setI (i := 5) sc_law_road_asked.nd rfl (Or.inl rfl) (pe_opI op_mod (pe_opI op_fdiv (pvI 0) pe_intI) pe_intI))
        (pss_consI (ps_ifI (pt_cmpRI op_lt (pvI 5) pe_intI (nomark _))
        (pss_oneI (ps_retI (pe_callFI (pe_ixI ix_list (pe_lstI (pa_consI (pe_globI (v := V.ref _) (by rfl) T.n.m rfl) (pa_consI (pe_globI (v := V.ref _) (by rfl) Cway.m rfl) pa_nilI))) (pvI 5) (fun _ _ => rfl)) (pa_consI (pvI 4) (pa_consI pe_nonI pa_nilI)))))
        pss_nilI)
        (pss_consI (ps_ifI (pt_cmpRI op_lt (pvI 5) pe_intI (nomark _))
        (pss_oneI (ps_retI (pe_callFI (pe_ixI ix_list (pe_lstI (pa_consI (pe_globI (v := V.ref _) (by rfl) Cmiddle.m rfl) (pa_consI (pe_globI (v := V.ref _) (by rfl) Cone_way.m rfl) pa_nilI))) (pe_opI op_sub (pvI 5) pe_intI) (fun _ _ => rfl)) (pa_consI (pvI 4) (pa_consI pe_nonI (pa_consI pe_nonI pa_nilI))))))
        pss_nilI)
        (pss_oneI (ps_retI (pe_callFI (pe_ixI ix_list (pe_lstI (pa_consI (pe_globI (v := V.ref _) (by rfl) Cbest.m rfl) (pa_consI (pe_globI (v := V.ref _) (by rfl) Cways.m rfl) (pa_consI (pe_globI (v := V.ref _) (by rfl) Cpaying.m rfl) pa_nilI)))) (pe_opI op_sub (pvI 5) pe_intI) (fun _ _ => rfl)) (pa_consI (pvI 4) (pa_consI pe_nonI pa_nilI)))))))))))), ?_⟩
    refine ⟨_, rfl, _, rfl, _, _, rfl, rfl, by show 2 ≤ sizeLine; decide, fun t0 ht0 => ?_⟩
    have s1 : Same H (upd H t0 (.tup [.int 0, .int (-1 - more)])) := same_upd ht0
    have et0 := upd_same (H := H) (a := t0) (o := .tup [.int 0, .int (-1 - more)])
    generalize upd H t0 (.tup [.int 0, .int (-1 - more)]) = H1 at s1 et0
    refine ⟨by show 2 ≤ sizeLine; decide, fun t1 ht1 => ?_⟩
    have s2 : Same H1 (upd H1 t1 (.tup [.bl true, .int 1])) := same_upd ht1
    have et1 := upd_same (H := H1) (a := t1) (o := .tup [.bl true, .int 1])
    generalize upd H1 t1 (.tup [.bl true, .int 1]) = H2 at s2 et1
    refine ⟨by show 2 ≤ sizeLine; decide, fun t2 ht2 => ?_⟩
    have s3 : Same H2 (upd H2 t2 (.tup [.int 0, .bl true])) := same_upd ht2
    have et2 := upd_same (H := H2) (a := t2) (o := .tup [.int 0, .bl true])
    generalize upd H2 t2 (.tup [.int 0, .bl true]) = H3 at s3 et2
    refine ⟨by show 2 ≤ sizeLine; decide, fun t3 ht3 => ?_⟩
    have s4 : Same H3 (upd H3 t3 (.tup [.str "0", .int 1])) := same_upd ht3
    have et3 := upd_same (H := H3) (a := t3) (o := .tup [.str "0", .int 1])
    generalize upd H3 t3 (.tup [.str "0", .int 1]) = H4 at s4 et3
    refine ⟨by show 2 ≤ sizeLine; decide, fun t4 ht4 => ?_⟩
    have s5 : Same H4 (upd H4 t4 (.tup [.int 0, .non])) := same_upd ht4
    have et4 := upd_same (H := H4) (a := t4) (o := .tup [.int 0, .non])
    generalize upd H4 t4 (.tup [.int 0, .non]) = H5 at s5 et4
    refine ⟨Nat.le_of_lt (small1000 (show 2 ≤ 1000 by decide)), fun t5 ht5 => ?_⟩
    have s6 : Same H5 (upd H5 t5 (.lst [.int 0, .int 1])) := same_upd ht5
    have et5 := upd_same (H := H5) (a := t5) (o := .lst [.int 0, .int 1])
    generalize upd H5 t5 (.lst [.int 0, .int 1]) = H6 at s6 et5
    refine ⟨by show 1 ≤ sizeLine; decide, fun t6 ht6 => ?_⟩
    have s7 : Same H6 (upd H6 t6 (.tup [.int 0])) := same_upd ht6
    have et6 := upd_same (H := H6) (a := t6) (o := .tup [.int 0])
    generalize upd H6 t6 (.tup [.int 0]) = H7 at s7 et6
    refine ⟨by show 3 ≤ sizeLine; decide, fun t7 ht7 => ?_⟩
    have s8 : Same H7 (upd H7 t7 (.tup [.int 0, .int 1, .int 2])) := same_upd ht7
    have et7 := upd_same (H := H7) (a := t7) (o := .tup [.int 0, .int 1, .int 2])
    generalize upd H7 t7 (.tup [.int 0, .int 1, .int 2]) = H8 at s8 et7
    refine ⟨Nat.le_of_lt (small1000 (show 10 ≤ 1000 by decide)), fun L0 hL0 => ?_⟩
    have s9 : Same H8 (upd H8 L0 (.lst [.ref t0, .ref t1, .ref t2, .ref t3, .ref t4, .ref t5, .ref t6, .ref t7, .non, .int 5])) := same_upd hL0
    have eL0 := upd_same (H := H8) (a := L0) (o := .lst [.ref t0, .ref t1, .ref t2, .ref t3, .ref t4, .ref t5, .ref t6, .ref t7, .non, .int 5])
    generalize upd H8 L0 (.lst [.ref t0, .ref t1, .ref t2, .ref t3, .ref t4, .ref t5, .ref t6, .ref t7, .non, .int 5]) = H9 at s9 eL0
    have r8 := s9
    have r7 := s8.trans r8
    have r6 := s7.trans r7
    have r5 := s6.trans r6
    have r4 := s5.trans r5
    have r3 := s4.trans r4
    have r2 := s3.trans r3
    have r1 := s2.trans r2
    have r0 := s1.trans r1
    obtain ⟨hv, hat, nh⟩ := houses_at (K := K) (r1 _ _ et0) (r2 _ _ et1) (r3 _ _ et2) (r4 _ _ et3) (r5 _ _ et4) (r6 _ _ et5) (r7 _ _ et6) (r8 _ _ et7) hm (Int.emod_nonneg which (by decide)) (Int.emod_lt_of_pos which (by decide))
    refine ⟨_, rfl, _, _, rfl, rfl, by show (0 : Int) < 10; decide, L0, _, _, _, rfl, rfl, SqL.of eL0, hat, ?_⟩
    have g1 := Int.emod_nonneg more (show (9 : Int) ≠ 0 by decide)
    have g2 := Int.emod_lt_of_pos more (show (0 : Int) < 9 by decide)
    refine ⟨_, rfl, _, _, rfl, rfl, by show (0 : Int) < 9; decide, _, rfl, by (first | lia | omega), by (first | lia | omega), compH (by (first | lia | omega)) fun D HD ys sD hD eD hys hh => ?_⟩
    have s10 := sD
    refine ⟨_, rfl, Nat.le_of_lt (small1000 (show 1 ≤ 1000 by decide)), fun a0 ha0 => ?_⟩
    have s11 : Same HD (upd HD a0 (.lst [hv])) := same_upd ha0
    have ea0 := upd_same (H := HD) (a := a0) (o := .lst [hv])
    generalize upd HD a0 (.lst [hv]) = H11 at s11 ea0
    refine ⟨D, a0, _, _, rfl, rfl, s11 _ _ eD, ea0, Nat.le_of_lt (small1000 (show ys.length + 1 ≤ 1000 by (first | lia | omega))), fun c0 hc0 => ?_⟩
    have s12 : Same H11 (upd H11 c0 (.lst (ys ++ [hv]))) := same_upd hc0
    have ec0 := upd_same (H := H11) (a := c0) (o := .lst (ys ++ [hv]))
    generalize upd H11 c0 (.lst (ys ++ [hv])) = H12 at s12 ec0
    refine ⟨by show 2 ≤ sizeLine; decide, fun u0 hu0 => ?_⟩
    have s13 : Same H12 (upd H12 u0 (.tup [.int 3, .int 1])) := same_upd hu0
    have eu0 := upd_same (H := H12) (a := u0) (o := .tup [.int 3, .int 1])
    generalize upd H12 u0 (.tup [.int 3, .int 1]) = H13 at s13 eu0
    refine ⟨by show 2 ≤ sizeLine; decide, fun u1 hu1 => ?_⟩
    have s14 : Same H13 (upd H13 u1 (.tup [.int 3, .int 1])) := same_upd hu1
    have eu1 := upd_same (H := H13) (a := u1) (o := .tup [.int 3, .int 1])
    generalize upd H13 u1 (.tup [.int 3, .int 1]) = H14 at s14 eu1
    refine ⟨Nat.le_of_lt (small1000 (show 2 ≤ 1000 by decide)), fun c1 hc1 => ?_⟩
    have s15 : Same H14 (upd H14 c1 (.lst [.ref u0, .ref u1])) := same_upd hc1
    have ec1 := upd_same (H := H14) (a := c1) (o := .lst [.ref u0, .ref u1])
    generalize upd H14 c1 (.lst [.ref u0, .ref u1]) = H15 at s15 ec1
    refine ⟨by show 2 ≤ sizeLine; decide, fun u2 hu2 => ?_⟩
    have s16 : Same H15 (upd H15 u2 (.tup [.int 3, .int 1])) := same_upd hu2
    have eu2 := upd_same (H := H15) (a := u2) (o := .tup [.int 3, .int 1])
    generalize upd H15 u2 (.tup [.int 3, .int 1]) = H16 at s16 eu2
    refine ⟨_, rfl, _, _, rfl, rfl, by show 2 ≤ sizeLine; decide, fun u3 hu3 => ?_⟩
    have s17 : Same H16 (upd H16 u3 (.tup [.int (2 - more), .int 1])) := same_upd hu3
    have eu3 := upd_same (H := H16) (a := u3) (o := .tup [.int (2 - more), .int 1])
    generalize upd H16 u3 (.tup [.int (2 - more), .int 1]) = H17 at s17 eu3
    refine ⟨Nat.le_of_lt (small1000 (show 2 ≤ 1000 by decide)), fun c2 hc2 => ?_⟩
    have s18 : Same H17 (upd H17 c2 (.lst [.ref u2, .ref u3])) := same_upd hc2
    have ec2 := upd_same (H := H17) (a := c2) (o := .lst [.ref u2, .ref u3])
    generalize upd H17 c2 (.lst [.ref u2, .ref u3]) = H18 at s18 ec2
    refine ⟨Nat.le_of_lt (small1000 (show 3 ≤ 1000 by decide)), fun d0 hd0 => ?_⟩
    have s19 : Same H18 (upd H18 d0 (.lst [.ref c0, .ref c1, .ref c2])) := same_upd hd0
    have ed0 := upd_same (H := H18) (a := d0) (o := .lst [.ref c0, .ref c1, .ref c2])
    generalize upd H18 d0 (.lst [.ref c0, .ref c1, .ref c2]) = H19 at s19 ed0
    refine ⟨_, rfl, by show 2 ≤ sizeLine; decide, fun u4 hu4 => ?_⟩
    have s20 : Same H19 (upd H19 u4 (.tup [.int 0, .int 1])) := same_upd hu4
    have eu4 := upd_same (H := H19) (a := u4) (o := .tup [.int 0, .int 1])
    generalize upd H19 u4 (.tup [.int 0, .int 1]) = H20 at s20 eu4
    refine ⟨by show 1 ≤ sizeLine; decide, fun c4 hc4 => ?_⟩
    have s21 : Same H20 (upd H20 c4 (.tup [.ref u4])) := same_upd hc4
    have ec4 := upd_same (H := H20) (a := c4) (o := .tup [.ref u4])
    generalize upd H20 c4 (.tup [.ref u4]) = H21 at s21 ec4
    refine ⟨Nat.le_of_lt (small1000 (show 2 ≤ 1000 by decide)), fun d1 hd1 => ?_⟩
    have s22 : Same H21 (upd H21 d1 (.lst [.non, .ref c4])) := same_upd hd1
    have ed1 := upd_same (H := H21) (a := d1) (o := .lst [.non, .ref c4])
    generalize upd H21 d1 (.lst [.non, .ref c4]) = H22 at s22 ed1
    have r21 := s22
    have r20 := s21.trans r21
    have r19 := s20.trans r20
    refine ⟨d0, d1, _, _, rfl, rfl, (r19 _ _ ed0), ed1, Nat.le_of_lt (small1000 (show 5 ≤ 1000 by decide)), fun d2 hd2 => ?_⟩
    have s23 : Same H22 (upd H22 d2 (.lst ([.ref c0, .ref c1, .ref c2] ++ [.non, .ref c4]))) := same_upd hd2
    have ed2 := upd_same (H := H22) (a := d2) (o := .lst ([.ref c0, .ref c1, .ref c2] ++ [.non, .ref c4]))
    generalize upd H22 d2 (.lst ([.ref c0, .ref c1, .ref c2] ++ [.non, .ref c4])) = H23 at s23 ed2
    refine ⟨_, rfl, _, rfl, Nat.le_of_lt (small1000 (show 1 ≤ 1000 by decide)), fun b0 hb0 => ?_⟩
    have s24 : Same H23 (upd H23 b0 (.lst [hv])) := same_upd hb0
    have eb0 := upd_same (H := H23) (a := b0) (o := .lst [hv])
    generalize upd H23 b0 (.lst [hv]) = H24 at s24 eb0
    refine ⟨by show 2 ≤ sizeLine; decide, fun u5 hu5 => ?_⟩
    have s25 : Same H24 (upd H24 u5 (.tup [.int 9, .int 1])) := same_upd hu5
    have eu5 := upd_same (H := H24) (a := u5) (o := .tup [.int 9, .int 1])
    generalize upd H24 u5 (.tup [.int 9, .int 1]) = H25 at s25 eu5
    refine ⟨Nat.le_of_lt (small1000 (show 1 ≤ 1000 by decide)), fun b1 hb1 => ?_⟩
    have s26 : Same H25 (upd H25 b1 (.lst [.ref u5])) := same_upd hb1
    have eb1 := upd_same (H := H25) (a := b1) (o := .lst [.ref u5])
    generalize upd H25 b1 (.lst [.ref u5]) = H26 at s26 eb1
    have r25 := s26
    have r24 := s25.trans r25
    refine ⟨b0, b1, _, _, rfl, rfl, (r24 _ _ eb0), eb1, Nat.le_of_lt (small1000 (show 2 ≤ 1000 by decide)), fun c5 hc5 => ?_⟩
    have s27 : Same H26 (upd H26 c5 (.lst ([hv] ++ [.ref u5]))) := same_upd hc5
    have ec5 := upd_same (H := H26) (a := c5) (o := .lst ([hv] ++ [.ref u5]))
    generalize upd H26 c5 (.lst ([hv] ++ [.ref u5])) = H27 at s27 ec5
    refine ⟨by show 2 ≤ sizeLine; decide, fun u6 hu6 => ?_⟩
    have s28 : Same H27 (upd H27 u6 (.tup [.int 0, .int 1])) := same_upd hu6
    have eu6 := upd_same (H := H27) (a := u6) (o := .tup [.int 0, .int 1])
    generalize upd H27 u6 (.tup [.int 0, .int 1]) = H28 at s28 eu6
    refine ⟨_, rfl, by show 2 ≤ sizeLine; decide, fun u7 hu7 => ?_⟩
    have s29 : Same H28 (upd H28 u7 (.tup [.int 9, .int 2])) := same_upd hu7
    have eu7 := upd_same (H := H28) (a := u7) (o := .tup [.int 9, .int 2])
    generalize upd H28 u7 (.tup [.int 9, .int 2]) = H29 at s29 eu7
    refine ⟨Nat.le_of_lt (small1000 (show 3 ≤ 1000 by decide)), fun c6 hc6 => ?_⟩
    have s30 : Same H29 (upd H29 c6 (.lst [.ref u6, hv, .ref u7])) := same_upd hc6
    have ec6 := upd_same (H := H29) (a := c6) (o := .lst [.ref u6, hv, .ref u7])
    generalize upd H29 c6 (.lst [.ref u6, hv, .ref u7]) = H30 at s30 ec6
    intro c8 hc8
    have s31 : Same H30 (upd H30 c8 (.dK [])) := same_upd hc8
    have ec8 := upd_same (H := H30) (a := c8) (o := .dK [])
    generalize upd H30 c8 (.dK []) = H31 at s31 ec8
    refine ⟨Nat.le_of_lt (small1000 (show 4 ≤ 1000 by decide)), fun d3 hd3 => ?_⟩
    have s32 : Same H31 (upd H31 d3 (.lst [.ref c5, .ref c6, .str "01", .ref c8])) := same_upd hd3
    have ed3 := upd_same (H := H31) (a := d3) (o := .lst [.ref c5, .ref c6, .str "01", .ref c8])
    generalize upd H31 d3 (.lst [.ref c5, .ref c6, .str "01", .ref c8]) = H32 at s32 ed3
    have r31 := s32
    have r30 := s31.trans r31
    have r29 := s30.trans r30
    have r28 := s29.trans r29
    have r27 := s28.trans r28
    have r26 := s27.trans r27
    have r25 := s26.trans r26
    have r24 := s25.trans r25
    have r23 := s24.trans r24
    refine ⟨d2, d3, _, _, rfl, rfl, (r23 _ _ ed2), ed3, Nat.le_of_lt (small1000 (show 9 ≤ 1000 by decide)), fun d4 hd4 => ?_⟩
    have s33 : Same H32 (upd H32 d4 (.lst (([.ref c0, .ref c1, .ref c2] ++ [.non, .ref c4]) ++ [.ref c5, .ref c6, .str "01", .ref c8]))) := same_upd hd4
    have ed4 := upd_same (H := H32) (a := d4) (o := .lst (([.ref c0, .ref c1, .ref c2] ++ [.non, .ref c4]) ++ [.ref c5, .ref c6, .str "01", .ref c8]))
    generalize upd H32 d4 (.lst (([.ref c0, .ref c1, .ref c2] ++ [.non, .ref c4]) ++ [.ref c5, .ref c6, .str "01", .ref c8])) = H33 at s33 ed4
    have r32 := s33
    have r31 := s32.trans r32
    have r30 := s31.trans r31
    have r29 := s30.trans r30
    have r28 := s29.trans r29
    have r27 := s28.trans r28
    have r26 := s27.trans r27
    have r25 := s26.trans r26
    have r24 := s25.trans r25
    have r23 := s24.trans r24
    have r22 := s23.trans r23
    have r21 := s22.trans r22
    have r20 := s21.trans r21
    have r19 := s20.trans r20
    have r18 := s19.trans r19
    have r17 := s18.trans r18
    have r16 := s17.trans r17
    have r15 := s16.trans r16
    have r14 := s15.trans r15
    have r13 := s14.trans r14
    have r12 := s13.trans r13
    have r11 := s12.trans r12
    have r10 := s11.trans r11
    have r9 := s10.trans r10
    have r8 := s9.trans r9
    have r7 := s8.trans r8
    have r6 := s7.trans r7
    have r5 := s6.trans r6
    have r4 := s5.trans r5
    have r3 := s4.trans r4
    have r2 := s3.trans r3
    have r1 := s2.trans r2
    have r0 := s1.trans r1
    obtain ⟨bv, hbat, bad⟩ := roads_at (K := K) (nh.same r9) (r12 _ _ ec0) (hh.same r10) (r13 _ _ eu0) (r14 _ _ eu1) (r15 _ _ ec1) (r16 _ _ eu2) (r17 _ _ eu3) (r18 _ _ ec2) (r21 _ _ ec4) (r25 _ _ eu5) (r27 _ _ ec5) (r28 _ _ eu6) (r29 _ _ eu7) (r30 _ _ ec6) (r31 _ _ ec8) hm (Int.emod_nonneg (which / 10) (by decide)) (Int.emod_lt_of_pos (which / 10) (by decide))
    refine ⟨_, rfl, _, _, rfl, rfl, ⟨by decide, by decide⟩, _, _, rfl, rfl, by show (0 : Int) < 9; decide, d4, _, _, _, rfl, rfl, SqL.of ed4, hbat, ?_⟩
    have S := r0
    refine ⟨_, rfl, _, _, rfl, rfl, ⟨by decide, by decide⟩, _, _, rfl, rfl, by show (0 : Int) < 7; decide, ?_⟩
    have g3 := Int.emod_nonneg (which / 90) (show (7 : Int) ≠ 0 by decide)
    have g4 := Int.emod_lt_of_pos (which / 90) (show (0 : Int) < 7 by decide)
    refine ⟨_, rfl, _, _, rfl, rfl, _, rfl, ?_⟩
    refine ite2 (fun hc => ?_) (fun hc => ?_)
    · have g5 : which / 90 % 7 = 0 ∨ which / 90 % 7 = 1 := by
        have := of_decide_eq_true hc
        (first | lia | omega)
      refine ⟨Nat.le_of_lt (small1000 (show 2 ≤ 1000 by decide)), fun w0 hw0 => ?_⟩
      have s34 : Same H33 (upd H33 w0 (.lst [.ref fN, .ref fY])) := same_upd hw0
      have ew0 := upd_same (H := H33) (a := w0) (o := .lst [.ref fN, .ref fY])
      generalize upd H33 w0 (.lst [.ref fN, .ref fY]) = H34 at s34 ew0
      rcases g5 with g5 | g5
      · refine ⟨_, rfl, w0, _, _, .ref fN, rfl, rfl, SqL.of ew0, by show atI _ (which / 90 % 7) = _; rw [g5]; rfl, fN, _, rfl, Cal.of Gn (hr.mono (by decide)) T.n.fn.kp T.n.b passE, _, rfl, .inl ⟨bv, .non, rfl, bad.same s34, fun H' s' => q H' ((S.trans s34).trans s')⟩⟩
      · refine ⟨_, rfl, w0, _, _, .ref fY, rfl, rfl, SqL.of ew0, by show atI _ (which / 90 % 7) = _; rw [g5]; rfl, fY, _, rfl, Cal.of Gy (hr.mono (by decide)) Cway.fn.kp Cway.b passE, _, rfl, .inl ⟨bv, .non, rfl, bad.same s34, fun H' s' => q H' ((S.trans s34).trans s')⟩⟩
    refine ⟨_, rfl, _, _, rfl, rfl, _, rfl, ?_⟩
    refine ite2 (fun hc2 => ?_) (fun hc2 => ?_)
    · have g5 : which / 90 % 7 - 2 = 0 ∨ which / 90 % 7 - 2 = 1 := by
        have h8 : ¬ which / 90 % 7 < 2 := fun z => hc (decide_eq_true z)
        have := of_decide_eq_true hc2
        (first | lia | omega)
      refine ⟨Nat.le_of_lt (small1000 (show 2 ≤ 1000 by decide)), fun w0 hw0 => ?_⟩
      have s34 : Same H33 (upd H33 w0 (.lst [.ref fM, .ref fO])) := same_upd hw0
      have ew0 := upd_same (H := H33) (a := w0) (o := .lst [.ref fM, .ref fO])
      generalize upd H33 w0 (.lst [.ref fM, .ref fO]) = H34 at s34 ew0
      rcases g5 with g5 | g5
      · refine ⟨_, rfl, _, _, rfl, rfl, w0, _, _, .ref fM, rfl, rfl, SqL.of ew0, by show atI _ (which / 90 % 7 - 2) = _; rw [g5]; rfl, fM, _, rfl, Cal.of Gm (hr.mono (by decide)) Cmiddle.fn.kp Cmiddle.b passE, _, rfl, .inl ⟨bv, .non, .non, rfl, bad.same s34, fun H' s' => q H' ((S.trans s34).trans s')⟩⟩
      · refine ⟨_, rfl, _, _, rfl, rfl, w0, _, _, .ref fO, rfl, rfl, SqL.of ew0, by show atI _ (which / 90 % 7 - 2) = _; rw [g5]; rfl, fO, _, rfl, Cal.of Go (hr.mono (by decide)) Cone_way.fn.kp Cone_way.b passE, _, rfl, .inl ⟨bv, .non, .non, rfl, bad.same s34, fun H' s' => q H' ((S.trans s34).trans s')⟩⟩
    · have g5 : which / 90 % 7 - 4 = 0 ∨ which / 90 % 7 - 4 = 1 ∨ which / 90 % 7 - 4 = 2 := by
        have h8 : ¬ which / 90 % 7 < 2 := fun z => hc (decide_eq_true z)
        have h9 : ¬ which / 90 % 7 < 4 := fun z => hc2 (decide_eq_true z)
        (first | lia | omega)
      refine ⟨Nat.le_of_lt (small1000 (show 3 ≤ 1000 by decide)), fun w0 hw0 => ?_⟩
      have s34 : Same H33 (upd H33 w0 (.lst [.ref fBe, .ref fWs, .ref fPa])) := same_upd hw0
      have ew0 := upd_same (H := H33) (a := w0) (o := .lst [.ref fBe, .ref fWs, .ref fPa])
      generalize upd H33 w0 (.lst [.ref fBe, .ref fWs, .ref fPa]) = H34 at s34 ew0
      rcases g5 with g5 | g5 | g5
      · refine ⟨_, rfl, _, _, rfl, rfl, w0, _, _, .ref fBe, rfl, rfl, SqL.of ew0, by show atI _ (which / 90 % 7 - 4) = _; rw [g5]; rfl, fBe, _, rfl, Cal.of Gb (hr.mono (by decide)) Cbest.fn.kp Cbest.b passE, _, rfl, .inl ⟨bv, .non, rfl, bad.same s34, fun H' s' => q H' ((S.trans s34).trans s')⟩⟩
      · refine ⟨_, rfl, _, _, rfl, rfl, w0, _, _, .ref fWs, rfl, rfl, SqL.of ew0, by show atI _ (which / 90 % 7 - 4) = _; rw [g5]; rfl, fWs, _, rfl, Cal.of Gw (hr.mono (by decide)) Cways.fn.kp Cways.b passE, _, rfl, .inl ⟨bv, .non, rfl, bad.same s34, fun H' s' => q H' ((S.trans s34).trans s')⟩⟩
      · refine ⟨_, rfl, _, _, rfl, rfl, w0, _, _, .ref fPa, rfl, rfl, SqL.of ew0, by show atI _ (which / 90 % 7 - 4) = _; rw [g5]; rfl, fPa, _, rfl, Cal.of Gp (hr.mono (by decide)) Cpaying.fn.kp Cpaying.b passE, _, rfl, .inl ⟨bv, .non, rfl, bad.same s34, fun H' s' => q H' ((S.trans s34).trans s')⟩⟩
end
end Ph
set_option Elab.async false
set_option linter.all false
set_option maxRecDepth 100000
set_option maxHeartbeats 16000000
namespace Ph
open PySem PySem.Spec PyProof.Rows L2
theorem two_cal {X : Cx} {f g : Addr} {r : List V → Hp → VK → Prop} {i : Int} (h : i = 0 ∨ i = 1) (cf : Cal X f r) (cg : Cal X g r) : ∃ k, atI [V.ref f, V.ref g] i = some (.ref k) ∧ Cal X k r := by
  rcases h with rfl | rfl
  · exact ⟨f, rfl, cf⟩
  · exact ⟨g, rfl, cg⟩
theorem good_three : Good [(0, 4), (3, 1), (8, 2)] := by
  refine ⟨?_, ?_, by decide, ?_⟩
  · intro j hj
    have : j = 0 ∨ j = 1 := by simp at hj; (first | lia | omega)
    rcases this with rfl | rfl <;> decide
  · intro pl h
    simp at h
    rcases h with rfl | rfl | rfl <;> decide
  · intro pl h
    simp at h
    rcases h with rfl | rfl | rfl <;> exact ⟨by decide, by decide⟩
theorem BadNo.many {K : PySem.W.Frag} {H : Hp} {n : Nat} {v : V} (h : BadNo K H v) : BadMany K H n v := h.imp id fun ⟨i, e, z⟩ => ⟨i, e, .inl (by (first | lia | omega))⟩
theorem counts_at {more i : Int} (h : i = 0 ∨ i = 1) (hm : 0 ≤ more) : ∃ z : Int, atI [V.int 0, V.int (4 + more)] i = some (.int z) ∧ (z < 1 ∨ ((3 : Nat) : Int) < z) := by
  rcases h with rfl | rfl
  · exact ⟨0, rfl, .inl (by decide)⟩
  · exact ⟨4 + more, rfl, .inr (by (first | lia | omega))⟩
theorem posts_at {K : PySem.W.Frag} {H : Hp} {p1 l4 l5 l6 l7 l8 l9 l10 l11 l12 : Addr} {more i : Int} (e1 : H p1 = some (.tup [.int 0])) (e4 : H l4 = some (.lst [])) (e5 : H l5 = some (.lst [.int (3 + more)])) (e6 : H l6 = some (.lst [.int (-1 - more)])) (e7 : H l7 = some (.lst [.bl true])) (e8 : H l8 = some (.lst [.str "0"])) (e9 : H l9 = some (.lst [.non]))
    (e10 : H l10 = some (.lst [.int 1, .int 0])) (e11 : H l11 = some (.lst [.int 0, .int 0])) (e12 : H l12 = some (.lst [.int 0, .int 1, .int 2, .int 3])) (hm : 0 ≤ more) (h0 : 0 ≤ i) (h1 : i < 13) :
    ∃ v, atI ([.non, .ref p1, .str "0", .int 0, .ref l4, .ref l5, .ref l6, .ref l7, .ref l8, .ref l9, .ref l10, .ref l11] ++ [.ref l12]) i = some v ∧ BadPosts K H 3 v := by
  have c : i = 0 ∨ i = 1 ∨ i = 2 ∨ i = 3 ∨ i = 4 ∨ i = 5 ∨ i = 6 ∨ i = 7 ∨ i = 8 ∨ i = 9 ∨ i = 10 ∨ i = 11 ∨ i = 12 := by (first | lia | omega)
  rcases c with rfl | rfl | rfl | rfl | rfl | rfl | rfl | rfl | rfl | rfl | rfl | rfl | rfl
  · exact ⟨_, rfl, .inl (.inl is_non_lst)⟩
  · exact ⟨_, rfl, .inl (.inl (is_tup_lst e1))⟩
  · exact ⟨_, rfl, .inl (.inl (is_str_lst _))⟩
  · exact ⟨_, rfl, .inl (.inl (is_int_lst 0))⟩
  · exact ⟨_, rfl, .inr ⟨l4, [], rfl, e4, fun z => absurd (z.some (by decide)) (by decide), by decide⟩⟩
  · exact ⟨_, rfl, .inr ⟨l5, [3 + more], rfl, e5, fun z => by have := z.hi (3 + more) (by simp); (first | lia | omega), by show 1 ≤ 1000000; decide⟩⟩
  · exact ⟨_, rfl, .inr ⟨l6, [-1 - more], rfl, e6, fun z => by have := z.lo (-1 - more) (by simp); (first | lia | omega), by show 1 ≤ 1000000; decide⟩⟩
  · exact ⟨_, rfl, .inl (.inr ⟨l7, _, _, rfl, e7, noW_bl _⟩)⟩
  · exact ⟨_, rfl, .inl (.inr ⟨l8, _, _, rfl, e8, .inl (is_str_int _)⟩)⟩
  · exact ⟨_, rfl, .inl (.inr ⟨l9, _, _, rfl, e9, .inl is_non_int⟩)⟩
  · exact ⟨_, rfl, .inr ⟨l10, [1, 0], rfl, e10, fun z => absurd (z.rise 0 (by decide)) (by decide), by decide⟩⟩
  · exact ⟨_, rfl, .inr ⟨l11, [0, 0], rfl, e11, fun z => absurd (z.rise 0 (by decide)) (by decide), by decide⟩⟩
  · exact ⟨_, rfl, .inr ⟨l12, [0, 1, 2, 3], rfl, e12, fun z => absurd (z.hi 3 (by simp)) (by decide), by decide⟩⟩
theorem strs_at {K : PySem.W.Frag} {H : Hp} {p0 p1 p2 p3 p4 p5 p6 p7 : Addr} {more i : Int} (e0 : H p0 = some (.tup [.non, .int 2])) (e1 : H p1 = some (.tup [.int 0, .non])) (e2 : H p2 = some (.tup [.int 1, .int 1])) (e3 : H p3 = some (.tup [.int 2, .int 1])) (e4 : H p4 = some (.tup [.int (-1 - more), .int 2])) (e5 : H p5 = some (.tup [.int 0, .int (4 + more)]))
    (e6 : H p6 = some (.tup [.bl true, .int 2])) (e7 : H p7 = some (.tup [.int 0, .bl true])) (hm : 0 ≤ more) (h0 : 0 ≤ i) (h1 : i < 8) :
    ∃ t a b, atI [.ref p0, .ref p1, .ref p2, .ref p3, .ref p4, .ref p5, .ref p6, .ref p7] i = some (V.ref t) ∧ H t = some (.tup [a, b]) ∧ BadStr K H 3 a b := by
  have c : i = 0 ∨ i = 1 ∨ i = 2 ∨ i = 3 ∨ i = 4 ∨ i = 5 ∨ i = 6 ∨ i = 7 := by (first | lia | omega)
  rcases c with rfl | rfl | rfl | rfl | rfl | rfl | rfl | rfl
  · exact ⟨p0, _, _, rfl, e0, .inl (.inl is_non_int)⟩
  · exact ⟨p1, _, _, rfl, e1, .inr ⟨0, rfl, .inl (.inl is_non_int)⟩⟩
  · exact ⟨p2, _, _, rfl, e2, .inr ⟨1, rfl, .inr ⟨1, rfl, .inr (.inl (by decide))⟩⟩⟩
  · exact ⟨p3, _, _, rfl, e3, .inr ⟨2, rfl, .inr ⟨1, rfl, .inr (.inl (by decide))⟩⟩⟩
  · exact ⟨p4, _, _, rfl, e4, .inr ⟨_, rfl, .inr ⟨2, rfl, .inl (by (first | lia | omega))⟩⟩⟩
  · exact ⟨p5, _, _, rfl, e5, .inr ⟨0, rfl, .inr ⟨_, rfl, .inr (.inr (by (first | lia | omega)))⟩⟩⟩
  · exact ⟨p6, _, _, rfl, e6, .inl (noW_bl _)⟩
  · exact ⟨p7, _, _, rfl, e7, .inr ⟨0, rfl, .inl (noW_bl _)⟩⟩
theorem manys_at {K : PySem.W.Frag} {H : Hp} {l3 p5 p6 : Addr} {more i : Int} (e3 : H l3 = some (.lst [.int 1])) (e5 : H p5 = some (.tup [.int 1])) (e6 : H p6 = some (.dK [])) (hm : 0 ≤ more) (h0 : 0 ≤ i) (h1 : i < 7) :
    ∃ v, atI [.non, .str "1", .bl true, .ref l3, .int (-1 - more), .ref p5, .ref p6] i = some v ∧ BadNo K H v := by
  have c : i = 0 ∨ i = 1 ∨ i = 2 ∨ i = 3 ∨ i = 4 ∨ i = 5 ∨ i = 6 := by (first | lia | omega)
  rcases c with rfl | rfl | rfl | rfl | rfl | rfl | rfl
  · exact ⟨_, rfl, .inl (.inl is_non_int)⟩
  · exact ⟨_, rfl, .inl (.inl (is_str_int _))⟩
  · exact ⟨_, rfl, .inl (noW_bl _)⟩
  · exact ⟨_, rfl, .inl (.inl (is_lst_int e3))⟩
  · exact ⟨_, rfl, .inr ⟨_, rfl, by (first | lia | omega)⟩⟩
  · exact ⟨_, rfl, .inl (.inl (is_tup_int e5))⟩
  · exact ⟨_, rfl, .inl (.inl (is_dct_int e6))⟩
section
variable {P : Program} {w : World} {K : PySem.W.Frag} {mg : Str → Option Value} {base : Heap} {CP CR CB CS CM fW fF fH fR fCR fCP fA fCS fCM fCN fN fY fM fO fBe fWs fPa : Addr} {dW dF dH dR dCR dCP dA dCS dCM dCN dN dY dM dO dBe dWs dPa : FuncData}
theorem sc_law_others_asked : FnScope ["_law_kind", "_law_which", "_law_more", "_law_road", "_law_bad", "_law_first", "_law_end", "_law_door"] ["_law_kind", "_law_which", "_law_more"] (defScope s__law_others_asked) := ⟨rfl, rfl, rfl, by decide +kernel, rfl, by decide +kernel, by decide +kernel⟩
def spOthers (CB CS CM : Addr) : Sp := fun vs H Q E => ∃ kind which more : Int, vs = [.int kind, .int which, .int more] ∧ 1 ≤ kind ∧ kind ≤ 3 ∧ 0 ≤ which ∧ 0 ≤ more ∧ (kind = 1 → ∀ H', Same H H' → E (.ref CB) none H') ∧ (kind = 2 → ∀ H', Same H H' → E (.ref CS) none H') ∧ (kind = 3 → ∀ H', Same H H' → E (.ref CM) none H')
theorem ok_others {f : Addr} {fd : FuncData} (F : Fun K "_law_others_asked" "_law_others_asked" s__law_others_asked f fd) (B : Blt mg) (S' : Asks K mg CP CR CB CS CM fW fF fH fR fCR fCP fA fCS fCM fCN fN fY fM fO fBe fWs fPa dW dF dH dR dCR dCP dA dCS dCM dCN dN dY dM dO dBe dWs dPa) :
    FnOk P w K mg base (CXE P w) 7 f fd ["_law_kind", "_law_which", "_law_more"] (spOthers CB CS CM) := by
  have T := S'.T
  have Cway := S'.y
  have Cmiddle := S'.m
  have Cone_way := S'.o
  have Cbest := S'.be
  have Cways := S'.ws
  have Cpaying := S'.pa
  have Gn : FnOk P w K mg base (CXE P w) 5 fN dN ["road", "posts"] (spN7 K CR CB) := ok_n7 T.n.fn B T
  have Gy : FnOk P w K mg base (CXE P w) 6 fY dY ["road", "posts"] (spN7 K CR CB) := ok_w7 Cway.fn B T
  have Gm : FnOk P w K mg base (CXE P w) 5 fM dM ["road", "first", "end"] (spM7 K CR CS) := ok_m7 Cmiddle.fn B T
  have Go : FnOk P w K mg base (CXE P w) 5 fO dO ["road", "first", "end"] (spM7 K CR CS) := ok_o7 Cone_way.fn B T
  have Gb := ok_b7 (P := P) (w := w) (base := base) Cbest.fn B T
  have Gw := ok_ws7 (P := P) (w := w) (base := base) Cways.fn B T
  have Gp := ok_p7 (P := P) (w := w) (base := base) Cpaying.fn B T
  refine F.okEI sc_law_others_asked (fun vs H Q E h => ?_) (fun cdv A outer s H vs Q E hr h => ?_)
  · obtain ⟨kind, which, more, rfl, _⟩ := h
    rfl
  · obtain ⟨kind, which, more, rfl, hk1, hk3, hw, hm, q1, q2, q3⟩ := h
    refine ⟨_, (pss_consI (ps_setI (i := 3) sc_law_others_asked.nd rfl (Or.inl rfl) (pe_lstI (pa_consI (pe_tupI (pa_consI pe_intI (pa_consI pe_intI pa_nilI))) (pa_consI (pe_tupI (pa_consI pe_intI (pa_consI pe_intI pa_nilI))) (pa_consI (pe_tupI (pa_consI pe_intI (pa_consI pe_intI pa_nilI))) pa_nilI)))))
        (pss_consI (ps_ifI (pt_cmpRI op_eq (pe_opI op_mod (pvI 2) pe_intI) pe_intI (nomark _))
        (pss_consI (ps_ifI (pt_cmpRI op_eq (pvI 0) pe_intI (nomark _))
        (pss_oneI (ps_retI (pe_ifExpI (pt_cmpRI op_eq (pe_opI op_mod (pvI 1) pe_intI) pe_intI (nomark _)) (pe_callI Gn (hr.mono (by decide)) (by rfl) T.n.m T.n.fn.kp T.n.b .nil passE (pa_consI (pe_lstI pa_nilI) (pa_consI (pe_lstI (pa_consI pe_intI pa_nilI)) pa_nilI))) (pe_callI Gy (hr.mono (by decide)) (by rfl) Cway.m Cway.fn.kp Cway.b .nil passE (pa_consI (pe_lstI pa_nilI) (pa_consI (pe_lstI (pa_consI pe_intI pa_nilI)) pa_nilI))))))
        pss_nilI)
        (pss_consI (ps_ifI (pt_cmpRI op_eq (pvI 0) pe_intI (nomark _))
        (pss_oneI (ps_retI (pe_ifExpI (pt_cmpRI op_eq (pe_opI op_mod (pvI 1) pe_intI) pe_intI (nomark _)) (pe_callI Gm (hr.mono (by decide)) (by rfl) Cmiddle.m Cmiddle.fn.kp Cmiddle.b .nil passE (pa_consI (pe_lstI pa_nilI) (pa_consI pe_intI (pa_consI pe_intI pa_nilI)))) (pe_callI Go (hr.mono (by decide)) (by rfl) Cone_way.m Cone_way.fn.kp Cone_way.b .nil passE (pa_consI (pe_lstI pa_nilI) (pa_consI pe_intI (pa_consI pe_intI pa_nilI)))))))
        pss_nilI)
        (pss_oneI (ps_retI (pe_callI Gb (hr.mono (by decide)) (by rfl) Cbest.m Cbest.fn.kp Cbest.b .nil passE (pa_consI (pe_lstI pa_nilI) (pa_consI (pe_opI op_add pe_intI (pe_opI op_mod (pvI 1) pe_intI)) pa_nilI)))))))
        pss_nilI)
        (pss_consI (ps_ifI (pt_cmpRI op_eq (pvI 0) pe_intI (nomark _))
        (pss_consI (ps_setI (i := 4) sc_law_others_asked.nd rfl (Or.inl rfl) (pe_lstI (pa_consI pe_nonI (pa_consI (pe_tupI (pa_consI pe_intI pa_nilI)) (pa_consI pe_strI (pa_consI pe_intI (pa_consI (pe_lstI pa_nilI) (pa_consI (pe_lstI (pa_consI (pe_opI op_add pe_intI (pvI 2)) pa_nilI)) (pa_consI (pe_lstI (pa_consI (pe_opI op_sub (pe_unI un_neg pe_intI) (pvI 2)) pa_nilI)) (pa_consI (pe_lstI (pa_consI pe_blI pa_nilI)) (pa_consI (pe_lstI (pa_consI pe_strI pa_nilI)) (pa_consI (pe_lstI (pa_consI pe_nonI pa_nilI)) (pa_consI (pe_lstI (pa_consI pe_intI (pa_consI pe_intI pa_nilI))) (pa_consI (pe_lstI (pa_consI pe_intI (pa_consI pe_intI pa_nilI))) pa_nilI))))))))))))))
        (pss_oneI (ps_retI (pe_callFI (pe_ixI ix_list (pe_lstI (pa_consI (pe_globI (v := V.ref _) (by rfl) T.n.m rfl) (pa_consI (pe_globI (v := V.ref _) (by rfl) Cway.m rfl) pa_nilI))) (pe_opI op_mod (pe_opI op_fdiv (pvI 1) pe_intI) pe_intI) (fun _ _ => rfl)) (pa_consI (pvI 3) (pa_consI (pe_ixI ix_list (pe_opI op_cat (pvI 4) (pe_lstI (pa_consI (pe_lstI (pa_consI pe_intI (pa_consI pe_intI (pa_consI pe_intI (pa_consI pe_intI pa_nilI))))) pa_nilI))) (pe_opI op_mod (pvI 1) pe_intI) (fun _ _ => rfl)) pa_nilI))))))
        pss_nilI)
        (pss_consI (ps_ifI (pt_cmpRI op_eq (pvI 0) pe_intI (nomark _))
        (pss_consI (ps_setI (i := 4) sc_law_others_asked.nd rfl (Or.inl rfl) (pe_lstI (pa_consI (pe_tupI (pa_consI pe_nonI (pa_consI pe_intI pa_nilI))) (pa_consI (pe_tupI (pa_consI pe_intI (pa_consI pe_nonI pa_nilI))) (pa_consI (pe_tupI (pa_consI pe_intI (pa_consI pe_intI pa_nilI))) (pa_consI (pe_tupI (pa_consI pe_intI (pa_consI pe_intI pa_nilI))) (pa_consI (pe_tupI (pa_consI (pe_opI op_sub (pe_unI un_neg pe_intI) (pvI 2)) (pa_consI pe_intI pa_nilI))) (pa_consI (pe_tupI (pa_consI pe_intI (pa_consI (pe_opI op_add pe_intI (pvI 2)) pa_nilI))) (pa_consI (pe_tupI (pa_consI pe_blI (pa_consI pe_intI pa_nilI))) (pa_consI (pe_tupI (pa_consI pe_intI (pa_consI pe_blI pa_nilI))) pa_nilI))))))))))
        (pss_consI (ps_asgI (pe_ixI ix_list (pvI 4) (pe_opI op_mod (pvI 1) pe_intI) (fun _ _ => rfl)) (pg_tup rfl (pgs_cons (pg_name (i := 5) sc_law_others_asked.nd rfl (Or.inl rfl)) (pgs_cons (pg_name (i := 6) sc_law_others_asked.nd rfl (Or.inl rfl)) pgs_nil))))
        (pss_oneI (ps_retI (pe_callFI (pe_ixI ix_list (pe_lstI (pa_consI (pe_globI (v := V.ref _) (by rfl) Cmiddle.m rfl) (pa_consI (pe_globI (v := V.ref _) (by rfl) Cone_way.m rfl) pa_nilI))) (pe_opI op_mod (pe_opI op_fdiv (pvI 1) pe_intI) pe_intI) (fun _ _ => rfl)) (pa_consI (pvI 3) (pa_consI (pvI 5) (pa_consI (pvI 6) pa_nilI))))))))
        pss_nilI)
        (pss_consI (ps_setI (i := 4) sc_law_others_asked.nd rfl (Or.inl rfl) (pe_ixI ix_list (pe_lstI (pa_consI pe_nonI (pa_consI pe_strI (pa_consI pe_blI (pa_consI (pe_lstI (pa_consI pe_intI pa_nilI)) (pa_consI (pe_opI op_sub (pe_unI un_neg pe_intI) (pvI 2)) (pa_consI (pe_tupI (pa_consI pe_intI pa_nilI)) (pa_consI pe_dict0I pa_nilI)))))))) (pe_opI op_mod (pvI 1) pe_intI) (fun _ _ => rfl)))
        (pss_consI (ps_setI (i := 7) sc_law_others_asked.nd rfl (Or.inl rfl) (pe_opI op_mod (pe_opI op_fdiv (pvI 1) pe_intI) pe_intI))
        (pss_consI (ps_ifI (pt_cmpRI op_eq (pvI 7) pe_intI (nomark _))
        (pss_oneI (ps_retI (pe_callI Gb (hr.mono (by decide)) (by rfl) Cbest.m Cbest.fn.kp Cbest.b .nil passE (pa_consI (pvI 3) (pa_consI (pe_ixI ix_list (pe_lstI (pa_consI pe_intI (pa_consI (pe_opI op_add pe_intI (pvI 2)) pa_nilI))) (pe_opI op_mod (pe_opI op_fdiv (pvI 1) pe_intI) pe_intI) (fun _ _ => rfl)) pa_nilI)))))
        pss_nilI)
        (pss_oneI (ps_retI (pe_callFI (pe_ixI ix_list (pe_lstI (pa_consI (pe_globI (v := V.ref _) (by rfl) Cbest.m rfl) (pa_consI (pe_globI (v := V.ref _) (by rfl) Cways.m rfl) (pa_consI (pe_globI (v := V.ref _) (by rfl) Cpaying.m rfl) pa_nilI)))) (pvI 7) (fun _ _ => rfl)) (pa_consI (pvI 3) (pa_consI (pvI 4) pa_nilI)))))))))))), ?_⟩
    refine ⟨by show 2 ≤ sizeLine; decide, fun v0 hv0 => ?_⟩
    have s1 : Same H (upd H v0 (.tup [.int 0, .int 4])) := same_upd hv0
    have ev0 := upd_same (H := H) (a := v0) (o := .tup [.int 0, .int 4])
    generalize upd H v0 (.tup [.int 0, .int 4]) = H1 at s1 ev0
    refine ⟨by show 2 ≤ sizeLine; decide, fun v1 hv1 => ?_⟩
    have s2 : Same H1 (upd H1 v1 (.tup [.int 3, .int 1])) := same_upd hv1
    have ev1 := upd_same (H := H1) (a := v1) (o := .tup [.int 3, .int 1])
    generalize upd H1 v1 (.tup [.int 3, .int 1]) = H2 at s2 ev1
    refine ⟨by show 2 ≤ sizeLine; decide, fun v2 hv2 => ?_⟩
    have s3 : Same H2 (upd H2 v2 (.tup [.int 8, .int 2])) := same_upd hv2
    have ev2 := upd_same (H := H2) (a := v2) (o := .tup [.int 8, .int 2])
    generalize upd H2 v2 (.tup [.int 8, .int 2]) = H3 at s3 ev2
    refine ⟨Nat.le_of_lt (small1000 (show 3 ≤ 1000 by decide)), fun rd hrd => ?_⟩
    have s4 : Same H3 (upd H3 rd (.lst [.ref v0, .ref v1, .ref v2])) := same_upd hrd
    have erd := upd_same (H := H3) (a := rd) (o := .lst [.ref v0, .ref v1, .ref v2])
    generalize upd H3 rd (.lst [.ref v0, .ref v1, .ref v2]) = H4 at s4 erd
    have r3 := s4
    have r2 := s3.trans r3
    have r1 := s2.trans r2
    have r0 := s1.trans r1
    have Rr : RoadAt H4 rd [(0, 4), (3, 1), (8, 2)] := ⟨[v0, v1, v2], erd, .cons (r1 _ _ ev0) (.cons (r2 _ _ ev1) (.cons (r3 _ _ ev2) .nil))⟩
    have S4 := r0
    refine ⟨_, rfl, _, _, rfl, rfl, by show (0 : Int) < 5; decide, rfl, _, rfl, ?_⟩
    refine ite2 (fun _ => ?_) (fun _ => ?_)
    · refine ⟨_, rfl, rfl, _, rfl, ?_⟩
      refine ite2 (fun h1 => ?_) (fun h1 => ?_)
      · have hk : kind = 1 := by have := of_decide_eq_true h1; injection this
        refine ⟨_, rfl, _, _, rfl, rfl, by show (0 : Int) < 2; decide, rfl, _, rfl, ?_⟩
        refine ite2 (fun _ => ?_) (fun _ => ?_)
        · refine ⟨Nat.zero_le _, fun e1 he1 => ?_⟩
          have s5 : Same H4 (upd H4 e1 (.lst [])) := same_upd he1
          have ee1 := upd_same (H := H4) (a := e1) (o := .lst [])
          generalize upd H4 e1 (.lst []) = H5 at s5 ee1
          refine ⟨Nat.le_of_lt (small1000 (show 1 ≤ 1000 by decide)), fun e2 he2 => ?_⟩
          have s6 : Same H5 (upd H5 e2 (.lst [.int 0])) := same_upd he2
          have ee2 := upd_same (H := H5) (a := e2) (o := .lst [.int 0])
          generalize upd H5 e2 (.lst [.int 0]) = H6 at s6 ee2
          exact .inr ⟨e1, [], .ref e2, rfl, ⟨[], s6 _ _ ee1, .nil⟩, good_nil, .inr ⟨e2, [0], rfl, ee2, fun z => absurd (z.hi 0 (by simp)) (by decide), by decide⟩, fun H' s' => q1 hk H' (S4.trans (s5.trans (s6.trans s')))⟩
        · refine ⟨Nat.zero_le _, fun e1 he1 => ?_⟩
          have s5 : Same H4 (upd H4 e1 (.lst [])) := same_upd he1
          have ee1 := upd_same (H := H4) (a := e1) (o := .lst [])
          generalize upd H4 e1 (.lst []) = H5 at s5 ee1
          refine ⟨Nat.le_of_lt (small1000 (show 1 ≤ 1000 by decide)), fun e2 he2 => ?_⟩
          have s6 : Same H5 (upd H5 e2 (.lst [.int 0])) := same_upd he2
          have ee2 := upd_same (H := H5) (a := e2) (o := .lst [.int 0])
          generalize upd H5 e2 (.lst [.int 0]) = H6 at s6 ee2
          exact .inr ⟨e1, [], .ref e2, rfl, ⟨[], s6 _ _ ee1, .nil⟩, good_nil, .inr ⟨e2, [0], rfl, ee2, fun z => absurd (z.hi 0 (by simp)) (by decide), by decide⟩, fun H' s' => q1 hk H' (S4.trans (s5.trans (s6.trans s')))⟩
      refine ⟨_, rfl, rfl, _, rfl, ?_⟩
      refine ite2 (fun h2 => ?_) (fun h2 => ?_)
      · have hk : kind = 2 := by have := of_decide_eq_true h2; injection this
        refine ⟨_, rfl, _, _, rfl, rfl, by show (0 : Int) < 2; decide, rfl, _, rfl, ?_⟩
        refine ite2 (fun _ => ?_) (fun _ => ?_)
        · refine ⟨Nat.zero_le _, fun e1 he1 => ?_⟩
          have s5 : Same H4 (upd H4 e1 (.lst [])) := same_upd he1
          have ee1 := upd_same (H := H4) (a := e1) (o := .lst [])
          generalize upd H4 e1 (.lst []) = H5 at s5 ee1
          exact .inr ⟨e1, [], .int 0, .int 0, rfl, ⟨[], ee1, .nil⟩, good_nil, .inr ⟨0, rfl, .inr ⟨0, rfl, .inr (.inl (by decide))⟩⟩, fun H' s' => q2 hk H' (S4.trans (s5.trans s'))⟩
        · refine ⟨Nat.zero_le _, fun e1 he1 => ?_⟩
          have s5 : Same H4 (upd H4 e1 (.lst [])) := same_upd he1
          have ee1 := upd_same (H := H4) (a := e1) (o := .lst [])
          generalize upd H4 e1 (.lst []) = H5 at s5 ee1
          exact .inr ⟨e1, [], .int 0, .int 1, rfl, ⟨[], ee1, .nil⟩, good_nil, .inr ⟨0, rfl, .inr ⟨1, rfl, .inr (.inr (by decide))⟩⟩, fun H' s' => q2 hk H' (S4.trans (s5.trans s'))⟩
      have hk : kind = 3 := by
        have g1 : ¬ kind = 1 := fun z => h1 (decide_eq_true (by rw [z]))
        have g2 : ¬ kind = 2 := fun z => h2 (decide_eq_true (by rw [z]))
        (first | lia | omega)
      refine ⟨Nat.zero_le _, fun e1 he1 => ?_⟩
      have s5 : Same H4 (upd H4 e1 (.lst [])) := same_upd he1
      have ee1 := upd_same (H := H4) (a := e1) (o := .lst [])
      generalize upd H4 e1 (.lst []) = H5 at s5 ee1
      refine ⟨_, rfl, _, _, rfl, rfl, by show (0 : Int) < 3; decide, _, _, rfl, rfl, ?_⟩
      have g3 := Int.emod_nonneg which (show (3 : Int) ≠ 0 by decide)
      exact .inr ⟨e1, [], _, rfl, ⟨[], ee1, .nil⟩, good_nil, .inr ⟨_, rfl, .inr (by show (0 : Int) < 1 + which % 3; (first | lia | omega))⟩, fun H' s' => q3 hk H' (S4.trans (s5.trans s'))⟩
    refine ⟨_, rfl, rfl, _, rfl, ?_⟩
    refine ite2 (fun h1 => ?_) (fun h1 => ?_)
    · have hk : kind = 1 := by have := of_decide_eq_true h1; injection this
      refine ⟨by show 1 ≤ sizeLine; decide, fun p1 hp1 => ?_⟩
      have s5 : Same H4 (upd H4 p1 (.tup [.int 0])) := same_upd hp1
      have ep1 := upd_same (H := H4) (a := p1) (o := .tup [.int 0])
      generalize upd H4 p1 (.tup [.int 0]) = H5 at s5 ep1
      refine ⟨Nat.zero_le _, fun l4 hl4 => ?_⟩
      have s6 : Same H5 (upd H5 l4 (.lst [])) := same_upd hl4
      have el4 := upd_same (H := H5) (a := l4) (o := .lst [])
      generalize upd H5 l4 (.lst []) = H6 at s6 el4
      refine ⟨_, rfl, _, _, rfl, rfl, Nat.le_of_lt (small1000 (show 1 ≤ 1000 by decide)), fun l5 hl5 => ?_⟩
      have s7 : Same H6 (upd H6 l5 (.lst [.int (3 + more)])) := same_upd hl5
      have el5 := upd_same (H := H6) (a := l5) (o := .lst [.int (3 + more)])
      generalize upd H6 l5 (.lst [.int (3 + more)]) = H7 at s7 el5
      refine ⟨_, rfl, _, rfl, _, _, rfl, rfl, Nat.le_of_lt (small1000 (show 1 ≤ 1000 by decide)), fun l6 hl6 => ?_⟩
      have s8 : Same H7 (upd H7 l6 (.lst [.int (-1 - more)])) := same_upd hl6
      have el6 := upd_same (H := H7) (a := l6) (o := .lst [.int (-1 - more)])
      generalize upd H7 l6 (.lst [.int (-1 - more)]) = H8 at s8 el6
      refine ⟨Nat.le_of_lt (small1000 (show 1 ≤ 1000 by decide)), fun l7 hl7 => ?_⟩
      have s9 : Same H8 (upd H8 l7 (.lst [.bl true])) := same_upd hl7
      have el7 := upd_same (H := H8) (a := l7) (o := .lst [.bl true])
      generalize upd H8 l7 (.lst [.bl true]) = H9 at s9 el7
      refine ⟨Nat.le_of_lt (small1000 (show 1 ≤ 1000 by decide)), fun l8 hl8 => ?_⟩
      have s10 : Same H9 (upd H9 l8 (.lst [.str "0"])) := same_upd hl8
      have el8 := upd_same (H := H9) (a := l8) (o := .lst [.str "0"])
      generalize upd H9 l8 (.lst [.str "0"]) = H10 at s10 el8
      refine ⟨Nat.le_of_lt (small1000 (show 1 ≤ 1000 by decide)), fun l9 hl9 => ?_⟩
      have s11 : Same H10 (upd H10 l9 (.lst [.non])) := same_upd hl9
      have el9 := upd_same (H := H10) (a := l9) (o := .lst [.non])
      generalize upd H10 l9 (.lst [.non]) = H11 at s11 el9
      refine ⟨Nat.le_of_lt (small1000 (show 2 ≤ 1000 by decide)), fun l10 hl10 => ?_⟩
      have s12 : Same H11 (upd H11 l10 (.lst [.int 1, .int 0])) := same_upd hl10
      have el10 := upd_same (H := H11) (a := l10) (o := .lst [.int 1, .int 0])
      generalize upd H11 l10 (.lst [.int 1, .int 0]) = H12 at s12 el10
      refine ⟨Nat.le_of_lt (small1000 (show 2 ≤ 1000 by decide)), fun l11 hl11 => ?_⟩
      have s13 : Same H12 (upd H12 l11 (.lst [.int 0, .int 0])) := same_upd hl11
      have el11 := upd_same (H := H12) (a := l11) (o := .lst [.int 0, .int 0])
      generalize upd H12 l11 (.lst [.int 0, .int 0]) = H13 at s13 el11
      refine ⟨Nat.le_of_lt (small1000 (show 12 ≤ 1000 by decide)), fun bd hbd => ?_⟩
      have s14 : Same H13 (upd H13 bd (.lst [.non, .ref p1, .str "0", .int 0, .ref l4, .ref l5, .ref l6, .ref l7, .ref l8, .ref l9, .ref l10, .ref l11])) := same_upd hbd
      have ebd := upd_same (H := H13) (a := bd) (o := .lst [.non, .ref p1, .str "0", .int 0, .ref l4, .ref l5, .ref l6, .ref l7, .ref l8, .ref l9, .ref l10, .ref l11])
      generalize upd H13 bd (.lst [.non, .ref p1, .str "0", .int 0, .ref l4, .ref l5, .ref l6, .ref l7, .ref l8, .ref l9, .ref l10, .ref l11]) = H14 at s14 ebd
      refine ⟨Nat.le_of_lt (small1000 (show 2 ≤ 1000 by decide)), fun w0 hw0 => ?_⟩
      have s15 : Same H14 (upd H14 w0 (.lst [.ref fN, .ref fY])) := same_upd hw0
      have ew0 := upd_same (H := H14) (a := w0) (o := .lst [.ref fN, .ref fY])
      generalize upd H14 w0 (.lst [.ref fN, .ref fY]) = H15 at s15 ew0
      have g1 := Int.emod_nonneg (which / 13) (show (2 : Int) ≠ 0 by decide)
      have g2 := Int.emod_lt_of_pos (which / 13) (show (0 : Int) < 2 by decide)
      obtain ⟨k, hk1, ck⟩ := two_cal (i := which / 13 % 2) (by (first | lia | omega)) (Cal.of (X := (cxOf (CXE P w) P w K mg base ["_law_kind", "_law_which", "_law_more", "_law_road", "_law_bad", "_law_first", "_law_end", "_law_door"] "_law_others_asked" (defScope s__law_others_asked) f cdv A outer s H E)) Gn (hr.mono (by decide)) T.n.fn.kp T.n.b passE) (Cal.of (X := (cxOf (CXE P w) P w K mg base ["_law_kind", "_law_which", "_law_more", "_law_road", "_law_bad", "_law_first", "_law_end", "_law_door"] "_law_others_asked" (defScope s__law_others_asked) f cdv A outer s H E)) Gy (hr.mono (by decide)) Cway.fn.kp Cway.b passE)
      refine ⟨_, rfl, _, _, rfl, rfl, ⟨by decide, by decide⟩, _, _, rfl, rfl, by show (0 : Int) < 2; decide, w0, _, _, .ref k, rfl, rfl, SqL.of ew0, hk1, k, _, rfl, ck, ?_⟩
      refine ⟨_, rfl, _, rfl, Nat.le_of_lt (small1000 (show 4 ≤ 1000 by decide)), fun l12 hl12 => ?_⟩
      have s16 : Same H15 (upd H15 l12 (.lst [.int 0, .int 1, .int 2, .int 3])) := same_upd hl12
      have el12 := upd_same (H := H15) (a := l12) (o := .lst [.int 0, .int 1, .int 2, .int 3])
      generalize upd H15 l12 (.lst [.int 0, .int 1, .int 2, .int 3]) = H16 at s16 el12
      refine ⟨Nat.le_of_lt (small1000 (show 1 ≤ 1000 by decide)), fun b2 hb2 => ?_⟩
      have s17 : Same H16 (upd H16 b2 (.lst [.ref l12])) := same_upd hb2
      have eb2 := upd_same (H := H16) (a := b2) (o := .lst [.ref l12])
      generalize upd H16 b2 (.lst [.ref l12]) = H17 at s17 eb2
      have r16 := s17
      have r15 := s16.trans r16
      have r14 := s15.trans r15
      have r13 := s14.trans r14
      have r12 := s13.trans r13
      have r11 := s12.trans r12
      have r10 := s11.trans r11
      have r9 := s10.trans r10
      have r8 := s9.trans r9
      have r7 := s8.trans r8
      have r6 := s7.trans r7
      have r5 := s6.trans r6
      refine ⟨bd, b2, _, _, rfl, rfl, (r14 _ _ ebd), eb2, Nat.le_of_lt (small1000 (show 13 ≤ 1000 by decide)), fun b3 hb3 => ?_⟩
      have s18 : Same H17 (upd H17 b3 (.lst ([.non, .ref p1, .str "0", .int 0, .ref l4, .ref l5, .ref l6, .ref l7, .ref l8, .ref l9, .ref l10, .ref l11] ++ [.ref l12]))) := same_upd hb3
      have eb3 := upd_same (H := H17) (a := b3) (o := .lst ([.non, .ref p1, .str "0", .int 0, .ref l4, .ref l5, .ref l6, .ref l7, .ref l8, .ref l9, .ref l10, .ref l11] ++ [.ref l12]))
      generalize upd H17 b3 (.lst ([.non, .ref p1, .str "0", .int 0, .ref l4, .ref l5, .ref l6, .ref l7, .ref l8, .ref l9, .ref l10, .ref l11] ++ [.ref l12])) = H18 at s18 eb3
      have r17 := s18
      have r16 := s17.trans r17
      have r15 := s16.trans r16
      have r14 := s15.trans r15
      have r13 := s14.trans r14
      have r12 := s13.trans r13
      have r11 := s12.trans r12
      have r10 := s11.trans r11
      have r9 := s10.trans r10
      have r8 := s9.trans r9
      have r7 := s8.trans r8
      have r6 := s7.trans r7
      have r5 := s6.trans r6
      have r4 := s5.trans r5
      obtain ⟨v, hat, bad⟩ := posts_at (K := K) (r5 _ _ ep1) (r6 _ _ el4) (r7 _ _ el5) (r8 _ _ el6) (r9 _ _ el7) (r10 _ _ el8) (r11 _ _ el9) (r12 _ _ el10) (r13 _ _ el11) (r16 _ _ el12) hm (Int.emod_nonneg which (by decide)) (Int.emod_lt_of_pos which (by decide))
      refine ⟨_, rfl, _, _, rfl, rfl, by show (0 : Int) < 13; decide, b3, _, _, _, rfl, rfl, SqL.of eb3, hat, ?_⟩
      exact .inr ⟨rd, _, v, rfl, Rr.same r4, good_three, bad, fun H' s' => q1 hk H' (S4.trans (r4.trans s'))⟩
    refine ⟨_, rfl, rfl, _, rfl, ?_⟩
    refine ite2 (fun h2 => ?_) (fun h2 => ?_)
    · have hk : kind = 2 := by have := of_decide_eq_true h2; injection this
      refine ⟨by show 2 ≤ sizeLine; decide, fun p0 hp0 => ?_⟩
      have s5 : Same H4 (upd H4 p0 (.tup [.non, .int 2])) := same_upd hp0
      have ep0 := upd_same (H := H4) (a := p0) (o := .tup [.non, .int 2])
      generalize upd H4 p0 (.tup [.non, .int 2]) = H5 at s5 ep0
      refine ⟨by show 2 ≤ sizeLine; decide, fun p1 hp1 => ?_⟩
      have s6 : Same H5 (upd H5 p1 (.tup [.int 0, .non])) := same_upd hp1
      have ep1 := upd_same (H := H5) (a := p1) (o := .tup [.int 0, .non])
      generalize upd H5 p1 (.tup [.int 0, .non]) = H6 at s6 ep1
      refine ⟨by show 2 ≤ sizeLine; decide, fun p2 hp2 => ?_⟩
      have s7 : Same H6 (upd H6 p2 (.tup [.int 1, .int 1])) := same_upd hp2
      have ep2 := upd_same (H := H6) (a := p2) (o := .tup [.int 1, .int 1])
      generalize upd H6 p2 (.tup [.int 1, .int 1]) = H7 at s7 ep2
      refine ⟨by show 2 ≤ sizeLine; decide, fun p3 hp3 => ?_⟩
      have s8 : Same H7 (upd H7 p3 (.tup [.int 2, .int 1])) := same_upd hp3
      have ep3 := upd_same (H := H7) (a := p3) (o := .tup [.int 2, .int 1])
      generalize upd H7 p3 (.tup [.int 2, .int 1]) = H8 at s8 ep3
      refine ⟨_, rfl, _, rfl, _, _, rfl, rfl, by show 2 ≤ sizeLine; decide, fun p4 hp4 => ?_⟩
      have s9 : Same H8 (upd H8 p4 (.tup [.int (-1 - more), .int 2])) := same_upd hp4
      have ep4 := upd_same (H := H8) (a := p4) (o := .tup [.int (-1 - more), .int 2])
      generalize upd H8 p4 (.tup [.int (-1 - more), .int 2]) = H9 at s9 ep4
      refine ⟨_, rfl, _, _, rfl, rfl, by show 2 ≤ sizeLine; decide, fun p5 hp5 => ?_⟩
      have s10 : Same H9 (upd H9 p5 (.tup [.int 0, .int (4 + more)])) := same_upd hp5
      have ep5 := upd_same (H := H9) (a := p5) (o := .tup [.int 0, .int (4 + more)])
      generalize upd H9 p5 (.tup [.int 0, .int (4 + more)]) = H10 at s10 ep5
      refine ⟨by show 2 ≤ sizeLine; decide, fun p6 hp6 => ?_⟩
      have s11 : Same H10 (upd H10 p6 (.tup [.bl true, .int 2])) := same_upd hp6
      have ep6 := upd_same (H := H10) (a := p6) (o := .tup [.bl true, .int 2])
      generalize upd H10 p6 (.tup [.bl true, .int 2]) = H11 at s11 ep6
      refine ⟨by show 2 ≤ sizeLine; decide, fun p7 hp7 => ?_⟩
      have s12 : Same H11 (upd H11 p7 (.tup [.int 0, .bl true])) := same_upd hp7
      have ep7 := upd_same (H := H11) (a := p7) (o := .tup [.int 0, .bl true])
      generalize upd H11 p7 (.tup [.int 0, .bl true]) = H12 at s12 ep7
      refine ⟨Nat.le_of_lt (small1000 (show 8 ≤ 1000 by decide)), fun bd hbd => ?_⟩
      have s13 : Same H12 (upd H12 bd (.lst [.ref p0, .ref p1, .ref p2, .ref p3, .ref p4, .ref p5, .ref p6, .ref p7])) := same_upd hbd
      have ebd := upd_same (H := H12) (a := bd) (o := .lst [.ref p0, .ref p1, .ref p2, .ref p3, .ref p4, .ref p5, .ref p6, .ref p7])
      generalize upd H12 bd (.lst [.ref p0, .ref p1, .ref p2, .ref p3, .ref p4, .ref p5, .ref p6, .ref p7]) = H13 at s13 ebd
      have r12 := s13
      have r11 := s12.trans r12
      have r10 := s11.trans r11
      have r9 := s10.trans r10
      have r8 := s9.trans r9
      have r7 := s8.trans r8
      have r6 := s7.trans r7
      have r5 := s6.trans r6
      have r4 := s5.trans r5
      obtain ⟨t, a, b, hat, et, bad⟩ := strs_at (K := K) (r5 _ _ ep0) (r6 _ _ ep1) (r7 _ _ ep2) (r8 _ _ ep3) (r9 _ _ ep4) (r10 _ _ ep5) (r11 _ _ ep6) (r12 _ _ ep7) hm (Int.emod_nonneg which (by decide)) (Int.emod_lt_of_pos which (by decide))
      refine ⟨_, rfl, _, rfl, _, _, rfl, rfl, by show (0 : Int) < 8; decide, bd, _, _, _, rfl, rfl, SqL.of ebd, hat, t, _, rfl, SqT.of et, rfl, _, _, rfl, _, _, rfl, rfl, ?_⟩
      refine ⟨Nat.le_of_lt (small1000 (show 2 ≤ 1000 by decide)), fun w0 hw0 => ?_⟩
      have s14 : Same H13 (upd H13 w0 (.lst [.ref fM, .ref fO])) := same_upd hw0
      have ew0 := upd_same (H := H13) (a := w0) (o := .lst [.ref fM, .ref fO])
      generalize upd H13 w0 (.lst [.ref fM, .ref fO]) = H14 at s14 ew0
      have g1 := Int.emod_nonneg (which / 8) (show (2 : Int) ≠ 0 by decide)
      have g2 := Int.emod_lt_of_pos (which / 8) (show (0 : Int) < 2 by decide)
      obtain ⟨k, hk1, ck⟩ := two_cal (i := which / 8 % 2) (by (first | lia | omega)) (Cal.of (X := (cxOf (CXE P w) P w K mg base ["_law_kind", "_law_which", "_law_more", "_law_road", "_law_bad", "_law_first", "_law_end", "_law_door"] "_law_others_asked" (defScope s__law_others_asked) f cdv A outer s H E)) Gm (hr.mono (by decide)) Cmiddle.fn.kp Cmiddle.b passE) (Cal.of (X := (cxOf (CXE P w) P w K mg base ["_law_kind", "_law_which", "_law_more", "_law_road", "_law_bad", "_law_first", "_law_end", "_law_door"] "_law_others_asked" (defScope s__law_others_asked) f cdv A outer s H E)) Go (hr.mono (by decide)) Cone_way.fn.kp Cone_way.b passE)
      refine ⟨_, rfl, _, _, rfl, rfl, ⟨by decide, by decide⟩, _, _, rfl, rfl, by show (0 : Int) < 2; decide, w0, _, _, .ref k, rfl, rfl, SqL.of ew0, hk1, k, _, rfl, ck, ?_⟩
      exact ⟨_, rfl, _, rfl, _, rfl, .inr ⟨rd, _, a, b, rfl, Rr.same (r4.trans s14), good_three, bad.same s14, fun H' s' => q2 hk H' (S4.trans (r4.trans (s14.trans s')))⟩⟩
    have hk : kind = 3 := by
      have g1 : ¬ kind = 1 := fun z => h1 (decide_eq_true (by rw [z]))
      have g2 : ¬ kind = 2 := fun z => h2 (decide_eq_true (by rw [z]))
      (first | lia | omega)
    refine ⟨Nat.le_of_lt (small1000 (show 1 ≤ 1000 by decide)), fun l3 hl3 => ?_⟩
    have s5 : Same H4 (upd H4 l3 (.lst [.int 1])) := same_upd hl3
    have el3 := upd_same (H := H4) (a := l3) (o := .lst [.int 1])
    generalize upd H4 l3 (.lst [.int 1]) = H5 at s5 el3
    refine ⟨_, rfl, _, rfl, _, _, rfl, rfl, by show 1 ≤ sizeLine; decide, fun p5 hp5 => ?_⟩
    have s6 : Same H5 (upd H5 p5 (.tup [.int 1])) := same_upd hp5
    have ep5 := upd_same (H := H5) (a := p5) (o := .tup [.int 1])
    generalize upd H5 p5 (.tup [.int 1]) = H6 at s6 ep5
    intro p6 hp6
    have s7 : Same H6 (upd H6 p6 (.dK [])) := same_upd hp6
    have ep6 := upd_same (H := H6) (a := p6) (o := .dK [])
    generalize upd H6 p6 (.dK []) = H7 at s7 ep6
    refine ⟨Nat.le_of_lt (small1000 (show 7 ≤ 1000 by decide)), fun bd hbd => ?_⟩
    have s8 : Same H7 (upd H7 bd (.lst [.non, .str "1", .bl true, .ref l3, .int (-1 - more), .ref p5, .ref p6])) := same_upd hbd
    have ebd := upd_same (H := H7) (a := bd) (o := .lst [.non, .str "1", .bl true, .ref l3, .int (-1 - more), .ref p5, .ref p6])
    generalize upd H7 bd (.lst [.non, .str "1", .bl true, .ref l3, .int (-1 - more), .ref p5, .ref p6]) = H8 at s8 ebd
    have r7 := s8
    have r6 := s7.trans r7
    have r5 := s6.trans r6
    have r4 := s5.trans r5
    obtain ⟨v, hat, bad⟩ := manys_at (K := K) (r5 _ _ el3) (r6 _ _ ep5) (r7 _ _ ep6) hm (Int.emod_nonneg which (by decide)) (Int.emod_lt_of_pos which (by decide))
    refine ⟨_, rfl, _, _, rfl, rfl, by show (0 : Int) < 7; decide, bd, _, _, _, rfl, rfl, SqL.of ebd, hat, ?_⟩
    refine ⟨_, rfl, _, _, rfl, rfl, ⟨by decide, by decide⟩, _, _, rfl, rfl, by show (0 : Int) < 4; decide, ?_⟩
    refine ⟨_, rfl, rfl, _, rfl, ?_⟩
    refine ite2 (fun h3 => ?_) (fun h3 => ?_)
    · refine ⟨_, rfl, _, rfl, _, _, rfl, rfl, Nat.le_of_lt (small1000 (show 2 ≤ 1000 by decide)), fun w0 hw0 => ?_⟩
      have s9 : Same H8 (upd H8 w0 (.lst [.int 0, .int (4 + more)])) := same_upd hw0
      have ew0 := upd_same (H := H8) (a := w0) (o := .lst [.int 0, .int (4 + more)])
      generalize upd H8 w0 (.lst [.int 0, .int (4 + more)]) = H9 at s9 ew0
      have g1 := Int.emod_nonneg (which / 28) (show (2 : Int) ≠ 0 by decide)
      have g2 := Int.emod_lt_of_pos (which / 28) (show (0 : Int) < 2 by decide)
      obtain ⟨z, hz, hb⟩ := counts_at (i := which / 28 % 2) (by (first | lia | omega)) hm
      refine ⟨_, rfl, _, _, rfl, rfl, ⟨by decide, by decide⟩, _, _, rfl, rfl, by show (0 : Int) < 2; decide, w0, _, _, _, rfl, rfl, SqL.of ew0, hz, ?_⟩
      exact .inr ⟨rd, _, _, rfl, Rr.same (r4.trans s9), good_three, .inr ⟨z, rfl, hb⟩, fun H' s' => q3 hk H' (S4.trans (r4.trans (s9.trans s')))⟩
    · have g1 := Int.emod_nonneg (which / 7) (show (4 : Int) ≠ 0 by decide)
      have g2 := Int.emod_lt_of_pos (which / 7) (show (0 : Int) < 4 by decide)
      have g3 : ¬ which / 7 % 4 = 3 := fun z => h3 (decide_eq_true (by show V.int (which / 7 % 4) = V.int 3; rw [z]))
      have g5 : which / 7 % 4 = 0 ∨ which / 7 % 4 = 1 ∨ which / 7 % 4 = 2 := by (first | lia | omega)
      refine ⟨Nat.le_of_lt (small1000 (show 3 ≤ 1000 by decide)), fun w0 hw0 => ?_⟩
      have s9 : Same H8 (upd H8 w0 (.lst [.ref fBe, .ref fWs, .ref fPa])) := same_upd hw0
      have ew0 := upd_same (H := H8) (a := w0) (o := .lst [.ref fBe, .ref fWs, .ref fPa])
      generalize upd H8 w0 (.lst [.ref fBe, .ref fWs, .ref fPa]) = H9 at s9 ew0
      rcases g5 with g5 | g5 | g5
      · exact ⟨_, rfl, w0, _, _, .ref fBe, rfl, rfl, SqL.of ew0, by show atI _ (which / 7 % 4) = _; rw [g5]; rfl, fBe, _, rfl, Cal.of Gb (hr.mono (by decide)) Cbest.fn.kp Cbest.b passE, _, rfl, _, rfl, .inr ⟨rd, _, v, rfl, Rr.same (r4.trans s9), good_three, (bad.same s9).many, fun H' s' => q3 hk H' (S4.trans (r4.trans (s9.trans s')))⟩⟩
      · exact ⟨_, rfl, w0, _, _, .ref fWs, rfl, rfl, SqL.of ew0, by show atI _ (which / 7 % 4) = _; rw [g5]; rfl, fWs, _, rfl, Cal.of Gw (hr.mono (by decide)) Cways.fn.kp Cways.b passE, _, rfl, _, rfl, .inr ⟨rd, _, v, rfl, Rr.same (r4.trans s9), good_three, (bad.same s9), fun H' s' => q3 hk H' (S4.trans (r4.trans (s9.trans s')))⟩⟩
      · exact ⟨_, rfl, w0, _, _, .ref fPa, rfl, rfl, SqL.of ew0, by show atI _ (which / 7 % 4) = _; rw [g5]; rfl, fPa, _, rfl, Cal.of Gp (hr.mono (by decide)) Cpaying.fn.kp Cpaying.b passE, _, rfl, _, rfl, .inr ⟨rd, _, v, rfl, Rr.same (r4.trans s9), good_three, (bad.same s9), fun H' s' => q3 hk H' (S4.trans (r4.trans (s9.trans s')))⟩⟩
end
end Ph
set_option Elab.async false
set_option linter.all false
set_option maxRecDepth 100000
set_option maxHeartbeats 16000000
namespace Ph
open PySem PySem.Spec PyProof.Rows L2
theorem five {α : Type} {l : List α} (h : l.length = 5) : ∃ a b c d e, l = [a, b, c, d, e] := by
  match l, h with
  | [a, b, c, d, e], _ => exact ⟨a, b, c, d, e, rfl⟩
structure ErrK (K : PySem.W.Frag) (CP CR CB CS CM C : Addr) (r b s m : Bool) : Prop where
  lk : ExcLook K C
  kr : PySem.W.kitOne K (.ref C) (.ref CR) = some r
  kb : PySem.W.kitOne K (.ref C) (.ref CB) = some b
  ks : PySem.W.kitOne K (.ref C) (.ref CS) = some s
  km : PySem.W.kitOne K (.ref C) (.ref CM) = some m
  kv : PySem.W.kitOne K (.ref C) (.type "ValueError") = some true
  ex : PySem.W.exmOne K (.ref C) (.ref CP) = some true
section
variable {P : Program} {w : World} {K : PySem.W.Frag} {mg : Str → Option Value} {base : Heap} {CP CR CB CS CM fW fF fH fR fCR fCP fA fCS fCM fCN fN fY fM fO fBe fWs fPa : Addr} {dW dF dH dR dCR dCP dA dCS dCM dCN dN dY dM dO dBe dWs dPa : FuncData}
def dueV (kind : Int) : List V := [.bl (decide (kind = 0)), .bl (decide (kind = 1)), .bl (decide (kind = 2)), .bl (decide (kind = 3)), .bl true]
def spTold : Sp := fun vs H Q _ => ∃ kind which more : Int, vs = [.int kind, .int which, .int more] ∧ 0 ≤ kind ∧ kind ≤ 3 ∧ 0 ≤ which ∧ 0 ≤ more ∧ ∀ (l : Addr) (H' : Hp), Same H H' → H' l = some (.lst (dueV kind)) → Q (.ref l) H'
theorem sc_law_told : FnScope ["_law_kind", "_law_which", "_law_more", "error", "_law_found"] ["_law_kind", "_law_which", "_law_more"] (defScope s__law_told) := ⟨rfl, rfl, rfl, by decide +kernel, rfl, by decide +kernel, by decide +kernel⟩
theorem ok_told {f fRA fOA : Addr} {fd dRA dOA : FuncData} (F : Fun K "_law_told" "_law_told" s__law_told f fd) (B : Blt mg) (bV : mg "ValueError" = none) (S' : Asks K mg CP CR CB CS CM fW fF fH fR fCR fCP fA fCS fCM fCN fN fY fM fO fBe fWs fPa dW dF dH dR dCR dCP dA dCS dCM dCN dN dY dM dO dBe dWs dPa)
    (Cra : Callee K mg "_law_road_asked" s__law_road_asked ["_law_which", "_law_more"] fRA dRA) (Coa : Callee K mg "_law_others_asked" s__law_others_asked ["_law_kind", "_law_which", "_law_more"] fOA dOA)
    (Zr : ErrK K CP CR CB CS CM CR true false false false) (Zb : ErrK K CP CR CB CS CM CB false true false false) (Zs : ErrK K CP CR CB CS CM CS false false true false) (Zm : ErrK K CP CR CB CS CM CM false false false true) :
    FnOk P w K mg base CX0 8 f fd ["_law_kind", "_law_which", "_law_more"] spTold := by
  have T := S'.T
  have Gra : FnOk P w K mg base (CXE P w) 7 fRA dRA ["_law_which", "_law_more"] (spRoadAsk CR) := ok_roadAsk Cra.fn B S'
  have Goa : FnOk P w K mg base (CXE P w) 7 fOA dOA ["_law_kind", "_law_which", "_law_more"] (spOthers CB CS CM) := ok_others Coa.fn B S'
  refine F.ok sc_law_told (fun vs H Q E h => ?_) (fun cdv A outer s H vs Q E hr h => ?_)
  · obtain ⟨kind, which, more, rfl, _⟩ := h
    rfl
  · obtain ⟨kind, which, more, rfl, k0, k3, hw, hm, q⟩ := h
    refine ⟨_, (pss_cons (ps_tryAs (i := 3) rfl rfl (by rfl) T.xb.mP sc_law_told.nd rfl rfl
        (fun pn W EE hE => pss_one (ps_if (pt_cmpR op_eq (pv 0) pe_int (nomark _))
          (pss_one (ps_expr (pe_call Gra (hr.mono (by decide)) (by rfl) Cra.m Cra.fn.kp Cra.b .nil hE (pa_cons (pv 1) (pa_cons (pv 2) pa_nil)))))
          (pss_one (ps_expr (pe_call Goa (hr.mono (by decide)) (by rfl) Coa.m Coa.fn.kp Coa.b .nil hE (pa_cons (pv 0) (pa_cons (pv 1) (pa_cons (pv 2) pa_nil))))))))
        (fun pn e => pss_cons (ps_set (i := 4) sc_law_told.nd rfl (Or.inl rfl) (pe_lst (pa_cons (pe_callB (call_isinstXK (K := K) rfl) (by rfl) B.isinstance boot_isinstance (pa_cons (pv 3) (pa_cons (pe_glob (v := V.ref _) (by rfl) T.xr.m rfl) pa_nil))) (pa_cons (pe_callB (call_isinstXK (K := K) rfl) (by rfl) B.isinstance boot_isinstance (pa_cons (pv 3) (pa_cons (pe_glob (v := V.ref _) (by rfl) T.xb.mBP rfl) pa_nil))) (pa_cons (pe_callB (call_isinstXK (K := K) rfl) (by rfl) B.isinstance boot_isinstance (pa_cons (pv 3) (pa_cons (pe_glob (v := V.ref _) (by rfl) T.xs.m rfl) pa_nil))) pa_nil)))))
          (pss_one (ps_ret (pe_op op_cat (pv 4) (pe_lst (pa_cons (pe_callB (call_isinstXK (K := K) rfl) (by rfl) B.isinstance boot_isinstance (pa_cons (pv 3) (pa_cons (pe_glob (v := V.ref _) (by rfl) T.xm.m rfl) pa_nil))) (pa_cons (pe_callB (call_isinstXTK (K := K) rfl) (by rfl) B.isinstance boot_isinstance (pa_cons (pv 3) (pa_cons (pe_bltn (v := .ty "ValueError") (by rfl) bV (by decide +kernel) rfl) pa_nil))) pa_nil))))))))
        pss_never), ?_⟩
    have c : kind = 0 ∨ kind = 1 ∨ kind = 2 ∨ kind = 3 := by (first | lia | omega)
    rcases c with rfl | rfl | rfl | rfl
    · refine ⟨_, rfl, rfl, _, rfl, iteT ⟨_, rfl, _, rfl, which, more, rfl, hw, hm, fun H' sH => ?_⟩⟩
      refine ⟨CR, rfl, Zr.ex, fun σ' ea hl hf => ?_⟩
      obtain ⟨a0, a1, a2, a3, a4, rfl⟩ := five hl
      have s1 : Same H' (upd H' ea (.ext (excAt ea CR))) := same_upd hf
      have e1 := upd_same (H := H') (a := ea) (o := .ext (excAt ea CR))
      generalize upd H' ea (.ext (excAt ea CR)) = H1 at s1 e1
      refine ⟨_, rfl, ea, CR, CR, _, rfl, e1, Zr.lk, Zr.kr, _, rfl, ea, CR, CB, _, rfl, e1, Zr.lk, Zr.kb, _, rfl, ea, CR, CS, _, rfl, e1, Zr.lk, Zr.ks, Nat.le_of_lt (small1000 (show 3 ≤ 1000 by decide)), fun l1 hl1 => ?_⟩
      have s2 : Same H1 (upd H1 l1 (.lst [.bl true, .bl false, .bl false])) := same_upd hl1
      have e2 := upd_same (H := H1) (a := l1) (o := .lst [.bl true, .bl false, .bl false])
      replace e1 := s2 _ _ e1
      generalize upd H1 l1 (.lst [.bl true, .bl false, .bl false]) = H2 at s2 e2 e1
      refine ⟨_, rfl, _, rfl, ea, CR, CM, _, rfl, e1, Zr.lk, Zr.km, _, rfl, ea, CR, "ValueError", _, rfl, e1, Zr.lk, Zr.kv, Nat.le_of_lt (small1000 (show 2 ≤ 1000 by decide)), fun l2 hl2 => ?_⟩
      have s3 : Same H2 (upd H2 l2 (.lst [.bl false, .bl true])) := same_upd hl2
      have e3 := upd_same (H := H2) (a := l2) (o := .lst [.bl false, .bl true])
      generalize upd H2 l2 (.lst [.bl false, .bl true]) = H3 at s3 e3
      refine ⟨l1, l2, _, _, rfl, rfl, s3 _ _ e2, e3, Nat.le_of_lt (small1000 (show 5 ≤ 1000 by decide)), fun l3 hl3 => ?_⟩
      exact q l3 _ (sH.trans (s1.trans (s2.trans (s3.trans (same_upd hl3))))) upd_same
    · refine ⟨_, rfl, rfl, _, rfl, iteF ⟨_, rfl, _, rfl, _, rfl, 1, which, more, rfl, by decide, by decide, hw, hm, fun _ H' sH => ?_, fun z => absurd z (by decide), fun z => absurd z (by decide)⟩⟩
      refine ⟨CB, rfl, Zb.ex, fun σ' ea hl hf => ?_⟩
      obtain ⟨a0, a1, a2, a3, a4, rfl⟩ := five hl
      have s1 : Same H' (upd H' ea (.ext (excAt ea CB))) := same_upd hf
      have e1 := upd_same (H := H') (a := ea) (o := .ext (excAt ea CB))
      generalize upd H' ea (.ext (excAt ea CB)) = H1 at s1 e1
      refine ⟨_, rfl, ea, CB, CR, _, rfl, e1, Zb.lk, Zb.kr, _, rfl, ea, CB, CB, _, rfl, e1, Zb.lk, Zb.kb, _, rfl, ea, CB, CS, _, rfl, e1, Zb.lk, Zb.ks, Nat.le_of_lt (small1000 (show 3 ≤ 1000 by decide)), fun l1 hl1 => ?_⟩
      have s2 : Same H1 (upd H1 l1 (.lst [.bl false, .bl true, .bl false])) := same_upd hl1
      have e2 := upd_same (H := H1) (a := l1) (o := .lst [.bl false, .bl true, .bl false])
      replace e1 := s2 _ _ e1
      generalize upd H1 l1 (.lst [.bl false, .bl true, .bl false]) = H2 at s2 e2 e1
      refine ⟨_, rfl, _, rfl, ea, CB, CM, _, rfl, e1, Zb.lk, Zb.km, _, rfl, ea, CB, "ValueError", _, rfl, e1, Zb.lk, Zb.kv, Nat.le_of_lt (small1000 (show 2 ≤ 1000 by decide)), fun l2 hl2 => ?_⟩
      have s3 : Same H2 (upd H2 l2 (.lst [.bl false, .bl true])) := same_upd hl2
      have e3 := upd_same (H := H2) (a := l2) (o := .lst [.bl false, .bl true])
      generalize upd H2 l2 (.lst [.bl false, .bl true]) = H3 at s3 e3
      refine ⟨l1, l2, _, _, rfl, rfl, s3 _ _ e2, e3, Nat.le_of_lt (small1000 (show 5 ≤ 1000 by decide)), fun l3 hl3 => ?_⟩
      exact q l3 _ (sH.trans (s1.trans (s2.trans (s3.trans (same_upd hl3))))) upd_same
    · refine ⟨_, rfl, rfl, _, rfl, iteF ⟨_, rfl, _, rfl, _, rfl, 2, which, more, rfl, by decide, by decide, hw, hm, fun z => absurd z (by decide), fun _ H' sH => ?_, fun z => absurd z (by decide)⟩⟩
      refine ⟨CS, rfl, Zs.ex, fun σ' ea hl hf => ?_⟩
      obtain ⟨a0, a1, a2, a3, a4, rfl⟩ := five hl
      have s1 : Same H' (upd H' ea (.ext (excAt ea CS))) := same_upd hf
      have e1 := upd_same (H := H') (a := ea) (o := .ext (excAt ea CS))
      generalize upd H' ea (.ext (excAt ea CS)) = H1 at s1 e1
      refine ⟨_, rfl, ea, CS, CR, _, rfl, e1, Zs.lk, Zs.kr, _, rfl, ea, CS, CB, _, rfl, e1, Zs.lk, Zs.kb, _, rfl, ea, CS, CS, _, rfl, e1, Zs.lk, Zs.ks, Nat.le_of_lt (small1000 (show 3 ≤ 1000 by decide)), fun l1 hl1 => ?_⟩
      have s2 : Same H1 (upd H1 l1 (.lst [.bl false, .bl false, .bl true])) := same_upd hl1
      have e2 := upd_same (H := H1) (a := l1) (o := .lst [.bl false, .bl false, .bl true])
      replace e1 := s2 _ _ e1
      generalize upd H1 l1 (.lst [.bl false, .bl false, .bl true]) = H2 at s2 e2 e1
      refine ⟨_, rfl, _, rfl, ea, CS, CM, _, rfl, e1, Zs.lk, Zs.km, _, rfl, ea, CS, "ValueError", _, rfl, e1, Zs.lk, Zs.kv, Nat.le_of_lt (small1000 (show 2 ≤ 1000 by decide)), fun l2 hl2 => ?_⟩
      have s3 : Same H2 (upd H2 l2 (.lst [.bl false, .bl true])) := same_upd hl2
      have e3 := upd_same (H := H2) (a := l2) (o := .lst [.bl false, .bl true])
      generalize upd H2 l2 (.lst [.bl false, .bl true]) = H3 at s3 e3
      refine ⟨l1, l2, _, _, rfl, rfl, s3 _ _ e2, e3, Nat.le_of_lt (small1000 (show 5 ≤ 1000 by decide)), fun l3 hl3 => ?_⟩
      exact q l3 _ (sH.trans (s1.trans (s2.trans (s3.trans (same_upd hl3))))) upd_same
    · refine ⟨_, rfl, rfl, _, rfl, iteF ⟨_, rfl, _, rfl, _, rfl, 3, which, more, rfl, by decide, by decide, hw, hm, fun z => absurd z (by decide), fun z => absurd z (by decide), fun _ H' sH => ?_⟩⟩
      refine ⟨CM, rfl, Zm.ex, fun σ' ea hl hf => ?_⟩
      obtain ⟨a0, a1, a2, a3, a4, rfl⟩ := five hl
      have s1 : Same H' (upd H' ea (.ext (excAt ea CM))) := same_upd hf
      have e1 := upd_same (H := H') (a := ea) (o := .ext (excAt ea CM))
      generalize upd H' ea (.ext (excAt ea CM)) = H1 at s1 e1
      refine ⟨_, rfl, ea, CM, CR, _, rfl, e1, Zm.lk, Zm.kr, _, rfl, ea, CM, CB, _, rfl, e1, Zm.lk, Zm.kb, _, rfl, ea, CM, CS, _, rfl, e1, Zm.lk, Zm.ks, Nat.le_of_lt (small1000 (show 3 ≤ 1000 by decide)), fun l1 hl1 => ?_⟩
      have s2 : Same H1 (upd H1 l1 (.lst [.bl false, .bl false, .bl false])) := same_upd hl1
      have e2 := upd_same (H := H1) (a := l1) (o := .lst [.bl false, .bl false, .bl false])
      replace e1 := s2 _ _ e1
      generalize upd H1 l1 (.lst [.bl false, .bl false, .bl false]) = H2 at s2 e2 e1
      refine ⟨_, rfl, _, rfl, ea, CM, CM, _, rfl, e1, Zm.lk, Zm.km, _, rfl, ea, CM, "ValueError", _, rfl, e1, Zm.lk, Zm.kv, Nat.le_of_lt (small1000 (show 2 ≤ 1000 by decide)), fun l2 hl2 => ?_⟩
      have s3 : Same H2 (upd H2 l2 (.lst [.bl true, .bl true])) := same_upd hl2
      have e3 := upd_same (H := H2) (a := l2) (o := .lst [.bl true, .bl true])
      generalize upd H2 l2 (.lst [.bl true, .bl true]) = H3 at s3 e3
      refine ⟨l1, l2, _, _, rfl, rfl, s3 _ _ e2, e3, Nat.le_of_lt (small1000 (show 5 ≤ 1000 by decide)), fun l3 hl3 => ?_⟩
      exact q l3 _ (sH.trans (s1.trans (s2.trans (s3.trans (same_upd hl3))))) upd_same
end
end Ph
set_option Elab.async false
set_option linter.all false
set_option maxRecDepth 100000
set_option maxHeartbeats 16000000
namespace Ph
open PySem PySem.Spec PyProof.Rows L2
theorem dec_V (a b : Int) : decide (V.int a = V.int b) = decide (a = b) := by
  by_cases h : a = b
  · rw [decide_eq_true h, decide_eq_true (congrArg V.int h)]
  · rw [decide_eq_false h, decide_eq_false fun z => h (by injection z)]
theorem due_eq (k : Int) : [V.bl (decide (V.int k = V.int 0)), V.bl (decide (V.int k = V.int 1)), V.bl (decide (V.int k = V.int 2)), V.bl (decide (V.int k = V.int 3)), V.bl true] = dueV k := by
  unfold dueV
  rw [dec_V, dec_V, dec_V, dec_V]
theorem flat_due (k : Int) : ∀ v ∈ dueV k, flat v = true := fun v h => by
  unfold dueV at h
  simp at h
  rcases h with rfl | rfl | rfl | rfl | rfl <;> rfl
def great : List (Int × Int) := [(-(10 ^ 40), 10 ^ 40), (10 ^ 40, 1)]
theorem good_great : Good great := by
  refine ⟨?_, ?_, by decide, ?_⟩
  · intro j hj
    have : j = 0 := by simp [great] at hj; (first | lia | omega)
    subst this
    decide
  · intro pl h
    simp [great] at h
    rcases h with rfl | rfl <;> decide
  · intro pl h
    simp [great] at h
    rcases h with rfl | rfl <;> exact ⟨by decide, by decide⟩
theorem great_way : wayOf great [0] = 2 * 10 ^ 40 := by decide +kernel
theorem posts_great : PostsOk great.length [0] := ⟨fun j h => by simp at h, fun q h => by simp at h; (first | lia | omega), fun q h => by simp at h; subst h; decide, fun _ => by decide⟩
theorem great_posts : bestPosts great 1 = [0, 1] := by
  have O := (best_way good_great (k := 1) (by decide)).1
  have hl : (bestPosts great 1).length = 2 := cps_len _ _ _
  have O' : PostsOk great.length (bestPosts great 1) := O
  generalize bestPosts great 1 = ps at O' hl
  match ps, hl with
  | [a, b], _ =>
    have h1 := O'.lo a (by simp)
    have h2 := O'.hi b (by simp)
    have h3 : a < b := O'.rise 0 (by show 1 < 2; decide)
    have h4 : b < 2 := h2
    have e1 : a = 0 := by (first | lia | omega)
    have e2 : b = 1 := by (first | lia | omega)
    rw [e1, e2]
theorem good_nought : Good [(0, 0)] := by
  refine ⟨?_, ?_, by decide, ?_⟩
  · intro j hj
    simp at hj
  · intro pl h
    simp at h
    subst h
    decide
  · intro pl h
    simp at h
    subst h
    exact ⟨by decide, by decide⟩
theorem nought_ways : leasts [(0, 0)] (min 5 [((0 : Int), (0 : Int))].length) = [0] := by
  have : fF [(0, 0)] 1 1 = 0 := wW_last good_nought (b := 1) (by decide) (by decide)
  show [fF [(0, 0)] 1 1] = [0]
  rw [this]
section
variable {P : Program} {w : World} {K : PySem.W.Frag} {mg : Str → Option Value} {base : Heap}
def spLaw (K : PySem.W.Frag) : Sp := fun vs H Q _ => ∃ (a : Addr) (ns : List Int), vs = [.ref a] ∧ SqL K H a (ns.map V.int) ∧ ns.length ≤ 63 ∧ ∀ H', Q (.bl true) H'
theorem sc_law : FnScope ["_law_script", "_law_cell", "_law_kind", "_law_due", "_law_great"] ["_law_script"] (defScope s_law) := ⟨rfl, rfl, rfl, by decide +kernel, rfl, by decide +kernel, by decide +kernel⟩
theorem ok_law {CA f fT fY fB fS : Addr} {fd dT dY dB dS : FuncData} (F : Fun K "law" "law" sLaw f fd) (B : Blt mg) (an : AnsC K CA)
    (G_law_told : FnOk P w K mg base CX0 8 fT dT ["_law_kind", "_law_which", "_law_more"] spTold) (C_law_told : Callee K mg "_law_told" s__law_told ["_law_kind", "_law_which", "_law_more"] fT dT)
    (Gway : FnOk P w K mg base CX0 6 fY dY ["road", "posts"] spWay) (Cway : Callee K mg "way" sWay ["road", "posts"] fY dY)
    (Gbest : FnOk P w K mg base CX0 7 fB dB ["road", "many"] (spBest CA)) (Cbest : Callee K mg "best" s_best ["road", "many"] fB dB)
    (Gways : FnOk P w K mg base CX0 5 fS dS ["road", "most"] spWays) (Cways : Callee K mg "ways" s_ways ["road", "most"] fS dS) : FnOk P w K mg base CX0 9 f fd ["_law_script"] (spLaw K) := by
  refine F.ok sc_law (fun vs H Q E h => ?_) (fun cdv A outer s H vs Q E hr h => ?_)
  · obtain ⟨a, ns, rfl, _⟩ := h
    rfl
  · obtain ⟨a, ns, rfl, hS, hn, q⟩ := h
    refine ⟨_, (pss_cons (ps_for PassesOwn.never rfl (pi_list (pv 0)) (pg_name (i := 1) sc_law.nd rfl (Or.inl rfl))
        (pss_cons (ps_set (i := 2) sc_law.nd rfl (Or.inl rfl) (pe_op op_mod (pv 1) pe_int))
        (pss_cons (ps_set (i := 3) sc_law.nd rfl (Or.inl rfl) (pe_lst (pa_cons (pe_cmpR op_eq (pv 2) pe_int (nomark _)) (pa_cons (pe_cmpR op_eq (pv 2) pe_int (nomark _)) (pa_cons (pe_cmpR op_eq (pv 2) pe_int (nomark _)) (pa_cons (pe_cmpR op_eq (pv 2) pe_int (nomark _)) (pa_cons pe_bl pa_nil)))))))
        (pss_one (ps_if (pt_cmpR (op_neL hr.units) (pe_call G_law_told (hr.mono (by decide)) (by rfl) C_law_told.m C_law_told.fn.kp C_law_told.b .nil pass0 (pa_cons (pv 2) (pa_cons (pe_op op_mod (pe_op op_fdiv (pv 1) pe_int) pe_int) (pa_cons (pe_op op_mod (pe_op op_fdiv (pv 1) pe_int) pe_int) pa_nil)))) (pv 3) (nomark _))
        (pss_one (ps_ret pe_bl))
        pss_nil)))))
        (pss_cons (ps_set (i := 4) sc_law.nd rfl (Or.inl rfl) (pe_lst (pa_cons (pe_tup (pa_cons (pe_un un_neg (pe_op op_pow pe_int pe_int)) (pa_cons (pe_op op_pow pe_int pe_int) pa_nil))) (pa_cons (pe_tup (pa_cons (pe_op op_pow pe_int pe_int) (pa_cons pe_int pa_nil))) pa_nil))))
        (pss_one (ps_ret (pe_and (pe_cmpR op_eq (pe_call Gway (hr.mono (by decide)) (by rfl) Cway.m Cway.fn.kp Cway.b .nil pass0 (pa_cons (pv 4) (pa_cons (pe_lst (pa_cons pe_int pa_nil)) pa_nil))) (pe_op op_mulB pe_int (pe_op op_pow pe_int pe_int)) (nomark _)) (pe_and (pe_cmpR (op_eqL hr.units) (pe_fld (pe_call Gbest (hr.mono (by decide)) (by rfl) Cbest.m Cbest.fn.kp Cbest.b .nil pass0 (pa_cons (pv 4) (pa_cons pe_int pa_nil))) rfl) (pe_lst (pa_cons pe_int (pa_cons pe_int pa_nil))) (nomark _)) (pe_one (pe_cmpR (op_eqL hr.units) (pe_call Gways (hr.mono (by decide)) (by rfl) Cways.m Cways.fn.kp Cways.b .nil pass0 (pa_cons (pe_lst (pa_cons (pe_tup (pa_cons pe_int (pa_cons pe_int pa_nil))) pa_nil)) (pa_cons pe_int pa_nil))) (pe_lst (pa_cons pe_int pa_nil)) (nomark _))))))))), ?_⟩
    refine ⟨_, rfl, a, rfl, ⟨_, hS⟩, for_by (n := ns.length) (fun i σ H' => ∃ v1 v2 v3 v4 : Option V, σ = [some (.ref a), v1, v2, v3, v4] ∧ Same H H' ∧ i ≤ ns.length) ?_ ?_ ?_⟩
    · exact ⟨none, none, none, none, rfl, Same.refl _, Nat.zero_le _⟩
    · rintro i σ H1 hi ⟨v1, v2, v3, v4, rfl, s1, _⟩
      have e1 : (ns.map V.int)[i]? = some (V.int (ns.getD i 0)) := by rw [List.getElem?_map, getD_some hi]; rfl
      refine ⟨⟨_, _, s1.seq hS, e1⟩, fun x H2 y => ?_⟩
      obtain ⟨rfl, y⟩ := y
      have hx := y _ (s1.seq hS)
      rw [e1] at hx
      have hx' := Option.some.inj hx
      subst hx'
      generalize ns.getD i 0 = c
      have k0 := Int.emod_nonneg c (show (4 : Int) ≠ 0 by decide)
      have k1 := Int.emod_lt_of_pos c (show (0 : Int) < 4 by decide)
      refine nameT ⟨_, rfl, _, _, rfl, rfl, by show (0 : Int) < 4; decide, ?_⟩
      refine ⟨_, rfl, rfl, _, rfl, rfl, _, rfl, rfl, _, rfl, rfl, Nat.le_of_lt (small1000 (show 5 ≤ 1000 by decide)), fun l hl => ?_⟩
      have s2 : Same H2 (upd H2 l (.lst [.bl (decide (V.int (c % 4) = V.int 0)), .bl (decide (V.int (c % 4) = V.int 1)), .bl (decide (V.int (c % 4) = V.int 2)), .bl (decide (V.int (c % 4) = V.int 3)), .bl true])) := same_upd hl
      have e2 := upd_same (H := H2) (a := l) (o := .lst [.bl (decide (V.int (c % 4) = V.int 0)), .bl (decide (V.int (c % 4) = V.int 1)), .bl (decide (V.int (c % 4) = V.int 2)), .bl (decide (V.int (c % 4) = V.int 3)), .bl true])
      generalize upd H2 l (.lst [.bl (decide (V.int (c % 4) = V.int 0)), .bl (decide (V.int (c % 4) = V.int 1)), .bl (decide (V.int (c % 4) = V.int 2)), .bl (decide (V.int (c % 4) = V.int 3)), .bl true]) = H3 at s2 e2
      rw [due_eq] at e2
      refine ⟨_, rfl, _, rfl, _, _, rfl, rfl, ⟨by decide, by decide⟩, _, _, rfl, rfl, by show (0 : Int) < 100000; decide, _, rfl, _, _, rfl, rfl, ⟨by decide, by decide⟩, _, _, rfl, rfl, by show (0 : Int) < 1000; decide, c % 4, c / 4 % 100000, c / 400000 % 1000, rfl, k0, by (first | lia | omega), Int.emod_nonneg _ (by decide), Int.emod_nonneg _ (by decide), fun l2 H4 s4 e4 => ?_⟩
      refine ⟨_, rfl, sameRefs (flat_due _) e4 (s4 _ _ e2) ⟨_, rfl, iteF ?_⟩⟩
      exact ⟨_, _, _, _, rfl, s1.trans (s2.trans s4), hi⟩
    · rintro σ H1 ⟨v1, v2, v3, v4, rfl, s1, _⟩
      refine ⟨⟨_, s1.seq hS, by rw [List.length_map]; exact Nat.le_refl _⟩, ?_⟩
      refine ⟨_, _, rfl, rfl, ⟨by decide, by decide, by decide⟩, _, rfl, _, _, rfl, rfl, ⟨by decide, by decide, by decide⟩, by show 2 ≤ sizeLine; decide, fun u0 hu0 => ?_⟩
      have s2 : Same H1 (upd H1 u0 (.tup [.int (-(10 ^ (Int.toNat 40))), .int (10 ^ (Int.toNat 40))])) := same_upd hu0
      have e2 := upd_same (H := H1) (a := u0) (o := .tup [.int (-(10 ^ (Int.toNat 40))), .int (10 ^ (Int.toNat 40))])
      generalize upd H1 u0 (.tup [.int (-(10 ^ (Int.toNat 40))), .int (10 ^ (Int.toNat 40))]) = H2 at s2 e2
      refine ⟨_, _, rfl, rfl, ⟨by decide, by decide, by decide⟩, by show 2 ≤ sizeLine; decide, fun u1 hu1 => ?_⟩
      have s3 : Same H2 (upd H2 u1 (.tup [.int (10 ^ (Int.toNat 40)), .int 1])) := same_upd hu1
      have e3 := upd_same (H := H2) (a := u1) (o := .tup [.int (10 ^ (Int.toNat 40)), .int 1])
      generalize upd H2 u1 (.tup [.int (10 ^ (Int.toNat 40)), .int 1]) = H3 at s3 e3
      refine ⟨Nat.le_of_lt (small1000 (show 2 ≤ 1000 by decide)), fun g hg => ?_⟩
      have s4 : Same H3 (upd H3 g (.lst [.ref u0, .ref u1])) := same_upd hg
      have e4 := upd_same (H := H3) (a := g) (o := .lst [.ref u0, .ref u1])
      generalize upd H3 g (.lst [.ref u0, .ref u1]) = H4 at s4 e4
      have R : RoadAt H4 g great := ⟨[u0, u1], e4, .cons (s4 _ _ (s3 _ _ e2)) (.cons (s4 _ _ e3) .nil)⟩
      clear e2 e3 e4
      refine ⟨_, rfl, Nat.le_of_lt (small1000 (show 1 ≤ 1000 by decide)), fun l1 hl1 => ?_⟩
      have s5 : Same H4 (upd H4 l1 (.lst [.int 0])) := same_upd hl1
      have e5 : IntsAt (upd H4 l1 (.lst [.int 0])) l1 [0] := upd_same
      generalize upd H4 l1 (.lst [.int 0]) = H5 at s5 e5
      refine ⟨g, l1, great, [0], rfl, R.same s5, good_great, e5, posts_great, fun H6 s6 => ?_⟩
      refine ⟨_, _, rfl, rfl, ⟨by decide, by decide, by decide⟩, _, _, rfl, rfl, ⟨pow_big (by decide), pow_big (by decide)⟩, rfl, true, congrArg V.bl (decide_eq_true (congrArg V.int great_way)), iteT ?_⟩
      have R6 := R.same (s5.trans s6)
      refine ⟨_, rfl, g, great, 1, rfl, R6, good_great, by decide, fun x p b H7 s7 _ _ _ hA => ?_⟩
      obtain ⟨⟨dx, hx⟩, hps, _, _⟩ := hA
      rw [great_posts] at hps
      refine ⟨x, CA, dx, _, _, rfl, hx, an.cl, an.nP, fldsB_p _ _ _, Nat.le_of_lt (small1000 (show 2 ≤ 1000 by decide)), fun l2 hl2 => ?_⟩
      have s8 : Same H7 (upd H7 l2 (.lst [.int 0, .int 1])) := same_upd hl2
      have e8 : IntsAt (upd H7 l2 (.lst [.int 0, .int 1])) l2 [0, 1] := upd_same
      generalize upd H7 l2 (.lst [.int 0, .int 1]) = H8 at s8 e8
      refine sameInts (s8 _ _ hps) e8 ⟨_, rfl, iteT ?_⟩
      refine ⟨by show 2 ≤ sizeLine; decide, fun u2 hu2 => ?_⟩
      have s9 : Same H8 (upd H8 u2 (.tup [.int 0, .int 0])) := same_upd hu2
      have e9 := upd_same (H := H8) (a := u2) (o := .tup [.int 0, .int 0])
      generalize upd H8 u2 (.tup [.int 0, .int 0]) = H9 at s9 e9
      refine ⟨Nat.le_of_lt (small1000 (show 1 ≤ 1000 by decide)), fun l3 hl3 => ?_⟩
      have sA : Same H9 (upd H9 l3 (.lst [.ref u2])) := same_upd hl3
      have eA := upd_same (H := H9) (a := l3) (o := .lst [.ref u2])
      generalize upd H9 l3 (.lst [.ref u2]) = HA at sA eA
      refine ⟨l3, [(0, 0)], 5, rfl, ⟨[u2], eA, .cons (sA _ _ e9) .nil⟩, good_nought, fun l4 HB sB _ eB => ?_⟩
      rw [nought_ways] at eB
      refine ⟨Nat.le_of_lt (small1000 (show 1 ≤ 1000 by decide)), fun l5 hl5 => ?_⟩
      have sC : Same HB (upd HB l5 (.lst [.int 0])) := same_upd hl5
      have eC : IntsAt (upd HB l5 (.lst [.int 0])) l5 [0] := upd_same
      generalize upd HB l5 (.lst [.int 0]) = HC at sC eC
      exact sameInts (sC _ _ eB) eC (q _)
end
end Ph
set_option Elab.async false
set_option linter.all false
set_option maxRecDepth 100000
set_option maxHeartbeats 8000000
def PySem.W.Fast.tw2867322420686213301 : Unit := ()
def PySem.W.Fast.tw2740684880610938532 : Unit := ()
def PySem.W.Fast.tw4615331333342478189 : Unit := ()
def PySem.W.Fast.tw2988551664889659949 : Unit := ()
def PySem.W.Fast.tw970761322167497450 : Unit := ()
def PySem.W.Fast.tw6392042665862188033 : Unit := ()
def PySem.W.Fast.tw7584394258732061382 : Unit := ()
def PySem.W.Fast.tw5998280436821299858 : Unit := ()
def PySem.W.Fast.tw13944515165299438186 : Unit := ()
def PySem.W.Fast.tw14445739953461657199 : Unit := ()
def PySem.W.Fast.tw4453077657154722601 : Unit := ()
def PySem.W.Fast.tw5330302710218614708 : Unit := ()
def PySem.W.Fast.tw5939577641865594030 : Unit := ()
def PySem.W.Fast.tw10178121977119390201 : Unit := ()
def PySem.W.Fast.tw4558457618587021448 : Unit := ()
def PySem.W.Fast.tw7952259521582938044 : Unit := ()
def PySem.W.Fast.tw11076495971940617391 : Unit := ()
def PySem.W.Fast.tw898009485315919854 : Unit := ()
def PySem.W.Fast.tw15032077356916273974 : Unit := ()
def PySem.W.Fast.tw12435980810136520297 : Unit := ()
def PySem.W.Fast.tw17511872294958619091 : Unit := ()
def PySem.W.Fast.tw17127223395771711373 : Unit := ()
def PySem.W.Fast.tw10773612795826139765 : Unit := ()
def PySem.W.Fast.tw12517099476085181119 : Unit := ()
def PySem.W.Fast.tw16154832575657461729 : Unit := ()
def PySem.W.Fast.tw8683263355429754462 : Unit := ()
def PySem.W.Fast.tw13834652176382008725 : Unit := ()
def PySem.W.Fast.tw3537590100370768089 : Unit := ()
def PySem.W.Fast.tw513289467874607247 : Unit := ()
def PySem.W.Fast.tw1978829408008273717 : Unit := ()
def PySem.W.Fast.tw10168426044901274860 : Unit := ()
def PySem.W.Fast.tw2304473975289523416 : Unit := ()
def PySem.W.Fast.tw13717070836454605083 : Unit := ()
def PySem.W.Fast.tw14738900666400988357 : Unit := ()
def PySem.W.Fast.tw17515714964456492513 : Unit := ()
def PySem.W.Fast.tw12172201041025763494 : Unit := ()
def PySem.W.Fast.tw16977582492292703415 : Unit := ()
def PySem.W.Fast.tw16344438375852016786 : Unit := ()
def PySem.W.Fast.tw8171690604460000403 : Unit := ()
def PySem.W.Fast.tw9207938568594944360 : Unit := ()
def PySem.W.Fast.tw14564587993337995714 : Unit := ()
def PySem.W.Fast.tw10734045451424022570 : Unit := ()
def PySem.W.Fast.tw12223484086510635700 : Unit := ()
def PySem.W.Fast.tw5106457610371778472 : Unit := ()
def PySem.W.Fast.tw12982263850040178775 : Unit := ()
def PySem.W.Fast.tw18153153818028432034 : Unit := ()
def PySem.W.Fast.tw13917552869809321658 : Unit := ()
def PySem.W.Fast.tw14456529452973749104 : Unit := ()
def PySem.W.Fast.tw5000173872036436282 : Unit := ()
def PySem.W.Fast.tw2589567478677276988 : Unit := ()
def PySem.W.Fast.tw15717511196327544370 : Unit := ()
def PySem.W.Fast.tw9603159168532030381 : Unit := ()
namespace Ph
open PySem PySem.Spec PyProof.Rows L2
theorem kit_ty {K : PySem.W.Frag} {C : Addr} {T : String} {b : Bool} (h : PySem.W.mroIn K C (.type T) = some b) (hm : PySem.W.kitMeta T = true) : PySem.W.kitOne K (.ref C) (.type T) = some b := by
  unfold PySem.W.kitOne
  rw [if_neg (by intro z; cases z)]
  unfold PySem.W.kitCls
  dsimp only
  rw [if_pos hm]
  exact h
theorem all_mk {l : PySem.W.OpenLaw} {w : World} {K : PySem.W.Frag} {h : Heap} {mg : Str → Option Value} {fa : Addr} (X : K.In h) (G : h.Ns mainGlobals mg) (hfa : mg "law" = some (.ref fa))
    {f0 : Addr} {od0 an0 : Option Addr} {sl0 : Array (Option Value)} {oc0 kV0 dc0 pm0 cd0 ct0 : Value}
    {f1 : Addr} {od1 an1 : Option Addr} {sl1 : Array (Option Value)} {oc1 kV1 dc1 pm1 cd1 ct1 : Value}
    {f2 : Addr} {od2 an2 : Option Addr} {sl2 : Array (Option Value)} {oc2 kV2 dc2 pm2 cd2 ct2 : Value}
    {f3 : Addr} {od3 an3 : Option Addr} {sl3 : Array (Option Value)} {oc3 kV3 dc3 pm3 cd3 ct3 : Value}
    {f4 : Addr} {od4 an4 : Option Addr} {sl4 : Array (Option Value)} {oc4 kV4 dc4 pm4 cd4 ct4 : Value}
    {f5 : Addr} {od5 an5 : Option Addr} {sl5 : Array (Option Value)} {oc5 kV5 dc5 pm5 cd5 ct5 : Value}
    {f6 : Addr} {od6 an6 : Option Addr} {sl6 : Array (Option Value)} {oc6 kV6 dc6 pm6 cd6 ct6 : Value}
    {f7 : Addr} {od7 an7 : Option Addr} {sl7 : Array (Option Value)} {oc7 kV7 dc7 pm7 cd7 ct7 : Value}
    {f8 : Addr} {od8 an8 : Option Addr} {sl8 : Array (Option Value)} {oc8 kV8 dc8 pm8 cd8 ct8 : Value}
    {f9 : Addr} {od9 an9 : Option Addr} {sl9 : Array (Option Value)} {oc9 kV9 dc9 pm9 cd9 ct9 : Value}
    {f10 : Addr} {od10 an10 : Option Addr} {sl10 : Array (Option Value)} {oc10 kV10 dc10 pm10 cd10 ct10 : Value}
    {f11 : Addr} {od11 an11 : Option Addr} {sl11 : Array (Option Value)} {oc11 kV11 dc11 pm11 cd11 ct11 : Value}
    {f12 : Addr} {od12 an12 : Option Addr} {sl12 : Array (Option Value)} {oc12 kV12 dc12 pm12 cd12 ct12 : Value}
    {f13 : Addr} {od13 an13 : Option Addr} {sl13 : Array (Option Value)} {oc13 kV13 dc13 pm13 cd13 ct13 : Value}
    {f14 : Addr} {od14 an14 : Option Addr} {sl14 : Array (Option Value)} {oc14 kV14 dc14 pm14 cd14 ct14 : Value}
    {f15 : Addr} {od15 an15 : Option Addr} {sl15 : Array (Option Value)} {oc15 kV15 dc15 pm15 cd15 ct15 : Value}
    {f16 : Addr} {od16 an16 : Option Addr} {sl16 : Array (Option Value)} {oc16 kV16 dc16 pm16 cd16 ct16 : Value}
    {f17 : Addr} {od17 an17 : Option Addr} {sl17 : Array (Option Value)} {oc17 kV17 dc17 pm17 cd17 ct17 : Value}
    {f18 : Addr} {od18 an18 : Option Addr} {sl18 : Array (Option Value)} {oc18 kV18 dc18 pm18 cd18 ct18 : Value}
    {f19 : Addr} {od19 an19 : Option Addr} {sl19 : Array (Option Value)} {oc19 kV19 dc19 pm19 cd19 ct19 : Value}
    {f20 : Addr} {od20 an20 : Option Addr} {sl20 : Array (Option Value)} {oc20 kV20 dc20 pm20 cd20 ct20 : Value}
    {f21 : Addr} {od21 an21 : Option Addr} {sl21 : Array (Option Value)} {oc21 kV21 dc21 pm21 cd21 ct21 : Value}
    {f22 : Addr} {od22 an22 : Option Addr} {sl22 : Array (Option Value)} {oc22 kV22 dc22 pm22 cd22 ct22 : Value}
    {f23 : Addr} {od23 an23 : Option Addr} {sl23 : Array (Option Value)} {oc23 kV23 dc23 pm23 cd23 ct23 : Value}
    {f24 : Addr} {od24 an24 : Option Addr} {sl24 : Array (Option Value)} {oc24 kV24 dc24 pm24 cd24 ct24 : Value}
    {f25 : Addr} {od25 an25 : Option Addr} {sl25 : Array (Option Value)} {oc25 kV25 dc25 pm25 cd25 ct25 : Value}
    {f26 : Addr} {od26 an26 : Option Addr} {sl26 : Array (Option Value)} {oc26 kV26 dc26 pm26 cd26 ct26 : Value}
    {f27 : Addr} {od27 an27 : Option Addr} {sl27 : Array (Option Value)} {oc27 kV27 dc27 pm27 cd27 ct27 : Value}
    {f28 : Addr} {od28 an28 : Option Addr} {sl28 : Array (Option Value)} {oc28 kV28 dc28 pm28 cd28 ct28 : Value}
    {f29 : Addr} {od29 an29 : Option Addr} {sl29 : Array (Option Value)} {oc29 kV29 dc29 pm29 cd29 ct29 : Value}
    {f30 : Addr} {od30 an30 : Option Addr} {sl30 : Array (Option Value)} {oc30 kV30 dc30 pm30 cd30 ct30 : Value}
    {CA CB CE ER EP ES EM : Addr} {fAI : Addr} {odAI anAI : Option Addr} {slAI : Array (Option Value)} {ocAI kVAI dcAI pmAI cdAI ctAI : Value} {fBI : Addr} {odBI anBI : Option Addr} {slBI : Array (Option Value)} {ocBI kVBI dcBI pmBI cdBI ctBI : Value}
    (a0 : PySem.W.nsIn K mainGlobals "is_whole" = some (some (.ref f0))) (l0 : K.lookup f0 = some ⟨oc0, od0, .func (PySem.W.fnOf "is_whole" "is_whole" (defArgs sWhole) (defBody sWhole) (defScope sWhole) .none kV0 dc0 pm0 an0 cd0 ct0), sl0⟩) (c0 : PySem.W.codeIn K cd0 "is_whole" = true) (k0 : PySem.W.keepIn K (.ref f0) = true)
    (a1 : PySem.W.nsIn K mainGlobals "is_whole_from" = some (some (.ref f1))) (l1 : K.lookup f1 = some ⟨oc1, od1, .func (PySem.W.fnOf "is_whole_from" "is_whole_from" (defArgs sFrom) (defBody sFrom) (defScope sFrom) .none kV1 dc1 pm1 an1 cd1 ct1), sl1⟩) (c1 : PySem.W.codeIn K cd1 "is_whole_from" = true) (k1 : PySem.W.keepIn K (.ref f1) = true)
    (a2 : PySem.W.nsIn K mainGlobals "is_house" = some (some (.ref f2))) (l2 : K.lookup f2 = some ⟨oc2, od2, .func (PySem.W.fnOf "is_house" "is_house" (defArgs sHouse) (defBody sHouse) (defScope sHouse) .none kV2 dc2 pm2 an2 cd2 ct2), sl2⟩) (c2 : PySem.W.codeIn K cd2 "is_house" = true) (k2 : PySem.W.keepIn K (.ref f2) = true)
    (a3 : PySem.W.nsIn K mainGlobals "is_rising" = some (some (.ref f3))) (l3 : K.lookup f3 = some ⟨oc3, od3, .func (PySem.W.fnOf "is_rising" "is_rising" (defArgs sRising) (defBody sRising) (defScope sRising) .none kV3 dc3 pm3 an3 cd3 ct3), sl3⟩) (c3 : PySem.W.codeIn K cd3 "is_rising" = true) (k3 : PySem.W.keepIn K (.ref f3) = true)
    (a4 : PySem.W.nsIn K mainGlobals "check_road" = some (some (.ref f4))) (l4 : K.lookup f4 = some ⟨oc4, od4, .func (PySem.W.fnOf "check_road" "check_road" (defArgs sCheckRoad) (defBody sCheckRoad) (defScope sCheckRoad) .none kV4 dc4 pm4 an4 cd4 ct4), sl4⟩) (c4 : PySem.W.codeIn K cd4 "check_road" = true) (k4 : PySem.W.keepIn K (.ref f4) = true)
    (a5 : PySem.W.nsIn K mainGlobals "check_posts" = some (some (.ref f5))) (l5 : K.lookup f5 = some ⟨oc5, od5, .func (PySem.W.fnOf "check_posts" "check_posts" (defArgs sCheckPosts) (defBody sCheckPosts) (defScope sCheckPosts) .none kV5 dc5 pm5 an5 cd5 ct5), sl5⟩) (c5 : PySem.W.codeIn K cd5 "check_posts" = true) (k5 : PySem.W.keepIn K (.ref f5) = true)
    (a6 : PySem.W.nsIn K mainGlobals "check_stretch" = some (some (.ref f6))) (l6 : K.lookup f6 = some ⟨oc6, od6, .func (PySem.W.fnOf "check_stretch" "check_stretch" (defArgs s_check_stretch) (defBody s_check_stretch) (defScope s_check_stretch) .none kV6 dc6 pm6 an6 cd6 ct6), sl6⟩) (c6 : PySem.W.codeIn K cd6 "check_stretch" = true) (k6 : PySem.W.keepIn K (.ref f6) = true)
    (a7 : PySem.W.nsIn K mainGlobals "apart" = some (some (.ref f7))) (l7 : K.lookup f7 = some ⟨oc7, od7, .func (PySem.W.fnOf "apart" "apart" (defArgs sApart) (defBody sApart) (defScope sApart) .none kV7 dc7 pm7 an7 cd7 ct7), sl7⟩) (c7 : PySem.W.codeIn K cd7 "apart" = true) (k7 : PySem.W.keepIn K (.ref f7) = true)
    (a8 : PySem.W.nsIn K mainGlobals "nearest" = some (some (.ref f8))) (l8 : K.lookup f8 = some ⟨oc8, od8, .func (PySem.W.fnOf "nearest" "nearest" (defArgs sNearest) (defBody sNearest) (defScope sNearest) .none kV8 dc8 pm8 an8 cd8 ct8), sl8⟩) (c8 : PySem.W.codeIn K cd8 "nearest" = true) (k8 : PySem.W.keepIn K (.ref f8) = true)
    (a9 : PySem.W.nsIn K mainGlobals "way" = some (some (.ref f9))) (l9 : K.lookup f9 = some ⟨oc9, od9, .func (PySem.W.fnOf "way" "way" (defArgs sWay) (defBody sWay) (defScope sWay) .none kV9 dc9 pm9 an9 cd9 ct9), sl9⟩) (c9 : PySem.W.codeIn K cd9 "way" = true) (k9 : PySem.W.keepIn K (.ref f9) = true)
    (a10 : PySem.W.nsIn K mainGlobals "ways_to_each" = some (some (.ref f10))) (l10 : K.lookup f10 = some ⟨oc10, od10, .func (PySem.W.fnOf "ways_to_each" "ways_to_each" (defArgs s_ways_to_each) (defBody s_ways_to_each) (defScope s_ways_to_each) .none kV10 dc10 pm10 an10 cd10 ct10), sl10⟩) (c10 : PySem.W.codeIn K cd10 "ways_to_each" = true) (k10 : PySem.W.keepIn K (.ref f10) = true)
    (a11 : PySem.W.nsIn K mainGlobals "middle" = some (some (.ref f11))) (l11 : K.lookup f11 = some ⟨oc11, od11, .func (PySem.W.fnOf "middle" "middle" (defArgs s_middle) (defBody s_middle) (defScope s_middle) .none kV11 dc11 pm11 an11 cd11 ct11), sl11⟩) (c11 : PySem.W.codeIn K cd11 "middle" = true) (k11 : PySem.W.keepIn K (.ref f11) = true)
    (a12 : PySem.W.nsIn K mainGlobals "one_way" = some (some (.ref f12))) (l12 : K.lookup f12 = some ⟨oc12, od12, .func (PySem.W.fnOf "one_way" "one_way" (defArgs s_one_way) (defBody s_one_way) (defScope s_one_way) .none kV12 dc12 pm12 an12 cd12 ct12), sl12⟩) (c12 : PySem.W.codeIn K cd12 "one_way" = true) (k12 : PySem.W.keepIn K (.ref f12) = true)
    (a13 : PySem.W.nsIn K mainGlobals "one_ways_to" = some (some (.ref f13))) (l13 : K.lookup f13 = some ⟨oc13, od13, .func (PySem.W.fnOf "one_ways_to" "one_ways_to" (defArgs s_one_ways_to) (defBody s_one_ways_to) (defScope s_one_ways_to) .none kV13 dc13 pm13 an13 cd13 ct13), sl13⟩) (c13 : PySem.W.codeIn K cd13 "one_ways_to" = true) (k13 : PySem.W.keepIn K (.ref f13) = true)
    (a14 : PySem.W.nsIn K mainGlobals "check_many" = some (some (.ref f14))) (l14 : K.lookup f14 = some ⟨oc14, od14, .func (PySem.W.fnOf "check_many" "check_many" (defArgs s_check_many) (defBody s_check_many) (defScope s_check_many) .none kV14 dc14 pm14 an14 cd14 ct14), sl14⟩) (c14 : PySem.W.codeIn K cd14 "check_many" = true) (k14 : PySem.W.keepIn K (.ref f14) = true)
    (a15 : PySem.W.nsIn K mainGlobals "check_from_nought" = some (some (.ref f15))) (l15 : K.lookup f15 = some ⟨oc15, od15, .func (PySem.W.fnOf "check_from_nought" "check_from_nought" (defArgs s_check_from_nought) (defBody s_check_from_nought) (defScope s_check_from_nought) .none kV15 dc15 pm15 an15 cd15 ct15), sl15⟩) (c15 : PySem.W.codeIn K cd15 "check_from_nought" = true) (k15 : PySem.W.keepIn K (.ref f15) = true)
    (a16 : PySem.W.nsIn K mainGlobals "first_layer" = some (some (.ref f16))) (l16 : K.lookup f16 = some ⟨oc16, od16, .func (PySem.W.fnOf "first_layer" "first_layer" (defArgs s_first_layer) (defBody s_first_layer) (defScope s_first_layer) .none kV16 dc16 pm16 an16 cd16 ct16), sl16⟩) (c16 : PySem.W.codeIn K cd16 "first_layer" = true) (k16 : PySem.W.keepIn K (.ref f16) = true)
    (a17 : PySem.W.nsIn K mainGlobals "next_layer" = some (some (.ref f17))) (l17 : K.lookup f17 = some ⟨oc17, od17, .func (PySem.W.fnOf "next_layer" "next_layer" (defArgs s_next_layer) (defBody s_next_layer) (defScope s_next_layer) .none kV17 dc17 pm17 an17 cd17 ct17), sl17⟩) (c17 : PySem.W.codeIn K cd17 "next_layer" = true) (k17 : PySem.W.keepIn K (.ref f17) = true)
    (a18 : PySem.W.nsIn K mainGlobals "layers_up_to" = some (some (.ref f18))) (l18 : K.lookup f18 = some ⟨oc18, od18, .func (PySem.W.fnOf "layers_up_to" "layers_up_to" (defArgs s_layers_up_to) (defBody s_layers_up_to) (defScope s_layers_up_to) .none kV18 dc18 pm18 an18 cd18 ct18), sl18⟩) (c18 : PySem.W.codeIn K cd18 "layers_up_to" = true) (k18 : PySem.W.keepIn K (.ref f18) = true)
    (a19 : PySem.W.nsIn K mainGlobals "paid_steps" = some (some (.ref f19))) (l19 : K.lookup f19 = some ⟨oc19, od19, .func (PySem.W.fnOf "paid_steps" "paid_steps" (defArgs s_paid_steps) (defBody s_paid_steps) (defScope s_paid_steps) .none kV19 dc19 pm19 an19 cd19 ct19), sl19⟩) (c19 : PySem.W.codeIn K cd19 "paid_steps" = true) (k19 : PySem.W.keepIn K (.ref f19) = true)
    (a20 : PySem.W.nsIn K mainGlobals "bounds_of" = some (some (.ref f20))) (l20 : K.lookup f20 = some ⟨oc20, od20, .func (PySem.W.fnOf "bounds_of" "bounds_of" (defArgs s_bounds_of) (defBody s_bounds_of) (defScope s_bounds_of) .none kV20 dc20 pm20 an20 cd20 ct20), sl20⟩) (c20 : PySem.W.codeIn K cd20 "bounds_of" = true) (k20 : PySem.W.keepIn K (.ref f20) = true)
    (a21 : PySem.W.nsIn K mainGlobals "layered_ends" = some (some (.ref f21))) (l21 : K.lookup f21 = some ⟨oc21, od21, .func (PySem.W.fnOf "layered_ends" "layered_ends" (defArgs s_layered_ends) (defBody s_layered_ends) (defScope s_layered_ends) .none kV21 dc21 pm21 an21 cd21 ct21), sl21⟩) (c21 : PySem.W.codeIn K cd21 "layered_ends" = true) (k21 : PySem.W.keepIn K (.ref f21) = true)
    (a22 : PySem.W.nsIn K mainGlobals "posts_between" = some (some (.ref f22))) (l22 : K.lookup f22 = some ⟨oc22, od22, .func (PySem.W.fnOf "posts_between" "posts_between" (defArgs s_posts_between) (defBody s_posts_between) (defScope s_posts_between) .none kV22 dc22 pm22 an22 cd22 ct22), sl22⟩) (c22 : PySem.W.codeIn K cd22 "posts_between" = true) (k22 : PySem.W.keepIn K (.ref f22) = true)
    (a23 : PySem.W.nsIn K mainGlobals "fitting_fee" = some (some (.ref f23))) (l23 : K.lookup f23 = some ⟨oc23, od23, .func (PySem.W.fnOf "fitting_fee" "fitting_fee" (defArgs s_fitting_fee) (defBody s_fitting_fee) (defScope s_fitting_fee) .none kV23 dc23 pm23 an23 cd23 ct23), sl23⟩) (c23 : PySem.W.codeIn K cd23 "fitting_fee" = true) (k23 : PySem.W.keepIn K (.ref f23) = true)
    (a24 : PySem.W.nsIn K mainGlobals "best" = some (some (.ref f24))) (l24 : K.lookup f24 = some ⟨oc24, od24, .func (PySem.W.fnOf "best" "best" (defArgs s_best) (defBody s_best) (defScope s_best) .none kV24 dc24 pm24 an24 cd24 ct24), sl24⟩) (c24 : PySem.W.codeIn K cd24 "best" = true) (k24 : PySem.W.keepIn K (.ref f24) = true)
    (a25 : PySem.W.nsIn K mainGlobals "ways" = some (some (.ref f25))) (l25 : K.lookup f25 = some ⟨oc25, od25, .func (PySem.W.fnOf "ways" "ways" (defArgs s_ways) (defBody s_ways) (defScope s_ways) .none kV25 dc25 pm25 an25 cd25 ct25), sl25⟩) (c25 : PySem.W.codeIn K cd25 "ways" = true) (k25 : PySem.W.keepIn K (.ref f25) = true)
    (a26 : PySem.W.nsIn K mainGlobals "paying" = some (some (.ref f26))) (l26 : K.lookup f26 = some ⟨oc26, od26, .func (PySem.W.fnOf "paying" "paying" (defArgs s_paying) (defBody s_paying) (defScope s_paying) .none kV26 dc26 pm26 an26 cd26 ct26), sl26⟩) (c26 : PySem.W.codeIn K cd26 "paying" = true) (k26 : PySem.W.keepIn K (.ref f26) = true)
    (a27 : PySem.W.nsIn K mainGlobals "_law_road_asked" = some (some (.ref f27))) (l27 : K.lookup f27 = some ⟨oc27, od27, .func (PySem.W.fnOf "_law_road_asked" "_law_road_asked" (defArgs s__law_road_asked) (defBody s__law_road_asked) (defScope s__law_road_asked) .none kV27 dc27 pm27 an27 cd27 ct27), sl27⟩) (c27 : PySem.W.codeIn K cd27 "_law_road_asked" = true) (k27 : PySem.W.keepIn K (.ref f27) = true)
    (a28 : PySem.W.nsIn K mainGlobals "_law_others_asked" = some (some (.ref f28))) (l28 : K.lookup f28 = some ⟨oc28, od28, .func (PySem.W.fnOf "_law_others_asked" "_law_others_asked" (defArgs s__law_others_asked) (defBody s__law_others_asked) (defScope s__law_others_asked) .none kV28 dc28 pm28 an28 cd28 ct28), sl28⟩) (c28 : PySem.W.codeIn K cd28 "_law_others_asked" = true) (k28 : PySem.W.keepIn K (.ref f28) = true)
    (a29 : PySem.W.nsIn K mainGlobals "_law_told" = some (some (.ref f29))) (l29 : K.lookup f29 = some ⟨oc29, od29, .func (PySem.W.fnOf "_law_told" "_law_told" (defArgs s__law_told) (defBody s__law_told) (defScope s__law_told) .none kV29 dc29 pm29 an29 cd29 ct29), sl29⟩) (c29 : PySem.W.codeIn K cd29 "_law_told" = true) (k29 : PySem.W.keepIn K (.ref f29) = true)
    (a30 : PySem.W.nsIn K mainGlobals "law" = some (some (.ref f30))) (l30 : K.lookup f30 = some ⟨oc30, od30, .func (PySem.W.fnOf "law" "law" (defArgs sLaw) (defBody sLaw) (defScope sLaw) .none kV30 dc30 pm30 an30 cd30 ct30), sl30⟩) (c30 : PySem.W.codeIn K cd30 "law" = true) (k30 : PySem.W.keepIn K (.ref f30) = true)
    (aA : PySem.W.nsIn K mainGlobals "Answer" = some (some (.ref CA)))
    (gaA : PySem.W.specialIn K (.ref CA) "__getattribute__" = some (some (.builtin "type.__getattribute__")))
    (rdA : PySem.W.readsIn K CA (.type "type") = true)
    (fcA : PySem.W.findCls K (.ref CA) (.type "type") "__init__" = some (.val (.ref fAI)))
    (lAI : K.lookup fAI = some ⟨ocAI, odAI, .func (PySem.W.fnOf "__init__" "Answer.__init__" (defArgs s_Answer_init) (defBody s_Answer_init) (defScope s_Answer_init) .none kVAI dcAI pmAI anAI cdAI ctAI), slAI⟩)
    (cAI : PySem.W.codeIn K cdAI "Answer.__init__" = true)
    (kAI : PySem.W.keepIn K (.ref fAI) = true)
    (aB : PySem.W.nsIn K mainGlobals "Best" = some (some (.ref CB)))
    (fiB : PySem.W.findIn K (.ref CB) "__init__" = some (some (.ref fBI)))
    (isB : PySem.W.isFn K (.ref fBI) = true)
    (lBI : K.lookup fBI = some ⟨ocBI, odBI, .func (PySem.W.fnOf "__init__" "Best.__init__" (defArgs s_Best_init) (defBody s_Best_init) (defScope s_Best_init) .none kVBI dcBI pmBI anBI cdBI ctBI), slBI⟩)
    (cBI : PySem.W.codeIn K cdBI "Best.__init__" = true)
    (kBI : PySem.W.keepIn K (.ref fBI) = true)
    (pgB : PySem.W.plainGet K CB Str.empty = true)
    (hdB : PySem.W.hasDictIn K CB = true)
    (poB : PySem.W.plainOver K CB = true)
    (saB : PySem.W.findIn K (.ref CB) "__setattr__" = some (some (.builtin "object.__setattr__")))
    (mkB : PySem.W.makesIn K CB = true)
    (kcB : PySem.W.keepIn K (.ref CB) = true)
    (nB_posts : PySem.W.findIn K (.ref CB) "posts" = some none)
    (nB_bounds : PySem.W.findIn K (.ref CB) "bounds" = some none)
    (nB_fee : PySem.W.findIn K (.ref CB) "fee" = some none)
    (xR_a : PySem.W.nsIn K mainGlobals "BadRoad" = some (some (.ref ER)))
    (xP_a : PySem.W.nsIn K mainGlobals "BadPosts" = some (some (.ref EP)))
    (xS_a : PySem.W.nsIn K mainGlobals "BadStretch" = some (some (.ref ES)))
    (xM_a : PySem.W.nsIn K mainGlobals "BadMany" = some (some (.ref EM)))
    (aE : PySem.W.nsIn K mainGlobals "PostError" = some (some (.ref CE)))
    (mE : PySem.W.mroIn K CE (.type "BaseException") = some true)
    (tE : PySem.W.typeIn K (.ref CE) = some (.type "type"))
    (gsC : PySem.W.specialIn K (.builtin "object.__class__") "__get__" = some (some (.builtin "getset_descriptor.__get__")))
    (tkC : PySem.W.takesIn K (.builtin "object.__class__") = some true)
    (zV : PySem.W.nsIn K mainGlobals "ValueError" = some none)
    (excR : PySem.W.excIn K ER [.type "ValueError", .type "Exception", .type "BaseException", .type "object"] "ValueError.__new__" = true)
    (xR_ga : PySem.W.findIn K (.ref ER) "__getattribute__" = some (some (.builtin "BaseException.__getattribute__")))
    (xR_gh : PySem.W.findIn K (.ref ER) "__getattr__" = some none)
    (xR_cl : PySem.W.findIn K (.ref ER) "__class__" = some (some (.builtin "object.__class__")))
    (xR_mo : PySem.W.mroIn K ER (.type "object") = some true)
    (xR_mb : PySem.W.mroIn K ER (.type "BaseException") = some true)
    (xR_mv : PySem.W.mroIn K ER (.type "ValueError") = some true)
    (xR_mp : PySem.W.mroIn K ER (.ref CE) = some true)
    (xR_ty : PySem.W.typeIn K (.ref ER) = some (.type "type"))
    (xRR : PySem.W.mroIn K ER (.ref ER) = some true)
    (xRP : PySem.W.mroIn K ER (.ref EP) = some false)
    (xRS : PySem.W.mroIn K ER (.ref ES) = some false)
    (xRM : PySem.W.mroIn K ER (.ref EM) = some false)
    (excP : PySem.W.excIn K EP [.type "ValueError", .type "Exception", .type "BaseException", .type "object"] "ValueError.__new__" = true)
    (xP_ga : PySem.W.findIn K (.ref EP) "__getattribute__" = some (some (.builtin "BaseException.__getattribute__")))
    (xP_gh : PySem.W.findIn K (.ref EP) "__getattr__" = some none)
    (xP_cl : PySem.W.findIn K (.ref EP) "__class__" = some (some (.builtin "object.__class__")))
    (xP_mo : PySem.W.mroIn K EP (.type "object") = some true)
    (xP_mb : PySem.W.mroIn K EP (.type "BaseException") = some true)
    (xP_mv : PySem.W.mroIn K EP (.type "ValueError") = some true)
    (xP_mp : PySem.W.mroIn K EP (.ref CE) = some true)
    (xP_ty : PySem.W.typeIn K (.ref EP) = some (.type "type"))
    (xPR : PySem.W.mroIn K EP (.ref ER) = some false)
    (xPP : PySem.W.mroIn K EP (.ref EP) = some true)
    (xPS : PySem.W.mroIn K EP (.ref ES) = some false)
    (xPM : PySem.W.mroIn K EP (.ref EM) = some false)
    (excS : PySem.W.excIn K ES [.type "ValueError", .type "Exception", .type "BaseException", .type "object"] "ValueError.__new__" = true)
    (xS_ga : PySem.W.findIn K (.ref ES) "__getattribute__" = some (some (.builtin "BaseException.__getattribute__")))
    (xS_gh : PySem.W.findIn K (.ref ES) "__getattr__" = some none)
    (xS_cl : PySem.W.findIn K (.ref ES) "__class__" = some (some (.builtin "object.__class__")))
    (xS_mo : PySem.W.mroIn K ES (.type "object") = some true)
    (xS_mb : PySem.W.mroIn K ES (.type "BaseException") = some true)
    (xS_mv : PySem.W.mroIn K ES (.type "ValueError") = some true)
    (xS_mp : PySem.W.mroIn K ES (.ref CE) = some true)
    (xS_ty : PySem.W.typeIn K (.ref ES) = some (.type "type"))
    (xSR : PySem.W.mroIn K ES (.ref ER) = some false)
    (xSP : PySem.W.mroIn K ES (.ref EP) = some false)
    (xSS : PySem.W.mroIn K ES (.ref ES) = some true)
    (xSM : PySem.W.mroIn K ES (.ref EM) = some false)
    (excM : PySem.W.excIn K EM [.type "ValueError", .type "Exception", .type "BaseException", .type "object"] "ValueError.__new__" = true)
    (xM_ga : PySem.W.findIn K (.ref EM) "__getattribute__" = some (some (.builtin "BaseException.__getattribute__")))
    (xM_gh : PySem.W.findIn K (.ref EM) "__getattr__" = some none)
    (xM_cl : PySem.W.findIn K (.ref EM) "__class__" = some (some (.builtin "object.__class__")))
    (xM_mo : PySem.W.mroIn K EM (.type "object") = some true)
    (xM_mb : PySem.W.mroIn K EM (.type "BaseException") = some true)
    (xM_mv : PySem.W.mroIn K EM (.type "ValueError") = some true)
    (xM_mp : PySem.W.mroIn K EM (.ref CE) = some true)
    (xM_ty : PySem.W.typeIn K (.ref EM) = some (.type "type"))
    (xMR : PySem.W.mroIn K EM (.ref ER) = some false)
    (xMP : PySem.W.mroIn K EM (.ref EP) = some false)
    (xMS : PySem.W.mroIn K EM (.ref ES) = some false)
    (xMM : PySem.W.mroIn K EM (.ref EM) = some true)
    (z_isinstance : PySem.W.nsIn K mainGlobals "isinstance" = some none) (z_len : PySem.W.nsIn K mainGlobals "len" = some none) (z_int : PySem.W.nsIn K mainGlobals "int" = some none) (z_bool : PySem.W.nsIn K mainGlobals "bool" = some none) (z_list : PySem.W.nsIn K mainGlobals "list" = some none) (z_tuple : PySem.W.nsIn K mainGlobals "tuple" = some none) (z_range : PySem.W.nsIn K mainGlobals "range" = some none) (z_abs : PySem.W.nsIn K mainGlobals "abs" = some none) (z_sum : PySem.W.nsIn K mainGlobals "sum" = some none) (z_enumerate : PySem.W.nsIn K mainGlobals "enumerate" = some none) (z_all : PySem.W.nsIn K mainGlobals "all" = some none) (z_min : PySem.W.nsIn K mainGlobals "min" = some none) (z_zip : PySem.W.nsIn K mainGlobals "zip" = some none) (z_max : PySem.W.nsIn K mainGlobals "max" = some none) (z_any : PySem.W.nsIn K mainGlobals "any" = some none) (z_reversed : PySem.W.nsIn K mainGlobals "reversed" = some none) (z_sorted : PySem.W.nsIn K mainGlobals "sorted" = some none) (z_set : PySem.W.nsIn K mainGlobals "set" = some none) :
    ∃ fd : FuncData, (∀ (s : Shared) (v : Value), BindsTo s fd ⟨[v], []⟩ [("_law_script", v)]) ∧ ∀ base : Heap, K.In base → base.Ns mainGlobals mg → FnOk l.prog w K mg base CX0 9 fa fd ["_law_script"] (spLaw K) := by
  have e := hfa.symm.trans (PySem.W.mg_of X G a30)
  cases e
  have B : Blt mg := ⟨PySem.W.mg_none_of X G z_isinstance, PySem.W.mg_none_of X G z_len, PySem.W.mg_none_of X G z_int, PySem.W.mg_none_of X G z_bool, PySem.W.mg_none_of X G z_list, PySem.W.mg_none_of X G z_tuple, PySem.W.mg_none_of X G z_range, PySem.W.mg_none_of X G z_abs, PySem.W.mg_none_of X G z_sum, PySem.W.mg_none_of X G z_enumerate, PySem.W.mg_none_of X G z_all, PySem.W.mg_none_of X G z_min, PySem.W.mg_none_of X G z_zip, PySem.W.mg_none_of X G z_max, PySem.W.mg_none_of X G z_any, PySem.W.mg_none_of X G z_reversed, PySem.W.mg_none_of X G z_sorted, PySem.W.mg_none_of X G z_set⟩
  have F0 := fun_mk (st := sWhole) l0 c0 k0
  have C0 : Callee K mg "is_whole" sWhole ["value"] f0 _ := ⟨F0, F0.binds (ps := ["value"]) (fun _ _ _ _ _ _ us hl => match us, hl with | [_], _ => rfl), PySem.W.mg_of X G a0⟩
  have F1 := fun_mk (st := sFrom) l1 c1 k1
  have C1 : Callee K mg "is_whole_from" sFrom ["value", "least"] f1 _ := ⟨F1, F1.binds (ps := ["value", "least"]) (fun _ _ _ _ _ _ us hl => match us, hl with | [_, _], _ => rfl), PySem.W.mg_of X G a1⟩
  have F2 := fun_mk (st := sHouse) l2 c2 k2
  have C2 : Callee K mg "is_house" sHouse ["value"] f2 _ := ⟨F2, F2.binds (ps := ["value"]) (fun _ _ _ _ _ _ us hl => match us, hl with | [_], _ => rfl), PySem.W.mg_of X G a2⟩
  have F3 := fun_mk (st := sRising) l3 c3 k3
  have C3 : Callee K mg "is_rising" sRising ["numbers"] f3 _ := ⟨F3, F3.binds (ps := ["numbers"]) (fun _ _ _ _ _ _ us hl => match us, hl with | [_], _ => rfl), PySem.W.mg_of X G a3⟩
  have F4 := fun_mk (st := sCheckRoad) l4 c4 k4
  have C4 : Callee K mg "check_road" sCheckRoad ["road"] f4 _ := ⟨F4, F4.binds (ps := ["road"]) (fun _ _ _ _ _ _ us hl => match us, hl with | [_], _ => rfl), PySem.W.mg_of X G a4⟩
  have F5 := fun_mk (st := sCheckPosts) l5 c5 k5
  have C5 : Callee K mg "check_posts" sCheckPosts ["road", "posts"] f5 _ := ⟨F5, F5.binds (ps := ["road", "posts"]) (fun _ _ _ _ _ _ us hl => match us, hl with | [_, _], _ => rfl), PySem.W.mg_of X G a5⟩
  have F6 := fun_mk (st := s_check_stretch) l6 c6 k6
  have C6 : Callee K mg "check_stretch" s_check_stretch ["road", "first", "end"] f6 _ := ⟨F6, F6.binds (ps := ["road", "first", "end"]) (fun _ _ _ _ _ _ us hl => match us, hl with | [_, _, _], _ => rfl), PySem.W.mg_of X G a6⟩
  have F7 := fun_mk (st := sApart) l7 c7 k7
  have C7 : Callee K mg "apart" sApart ["road", "house", "other"] f7 _ := ⟨F7, F7.binds (ps := ["road", "house", "other"]) (fun _ _ _ _ _ _ us hl => match us, hl with | [_, _, _], _ => rfl), PySem.W.mg_of X G a7⟩
  have F8 := fun_mk (st := sNearest) l8 c8 k8
  have C8 : Callee K mg "nearest" sNearest ["road", "posts"] f8 _ := ⟨F8, F8.binds (ps := ["road", "posts"]) (fun _ _ _ _ _ _ us hl => match us, hl with | [_, _], _ => rfl), PySem.W.mg_of X G a8⟩
  have F9 := fun_mk (st := sWay) l9 c9 k9
  have C9 : Callee K mg "way" sWay ["road", "posts"] f9 _ := ⟨F9, F9.binds (ps := ["road", "posts"]) (fun _ _ _ _ _ _ us hl => match us, hl with | [_, _], _ => rfl), PySem.W.mg_of X G a9⟩
  have F10 := fun_mk (st := s_ways_to_each) l10 c10 k10
  have C10 : Callee K mg "ways_to_each" s_ways_to_each ["houses"] f10 _ := ⟨F10, F10.binds (ps := ["houses"]) (fun _ _ _ _ _ _ us hl => match us, hl with | [_], _ => rfl), PySem.W.mg_of X G a10⟩
  have F11 := fun_mk (st := s_middle) l11 c11 k11
  have C11 : Callee K mg "middle" s_middle ["road", "first", "end"] f11 _ := ⟨F11, F11.binds (ps := ["road", "first", "end"]) (fun _ _ _ _ _ _ us hl => match us, hl with | [_, _, _], _ => rfl), PySem.W.mg_of X G a11⟩
  have F12 := fun_mk (st := s_one_way) l12 c12 k12
  have C12 : Callee K mg "one_way" s_one_way ["road", "first", "end"] f12 _ := ⟨F12, F12.binds (ps := ["road", "first", "end"]) (fun _ _ _ _ _ _ us hl => match us, hl with | [_, _, _], _ => rfl), PySem.W.mg_of X G a12⟩
  have F13 := fun_mk (st := s_one_ways_to) l13 c13 k13
  have C13 : Callee K mg "one_ways_to" s_one_ways_to ["road", "end"] f13 _ := ⟨F13, F13.binds (ps := ["road", "end"]) (fun _ _ _ _ _ _ us hl => match us, hl with | [_, _], _ => rfl), PySem.W.mg_of X G a13⟩
  have F14 := fun_mk (st := s_check_many) l14 c14 k14
  have C14 : Callee K mg "check_many" s_check_many ["road", "many"] f14 _ := ⟨F14, F14.binds (ps := ["road", "many"]) (fun _ _ _ _ _ _ us hl => match us, hl with | [_, _], _ => rfl), PySem.W.mg_of X G a14⟩
  have F15 := fun_mk (st := s_check_from_nought) l15 c15 k15
  have C15 : Callee K mg "check_from_nought" s_check_from_nought ["number"] f15 _ := ⟨F15, F15.binds (ps := ["number"]) (fun _ _ _ _ _ _ us hl => match us, hl with | [_], _ => rfl), PySem.W.mg_of X G a15⟩
  have F16 := fun_mk (st := s_first_layer) l16 c16 k16
  have C16 : Callee K mg "first_layer" s_first_layer ["one_ways"] f16 _ := ⟨F16, F16.binds (ps := ["one_ways"]) (fun _ _ _ _ _ _ us hl => match us, hl with | [_], _ => rfl), PySem.W.mg_of X G a16⟩
  have F17 := fun_mk (st := s_next_layer) l17 c17 k17
  have C17 : Callee K mg "next_layer" s_next_layer ["one_ways", "before", "posts"] f17 _ := ⟨F17, F17.binds (ps := ["one_ways", "before", "posts"]) (fun _ _ _ _ _ _ us hl => match us, hl with | [_, _, _], _ => rfl), PySem.W.mg_of X G a17⟩
  have F18 := fun_mk (st := s_layers_up_to) l18 c18 k18
  have C18 : Callee K mg "layers_up_to" s_layers_up_to ["road", "most"] f18 _ := ⟨F18, F18.binds (ps := ["road", "most"]) (fun _ _ _ _ _ _ us hl => match us, hl with | [_, _], _ => rfl), PySem.W.mg_of X G a18⟩
  have F19 := fun_mk (st := s_paid_steps) l19 c19 k19
  have C19 : Callee K mg "paid_steps" s_paid_steps ["road", "fee"] f19 _ := ⟨F19, F19.binds (ps := ["road", "fee"]) (fun _ _ _ _ _ _ us hl => match us, hl with | [_, _], _ => rfl), PySem.W.mg_of X G a19⟩
  have F20 := fun_mk (st := s_bounds_of) l20 c20 k20
  have C20 : Callee K mg "bounds_of" s_bounds_of ["steps"] f20 _ := ⟨F20, F20.binds (ps := ["steps"]) (fun _ _ _ _ _ _ us hl => match us, hl with | [_], _ => rfl), PySem.W.mg_of X G a20⟩
  have F21 := fun_mk (st := s_layered_ends) l21 c21 k21
  have C21 : Callee K mg "layered_ends" s_layered_ends ["layers", "houses"] f21 _ := ⟨F21, F21.binds (ps := ["layers", "houses"]) (fun _ _ _ _ _ _ us hl => match us, hl with | [_, _], _ => rfl), PySem.W.mg_of X G a21⟩
  have F22 := fun_mk (st := s_posts_between) l22 c22 k22
  have C22 : Callee K mg "posts_between" s_posts_between ["road", "ends"] f22 _ := ⟨F22, F22.binds (ps := ["road", "ends"]) (fun _ _ _ _ _ _ us hl => match us, hl with | [_, _], _ => rfl), PySem.W.mg_of X G a22⟩
  have F23 := fun_mk (st := s_fitting_fee) l23 c23 k23
  have C23 : Callee K mg "fitting_fee" s_fitting_fee ["least_ways", "many"] f23 _ := ⟨F23, F23.binds (ps := ["least_ways", "many"]) (fun _ _ _ _ _ _ us hl => match us, hl with | [_, _], _ => rfl), PySem.W.mg_of X G a23⟩
  have F24 := fun_mk (st := s_best) l24 c24 k24
  have C24 : Callee K mg "best" s_best ["road", "many"] f24 _ := ⟨F24, F24.binds (ps := ["road", "many"]) (fun _ _ _ _ _ _ us hl => match us, hl with | [_, _], _ => rfl), PySem.W.mg_of X G a24⟩
  have F25 := fun_mk (st := s_ways) l25 c25 k25
  have C25 : Callee K mg "ways" s_ways ["road", "most"] f25 _ := ⟨F25, F25.binds (ps := ["road", "most"]) (fun _ _ _ _ _ _ us hl => match us, hl with | [_, _], _ => rfl), PySem.W.mg_of X G a25⟩
  have F26 := fun_mk (st := s_paying) l26 c26 k26
  have C26 : Callee K mg "paying" s_paying ["road", "fee"] f26 _ := ⟨F26, F26.binds (ps := ["road", "fee"]) (fun _ _ _ _ _ _ us hl => match us, hl with | [_, _], _ => rfl), PySem.W.mg_of X G a26⟩
  have F27 := fun_mk (st := s__law_road_asked) l27 c27 k27
  have C27 : Callee K mg "_law_road_asked" s__law_road_asked ["_law_which", "_law_more"] f27 _ := ⟨F27, F27.binds (ps := ["_law_which", "_law_more"]) (fun _ _ _ _ _ _ us hl => match us, hl with | [_, _], _ => rfl), PySem.W.mg_of X G a27⟩
  have F28 := fun_mk (st := s__law_others_asked) l28 c28 k28
  have C28 : Callee K mg "_law_others_asked" s__law_others_asked ["_law_kind", "_law_which", "_law_more"] f28 _ := ⟨F28, F28.binds (ps := ["_law_kind", "_law_which", "_law_more"]) (fun _ _ _ _ _ _ us hl => match us, hl with | [_, _, _], _ => rfl), PySem.W.mg_of X G a28⟩
  have F29 := fun_mk (st := s__law_told) l29 c29 k29
  have C29 : Callee K mg "_law_told" s__law_told ["_law_kind", "_law_which", "_law_more"] f29 _ := ⟨F29, F29.binds (ps := ["_law_kind", "_law_which", "_law_more"]) (fun _ _ _ _ _ _ us hl => match us, hl with | [_, _, _], _ => rfl), PySem.W.mg_of X G a29⟩
  have F30 := fun_mk (st := sLaw) l30 c30 k30
  refine ⟨PySem.W.fnOf "law" "law" (defArgs sLaw) (defBody sLaw) (defScope sLaw) .none kV30 dc30 pm30 an30 cd30 ct30, fun s v => .of_eq rfl, fun base _ _ => ?_⟩
  have U : Nums K mg f0 f1 _ _ := ⟨C0.fn, C0.b, C0.m, C1.fn, C1.b, C1.m⟩
  have R : Roads K mg f0 f1 f2 f3 f4 f5 f7 _ _ _ _ _ _ _ := ⟨U, C2, C3, C4, C5, C7⟩
  have FA := fun_mk (st := s_Answer_init) lAI cAI kAI
  have FB := fun_mk (st := s_Best_init) lBI cBI kBI
  have bA := FA.binds (ps := ["self", "posts", "bounds"]) (fun _ _ _ _ _ _ us hl => match us, hl with | [_, _, _], _ => rfl)
  have bB := FB.binds (ps := ["self", "posts", "bounds", "fee"]) (fun _ _ _ _ _ _ us hl => match us, hl with | [_, _, _, _], _ => rfl)
  have an : AnsC K CB := ⟨⟨pgB, hdB, poB, saB⟩, nB_posts, nB_bounds⟩
  have gI := ok_BInit (P := l.prog) (w := w) (mg := mg) (base := base) FB B an nB_fee FA bA (PySem.W.mg_of X G aA) ⟨gaA, rdA, fcA, kAI⟩
  have gM := ok_middle (P := l.prog) (w := w) (mg := mg) (base := base) F11 B U C2 C3 C4 C6 C10
  have T : FnsB l.prog w K mg base CB _ _ _ _ _ _ _ _ _ _ _ _ _ _ _ _ _ _ := ⟨ok_checkRoad F4 B U C2 C3, ok_many F14 B U, ok_lays F18 B C7 C13 C16 C17, ok_fee F23 B, ok_between F22 B gM C11, ok_ends F21 B, ok_bounds F20 B, ok_steps F19 B C7 C13, gI, C4, C14, C18, C23, C22, C21, C20, C19, ⟨mkB, fiB, isB, kcB⟩, bB, PySem.W.mg_of X G aB⟩
  have D : Doors K mg CE ER EP ES EM _ _ _ _ _ _ _ _ _ _ _ _ _ _ _ _ _ _ _ _ _ _ := ⟨R, C6, C14, C15, C8, ⟨⟨excR⟩, PySem.W.mg_of X G xR_a⟩, ⟨⟨excP⟩, PySem.W.mg_of X G aE, PySem.W.mg_of X G xP_a, exm_ref mE xP_mp tE⟩, ⟨⟨excS⟩, PySem.W.mg_of X G xS_a⟩, ⟨⟨excM⟩, PySem.W.mg_of X G xM_a⟩⟩
  have S : Asks K mg CE ER EP ES EM _ _ _ _ _ _ _ _ _ _ _ _ _ _ _ _ _ _ _ _ _ _ _ _ _ _ _ _ _ _ _ _ _ _ := ⟨D, C9, C11, C12, C24, C25, C26⟩
  have ZR := (⟨⟨xR_ga, xR_gh, xR_cl, gsC, tkC, xR_mo, xR_mb⟩, kit_ref xRR xRR xR_ty, kit_ref xRP xPP xP_ty, kit_ref xRS xSS xS_ty, kit_ref xRM xMM xM_ty, kit_ty xR_mv (by decide +kernel), exm_ref mE xR_mp tE⟩ : ErrK K CE ER EP ES EM ER true false false false)
  have ZP := (⟨⟨xP_ga, xP_gh, xP_cl, gsC, tkC, xP_mo, xP_mb⟩, kit_ref xPR xRR xR_ty, kit_ref xPP xPP xP_ty, kit_ref xPS xSS xS_ty, kit_ref xPM xMM xM_ty, kit_ty xP_mv (by decide +kernel), exm_ref mE xP_mp tE⟩ : ErrK K CE ER EP ES EM EP false true false false)
  have ZS := (⟨⟨xS_ga, xS_gh, xS_cl, gsC, tkC, xS_mo, xS_mb⟩, kit_ref xSR xRR xR_ty, kit_ref xSP xPP xP_ty, kit_ref xSS xSS xS_ty, kit_ref xSM xMM xM_ty, kit_ty xS_mv (by decide +kernel), exm_ref mE xS_mp tE⟩ : ErrK K CE ER EP ES EM ES false false true false)
  have ZM := (⟨⟨xM_ga, xM_gh, xM_cl, gsC, tkC, xM_mo, xM_mb⟩, kit_ref xMR xRR xR_ty, kit_ref xMP xPP xP_ty, kit_ref xMS xSS xS_ty, kit_ref xMM xMM xM_ty, kit_ty xM_mv (by decide +kernel), exm_ref mE xM_mp tE⟩ : ErrK K CE ER EP ES EM EM false false false true)
  exact ok_law F30 B an (ok_told F29 B (PySem.W.mg_none_of X G zV) S C27 C28 ZR ZP ZS ZM) C29 (ok_way F9 B R C8) C9 (ok_best F24 B T) C24 (ok_ways F25 B U C2 C3 C7 C13 C16 C17 C18 C4 C15) C25
theorem walk {l : PySem.W.OpenLaw} {q : Program} {loose : List Str} {XP : (Str → Option Value) → Heap → Prop} {YP : World → Heap → Prop} {d : DefRec} {K : Params → PySem.W.Frag} (hn : l.most = some 63) (hdf : d.params.defaults = [])
    (hY : ∀ (w : World) (h : Heap), YP w h → (K w.params).In h)
    (F : ∀ (w : World) (mg : Str → Option Value) (fa : Addr) (h : Heap), (K w.params).In h → h.Ns mainGlobals mg → mg d.name = some (.ref fa) →
      ∃ fd : FuncData, (∀ (s : Shared) (u : Value), BindsTo s fd ⟨[u], []⟩ [("_law_script", u)]) ∧ ∀ base : Heap, (K w.params).In base → base.Ns mainGlobals mg → FnOk l.prog w (K w.params) mg base CX0 9 fa fd ["_law_script"] (spLaw (K w.params))) :
    PySem.W.WalkO q loose XP YP l.row.toRowW d [] (fun f vs => PySem.call f vs) :=
  L2.walk_of (n := 63) (k := 9) (x := "_law_script") (CX := fun _ => CX0) (sp := fun w => spLaw (K w.params)) hn (by decide) hdf ⟨rfl, by decide, by decide⟩ hY F (fun _ _ a ns hl _ hS => ⟨a, ns, rfl, hS, hl, fun _ => rfl⟩) fun _ _ _ _ _ z => z
end Ph
open PySem PySem.W PyProof.Rows
set_option maxRecDepth 100000 in
set_option maxHeartbeats 0 in
theorem PySem.Challenge.cw_posthouses_k07_refused_holds : PySem.Challenge.rw_posthouses_k07_refused.Holds := by
  w_on; o_law; k_head; (case hw => w_witness2)
  k_fill
  refine Ph.walk (l := PySem.Challenge.rw_posthouses_k07_refused) rfl rfl (fun w h Y => PySem.W.kIn_of Y) ?F
  case F =>
    intro w mg fa h KX G hmg
    refine' Ph.all_mk KX G hmg ?a0 ?l0 ?c0 ?k0 ?a1 ?l1 ?c1 ?k1 ?a2 ?l2 ?c2 ?k2 ?a3 ?l3 ?c3 ?k3 ?a4 ?l4 ?c4 ?k4 ?a5 ?l5 ?c5 ?k5 ?a6 ?l6 ?c6 ?k6 ?a7 ?l7 ?c7 ?k7 ?a8 ?l8 ?c8 ?k8 ?a9 ?l9 ?c9 ?k9 ?a10 ?l10 ?c10 ?k10 ?a11 ?l11 ?c11 ?k11 ?a12 ?l12 ?c12 ?k12 ?a13 ?l13 ?c13 ?k13 ?a14 ?l14 ?c14 ?k14 ?a15 ?l15 ?c15 ?k15 ?a16 ?l16 ?c16 ?k16 ?a17 ?l17 ?c17 ?k17 ?a18 ?l18 ?c18 ?k18 ?a19 ?l19 ?c19 ?k19 ?a20 ?l20 ?c20 ?k20 ?a21 ?l21 ?c21 ?k21 ?a22 ?l22 ?c22 ?k22 ?a23 ?l23 ?c23 ?k23 ?a24 ?l24 ?c24 ?k24 ?a25 ?l25 ?c25 ?k25 ?a26 ?l26 ?c26 ?k26 ?a27 ?l27 ?c27 ?k27 ?a28 ?l28 ?c28 ?k28 ?a29 ?l29 ?c29 ?k29 ?a30 ?l30 ?c30 ?k30 ?aA ?gaA ?rdA ?fcA ?lAI ?cAI ?kAI ?aB ?fiB ?isB ?lBI ?cBI ?kBI ?pgB ?hdB ?poB ?saB ?mkB ?kcB ?nB_posts ?nB_bounds ?nB_fee ?xR_a ?xP_a ?xS_a ?xM_a ?aE ?mE ?tE ?gsC ?tkC ?zV ?excR ?xR_ga ?xR_gh ?xR_cl ?xR_mo ?xR_mb ?xR_mv ?xR_mp ?xR_ty ?xRR ?xRP ?xRS ?xRM ?excP ?xP_ga ?xP_gh ?xP_cl ?xP_mo ?xP_mb ?xP_mv ?xP_mp ?xP_ty ?xPR ?xPP ?xPS ?xPM ?excS ?xS_ga ?xS_gh ?xS_cl ?xS_mo ?xS_mb ?xS_mv ?xS_mp ?xS_ty ?xSR ?xSP ?xSS ?xSM ?excM ?xM_ga ?xM_gh ?xM_cl ?xM_mo ?xM_mb ?xM_mv ?xM_mp ?xM_ty ?xMR ?xMP ?xMS ?xMM ?z_isinstance ?z_len ?z_int ?z_bool ?z_list ?z_tuple ?z_range ?z_abs ?z_sum ?z_enumerate ?z_all ?z_min ?z_zip ?z_max ?z_any ?z_reversed ?z_sorted ?z_set
    (case a0 => k_is)
    (case l0 => k_is)
    (case c0 => k_is)
    (case k0 => k_is)
    (case a1 => k_is)
    (case l1 => k_is)
    (case c1 => k_is)
    (case k1 => k_is)
    (case a2 => k_is)
    (case l2 => k_is)
    (case c2 => k_is)
    (case k2 => k_is)
    (case a3 => k_is)
    (case l3 => k_is)
    (case c3 => k_is)
    (case k3 => k_is)
    (case a4 => k_is)
    (case l4 => k_is)
    (case c4 => k_is)
    (case k4 => k_is)
    (case a5 => k_is)
    (case l5 => k_is)
    (case c5 => k_is)
    (case k5 => k_is)
    (case a6 => k_is)
    (case l6 => k_is)
    (case c6 => k_is)
    (case k6 => k_is)
    (case a7 => k_is)
    (case l7 => k_is)
    (case c7 => k_is)
    (case k7 => k_is)
    (case a8 => k_is)
    (case l8 => k_is)
    (case c8 => k_is)
    (case k8 => k_is)
    (case a9 => k_is)
    (case l9 => k_is)
    (case c9 => k_is)
    (case k9 => k_is)
    (case a10 => k_is)
    (case l10 => k_is)
    (case c10 => k_is)
    (case k10 => k_is)
    (case a11 => k_is)
    (case l11 => k_is)
    (case c11 => k_is)
    (case k11 => k_is)
    (case a12 => k_is)
    (case l12 => k_is)
    (case c12 => k_is)
    (case k12 => k_is)
    (case a13 => k_is)
    (case l13 => k_is)
    (case c13 => k_is)
    (case k13 => k_is)
    (case a14 => k_is)
    (case l14 => k_is)
    (case c14 => k_is)
    (case k14 => k_is)
    (case a15 => k_is)
    (case l15 => k_is)
    (case c15 => k_is)
    (case k15 => k_is)
    (case a16 => k_is)
    (case l16 => k_is)
    (case c16 => k_is)
    (case k16 => k_is)
    (case a17 => k_is)
    (case l17 => k_is)
    (case c17 => k_is)
    (case k17 => k_is)
    (case a18 => k_is)
    (case l18 => k_is)
    (case c18 => k_is)
    (case k18 => k_is)
    (case a19 => k_is)
    (case l19 => k_is)
    (case c19 => k_is)
    (case k19 => k_is)
    (case a20 => k_is)
    (case l20 => k_is)
    (case c20 => k_is)
    (case k20 => k_is)
    (case a21 => k_is)
    (case l21 => k_is)
    (case c21 => k_is)
    (case k21 => k_is)
    (case a22 => k_is)
    (case l22 => k_is)
    (case c22 => k_is)
    (case k22 => k_is)
    (case a23 => k_is)
    (case l23 => k_is)
    (case c23 => k_is)
    (case k23 => k_is)
    (case a24 => k_is)
    (case l24 => k_is)
    (case c24 => k_is)
    (case k24 => k_is)
    (case a25 => k_is)
    (case l25 => k_is)
    (case c25 => k_is)
    (case k25 => k_is)
    (case a26 => k_is)
    (case l26 => k_is)
    (case c26 => k_is)
    (case k26 => k_is)
    (case a27 => k_is)
    (case l27 => k_is)
    (case c27 => k_is)
    (case k27 => k_is)
    (case a28 => k_is)
    (case l28 => k_is)
    (case c28 => k_is)
    (case k28 => k_is)
    (case a29 => k_is)
    (case l29 => k_is)
    (case c29 => k_is)
    (case k29 => k_is)
    (case a30 => k_is)
    (case l30 => k_is)
    (case c30 => k_is)
    (case k30 => k_is)
    (case aA => k_is)
    (case gaA => k_is)
    (case rdA => k_is)
    (case fcA => k_is)
    (case lAI => k_is)
    (case cAI => k_is)
    (case kAI => k_is)
    (case aB => k_is)
    (case fiB => k_is)
    (case isB => k_is)
    (case lBI => k_is)
    (case cBI => k_is)
    (case kBI => k_is)
    (case pgB => k_is)
    (case hdB => k_is)
    (case poB => k_is)
    (case saB => k_is)
    (case mkB => k_is)
    (case kcB => k_is)
    (case nB_posts => k_is)
    (case nB_bounds => k_is)
    (case nB_fee => k_is)
    (case xR_a => k_is)
    (case xP_a => k_is)
    (case xS_a => k_is)
    (case xM_a => k_is)
    (case aE => k_is)
    (case mE => k_is)
    (case tE => k_is)
    (case gsC => k_is)
    (case tkC => k_is)
    (case zV => k_is)
    (case excR => k_exc)
    (case xR_ga => k_is)
    (case xR_gh => k_is)
    (case xR_cl => k_is)
    (case xR_mo => k_is)
    (case xR_mb => k_is)
    (case xR_mv => k_is)
    (case xR_mp => k_is)
    (case xR_ty => k_is)
    (case xRR => k_is)
    (case xRP => k_is)
    (case xRS => k_is)
    (case xRM => k_is)
    (case excP => k_exc)
    (case xP_ga => k_is)
    (case xP_gh => k_is)
    (case xP_cl => k_is)
    (case xP_mo => k_is)
    (case xP_mb => k_is)
    (case xP_mv => k_is)
    (case xP_mp => k_is)
    (case xP_ty => k_is)
    (case xPR => k_is)
    (case xPP => k_is)
    (case xPS => k_is)
    (case xPM => k_is)
    (case excS => k_exc)
    (case xS_ga => k_is)
    (case xS_gh => k_is)
    (case xS_cl => k_is)
    (case xS_mo => k_is)
    (case xS_mb => k_is)
    (case xS_mv => k_is)
    (case xS_mp => k_is)
    (case xS_ty => k_is)
    (case xSR => k_is)
    (case xSP => k_is)
    (case xSS => k_is)
    (case xSM => k_is)
    (case excM => k_exc)
    (case xM_ga => k_is)
    (case xM_gh => k_is)
    (case xM_cl => k_is)
    (case xM_mo => k_is)
    (case xM_mb => k_is)
    (case xM_mv => k_is)
    (case xM_mp => k_is)
    (case xM_ty => k_is)
    (case xMR => k_is)
    (case xMP => k_is)
    (case xMS => k_is)
    (case xMM => k_is)
    (case z_isinstance => k_is)
    (case z_len => k_is)
    (case z_int => k_is)
    (case z_bool => k_is)
    (case z_list => k_is)
    (case z_tuple => k_is)
    (case z_range => k_is)
    (case z_abs => k_is)
    (case z_sum => k_is)
    (case z_enumerate => k_is)
    (case z_all => k_is)
    (case z_min => k_is)
    (case z_zip => k_is)
    (case z_max => k_is)
    (case z_any => k_is)
    (case z_reversed => k_is)
    (case z_sorted => k_is)
    (case z_set => k_is)
#print axioms PySem.Challenge.cw_posthouses_k07_refused_holds
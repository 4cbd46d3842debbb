import PyProof.Rows.All
import Wide.All
import OpenK.AllK
import Wide.FinOn
import PyProof.EqAt
import PyProof.EqKinds
import PyProof.TupleCall
import KE.BitLaws
import Open.SpecLaws
import KE.OsHead
import KE.OsGo
import PySem.Challenge.RW_fairlines_s01_answers
section
set_option Elab.async false
set_option linter.all false
set_option maxRecDepth 100000
namespace L2
open PySem PySem.Spec PyProof.Rows
abbrev Key := Sum Int Str
def keyIs : Key → Value → Bool
  | .inl k, v => Value.isInt k v
  | .inr x, v => Value.isStrOf x v
def keyH (w : World) : Key → Int
  | .inl k => hashInt k
  | .inr x => hashStr w x
theorem keyIs_shape : ∀ {k : Key} {v : Value}, keyIs k v = true → (∃ i t, k = Sum.inl i ∧ v = Value.int i t) ∨ (∃ x t, k = Sum.inr x ∧ v = Value.str x t)
  | .inl i, v, h => by
    obtain ⟨t, e⟩ := Value.isInt_shape (k := i) (v := v) h
    exact .inl ⟨i, t, rfl, e⟩
  | .inr x, v, h => by
    obtain ⟨t, e⟩ := Value.isStrOf_shape (x := x) (v := v) h
    exact .inr ⟨x, t, rfl, e⟩
theorem key_ll (a b : Int) : decide ((Sum.inl a : Key) = Sum.inl b) = (a == b) := by
  by_cases e : a = b
  · subst e; simp
  · have h : ¬ (Sum.inl a : Key) = Sum.inl b := fun q => e (Sum.inl.inj q)
    rw [decide_eq_false h]
    exact (beq_eq_false_iff_ne.mpr e).symm
theorem key_rr (a b : Str) : decide ((Sum.inr a : Key) = Sum.inr b) = decide (a = b) := by
  by_cases e : a = b
  · subst e; simp
  · have h : ¬ (Sum.inr a : Key) = Sum.inr b := fun q => e (Sum.inr.inj q)
    rw [decide_eq_false h, decide_eq_false e]
theorem key_lr (a : Int) (b : Str) : decide ((Sum.inl a : Key) = Sum.inr b) = false := decide_eq_false (fun q => nomatch q)
theorem key_rl (a : Str) (b : Int) : decide ((Sum.inr a : Key) = Sum.inl b) = false := decide_eq_false (fun q => nomatch q)
def mixKind (prog : Program) (w : World) : PySem.KeyKind prog w Key where
  is := keyIs
  hash := keyH w
  inj := fun v a b ha hb => by
    rcases keyIs_shape ha with ⟨i, t, rfl, rfl⟩ | ⟨x, t, rfl, rfl⟩
    · rcases keyIs_shape hb with ⟨j, u, rfl, e⟩ | ⟨y, u, rfl, e⟩
      · injection e with e1 _; rw [e1]
      · exact nomatch e
    · rcases keyIs_shape hb with ⟨j, u, rfl, e⟩ | ⟨y, u, rfl, e⟩
      · exact nomatch e
      · injection e with e1 _; rw [e1]
  byValue := fun k v h => by
    rcases keyIs_shape h with ⟨i, t, rfl, rfl⟩ | ⟨x, t, rfl, rfl⟩ <;> rfl
  pyHash := fun hv h => by
    rcases keyIs_shape hv with ⟨i, t, rfl, rfl⟩ | ⟨x, t, rfl, rfl⟩
    · exact wpAny_pyHash_int h
    · exact wpAny_pyHash_str h
  eqBool := fun hu hv h => by
    rcases keyIs_shape hu with ⟨i, t, rfl, rfl⟩ | ⟨x, t, rfl, rfl⟩
    · rcases keyIs_shape hv with ⟨j, u, rfl, rfl⟩ | ⟨y, u, rfl, rfl⟩
      · rw [key_ll] at h; exact wpAny_eqBool_int h
      · rw [key_lr] at h; exact SeqAt.EqAt.int_str i t y u _ _ _ _ h
    · rcases keyIs_shape hv with ⟨j, u, rfl, rfl⟩ | ⟨y, u, rfl, rfl⟩
      · rw [key_rl] at h; exact SeqAt.EqAt.str_int x t j u _ _ _ _ h
      · rw [key_rr] at h; exact wpAny_eqBool_str h
  «strs» := fun k x t v h => by
    rcases keyIs_shape h with ⟨i, u, rfl, e⟩ | ⟨y, u, rfl, e⟩
    · exact nomatch e
    · injection e with e1 _
      subst e1
      cases v <;> rfl
end L2
namespace L2
open PySem PySem.Spec PyProof.Rows
inductive V where
  | non | bl (b : Bool) | int (i : Int) | str (x : Str) | byt (b : Array UInt8) | flt (b : UInt64) | ref (a : Addr) | ty (n : String)
  deriving DecidableEq
def RelV : V → Value → Prop
  | .non, u => u = Value.none
  | .bl b, u => u = Value.bool b
  | .int i, u => ∃ t, u = Value.int i t
  | .str x, u => ∃ t, u = Value.str x t
  | .byt b, u => ∃ t, u = Value.bytes b t
  | .flt b, u => ∃ t, u = Value.float b t
  | .ref a, u => u = Value.ref a
  | .ty n, u => u = Value.type n
abbrev Vals : List V → List Value → Prop := Paired RelV
theorem Vals.length {xs : List V} {us : List Value} (r : Vals xs us) : xs.length = us.length := Paired.length r
theorem Vals.get : ∀ {xs : List V} {us : List Value} {i : Nat} {x : V}, Vals xs us → xs[i]? = some x → ∃ u, us[i]? = some u ∧ RelV x u
  | _, _, _, _, .nil, e => by simp at e
  | _, _, 0, _, .cons r _, e => by simp at e; subst e; exact ⟨_, rfl, r⟩
  | _, _, i + 1, x, .cons _ t, e => by
    obtain ⟨u, h1, h2⟩ := Vals.get (i := i) (x := x) t (by simpa using e)
    exact ⟨u, by simpa using h1, h2⟩
theorem Vals.set {x : V} {u : Value} (r : RelV x u) : ∀ {xs : List V} {us : List Value} (i : Nat), Vals xs us → Vals (xs.set i x) (us.set i u)
  | _, _, _, .nil => .nil
  | _, _, 0, .cons _ t => .cons r t
  | _, _, i + 1, .cons q t => .cons q (Vals.set r i t)
theorem Vals.append : ∀ {xs ys : List V} {us ws : List Value}, Vals xs us → Vals ys ws → Vals (xs ++ ys) (us ++ ws)
  | _, _, _, _, .nil, s => s
  | _, _, _, _, .cons r t, s => .cons r (Vals.append t s)
theorem Vals.take : ∀ {xs : List V} {us : List Value} (n : Nat), Vals xs us → Vals (xs.take n) (us.take n)
  | _, _, 0, _ => .nil
  | _, _, _ + 1, .nil => .nil
  | _, _, n + 1, .cons r t => .cons r (Vals.take n t)
theorem Vals.drop : ∀ {xs : List V} {us : List Value} (n : Nat), Vals xs us → Vals (xs.drop n) (us.drop n)
  | _, _, 0, r => r
  | _, _, _ + 1, .nil => .nil
  | _, _, n + 1, .cons _ t => Vals.drop n t
def RelO : Option V → Option Value → Prop
  | some v, some u => RelV v u
  | none, none => True
  | _, _ => False
def KV {κ : Type} : List (κ × V) → List (κ × Value) → Prop := Paired fun (p : κ × V) (q : κ × Value) => p.1 = q.1 ∧ RelV p.2 q.2
def kV : Key → V
  | .inl i => .int i
  | .inr x => .str x
inductive HO where
  | lst (xs : List V)
  | tup (xs : List V)
  | dK (kvs : List (Key × V)) | dT (kvs : List (List Key × V))
  | set (S : Int → Bool) (n : Nat)
  | ins (C dx : Addr) (fs : List (Str × V))
  | own (x : Addr)
  | xd (fs : List (Str × V))
  | met (f x : Addr)
  | rng (lo hi : Int)
  | frz (o : Obj) (u : HO)
  | tbl (ps : Array Value)
  | ext (φ : Heap → Prop)
abbrev Hp := Addr → Option HO
def upd (H : Hp) (a : Addr) (o : HO) : Hp := fun b => if b = a then some o else H b
theorem upd_same {H : Hp} {a : Addr} {o : HO} : upd H a o a = some o := by unfold upd; rw [if_pos rfl]
theorem upd_ne {H : Hp} {a b : Addr} {o : HO} (h : b ≠ a) : upd H a o b = H b := by unfold upd; rw [if_neg h]
theorem upd_upd {H : Hp} {a : Addr} {o u : HO} : upd (upd H a o) a u = upd H a u := by
  funext b; unfold upd; split <;> rfl
theorem ne_of {H : Hp} {a b : Addr} {o u : HO} (h : H a = some o) (h' : H b = some u) (d : o ≠ u) : a ≠ b := by
  intro e; subst e; rw [h] at h'; exact d (Option.some.inj h')
theorem ne_of_none {H : Hp} {a b : Addr} {o : HO} (h : H a = some o) (h' : H b = none) : a ≠ b := by
  intro e; subst e; rw [h] at h'; cases h'
section
variable (P : Program) (w : World)
def ObjOk (H : Hp) (h : Heap) (a : Addr) : HO → Prop
  | .lst xs => xs.length ≤ sizeLine ∧ ∃ (its : List Value) (n : Nat), Vals xs its ∧ h.get? a = some { cls := .type "list", data := .seq its.toArray n }
  | .tup xs => xs.length ≤ sizeLine ∧ ∃ its : List Value, Vals xs its ∧ IsTup h a its.toArray
  | .dK kvs => kvs.length ≤ sizeLine ∧ (a == sysModules) = false ∧ ∃ vs, KV kvs vs ∧ h.DictOf (mixKind P w) a vs
  | .dT kvs => kvs.length ≤ sizeLine ∧ (a == sysModules) = false ∧ ∃ xs : List (List Key × Addr × Value),
      Paired (fun (p : List Key × V) (q : List Key × Addr × Value) => p.1 = q.1 ∧ H q.2.1 = some (.tup (p.1.map kV)) ∧ RelV p.2 q.2.2) kvs xs ∧
      ∃ o es ep, h.get? a = some o ∧ o.ExactDict ∧ o.data = .dict es ep ∧ es.toList = xs.map (entryOfKey (tupleKind (mixKind P w))) ∧ (xs.map (·.1)).Nodup
  | .set S n => h.SetOf (intKind P w) a S n
  | .ins C dx fs => H dx = some (.own a) ∧ fs.length ≤ 1000 ∧ dx ≠ a ∧ h.get? a = some (PySem.W.instObj C dx) ∧
      ∃ mA, h.Ns1 dx mA ∧ (∀ f, RelO (fs.lookup f) (mA f)) ∧ PySem.Within mA (fs.map (·.1))
  | .own _ => ∃ o, h.get? a = some o
  | .xd fs => ∃ mA, h.Ns1 a mA ∧ ∀ f, RelO (fs.lookup f) (mA f)
  | .rng lo hi => ∃ t u v, h.get? a = some { cls := .type "range", data := .fields #[.int lo t, .int hi u, .int 1 v] }
  | .frz o u => h.get? a = some o ∧ ObjOk H h a u
  | .tbl ps => h.get? a = some { cls := .none, data := .fields ps }
  | .met f x => h.get? a = some (PySem.W.methodObj (.ref f) (.ref x))
  | .ext φ => φ h ∧ (∃ o, h.get? a = some o) ∧ ∀ h1 h2 : Heap, φ h1 → (∀ o, h1.get? a = some o → h2.get? a = some o) → φ h2
def HOk (H : Hp) (h : Heap) : Prop := ∀ a o, H a = some o → ObjOk P w H h a o
end
section
variable {P : Program} {w : World} {H H' : Hp} {h h' : Heap} {a : Addr} {o : HO}
theorem ObjOk.lt (x : ObjOk P w H h a o) : a < h.objs.size := by
  cases o with
  | lst xs => obtain ⟨_, _, _, _, e⟩ := x; exact Heap.lt_size e
  | tup xs => obtain ⟨_, _, _, p⟩ := x; exact p.lt
  | dK kvs => obtain ⟨_, _, _, _, o, _, _, e, _⟩ := x; exact Heap.lt_size e
  | dT kvs => obtain ⟨_, _, _, _, o, _, _, e, _⟩ := x; exact Heap.lt_size e
  | set S n => obtain ⟨o, _, _, _, e, _⟩ := x; exact Heap.lt_size e
  | ins C dx fs => obtain ⟨_, _, _, e, _⟩ := x; exact Heap.lt_size e
  | own y => obtain ⟨_, e⟩ := x; exact Heap.lt_size e
  | xd fs => obtain ⟨_, ⟨_, _, _, e, _⟩, _⟩ := x; exact Heap.lt_size e
  | rng lo hi => obtain ⟨_, _, _, e⟩ := x; exact Heap.lt_size e
  | frz ob u => obtain ⟨e, _⟩ := x; exact Heap.lt_size e
  | tbl ps => exact Heap.lt_size (show h.get? a = some _ from x)
  | met f y => exact Heap.lt_size (show h.get? a = some _ from x)
  | ext φ => obtain ⟨_, ⟨_, e⟩, _⟩ := x; exact Heap.lt_size e
theorem Paired.mapP {α β : Type} {F G : α → β → Prop} : ∀ {l₁ : List α} {l₂ : List β}, Paired F l₁ l₂ → (∀ a b, F a b → G a b) → Paired G l₁ l₂
  | _, _, .nil, _ => .nil
  | _, _, .cons r t, f => .cons (f _ _ r) (Paired.mapP t f)
theorem ObjOk.stay (x : ObjOk P w H h a o) (k : ∀ b u, (b = a ∨ H b = some (.own a)) → h.get? b = some u → h'.get? b = some u)
    (ho : ∀ b, H b = some (.own a) → H' b = some (.own a)) (ht : ∀ b xs, H b = some (.tup xs) → H' b = some (.tup xs)) : ObjOk P w H' h' a o := by
  induction o with
  | lst xs => obtain ⟨z, its, n, r, e⟩ := x; exact ⟨z, its, n, r, k _ _ (.inl rfl) e⟩
  | tup xs => obtain ⟨z, its, r, ob, e, c⟩ := x; exact ⟨z, its, r, ob, k _ _ (.inl rfl) e, c⟩
  | dK kvs => obtain ⟨z, y, vs, r, ob, es, ep, e, c⟩ := x; exact ⟨z, y, vs, r, ob, es, ep, k _ _ (.inl rfl) e, c⟩
  | dT kvs =>
    obtain ⟨z, y, xs, r, ob, es, ep, e, c⟩ := x
    exact ⟨z, y, xs, Paired.mapP r fun p q z => ⟨z.1, ht _ _ z.2.1, z.2.2⟩, ob, es, ep, k _ _ (.inl rfl) e, c⟩
  | set S n => obtain ⟨ob, es, ep, t, e, c⟩ := x; exact ⟨ob, es, ep, t, k _ _ (.inl rfl) e, c⟩
  | ins C dx fs =>
    obtain ⟨d, z, ne, e, mA, ⟨od, es, ep, e2, c⟩, r⟩ := x
    exact ⟨ho _ d, z, ne, k _ _ (.inl rfl) e, mA, ⟨od, es, ep, k _ _ (.inr d) e2, c⟩, r⟩
  | own y => obtain ⟨ob, e⟩ := x; exact ⟨ob, k _ _ (.inl rfl) e⟩
  | xd fs => obtain ⟨mA, ⟨od, es, ep, e, c⟩, r⟩ := x; exact ⟨mA, ⟨od, es, ep, k _ _ (.inl rfl) e, c⟩, r⟩
  | rng lo hi => obtain ⟨t, u, v, e⟩ := x; exact ⟨t, u, v, k _ _ (.inl rfl) e⟩
  | frz ob u ih => obtain ⟨e, q⟩ := x; exact ⟨k _ _ (.inl rfl) e, ih q⟩
  | tbl ps =>
    have e : h.get? a = some { cls := .none, data := .fields ps } := x
    show h'.get? a = some { cls := .none, data := .fields ps }
    exact k a _ (.inl rfl) e
  | met f y =>
    have e : h.get? a = some (PySem.W.methodObj (.ref f) (.ref y)) := x
    show h'.get? a = some (PySem.W.methodObj (.ref f) (.ref y))
    exact k a _ (.inl rfl) e
  | ext φ => obtain ⟨p, ⟨o, e⟩, st⟩ := x; exact ⟨st _ _ p fun o q => k _ _ (.inl rfl) q, ⟨o, k _ _ (.inl rfl) e⟩, st⟩
theorem HOk.lt (x : HOk P w H h) (e : H a = some o) : a < h.objs.size := (x a o e).lt
theorem HOk.fresh (x : HOk P w H h) (e : h.objs.size ≤ a) : H a = none := by
  cases q : H a with
  | none => rfl
  | some u => exact absurd (Nat.lt_of_lt_of_le (x.lt q) e) (Nat.lt_irrefl _)
theorem HOk.kept (x : HOk P w H h) (k : ∀ b u, h.get? b = some u → h'.get? b = some u) : HOk P w H h' := fun a o e =>
  (x a o e).stay (fun b u _ q => k b u q) (fun _ q => q) fun _ _ q => q
theorem HOk.laid (x : HOk P w H h) (k : ∀ b u, h.get? b = some u → h'.get? b = some u) (hp : h.objs.size ≤ a) (new : ObjOk P w (upd H a o) h' a o) : HOk P w (upd H a o) h' := fun b u e => by
  have hn := x.fresh hp
  by_cases hb : b = a
  · subst hb; rw [upd_same] at e; cases e; exact new
  · rw [upd_ne hb] at e
    exact (x b u e).stay (fun c v _ q => k c v q) (fun c q => by rw [upd_ne (ne_of_none q hn)]; exact q) fun c xs q => by rw [upd_ne (ne_of_none q hn)]; exact q
end
def Rd (H : Hp) (a : Addr) (u : HO) : Prop := H a = some u ∨ ∃ o, H a = some (.frz o u)
theorem Rd.ok {P : Program} {w : World} {H : Hp} {h : Heap} {a : Addr} {u : HO} (r : Rd H a u) (x : HOk P w H h) : ObjOk P w H h a u := by
  rcases r with r | ⟨o, r⟩
  · exact x a u r
  · obtain ⟨_, q⟩ := x a _ r
    exact q
def Mut : Option HO → Prop
  | some (.lst _) => True
  | some (.dK _) => True
  | some (.dT _) => True
  | some (.set _ _) => True
  | some (.ins _ _ _) => True
  | some (.ext _) => True
  | _ => False
section
variable {P : Program} {w : World} {H : Hp} {h h' : Heap} {x e : Addr} {o' : HO}
theorem HOk.write (ok : HOk P w H h) (mu : Mut (H x)) (he : e = x ∨ H e = some (.own x)) (k : ∀ b u, b ≠ e → h.get? b = some u → h'.get? b = some u) (heo : ∃ u, h'.get? e = some u)
    (new : ObjOk P w (upd H x o') h' x o') : HOk P w (upd H x o') h' := fun b u q => by
  have nown : ∀ c y, H c = some (.own y) → c ≠ x := fun c y r z => by subst z; rw [r] at mu; exact mu
  have ntup : ∀ c xs, H c = some (.tup xs) → c ≠ x := fun c xs r z => by subst z; rw [r] at mu; exact mu
  by_cases hb : b = x
  · subst hb; rw [upd_same] at q; cases q; exact new
  · rw [upd_ne hb] at q
    by_cases hbe : b = e
    · have q' : H b = some (.own x) := by
        rcases he with z | z
        · exact absurd (hbe.trans z) hb
        · rw [hbe]; exact z
      rw [q] at q'; cases q'
      obtain ⟨v, hv⟩ := heo
      exact ⟨v, by rw [hbe]; exact hv⟩
    · refine (ok b u q).stay (fun c v hc r => k c v ?_ r) (fun c r => by rw [upd_ne (nown c b r)]; exact r) fun c xs r => by rw [upd_ne (ntup c xs r)]; exact r
      rcases hc with rfl | hc
      · exact hbe
      · rintro rfl
        rcases he with z | z
        · exact nown c b hc z
        · rw [hc] at z; cases z; exact hb rfl
end
structure Un (fs ex : List Addr) (H H' : Hp) (h h' : Heap) : Prop where
  keep : ∀ b o, h.get? b = some o → H b = none → b ∉ fs → b ∉ ex → h'.get? b = some o
  slot : ∀ b o, h.get? b = some o → H b = none → b ∈ fs → b ∉ ex → ∃ sl, h'.get? b = some { o with slots := sl }
  free : ∀ b o, h.get? b = some o → H b = none → b ∉ ex → H' b = none
  there : ∀ b o, h.get? b = some o → b ∉ ex → ∃ o', h'.get? b = some o'
  tups : ∀ b xs, H b = some (.tup xs) → H' b = some (.tup xs)
  frzs : ∀ b o u, H b = some (.frz o u) → H' b = some (.frz o u)
  tbls : ∀ b ps, H b = some (.tbl ps) → ∃ more, H' b = some (.tbl (ps ++ more))
section
variable {fs fs' ex ex' : List Addr} {H H1 H2 : Hp} {h h1 h2 h' : Heap} {a x e : Addr} {o : HO}
theorem Un.any (u : Un fs ex H H1 h h1) {b : Addr} {ob : Obj} (q : h.get? b = some ob) (n : H b = none) (hx : b ∉ ex) : ∃ sl, h1.get? b = some { ob with slots := sl } := by
  by_cases hb : b ∈ fs
  · exact u.slot b ob q n hb hx
  · exact ⟨ob.slots, u.keep b ob q n hb hx⟩
theorem Un.kept (k : ∀ b u, h.get? b = some u → h'.get? b = some u) : Un fs ex H H h h' :=
  ⟨fun b ob q _ _ _ => k b ob q, fun b ob q _ _ _ => ⟨ob.slots, k b ob q⟩, fun _ _ _ n _ => n, fun b ob q _ => ⟨ob, k b ob q⟩, fun _ _ q => q, fun _ _ _ q => q, fun _ ps q => ⟨#[], by rw [q]; simp⟩⟩
theorem Un.refl : Un fs ex H H h h := Un.kept fun _ _ q => q
theorem Un.laid (k : ∀ b u, h.get? b = some u → h'.get? b = some u) (hp : h.objs.size ≤ a) (hn : H a = none) : Un fs ex H (upd H a o) h h' where
  keep := fun b u q _ _ _ => k b u q
  slot := fun b u q _ _ _ => ⟨u.slots, k b u q⟩
  free := fun b u q n _ => by rw [upd_ne (Nat.ne_of_lt (Nat.lt_of_lt_of_le (Heap.lt_size q) hp))]; exact n
  there := fun b u q _ => ⟨u, k b u q⟩
  tups := fun b xs q => by rw [upd_ne (ne_of_none q hn)]; exact q
  frzs := fun b u xs q => by rw [upd_ne (ne_of_none q hn)]; exact q
  tbls := fun b ps q => ⟨#[], by rw [upd_ne (ne_of_none q hn), q]; simp⟩
theorem Un.write (mu : Mut (H x)) (he : e = x ∨ H e = some (.own x)) (k : ∀ b u, b ≠ e → h.get? b = some u → h'.get? b = some u) (heo : ∃ u, h'.get? e = some u) : Un fs ex H (upd H x o) h h' := by
  have hx : ∀ b, H b = none → b ≠ x := fun b n z => by subst z; rw [n] at mu; exact mu
  have hb : ∀ b, H b = none → b ≠ e := fun b n z => by
    subst z
    rcases he with r | r
    · exact hx b n r
    · rw [n] at r; cases r
  have hm : ∀ b u, H b = some u → ¬ Mut (some u) → b ≠ x := fun b u q nm z => by subst z; rw [q] at mu; exact nm mu
  refine ⟨fun b u q n _ _ => k b u (hb b n) q, fun b u q n _ _ => ⟨u.slots, k b u (hb b n) q⟩, fun b u q n _ => by rw [upd_ne (hx b n)]; exact n, fun b u q _ => ?_,
    fun b xs q => by rw [upd_ne (hm b _ q fun z => z)]; exact q, fun b u xs q => by rw [upd_ne (hm b _ q fun z => z)]; exact q, fun b ps q => ⟨#[], by rw [upd_ne (hm b _ q fun z => z), q]; simp⟩⟩
  by_cases hbe : b = e
  · subst hbe; exact heo
  · exact ⟨u, k b u hbe q⟩
end
def trk (h : Heap) (H : Hp) : List Addr := (List.range h.objs.size).filter fun a => (H a).isSome
def hidT (h : Heap) (H : Hp) : Heap := PySem.W.hideAll h (trk h H)
theorem hidT_size (h : Heap) (H : Hp) : (hidT h H).objs.size = h.objs.size := PySem.W.hideAll_size _ _
theorem hidT_get {h : Heap} {H : Hp} {b : Addr} {o : Obj} (e : h.get? b = some o) (n : H b = none) : (hidT h H).get? b = some o :=
  PySem.W.hideAll_get _ e fun hm => by
    have q : (H b).isSome = true := (List.mem_filter.mp hm).2
    rw [n] at q; simp at q
theorem of_hidT {h : Heap} {H : Hp} {b : Addr} {o : Obj} (e : (hidT h H).get? b = some o) : h.get? b = some o ∧ H b = none := by
  have e' : h.get? b = some o := PySem.W.of_hideAll (trk h H) e
  refine ⟨e', ?_⟩
  cases q : H b with
  | none => rfl
  | some x =>
    have hm : b ∈ trk h H := List.mem_filter.mpr ⟨List.mem_range.mpr (Heap.lt_size e'), by simp [q]⟩
    have z : (hidT h H).get? b = none := PySem.W.hideAll_none (trk h H) hm
    rw [z] at e; cases e
end L2
namespace L2
open PySem PySem.Spec PyProof.Rows
structure Mod (K : PySem.W.Frag) (mg : Str → Option Value) (base : Heap) : Prop where
  kin : K.In base
  glob : base.Ns mainGlobals mg
  blt : ∃ mb, base.Ns builtinsNs mb ∧ ∀ x : Str, x ≠ "__name__" → mb x = bootBuiltins x
  nolimit : base.NoLimit
structure Cx where
  prog : Program
  w : World
  K : PySem.W.Frag
  mg : Str → Option Value
  base : Heap
  A : Around
  N : List Str
  s_0 : Shared
  H_0 : Hp
  env : Env
  outer : List Env
  stack : List Env
  ex : List Addr
  fn : Str → Bool
  calm : Bool
  pn : List (Addr × Obj)
  xe : Value → Shared → Prop
def frs (l : List Env) : List Addr := l.filterMap (·.frame)
abbrev Cx.fs (X : Cx) : List Addr := frs X.outer
def Vis (sc : Scope) (x : Str) : Prop := sc.names.lookup x = some .local ∨ sc.names.lookup x = some .cell ∨ sc.names.lookup x = some .free
def Loc (sc : Scope) (x : Str) : Prop := sc.names.lookup x = some .local ∨ sc.names.lookup x = some .cell
def Look (env : Env) (h : Heap) (m : Str → Option Value) (x : Str) (u : Value) : Prop :=
  (env.kindOf x = some .local ∧ m x = some u) ∨ ((env.kindOf x = some .cell ∨ env.kindOf x = some .free) ∧ ∃ c, env.cells.lookup x = some c ∧ h.IsCell c (some u))
structure Cx.Ok (X : Cx) : Prop where
  mod : Mod X.K X.mg X.base
  kind : X.env.scope.kind = .function
  glob : X.env.globals = mainGlobals
  blt : X.env.builtins = builtinsNs
  above : X.s_0.heap.objs.size ≤ X.env.locals
  inj : ∀ x y c, X.env.cells.lookup x = some c → X.env.cells.lookup y = some c → x = y
  has : ∀ x, (X.env.kindOf x = some .cell ∨ X.env.kindOf x = some .free) → ∃ c, X.env.cells.lookup x = some c
  cab : ∀ x c, X.fn x = true → X.env.cells.lookup x = some c → X.s_0.heap.objs.size ≤ c
  hd : X.calm = true → X.A.handled = none
  frames : X.A.frames = some X.stack
  stk : X.stack = X.outer ∨ (X.stack = X.env :: X.outer ∧ X.env.frame = some X.env.locals)
  exf : ∀ b ∈ X.ex, b ≠ X.env.locals ∧ ∀ x c, X.env.cells.lookup x = some c → c ≠ b
  bs : ∀ b o, X.base.get? b = some o → X.s_0.heap.get? b = some o ∧ X.H_0 b = none
  bsz : X.base.objs.size ≤ X.s_0.heap.objs.size
  noex : ∀ b o, X.base.get? b = some o → b ∉ X.ex
  exfs : ∀ b ∈ X.ex, b ∉ X.fs
  funs : X.s_0.heap.FunFrames X.base X.outer
  frf : ∀ b ∈ X.fs, X.H_0 b = none
structure Inv (X : Cx) (pins : List (Addr × Obj)) (σ : List (Option V)) (H : Hp) (s : Shared) : Prop where
  ok : X.Ok
  os : s.os = X.s_0.os
  bare : AllBare s.gens
  base : Un X.fs X.ex X.H_0 H X.s_0.heap s.heap
  loc : ∃ m, s.heap.Ns X.env.locals m ∧ ∀ (i : Nat) (x : Str) (v : V), X.N[i]? = some x → σ[i]? = some (some v) → Vis X.env.scope x → ∃ u, RelV v u ∧ Look X.env s.heap m x u
  cell : ∀ x c, X.env.cells.lookup x = some c → ∃ v, s.heap.IsCell c v
  free : H X.env.locals = none
  freeC : ∀ x c, X.env.cells.lookup x = some c → H c = none
  pin : ∀ p ∈ X.pn ++ pins, s.heap.get? p.1 = some p.2 ∧ H p.1 = none ∧ p.1 ≠ X.env.locals ∧ p.1 ∉ X.fs ∧ ∀ v, p.2.data ≠ .cell v
  hok : HOk X.prog X.w H s.heap
  len : σ.length = X.N.length
section
variable {X : Cx} {pins : List (Addr × Obj)} {σ : List (Option V)} {H H' : Hp} {s : Shared} {h' : Heap}
theorem Cx.Ok.nofr (ok : X.Ok) {b : Addr} {o : Obj} (e : X.base.get? b = some o) : b ∉ X.fs := fun hb => by
  have := (ok.funs.mem hb).1
  rw [e] at this; cases this
theorem Inv.bs (I : Inv X pins σ H s) : ∀ b o, X.base.get? b = some o → s.heap.get? b = some o ∧ H b = none := fun b o e =>
  ⟨I.base.keep b o (I.ok.bs b o e).1 (I.ok.bs b o e).2 (I.ok.nofr e) (I.ok.noex b o e), I.base.free b o (I.ok.bs b o e).1 (I.ok.bs b o e).2 (I.ok.noex b o e)⟩
theorem Inv.bk (I : Inv X pins σ H s) : ∀ b o, X.base.get? b = some o → s.heap.get? b = some o := fun b o e => (I.bs b o e).1
theorem Inv.mod (I : Inv X pins σ H s) : Mod X.K X.mg X.base := I.ok.mod
theorem Inv.kIn (I : Inv X pins σ H s) : X.K.In s.heap := I.ok.mod.kin.keeps I.bk
theorem Inv.lt (I : Inv X pins σ H s) : X.env.locals < s.heap.objs.size := let ⟨_, hn, _⟩ := I.loc; hn.lt
theorem Inv.sz (I : Inv X pins σ H s) : X.s_0.heap.objs.size ≤ s.heap.objs.size := Nat.le_trans I.ok.above (Nat.le_of_lt I.lt)
theorem Inv.nofs (I : Inv X pins σ H s) {a : Addr} (h : s.heap.objs.size ≤ a) : a ∉ X.fs := fun hb => by
  obtain ⟨_, o, ho, _⟩ := I.ok.funs.mem hb
  exact absurd (Nat.lt_of_lt_of_le (Heap.lt_size ho) (Nat.le_trans I.sz h)) (Nat.lt_irrefl _)
theorem Inv.cne (I : Inv X pins σ H s) : ∀ x c, X.env.cells.lookup x = some c → c ≠ X.env.locals := fun x c e z => by
  obtain ⟨v, o, ho, hd⟩ := I.cell x c e
  obtain ⟨m, ⟨o', es, ep, ho', hd', _⟩, _⟩ := I.loc
  rw [z, ho'] at ho; cases ho; rw [hd'] at hd; cases hd
theorem Inv.funs (I : Inv X pins σ H s) : s.heap.FunFrames X.base X.outer := by
  have all : ∀ (l : List Env), (∀ b ∈ frs l, b ∈ X.fs) → X.s_0.heap.FunFrames X.base l → s.heap.FunFrames X.base l := by
    intro l
    induction l with
    | nil => intro _ _; trivial
    | cons env r ih =>
      intro hs hl
      obtain ⟨hk, ⟨L, o, hf, hn, ho, hd⟩, hr⟩ := hl
      have hL : L ∈ X.fs := hs L (by unfold frs; rw [List.filterMap_cons, hf]; exact List.mem_cons_self)
      obtain ⟨sl, e⟩ := I.base.slot L o ho (I.ok.frf L hL) hL fun z => I.ok.exfs L z hL
      exact ⟨hk, ⟨L, _, hf, hn, e, hd⟩, ih (fun b hb => hs b (by unfold frs; rw [List.filterMap_cons, hf]; exact List.mem_cons_of_mem _ hb)) hr⟩
  exact all X.outer (fun _ hb => hb) I.ok.funs
theorem Inv.stack (I : Inv X pins σ H s) : s.heap.FunFrames X.base X.stack := by
  rcases I.ok.stk with e | ⟨e, hf⟩
  · rw [e]; exact I.funs
  · rw [e]
    obtain ⟨m, hn, _⟩ := I.loc
    refine .cons (by rw [I.ok.kind]; decide) hf hn ?_ I.funs
    exact Heap.get?_none_of_le (Nat.le_trans I.ok.bsz I.ok.above)
theorem Inv.stkSub (I : Inv X pins σ H s) : ∀ b ∈ frs X.stack, b ∈ X.env.locals :: X.fs := fun b hb => by
  rcases I.ok.stk with e | ⟨e, hf⟩
  · rw [e] at hb; exact List.mem_cons_of_mem _ hb
  · rw [e] at hb
    unfold frs at hb
    rw [List.filterMap_cons, hf] at hb
    exact hb
theorem Inv.stkFree (I : Inv X pins σ H s) : ∀ b ∈ frs X.stack, H b = none := fun b hb => by
  rcases List.mem_cons.mp (I.stkSub b hb) with e | hb
  · rw [e]; exact I.free
  · obtain ⟨_, o, ho, _⟩ := I.ok.funs.mem hb
    exact I.base.free b o ho (I.ok.frf b hb) fun z => I.ok.exfs b z hb
theorem Inv.step {g' : Array GenState} {t' : Nat} {d' : Drawn} {ch : List Addr} (I : Inv X pins σ H s)
    (hch : ∀ b ∈ ch, (b ∈ X.ex ∨ X.s_0.heap.objs.size ≤ b) ∧ b ≠ X.env.locals ∧ (∀ x c, X.env.cells.lookup x = some c → c ≠ b) ∧ ∀ p ∈ X.pn ++ pins, p.1 ≠ b)
    (keep : ∀ b o, b ≠ X.env.locals → b ∉ X.fs → b ∉ ch → s.heap.get? b = some o → H b = none → h'.get? b = some o)
    (slot : ∀ b o, b ≠ X.env.locals → b ∈ X.fs → b ∉ ch → s.heap.get? b = some o → H b = none → ∃ sl, h'.get? b = some { o with slots := sl }) (free : ∀ b o, b ∉ ch → s.heap.get? b = some o → H b = none → H' b = none)
    (there : ∀ b o, b ∉ ch → s.heap.get? b = some o → ∃ o', h'.get? b = some o')
    (tups : ∀ b xs, H b = some (.tup xs) → H' b = some (.tup xs)) (frzs : ∀ b o u, H b = some (.frz o u) → H' b = some (.frz o u)) (tbls : ∀ b ps, H b = some (.tbl ps) → ∃ more, H' b = some (.tbl (ps ++ more)))
    (ns : ∀ m, s.heap.Ns X.env.locals m → h'.Ns X.env.locals m) (hok : HOk X.prog X.w H' h') (hg : AllBare g') :
    Inv X pins σ H' { s with heap := h', gens := g', drawn := d', toks := t' } := by
  have neL : ∀ b o, X.s_0.heap.get? b = some o → b ≠ X.env.locals := fun b o e => Nat.ne_of_lt (Nat.lt_of_lt_of_le (Heap.lt_size e) I.ok.above)
  have neC : ∀ b o, X.s_0.heap.get? b = some o → b ∉ X.ex → b ∉ ch := fun b o e hx hb => by
    rcases (hch b hb).1 with z | z
    · exact hx z
    · exact absurd (Nat.lt_of_lt_of_le (Heap.lt_size e) z) (Nat.lt_irrefl _)
  have cellK : ∀ x c, X.env.cells.lookup x = some c → ∀ v, s.heap.IsCell c v → h'.IsCell c v := fun x c e v ⟨o, ho, hd⟩ => by
    have nch : c ∉ ch := fun z => (hch c z).2.2.1 x c e rfl
    by_cases hc : c ∈ X.fs
    · obtain ⟨sl, q⟩ := slot c o (I.cne x c e) hc nch ho (I.freeC x c e)
      exact ⟨_, q, hd⟩
    · exact ⟨o, keep c o (I.cne x c e) hc nch ho (I.freeC x c e), hd⟩
  refine ⟨I.ok, I.os, hg, ⟨fun b o e n hb hx => ?_, fun b o e n hb hx => ?_, fun b o e n hx => ?_, fun b o e hx => ?_, fun b xs e => tups b xs (I.base.tups b xs e), fun b o xs e => frzs b o xs (I.base.frzs b o xs e), fun b ps e => ?_⟩, ?_, fun x c e => ?_, ?_, fun x c e => ?_, fun p hp => ?_, hok, I.len⟩
  · exact keep b o (neL b o e) hb (neC b o e hx) (I.base.keep b o e n hb hx) (I.base.free b o e n hx)
  · obtain ⟨sl, e1⟩ := I.base.slot b o e n hb hx
    obtain ⟨sl', e2⟩ := slot b _ (neL b o e) hb (neC b o e hx) e1 (I.base.free b o e n hx)
    exact ⟨sl', e2⟩
  · obtain ⟨o', e1⟩ := I.base.there b o e hx
    exact free b o' (neC b o e hx) e1 (I.base.free b o e n hx)
  · obtain ⟨o', e1⟩ := I.base.there b o e hx
    exact there b o' (neC b o e hx) e1
  · obtain ⟨m1, e1⟩ := I.base.tbls b ps e
    obtain ⟨m2, e2⟩ := tbls b _ e1
    exact ⟨m1 ++ m2, by rw [e2, Array.append_assoc]⟩
  · obtain ⟨m, hn, hl⟩ := I.loc
    refine ⟨m, ns m hn, fun i x v e1 e2 e3 => ?_⟩
    obtain ⟨u, r, l⟩ := hl i x v e1 e2 e3
    refine ⟨u, r, ?_⟩
    rcases l with l | ⟨k, c, e, z⟩
    · exact .inl l
    · exact .inr ⟨k, c, e, cellK x c e _ z⟩
  · obtain ⟨v, z⟩ := I.cell x c e
    exact ⟨v, cellK x c e v z⟩
  · obtain ⟨m, ⟨o, _, _, ho, _⟩, _⟩ := I.loc
    exact free _ o (fun z => (hch _ z).2.1 rfl) ho I.free
  · obtain ⟨v, o, ho, hd⟩ := I.cell x c e
    exact free c o (fun z => (hch c z).2.2.1 x c e rfl) ho (I.freeC x c e)
  · obtain ⟨e, n, ne, nf, d⟩ := I.pin p hp
    have nch : p.1 ∉ ch := fun z => (hch p.1 z).2.2.2 p hp rfl
    exact ⟨keep p.1 p.2 ne nf nch e n, free p.1 p.2 nch e n, ne, nf, d⟩
theorem Inv.un {t' : Nat} (I : Inv X pins σ H s) (u : Un X.fs [] H H' s.heap h') (hok : HOk X.prog X.w H' h') : Inv X pins σ H' { s with heap := h', toks := t' } := by
  obtain ⟨m, ⟨o, es, ep, ho, r⟩, _⟩ := id I.loc
  obtain ⟨sl, hL⟩ := u.any ho I.free (by simp)
  exact I.step (g' := s.gens) (d' := s.drawn) (ch := []) (fun _ z => nomatch z) (fun b o _ hb _ e n => u.keep b o e n hb (by simp)) (fun b o _ hb _ e n => u.slot b o e n hb (by simp)) (fun b o _ e n => u.free b o e n (by simp)) (fun b o _ e => u.there b o e (by simp)) u.tups u.frzs u.tbls (fun m' hm => by
    obtain ⟨o', es', ep', ho', r'⟩ := hm
    rw [ho] at ho'; cases ho'
    exact ⟨_, es', ep', hL, r'⟩) hok I.bare
theorem Inv.call {g' : Array GenState} {t' : Nat} {d' : Drawn} {ch : List Addr} (I : Inv X pins σ H s) (u : Un (frs X.stack) ch H H' s.heap h') (hok : HOk X.prog X.w H' h') (hg : AllBare g')
    (hch : ∀ b ∈ ch, (b ∈ X.ex ∨ X.s_0.heap.objs.size ≤ b) ∧ b ≠ X.env.locals ∧ (∀ x c, X.env.cells.lookup x = some c → c ≠ b) ∧ ∀ p ∈ X.pn ++ pins, p.1 ≠ b) :
    Inv X pins σ H' { s with heap := h', gens := g', drawn := d', toks := t' } := by
  obtain ⟨m, ⟨o, es, ep, ho, r⟩, _⟩ := id I.loc
  obtain ⟨sl, hL⟩ := u.any ho I.free fun z => (hch _ z).2.1 rfl
  exact I.step (ch := ch) hch (fun b o hL hb hc e n => u.keep b o e n (fun z => (List.mem_cons.mp (I.stkSub b z)).elim hL hb) hc) (fun b o _ _ hc e n => u.any e n hc) (fun b o hc e n => u.free b o e n hc) (fun b o hc e => u.there b o e hc) u.tups u.frzs u.tbls (fun m' hm => by
    obtain ⟨o', es', ep', ho', r'⟩ := hm
    rw [ho] at ho'; cases ho'
    exact ⟨_, es', ep', hL, r'⟩) hok hg
theorem Inv.turned {t' : Nat} {it : Addr} (I : Inv X pins σ H s) (k : ∀ b o, b ≠ it → s.heap.get? b = some o → h'.get? b = some o) (hn : H it = none) (hL : it ≠ X.env.locals)
    (h1 : it ∈ X.ex ∨ X.s_0.heap.objs.size ≤ it) (h2 : ∀ x c, X.env.cells.lookup x = some c → c ≠ it) (h3 : ∀ p ∈ X.pn ++ pins, p.1 ≠ it) : Inv X pins σ H { s with heap := h', toks := t' } := by
  have nit : ∀ b u, H b = some u → b ≠ it := fun b u e z => by rw [z, hn] at e; cases e
  refine I.step (g' := s.gens) (d' := s.drawn) (ch := [it]) (fun b hb => ?_) (fun b o _ _ hc e _ => k b o (fun z => hc (by simp [z])) e) (fun b o _ _ hc e _ => ⟨o.slots, k b o (fun z => hc (by simp [z])) e⟩) (fun _ _ _ _ n => n)
    (fun b o hc e => ⟨o, k b o (fun z => hc (by simp [z])) e⟩) (fun _ _ e => e) (fun _ _ _ e => e) (fun b ps e => ⟨#[], by rw [e]; simp⟩) (fun m hm => ?_) (fun b u e => ?_) I.bare
  · have e : b = it := by simpa using hb
    subst e
    exact ⟨h1, hL, h2, h3⟩
  · obtain ⟨o, es, ep, ho, r⟩ := hm
    exact ⟨o, es, ep, k _ o (Ne.symm hL) ho, r⟩
  · refine (I.hok b u e).stay (fun c v hc q => k c v ?_ q) (fun _ q => q) fun _ _ q => q
    rcases hc with z | z
    · rw [z]; exact nit b u e
    · exact nit c _ z
theorem Inv.tok (I : Inv X pins σ H s) (t : Nat) : Inv X pins σ H { s with toks := t } := I.un (h' := s.heap) (t' := t) Un.refl I.hok
theorem Inv.kept {t' : Nat} (I : Inv X pins σ H s) (k : ∀ b u, s.heap.get? b = some u → h'.get? b = some u) : Inv X pins σ H { s with heap := h', toks := t' } := I.un (Un.kept k) (I.hok.kept k)
theorem Inv.laid {a : Addr} {o : HO} {t' : Nat} (I : Inv X pins σ H s) (k : ∀ b u, s.heap.get? b = some u → h'.get? b = some u) (hp : s.heap.objs.size ≤ a) (new : ObjOk X.prog X.w (upd H a o) h' a o) :
    Inv X pins σ (upd H a o) { s with heap := h', toks := t' } := I.un (Un.laid k hp (I.hok.fresh hp)) (I.hok.laid k hp new)
theorem Inv.write {x e : Addr} {o : HO} {t' : Nat} (I : Inv X pins σ H s) (mu : Mut (H x)) (he : e = x ∨ H e = some (.own x)) (k : ∀ b u, b ≠ e → s.heap.get? b = some u → h'.get? b = some u) (heo : ∃ u, h'.get? e = some u)
    (new : ObjOk X.prog X.w (upd H x o) h' x o) : Inv X pins σ (upd H x o) { s with heap := h', toks := t' } := I.un (Un.write mu he k heo) (I.hok.write mu he k heo new)
theorem Inv.weak {σ' : List (Option V)} (I : Inv X pins σ H s) (hl : σ'.length = σ.length) (w : ∀ (i : Nat) v, σ'[i]? = some (some v) → σ[i]? = some (some v)) : Inv X pins σ' H s :=
  ⟨I.ok, I.os, I.bare, I.base, let ⟨m, hn, hl'⟩ := I.loc; ⟨m, hn, fun i x v e1 e2 e3 => hl' i x v e1 (w i v e2) e3⟩, I.cell, I.free, I.freeC, I.pin, I.hok, hl.trans I.len⟩
theorem Inv.pins_of {pins' : List (Addr × Obj)} (I : Inv X pins σ H s) (h : ∀ p ∈ pins', s.heap.get? p.1 = some p.2 ∧ H p.1 = none ∧ p.1 ≠ X.env.locals ∧ p.1 ∉ X.fs ∧ ∀ v, p.2.data ≠ .cell v) : Inv X pins' σ H s :=
  ⟨I.ok, I.os, I.bare, I.base, I.loc, I.cell, I.free, I.freeC, fun p hp => (List.mem_append.mp hp).elim (fun z => I.pin p (List.mem_append_left _ z)) (h p), I.hok, I.len⟩
theorem nodup_ix {N : List Str} (hN : N.Nodup) {i j : Nat} {x : Str} (a : N[i]? = some x) (b : N[j]? = some x) : i = j := by
  obtain ⟨h1, e1⟩ := List.getElem?_eq_some_iff.mp a
  obtain ⟨h2, e2⟩ := List.getElem?_eq_some_iff.mp b
  exact (List.getElem_inj hN).mp (e1.trans e2.symm)
theorem store_ok2 {M : Model} {A : Around} {E : Value → Shared → Prop} {i : Nat} {x : Str} {v : V} {u : Value} {Q : Unit → Shared → Prop} (I : Inv X pins σ H s) (hN : X.N.Nodup) (hi : X.N[i]? = some x) (hx : Loc X.env.scope x) (r : RelV v u)
    (h : ∀ s', Inv X pins (σ.set i (some v)) H s' → (∃ a, Heap.SameBut a s.heap s'.heap ∧ (a = X.env.locals ∨ X.env.cells.lookup x = some a)) → Q () s') (hf : X.fn x = true ∨ X.env.scope.names.lookup x = some .local := by first | exact .inl rfl | exact .inr rfl | assumption) : wpAny M A (storeName X.env x u) Q E s := by
  obtain ⟨m, hn, hl⟩ := id I.loc
  have hcls : (X.env.scope.kind == .class || (X.env.scope.kind == .module && X.env.locals != X.env.globals)) = false := by rw [I.ok.kind]; rfl
  have hiσ : i < σ.length := by rw [I.len]; exact (List.getElem?_eq_some_iff.mp hi).1
  have cne := I.cne
  have tracked : ∀ {a : Addr} {h' : Heap}, (∃ o, s.heap.get? a = some o ∧ H a = none) → Heap.SameBut a s.heap h' → HOk X.prog X.w H h' := fun {a h'} ha hs b ob e => by
    obtain ⟨_, _, hfree⟩ := ha
    refine (I.hok b ob e).stay (fun c w' hc q => (hs.2 c ?_).trans q) (fun _ q => q) fun _ _ q => q
    rintro rfl
    rcases hc with rfl | hc
    · rw [hfree] at e; cases e
    · rw [hfree] at hc; cases hc
  rcases hx with hk | hk
  · refine wpAny_storeName_local hk hn (fun h' hn' hs => ?_) hcls
    obtain ⟨oL, _, _, hoL, _⟩ := id hn
    refine h _ ⟨I.ok, I.os, I.bare, ⟨fun b o e n hb hx => ?_, fun b o e n hb hx => ?_, I.base.free, fun b o e hx => ?_, I.base.tups, I.base.frzs, I.base.tbls⟩, ⟨_, hn', fun j y v' e1 e2 e3 => ?_⟩, fun y c e => ?_, I.free, I.freeC, fun p hp => ?_, tracked ⟨oL, hoL, I.free⟩ hs, by simpa using I.len⟩ ⟨_, hs, .inl rfl⟩
    · exact (hs.2 b (Nat.ne_of_lt (Nat.lt_of_lt_of_le (Heap.lt_size e) I.ok.above))).trans (I.base.keep b o e n hb hx)
    · obtain ⟨sl, e1⟩ := I.base.slot b o e n hb hx
      exact ⟨sl, (hs.2 b (Nat.ne_of_lt (Nat.lt_of_lt_of_le (Heap.lt_size e) I.ok.above))).trans e1⟩
    · obtain ⟨o', e1⟩ := I.base.there b o e hx
      exact ⟨o', (hs.2 b (Nat.ne_of_lt (Nat.lt_of_lt_of_le (Heap.lt_size e) I.ok.above))).trans e1⟩
    · by_cases hj : j = i
      · subst hj
        rw [hi] at e1; cases e1
        rw [List.getElem?_set_self hiσ] at e2
        cases e2
        exact ⟨u, r, .inl ⟨hk, by simp⟩⟩
      · rw [List.getElem?_set_ne (Ne.symm hj)] at e2
        obtain ⟨u', r', q⟩ := hl j y v' e1 e2 e3
        refine ⟨u', r', ?_⟩
        rcases q with ⟨k, e⟩ | ⟨k, c, e, z⟩
        · refine .inl ⟨k, ?_⟩
          have : y ≠ x := fun e => hj (nodup_ix hN e1 (e ▸ hi))
          simp [this, e]
        · exact .inr ⟨k, c, e, z.sameBut hs (cne y c e)⟩
    · obtain ⟨w', z⟩ := I.cell y c e
      exact ⟨w', z.sameBut hs (cne y c e)⟩
    · obtain ⟨e, n, ne, nf, d⟩ := I.pin p hp
      exact ⟨(hs.2 p.1 ne).trans e, n, ne, nf, d⟩
  · have hfn : X.fn x = true := by
      rcases hf with z | z
      · exact z
      · rw [z] at hk; cases hk
    obtain ⟨c, hc⟩ := I.ok.has x (.inl hk)
    obtain ⟨w', z⟩ := I.cell x c hc
    refine wpAny_storeName_cell I.ok.kind hk hc z (fun h' hc' hs => ?_)
    obtain ⟨oc, hoc, hocd⟩ := id z
    refine h { s with heap := h' } ⟨I.ok, I.os, I.bare, ⟨fun b o e n hb hx => ?_, fun b o e n hb hx => ?_, I.base.free, fun b o e hx => ?_, I.base.tups, I.base.frzs, I.base.tbls⟩, ⟨m, hn.sameBut hs (Ne.symm (cne x c hc)), fun j y v' e1 e2 e3 => ?_⟩, fun y c' e => ?_, I.free, I.freeC, fun p hp => ?_, tracked ⟨oc, hoc, I.freeC x c hc⟩ hs, by simpa using I.len⟩ ⟨c, hs, .inr hc⟩
    · exact (hs.2 b (Nat.ne_of_lt (Nat.lt_of_lt_of_le (Heap.lt_size e) (I.ok.cab x c hfn hc)))).trans (I.base.keep b o e n hb hx)
    · obtain ⟨sl, e1⟩ := I.base.slot b o e n hb hx
      exact ⟨sl, (hs.2 b (Nat.ne_of_lt (Nat.lt_of_lt_of_le (Heap.lt_size e) (I.ok.cab x c hfn hc)))).trans e1⟩
    · obtain ⟨o', e1⟩ := I.base.there b o e hx
      exact ⟨o', (hs.2 b (Nat.ne_of_lt (Nat.lt_of_lt_of_le (Heap.lt_size e) (I.ok.cab x c hfn hc)))).trans e1⟩
    · by_cases hj : j = i
      · subst hj
        rw [hi] at e1; cases e1
        rw [List.getElem?_set_self hiσ] at e2
        cases e2
        exact ⟨u, r, .inr ⟨.inl hk, c, hc, hc'⟩⟩
      · rw [List.getElem?_set_ne (Ne.symm hj)] at e2
        obtain ⟨u', r', q⟩ := hl j y v' e1 e2 e3
        refine ⟨u', r', ?_⟩
        rcases q with q | ⟨k, c', e, z'⟩
        · exact .inl q
        · refine .inr ⟨k, c', e, z'.sameBut hs ?_⟩
          rintro rfl
          exact hj (nodup_ix hN e1 (I.ok.inj _ _ _ e hc ▸ hi))
    · by_cases hcc : c' = c
      · subst hcc; exact ⟨_, hc'⟩
      · obtain ⟨w2, z2⟩ := I.cell y c' e
        exact ⟨w2, z2.sameBut hs hcc⟩
    · obtain ⟨e, n, ne, nf, d⟩ := I.pin p hp
      refine ⟨(hs.2 p.1 ?_).trans e, n, ne, nf, d⟩
      intro q
      rw [q, hoc] at e
      have q' : oc = p.2 := Option.some.inj e
      exact d w' (by rw [← q']; exact hocd)
theorem store_ok {M : Model} {A : Around} {E : Value → Shared → Prop} {i : Nat} {x : Str} {v : V} {u : Value} {Q : Unit → Shared → Prop} (I : Inv X pins σ H s) (hN : X.N.Nodup) (hi : X.N[i]? = some x) (hx : Loc X.env.scope x) (r : RelV v u)
    (h : ∀ s', Inv X pins (σ.set i (some v)) H s' → Q () s') (hf : X.fn x = true ∨ X.env.scope.names.lookup x = some .local := by first | exact .inl rfl | exact .inr rfl | assumption) : wpAny M A (storeName X.env x u) Q E s :=
  store_ok2 I hN hi hx r (fun s' I' _ => h s' I') hf
theorem Inv.call' {s' : Shared} {ch : List Addr} (I : Inv X pins σ H s) (ho : s'.os = s.os) (u : Un (frs X.stack) ch H H' s.heap s'.heap) (hok : HOk X.prog X.w H' s'.heap) (hg : AllBare s'.gens)
    (hch : ∀ b ∈ ch, (b ∈ X.ex ∨ X.s_0.heap.objs.size ≤ b) ∧ b ≠ X.env.locals ∧ (∀ x c, X.env.cells.lookup x = some c → c ≠ b) ∧ ∀ p ∈ X.pn ++ pins, p.1 ≠ b) : Inv X pins σ H' s' := by
  obtain ⟨h', g', d', t', o'⟩ := s'
  have e : o' = s.os := ho
  subst e
  exact I.call (g' := g') (t' := t') (d' := d') u hok hg hch
end
abbrev XK := Value → Option Addr → Hp → Prop
abbrev St := List (Option V)
abbrev VK := V → Hp → Prop
abbrev TE := St → Hp → VK → Prop
abbrev TT := St → Hp → (Bool → Hp → Prop) → Prop
abbrev TA := St → Hp → (List V → Hp → Prop) → Prop
structure Ends where
  nx : St → Hp → Prop
  rt : VK
  bk : St → Hp → Prop := fun _ _ => False
  ct : St → Hp → Prop := fun _ _ => False
abbrev TS := Ends → St → Hp → Prop
def EP (X : Cx) (pins : List (Addr × Obj)) (σ : St) (Q : VK) (u : Value) (s' : Shared) : Prop := ∃ v H', Inv X pins σ H' s' ∧ RelV v u ∧ Q v H'
def TP (X : Cx) (pins : List (Addr × Obj)) (σ : St) (Q : Bool → Hp → Prop) (b : Bool) (s' : Shared) : Prop := ∃ H', Inv X pins σ H' s' ∧ Q b H'
def AP (X : Cx) (pins : List (Addr × Obj)) (σ : St) (Q : List V → Hp → Prop) (us : List Value) (s' : Shared) : Prop := ∃ vs H', Inv X pins σ H' s' ∧ Vals vs us ∧ Q vs H'
def SP (X : Cx) (pins : List (Addr × Obj)) (D : Ends) (f : Flow) (s' : Shared) : Prop :=
  match f with
  | .next => ∃ σ' H', Inv X pins σ' H' s' ∧ D.nx σ' H'
  | .brk => ∃ σ' H', Inv X pins σ' H' s' ∧ D.bk σ' H'
  | .cont => ∃ σ' H', Inv X pins σ' H' s' ∧ D.ct σ' H'
  | .ret u => ∃ v σ' H', Inv X pins σ' H' s' ∧ RelV v u ∧ D.rt v H'
def PE (X : Cx) (e : Expr) (t : TE) : Prop :=
  ∀ (pins : List (Addr × Obj)) (s : Shared) (σ : St) (H : Hp) (Q : VK), Inv X pins σ H s → t σ H Q → wpAny (model X.prog X.w) X.A (eval e X.env) (EP X pins σ Q) X.xe s
def PT (X : Cx) (e : Expr) (t : TT) : Prop :=
  ∀ (pins : List (Addr × Obj)) (s : Shared) (σ : St) (H : Hp) (Q : Bool → Hp → Prop), Inv X pins σ H s → t σ H Q → wpAny (model X.prog X.w) X.A (isTrue e X.env (eval e X.env)) (TP X pins σ Q) X.xe s
def PW (X : Cx) (e : Expr) (t : TT) : Prop :=
  ∀ (whole : Sem Value) (pins : List (Addr × Obj)) (s : Shared) (σ : St) (H : Hp) (Q : Bool → Hp → Prop), Inv X pins σ H s → t σ H Q → wpAny (model X.prog X.w) X.A (isTrue e X.env whole) (TP X pins σ Q) X.xe s
theorem PW.pt {X : Cx} {e : Expr} {t : TT} (h : PW X e t) : PT X e t := h _
def PA (X : Cx) (es : List Expr) (t : TA) : Prop :=
  ∀ (pos : Pos) (pins : List (Addr × Obj)) (s : Shared) (σ : St) (H : Hp) (Q : List V → Hp → Prop), Inv X pins σ H s → t σ H Q → wpAny (model X.prog X.w) X.A (spliced (backTo pos (starEach es X.env))) (AP X pins σ Q) X.xe s
def PS (X : Cx) (st : Stmt) (t : TS) : Prop :=
  ∀ (pins : List (Addr × Obj)) (s : Shared) (σ : St) (H : Hp) (D : Ends), Inv X pins σ H s → t D σ H → wpAny (model X.prog X.w) X.A (exec st X.env) (SP X pins D) X.xe s
def PSs (X : Cx) (st : List Stmt) (t : TS) : Prop :=
  ∀ (pins : List (Addr × Obj)) (s : Shared) (σ : St) (H : Hp) (D : Ends), Inv X pins σ H s → t D σ H → wpAny (model X.prog X.w) X.A (execs st X.env) (SP X pins D) X.xe s
theorem thn {α : Type} {t : Sem α} {Q Q' : α → Shared → Prop} {M : Model} {A : Around} {E : Value → Shared → Prop} {s : Shared} (h : wpAny M A t Q E s) (hQ : ∀ a s, Q a s → Q' a s) : wpAny M A t Q' E s := wpAny_mono h hQ fun _ _ x => x
end L2
namespace L2
open PySem PySem.Spec PyProof.Rows
section
variable {X : Cx}
def tVar (i : Nat) : TE := fun σ H Q => ∃ v, σ[i]? = some (some v) ∧ Q v H
def tC (v : V) : TE := fun _ H Q => Q v H
theorem pe_var {i : Nat} {x : Str} {pos : Pos} (hN : X.N[i]? = some x) (hv : Vis X.env.scope x) (hd : (x == ("__debug__" : Str)) = false := by decide) (hcd : (x == ("__classdict__" : Str)) = false := by decide) : PE X (.Name x pos) (tVar i) := by
  intro pins s σ H Q I h
  obtain ⟨v, e, h⟩ := h
  obtain ⟨m, hn, hl⟩ := I.loc
  obtain ⟨u, r, l⟩ := hl i x v hN e hv
  have fin : EP X pins σ Q u s := ⟨v, H, I, r, h⟩
  rcases l with ⟨hk, hm⟩ | ⟨hk, c, hc, hcell⟩
  · exact wpAny_Name (wpAny_loadName_local I.ok.kind hk hn hm fin) hd
  · rcases hk with hk | hk
    · exact wpAny_Name (wpAny_loadName_cell I.ok.kind hk hc hcell fin) hd
    · exact wpAny_Name (wpAny_loadName_free I.ok.kind hk hc hcell fin hcd) hd
theorem pe_int {i j pos} : PE X (.Constant (.int i) j pos) (tC (.int i)) := fun _ _ _ H _ I h => wpAny_Constant_int ⟨.int i, H, I.tok _, ⟨_, rfl⟩, h⟩
theorem pe_bl {b j pos} : PE X (.Constant (.bool b) j pos) (tC (.bl b)) := fun _ _ _ H _ I h => Constant_bool ⟨.bl b, H, I, rfl, h⟩
theorem pe_non {j pos} : PE X (.Constant .none j pos) (tC .non) := fun _ _ _ H _ I h => Constant_none ⟨.non, H, I, rfl, h⟩
def Gl (X : Cx) (x : Str) : Prop := X.env.kindOf x = some .globalImplicit
theorem ld_glob {E : Value → Shared → Prop} {pins : List (Addr × Obj)} {s : Shared} {σ : St} {H : Hp} {x : Str} {u : Value} {pos : Pos} {Q : Value → Shared → Prop} (I : Inv X pins σ H s) (hg : Gl X x) (hm : X.mg x = some u) (h : Q u s)
    (hd : (x == ("__debug__" : Str)) = false := by decide) : wpAny (model X.prog X.w) X.A (eval (.Name x pos) X.env) Q E s :=
  Calls.Name_function_global I.ok.kind hg (Calls.loadGlobal_global (by rw [I.ok.glob]; exact I.mod.glob.keeps I.bk) hm h) hd
theorem ld_blt {E : Value → Shared → Prop} {pins : List (Addr × Obj)} {s : Shared} {σ : St} {H : Hp} {x : Str} {u : Value} {pos : Pos} {Q : Value → Shared → Prop} (I : Inv X pins σ H s) (hg : Gl X x) (hm : X.mg x = none) (hv : bootBuiltins x = some u) (h : Q u s)
    (hn : x ≠ "__name__" := by decide) (hd : (x == ("__debug__" : Str)) = false := by decide) : wpAny (model X.prog X.w) X.A (eval (.Name x pos) X.env) Q E s := by
  obtain ⟨mb, h1, h2⟩ := I.mod.blt
  exact Calls.Name_function_global I.ok.kind hg (Calls.loadGlobal_builtin (by rw [I.ok.glob]; exact I.mod.glob.keeps I.bk) hm (by rw [I.ok.blt]; exact h1.keeps I.bk) ((h2 x hn).trans hv) h) hd
theorem pe_glob {x : Str} {v : V} {u : Value} {pos : Pos} (hg : Gl X x) (hm : X.mg x = some u) (r : RelV v u) (hd : (x == ("__debug__" : Str)) = false := by decide) : PE X (.Name x pos) (tC v) :=
  fun _ _ _ H _ I h => ld_glob I hg hm ⟨v, H, I, r, h⟩ hd
variable {a b : Expr} {ta tb : TE} {pos : Pos}
def PC (X : Cx) (op : CmpOp) (a b : Expr) (t : TE) : Prop :=
  ∀ (pins : List (Addr × Obj)) (s : Shared) (σ : St) (H : Hp) (Q : VK), Inv X pins σ H s → t σ H Q →
    wpAny (model X.prog X.w) X.A (eval a X.env) (fun v s₁ => wpAny (model X.prog X.w) X.A (eval b X.env) (fun u s₂ => wpAny (model X.prog X.w) X.A (compareOp op v u) (EP X pins σ Q) X.xe s₂) X.xe s₁) X.xe s
theorem nobehind (b : Expr) {op : CmpOp} (h : op ≠ .In) (h2 : op ≠ .NotIn) : behindInMarks op b = false := by
  have e1 : (op == CmpOp.In) = false := by cases op <;> first | rfl | exact absurd rfl h
  have e2 : (op == CmpOp.NotIn) = false := by cases op <;> first | rfl | exact absurd rfl h2
  cases b <;> simp [behindInMarks, e1, e2]
def tIsN (ta : TE) : TE := fun σ H Q => ta σ H fun x H1 => Q (.bl (decide (x = .non))) H1
def tNotN (ta : TE) : TE := fun σ H Q => ta σ H fun x H1 => Q (.bl (!decide (x = .non))) H1
theorem RelV.none_iff {x : V} {v : Value} (r : RelV x v) : (v == Value.none) = decide (x = .non) := by
  cases x with
  | non => cases r; rfl
  | bl _ => cases r; rfl
  | int _ => obtain ⟨t, rfl⟩ := r; rfl
  | str _ => obtain ⟨t, rfl⟩ := r; rfl
  | byt _ => obtain ⟨t, rfl⟩ := r; rfl
  | flt _ => obtain ⟨t, rfl⟩ := r; rfl
  | ref _ => cases r; rfl
  | ty _ => cases r; rfl
theorem pc_isN {j pos'} (ha : PE X a ta) : PC X .Is a (.Constant .none j pos') (tIsN ta) := by
  intro pins s σ H Q I h
  refine thn (ha pins s σ H _ I h) fun v s1 ⟨x, H1, I1, r1, q1⟩ => ?_
  exact Constant_none (is_none_gen ⟨.bl _, H1, I1, by rw [r1.none_iff]; rfl, q1⟩)
theorem pc_notN {j pos'} (ha : PE X a ta) : PC X .IsNot a (.Constant .none j pos') (tNotN ta) := by
  intro pins s σ H Q I h
  refine thn (ha pins s σ H _ I h) fun v s1 ⟨x, H1, I1, r1, q1⟩ => ?_
  exact Constant_none (isnot_none_gen ⟨.bl _, H1, I1, by rw [r1.none_iff]; rfl, q1⟩)
def tB (t : TE) : TT := fun σ H Q => t σ H fun x H1 => ∃ c, x = .bl c ∧ Q c H1
theorem pe_cmp {op : CmpOp} {t : TE} (h : PC X op a b t) (h1 : behindInMarks op b = false := by first | exact nobehind _ (by decide) (by decide) | rfl) : PE X (.Compare a [op] [b] pos) t := fun pins s σ H Q I hw => wpAny_Compare1 (h pins s σ H Q I hw) h1
theorem pt_cmp {op : CmpOp} {t : TE} (h : PC X op a b t) (h1 : behindInMarks op b = false := by first | exact nobehind _ (by decide) (by decide) | rfl) : PT X (.Compare a [op] [b] pos) (tB t) := by
  intro pins s σ H Q I hw
  refine wpAny_isTrue_Compare1 (thn (h pins s σ H _ I hw) fun v s1 h1 => thn h1 fun u s2 h2 => thn h2 fun c s3 ⟨x, H1, I1, r1, q1⟩ => ?_) h1
  obtain ⟨d, rfl, q⟩ := q1
  cases r1
  exact wpAny_truthy_bool ⟨H1, I1, q⟩
theorem pt_val {e : Expr} {t : TE} (h : PE X e t) (he : ∀ whole, isTrue e X.env whole = (do let v ← whole; standAt e.pos; holding [v] (truthy v)) := by intro _; rfl) : PT X e (tB t) := by
  intro pins s σ H Q I hw
  refine isTrue_plain (thn (h pins s σ H _ I hw) fun v s1 ⟨x, H1, I1, r1, q1⟩ => ?_) (he _)
  obtain ⟨d, rfl, q⟩ := q1
  cases r1
  exact wpAny_truthy_bool ⟨H1, I1, q⟩
variable {tA tB' : TT} {rest : List Expr}
def tAnd (t u : TT) : TT := fun σ H Q => t σ H fun c H1 => if c = true then u σ H1 Q else Q false H1
def tOr (t u : TT) : TT := fun σ H Q => t σ H fun c H1 => if c = true then Q true H1 else u σ H1 Q
def tNot (t : TT) : TT := fun σ H Q => t σ H fun c H1 => Q (!c) H1
theorem pw_and1 (ha : PT X a tA) : PW X (.BoolOp .And [a] pos) tA := by
  intro wh pins s σ H Q I h
  refine isTrue_and (thn (ha pins s σ H Q I h) fun c s1 e => ?_)
  cases c with
  | true => exact isTrue_and_nil e
  | false => exact e
theorem pw_or1 (ha : PT X a tA) : PW X (.BoolOp .Or [a] pos) tA := by
  intro wh pins s σ H Q I h
  refine isTrue_or (thn (ha pins s σ H Q I h) fun c s1 e => ?_)
  cases c with
  | false => exact isTrue_or_nil e
  | true => exact e
theorem pw_and (ha : PT X a tA) (hb : PW X (.BoolOp .And (b :: rest) pos) tB') : PW X (.BoolOp .And (a :: b :: rest) pos) (tAnd tA tB') := by
  intro wh pins s σ H Q I h
  refine isTrue_and (thn (ha pins s σ H _ I h) fun c s1 ⟨H1, I1, q1⟩ => ?_)
  cases c with
  | true => exact hb wh pins s1 σ H1 Q I1 q1
  | false => exact ⟨H1, I1, q1⟩
theorem pw_or (ha : PT X a tA) (hb : PW X (.BoolOp .Or (b :: rest) pos) tB') : PW X (.BoolOp .Or (a :: b :: rest) pos) (tOr tA tB') := by
  intro wh pins s σ H Q I h
  refine isTrue_or (thn (ha pins s σ H _ I h) fun c s1 ⟨H1, I1, q1⟩ => ?_)
  cases c with
  | true => exact ⟨H1, I1, q1⟩
  | false => exact hb wh pins s1 σ H1 Q I1 q1
theorem pt_not (ha : PT X a tA) : PT X (.UnaryOp .Not a pos) (tNot tA) := by
  intro pins s σ H Q I h
  exact isTrue_not (ha pins s σ H (fun c H1 => Q (!c) H1) I h)
def tAndV (ta tb : TE) : TE := fun σ H Q => ta σ H fun x H1 => ∃ c, x = .bl c ∧ if c = true then tb σ H1 Q else Q (.bl false) H1
theorem pe_one {op} {t : TE} (h : PE X a t) : PE X (.BoolOp op [a] pos) t := fun pins s σ H Q I hw => BoolOp_one (h pins s σ H Q I hw)
theorem pe_and (ha : PE X a ta) (hb : PE X (.BoolOp .And (b :: rest) pos) tb) : PE X (.BoolOp .And (a :: b :: rest) pos) (tAndV ta tb) := by
  intro pins s σ H Q I h
  refine BoolOp_and (thn (ha pins s σ H _ I h) fun v s1 ⟨x, H1, I1, r1, q1⟩ => ?_)
  obtain ⟨c, rfl, q1⟩ := q1
  cases r1
  refine wpAny_truthy_bool ?_
  cases c with
  | true => exact hb pins s1 σ H1 Q I1 q1
  | false => exact ⟨.bl false, H1, I1, rfl, q1⟩
def tIf (t : TT) (ta tb : TE) : TE := fun σ H Q => t σ H fun c H1 => if c = true then ta σ H1 Q else tb σ H1 Q
theorem pe_ifExp {c : Expr} (hc : PT X c tA) (ha : PE X a ta) (hb : PE X b tb) : PE X (.IfExp c a b pos) (tIf tA ta tb) := by
  intro pins s σ H Q I h
  refine wpAny_IfExp (thn (hc pins s σ H _ I h) fun d s1 ⟨H1, I1, q1⟩ => ?_)
  cases d with
  | true => exact ha pins s1 σ H1 Q I1 q1
  | false => exact hb pins s1 σ H1 Q I1 q1
end
end L2
namespace L2
open PySem PySem.Spec PyProof.Rows
def SqL (K : PySem.W.Frag) (H : Hp) (a : Addr) (xs : List V) : Prop :=
  Rd H a (.lst xs) ∨
    ∃ (o : Obj) (its : Array Value) (n : Nat), K.lookup a = some o ∧ o.cls = .type "list" ∧ o.dict = none ∧ o.data = .seq its n ∧ its.size ≤ sizeLine ∧ Vals xs its.toList
def SqT (K : PySem.W.Frag) (H : Hp) (a : Addr) (xs : List V) : Prop :=
  Rd H a (.tup xs) ∨
    ∃ (o : Obj) (its : Array Value) (n : Nat), K.lookup a = some o ∧ o.cls = .type "tuple" ∧ o.data = .seq its n ∧ its.size ≤ sizeLine ∧ Vals xs its.toList
def absV : Value → Option V
  | .none => some .non
  | .bool b => some (.bl b)
  | .int i _ => some (.int i)
  | .str x _ => some (.str x)
  | .bytes b _ => some (.byt b)
  | .float b _ => some (.flt b)
  | .ref a => some (.ref a)
  | .type n => some (.ty n)
  | _ => none
theorem RelV.abs {x : V} {u : Value} (r : RelV x u) : absV u = some x := by
  cases x with
  | non => cases r; rfl
  | bl _ => cases r; rfl
  | int _ => obtain ⟨t, rfl⟩ := r; rfl
  | str _ => obtain ⟨t, rfl⟩ := r; rfl
  | byt _ => obtain ⟨t, rfl⟩ := r; rfl
  | flt _ => obtain ⟨t, rfl⟩ := r; rfl
  | ref _ => cases r; rfl
  | ty _ => cases r; rfl
theorem RelV.inj {x y : V} {u : Value} (r : RelV x u) (q : RelV y u) : x = y := Option.some.inj (r.abs.symm.trans q.abs)
theorem Vals.inj : ∀ {xs ys : List V} {us : List Value}, Vals xs us → Vals ys us → xs = ys
  | _, _, _, .nil, .nil => rfl
  | _, _, _, .cons r t, .cons r' t' => by rw [r.inj r', Vals.inj t t']
section
variable {X : Cx} {pins : List (Addr × Obj)} {σ : St} {H : Hp} {s : Shared} {a : Addr} {xs ys : List V}
theorem SqL.of {K : PySem.W.Frag} (h : H a = some (.lst xs)) : SqL K H a xs := .inl (.inl h)
theorem SqT.of {K : PySem.W.Frag} (h : H a = some (.tup xs)) : SqT K H a xs := .inl (.inl h)
theorem Inv.list (I : Inv X pins σ H s) (h : SqL X.K H a xs) : ∃ its : List Value, Vals xs its ∧ PlainL s.heap a its.toArray ∧ xs.length ≤ sizeLine := by
  rcases h with h | ⟨o, its, n, hk, hc, hd, hs, hz, r⟩
  · obtain ⟨z, its, n, r, e⟩ := h.ok I.hok
    exact ⟨its, r, ⟨_, n, e, rfl, rfl, rfl⟩, z⟩
  · refine ⟨its.toList, r, ⟨o, n, I.kIn a o hk, hc, hd, by simpa using hs⟩, ?_⟩
    have e := r.length
    simp only [Array.length_toList] at e
    omega
theorem Inv.tuple (I : Inv X pins σ H s) (h : SqT X.K H a xs) : ∃ its : List Value, Vals xs its ∧ IsTup s.heap a its.toArray ∧ xs.length ≤ sizeLine := by
  rcases h with h | ⟨o, its, n, hk, hc, hs, hz, r⟩
  · obtain ⟨z, its, r, p⟩ := h.ok I.hok
    exact ⟨its, r, p, z⟩
  · refine ⟨its.toList, r, ⟨o, I.kIn a o hk, hc, n, by simpa using hs⟩, ?_⟩
    have e := r.length
    simp only [Array.length_toList] at e
    omega
theorem Inv.list_inj (I : Inv X pins σ H s) (h : SqL X.K H a xs) (h' : SqL X.K H a ys) : xs = ys := by
  obtain ⟨its, r, ⟨o, n, e, _, _, d⟩, _⟩ := I.list h
  obtain ⟨its', r', ⟨o', n', e', _, _, d'⟩, _⟩ := I.list h'
  rw [e] at e'; cases e'
  rw [d] at d'
  injection d' with d1 _
  have : its = its' := by simpa using congrArg Array.toList d1
  subst this
  exact r.inj r'
end
abbrev Cx.wish (X : Cx) (E : Value → Shared → Prop) : Cx := { X with xe := E }
abbrev Cx.nox (X : Cx) : Cx := X.wish fun _ _ => False
theorem Cx.Ok.wish {X : Cx} (ok : X.Ok) (E : Value → Shared → Prop) : (X.wish E).Ok :=
  ⟨ok.mod, ok.kind, ok.glob, ok.blt, ok.above, ok.inj, ok.has, ok.cab, ok.hd, ok.frames, ok.stk, ok.exf, ok.bs, ok.bsz, ok.noex, ok.exfs, ok.funs, ok.frf⟩
theorem Cx.Ok.unwish {X : Cx} {E : Value → Shared → Prop} (ok : (X.wish E).Ok) : X.Ok :=
  ⟨ok.mod, ok.kind, ok.glob, ok.blt, ok.above, ok.inj, ok.has, ok.cab, ok.hd, ok.frames, ok.stk, ok.exf, ok.bs, ok.bsz, ok.noex, ok.exfs, ok.funs, ok.frf⟩
section
variable {X : Cx} {pins : List (Addr × Obj)} {σ : St} {H : Hp} {s : Shared} {E : Value → Shared → Prop}
theorem Inv.wish (I : Inv X pins σ H s) (E : Value → Shared → Prop) : Inv (X.wish E) pins σ H s := ⟨I.ok.wish E, I.os, I.bare, I.base, I.loc, I.cell, I.free, I.freeC, I.pin, I.hok, I.len⟩
theorem Inv.unwish (I : Inv (X.wish E) pins σ H s) : Inv X pins σ H s := ⟨I.ok.unwish, I.os, I.bare, I.base, I.loc, I.cell, I.free, I.freeC, I.pin, I.hok, I.len⟩
theorem SP.unwish {D : Ends} {f : Flow} {s' : Shared} (h : SP (X.wish E) pins D f s') : SP X pins D f s' := by
  cases f with
  | next => obtain ⟨σ', H', I, q⟩ := h; exact ⟨σ', H', I.unwish, q⟩
  | brk => obtain ⟨σ', H', I, q⟩ := h; exact ⟨σ', H', I.unwish, q⟩
  | cont => obtain ⟨σ', H', I, q⟩ := h; exact ⟨σ', H', I.unwish, q⟩
  | ret u => obtain ⟨v, σ', H', I, r, q⟩ := h; exact ⟨v, σ', H', I.unwish, r, q⟩
theorem PSs.nox {st : List Stmt} {t : TS} (h : PSs X.nox st t) : PSs X st t := fun pins s σ H D I hw =>
  wpAny_mono (h pins s σ H D (I.wish _) hw) (fun _ _ q => q.unwish) fun _ _ z => False.elim z
end
section
variable {X : Cx} {st : Stmt} {rest : List Stmt} {t u : TS} {e : Expr} {te : TE} {pos : Pos}
def tNext : TS := fun D σ H => D.nx σ H
def tSeq (t u : TS) : TS := fun D σ H => t { D with nx := u D } σ H
theorem pss_nil : PSs X [] tNext := fun _ _ σ H _ I h => wpAny_execs_nil ⟨σ, H, I, h⟩
theorem pss_cons (h1 : PS X st t) (h2 : PSs X rest u) : PSs X (st :: rest) (tSeq t u) := by
  intro pins s σ H D I h
  refine wpAny_execs_cons (thn (h1 pins s σ H { D with nx := u D } I h) fun f s1 q => ?_)
  cases f with
  | next =>
    obtain ⟨σ', H', I', q⟩ := q
    exact h2 pins s1 σ' H' D I' q
  | ret v => exact q
  | brk => exact q
  | cont => exact q
theorem pss_one (h1 : PS X st t) : PSs X [st] t := by
  intro pins s σ H D I h
  refine wpAny_execs_cons (thn (h1 pins s σ H D I h) fun f s1 q => ?_)
  cases f with
  | next => exact wpAny_execs_nil q
  | ret v => exact q
  | brk => exact q
  | cont => exact q
theorem Inv.quiet {pins : List (Addr × Obj)} {σ : St} {H : Hp} {s : Shared} (I : Inv X pins σ H s) : interactive X.env = false := by simp [interactive, I.ok.kind]
def tDrop (te : TE) : TS := fun D σ H => te σ H fun _ H1 => D.nx σ H1
theorem ps_expr (he : PE X e te) (hs : swapsWith e none pos.line X.env = pure false := by rfl) : PS X (.Expr e pos) (tDrop te) := by
  intro pins s σ H D I h
  exact wpAny_Expr_any (thn (he pins s σ H _ I h) fun v s1 ⟨x, H1, I1, r1, q1⟩ => ⟨σ, H1, I1, q1⟩) I.quiet hs
def tRet (te : TE) : TS := fun D σ H => te σ H D.rt
theorem ps_ret (he : PE X e te) : PS X (.Return (some e) pos) (tRet te) := by
  intro pins s σ H D I h
  exact wpAny_Return_some (thn (he pins s σ H _ I h) fun v s1 ⟨x, H1, I1, r1, q1⟩ => ⟨x, σ, H1, I1, r1, q1⟩)
def tIfS (c : TT) (t u : TS) : TS := fun D σ H => c σ H fun b H1 => if b = true then t D σ H1 else u D σ H1
theorem ps_if {c : Expr} {a b : List Stmt} {tc : TT} (hc : PT X c tc) (ha : PSs X a t) (hb : PSs X b u) : PS X (.If c a b pos) (tIfS tc t u) := by
  intro pins s σ H D I h
  refine wpAny_If (thn (hc pins s σ H _ I h) fun d s1 ⟨H1, I1, q1⟩ => ?_)
  cases d with
  | true => exact ha pins s1 σ H1 D I1 q1
  | false => exact hb pins s1 σ H1 D I1 q1
def tNever : TS := fun _ _ _ => False
theorem ps_never : PS X st tNever := fun _ _ _ _ _ _ h => h.elim
end
abbrev TG := V → St → Hp → (St → Hp → Prop) → Prop
abbrev TGs := List V → St → Hp → (St → Hp → Prop) → Prop
def PG (X : Cx) (target : Expr) (t : TG) : Prop :=
  ∀ (pins : List (Addr × Obj)) (s : Shared) (σ : St) (H : Hp) (v : V) (u : Value) (Q : St → Hp → Prop), Inv X pins σ H s → RelV v u → t v σ H Q →
    wpAny (model X.prog X.w) X.A (assign target X.env u) (fun _ s' => ∃ σ' H', Inv X pins σ' H' s' ∧ Q σ' H') X.xe s
def PGs (X : Cx) (ts : List Expr) (t : TGs) : Prop :=
  ∀ (pins : List (Addr × Obj)) (s : Shared) (σ : St) (H : Hp) (vs : List V) (us : List Value) (Q : St → Hp → Prop), Inv X pins σ H s → Vals vs us → t vs σ H Q →
    wpAny (model X.prog X.w) X.A (assignInOrder ((assignEach ts X.env).map (·.2)) us) (fun _ s' => ∃ σ' H', Inv X pins σ' H' s' ∧ Q σ' H') X.xe s
abbrev TSet := V → V → V → Hp → (Hp → Prop) → Prop
def PSet (X : Cx) (t : TSet) : Prop :=
  ∀ (pins : List (Addr × Obj)) (s : Shared) (σ : St) (H : Hp) (o i v : V) (ov iv u : Value) (Q : Hp → Prop), Inv X pins σ H s → RelV o ov → RelV i iv → RelV v u → t o i v H Q →
    wpAny (model X.prog X.w) X.A (setItem ov iv u) (fun _ s' => ∃ H', Inv X pins σ H' s' ∧ Q H') X.xe s
section
variable {X : Cx} {pos : Pos}
def gName (i : Nat) : TG := fun v σ H Q => Q (σ.set i (some v)) H
theorem pg_name {i : Nat} {x : Str} (hN : X.N.Nodup) (hi : X.N[i]? = some x) (hx : Loc X.env.scope x) (hf : X.fn x = true ∨ X.env.scope.names.lookup x = some .local := by first | exact .inl rfl | exact .inr rfl | assumption) : PG X (.Name x pos) (gName i) := by
  intro pins s σ H v u Q I r h
  exact wpAny_assign_Name (store_ok I hN hi hx r (fun s' I' => ⟨_, H, I', h⟩) hf)
def gNil : TGs := fun vs σ H Q => vs = [] ∧ Q σ H
def gCons (t : TG) (u : TGs) : TGs := fun vs σ H Q => ∃ v r, vs = v :: r ∧ t v σ H fun σ' H' => u r σ' H' Q
theorem pgs_nil : PGs X [] gNil := by
  intro pins s σ H vs us Q I r h
  obtain ⟨e, h⟩ := h
  subst e
  cases r
  exact assignInOrder_nil ⟨σ, H, I, h⟩
theorem pgs_cons {e : Expr} {es : List Expr} {t : TG} {u : TGs} (h1 : PG X e t) (h2 : PGs X es u)
    (hs : (assignEach (e :: es) X.env).map (·.2) = assign e X.env :: (assignEach es X.env).map (·.2) := by rfl) : PGs X (e :: es) (gCons t u) := by
  intro pins s σ H vs us Q I r h
  obtain ⟨v, vr, e1, h⟩ := h
  subst e1
  cases r with
  | cons r rr =>
    rw [hs]
    refine assignInOrder_cons (thn (h1 pins s σ H _ _ _ I r h) fun _ s1 ⟨σ1, H1, I1, q1⟩ => ?_)
    exact h2 pins s1 σ1 H1 _ _ Q I1 rr q1
def gTup (K : PySem.W.Frag) (n : Nat) (t : TGs) : TG := fun v σ H Q => ∃ a xs, v = .ref a ∧ SqT K H a xs ∧ xs.length = n ∧ t xs σ H Q
theorem pg_tup {es : List Expr} {k : Nat} {t : TGs} {n : Nat} (hc : X.calm = true) (h : PGs X es t)
    (hn : (assignEach es X.env).length = n := by rfl) (hst : (assignEach es X.env).findIdx? (·.1) = none := by rfl) : PG X (.Tuple es k pos) (gTup X.K n t) := by
  intro pins s σ H v u Q I r hw
  obtain ⟨a, xs, e1, hq, hl, hw⟩ := hw
  subst e1
  cases r
  obtain ⟨its, rv, ht, hz⟩ := I.tuple hq
  refine assign_Tuple_tuple (I.ok.hd hc) ht (by simp [hn, ← hl, rv.length]) hst fun h' hx => ?_
  have I1 : Inv X pins σ H { s with heap := h' } := I.kept (t' := s.toks) fun b o e => hx b o (Nat.ne_of_lt (Heap.lt_size e)) e
  exact h pins _ σ H xs _ Q I1 (by simpa using rv) hw
def gSub (to ti : TE) (t : TSet) : TG := fun v σ H Q => to σ H fun o H1 => ti σ H1 fun i H2 => t o i v H2 fun H3 => Q σ H3
theorem pg_sub {o i : Expr} {to ti : TE} {t : TSet} (ho : PE X o to) (hi : PE X i ti) (hs : PSet X t)
    (ha : ∀ v, assign (.Subscript o i pos) X.env v = (do
      let ov ← holding [v] (eval o X.env)
      let iv ← holding [v, ov] (eval i X.env)
      standAt pos
      holding [v, ov, iv] (setItem ov iv v)
      release [v, ov, iv] []) := by intro _; rfl) : PG X (.Subscript o i pos) (gSub to ti t) := by
  intro pins s σ H v u Q I r h
  rw [ha]
  refine wpAny_bind (wpAny_holding (thn (ho pins s σ H _ I h) fun ov s1 ⟨x, H1, I1, r1, q1⟩ => ?_))
  refine wpAny_bind (wpAny_holding (thn (hi pins s1 σ H1 _ I1 q1) fun iv s2 ⟨y, H2, I2, r2, q2⟩ => ?_))
  refine wpAny_bind (wpAny_standAt (wpAny_bind (wpAny_holding (thn (hs pins s2 σ H2 x y v ov iv u _ I2 r1 r2 r q2) fun _ s3 ⟨H3, I3, q3⟩ => ?_))))
  exact wpAny_release ⟨σ, H3, I3, q3⟩
def tAsg (te : TE) (g : TG) : TS := fun D σ H => te σ H fun x H1 => g x σ H1 D.nx
theorem ps_asg {tg e : Expr} {te : TE} {g : TG} (he : PE X e te) (hg : PG X tg g) (hs : swapsWithSole [tg] e pos.line X.env = pure false := by rfl) (hw : swappedStores [tg] e X.env = pure none := by rfl)
    (h1 : (assignEach [tg] X.env).map (·.2) = [assign tg X.env] := by rfl) : PS X (.Assign [tg] e pos) (tAsg te g) := by
  intro pins s σ H D I h
  refine wpAny_Assign_stores (thn (he pins s σ H _ I h) fun v s1 ⟨x, H1, I1, r1, q1⟩ => ?_) hs hw
  rw [h1]
  exact thn (hg pins s1 σ H1 x v _ I1 r1 q1) fun _ s2 q => q
theorem ps_set {i : Nat} {x : Str} {e : Expr} {te : TE} {pos' : Pos} (hN : X.N.Nodup) (hi : X.N[i]? = some x) (hx : Loc X.env.scope x) (he : PE X e te) (hs : swapsWith e (some (.Name x pos')) pos.line X.env = pure false := by rfl) (hf : X.fn x = true ∨ X.env.scope.names.lookup x = some .local := by first | exact .inl rfl | exact .inr rfl | assumption) :
    PS X (.Assign [.Name x pos'] e pos) (tAsg te (gName i)) := by
  intro pins s σ H D I h
  refine wpAny_Assign_Name (thn (he pins s σ H _ I h) fun v s1 ⟨y, H1, I1, r1, q1⟩ => ?_) hs
  exact store_ok I1 hN hi hx r1 (fun s2 I2 => ⟨_, H1, I2, q1⟩) hf
end
section
variable {X : Cx} {pos : Pos}
def tWhile (c : TT) (tb : TS) : TS := fun D σ H => ∃ W : Nat → St → Hp → Prop, (∃ m, W m σ H) ∧ ∀ m σ H, W m σ H →
  c σ H fun b H1 => if b = true then ∃ N : St → Hp → Prop, (∀ σ' H', N σ' H' → ∃ m', m' < m ∧ W m' σ' H') ∧ tb { D with nx := N, ct := N, bk := D.nx } σ H1 else D.nx σ H1
theorem ps_while {c : Expr} {body : List Stmt} {tc : TT} {tb : TS} (hp : PassesOwn (model X.prog X.w) X.A X.env X.xe) (hc : PT X c tc) (hb : PSs X body tb) : PS X (.While c body [] pos) (tWhile tc tb) := by
  intro pins s σ H D I h
  obtain ⟨W, ⟨m0, w0⟩, turn⟩ := h
  refine wpAny_While (codeAny_whileLoop (fun n s' => ∃ σ' H', Inv X pins σ' H' s' ∧ W n σ' H') ?_ m0 ⟨σ, H, I, w0⟩)
  rintro n s1 ⟨σ1, H1, I1, w1⟩
  refine wpAny_passesOwn hp (thn (hc pins s1 σ1 H1 _ I1 (turn n σ1 H1 w1)) fun b s2 ⟨H2, I2, q2⟩ => ?_)
  cases b with
  | true =>
    obtain ⟨N, hN, q2⟩ := q2
    rw [if_pos rfl]
    refine wpAny_passesOwn hp (thn (hb pins s2 σ1 H2 _ I2 q2) fun f s3 q3 => ?_)
    cases f with
    | next =>
      obtain ⟨σ3, H3, I3, n3⟩ := q3
      obtain ⟨m', hm, w3⟩ := hN σ3 H3 n3
      exact ⟨m', hm, σ3, H3, I3, w3⟩
    | cont =>
      obtain ⟨σ3, H3, I3, n3⟩ := q3
      obtain ⟨m', hm, w3⟩ := hN σ3 H3 n3
      exact ⟨m', hm, σ3, H3, I3, w3⟩
    | brk => exact q3
    | ret v => exact q3
  | false =>
    rw [if_neg Bool.false_ne_true]
    exact wpAny_execs_nil ⟨σ1, H2, I2, q2⟩
end
structure It where
  go : Nat → Hp → Prop
  yld : Nat → Hp → V → Hp → Prop
  stop : Nat → Hp → Prop
def FpOk (X : Cx) (pins : List (Addr × Obj)) (H : Hp) (b : Addr) : Prop :=
  H b = none ∧ b ≠ X.env.locals ∧ b ∉ X.fs ∧ (b ∈ X.ex ∨ X.s_0.heap.objs.size ≤ b) ∧ (∀ x c, X.env.cells.lookup x = some c → c ≠ b) ∧ ∀ p ∈ X.pn ++ pins, p.1 ≠ b
theorem Inv.fpOk {X : Cx} {pins : List (Addr × Obj)} {σ : St} {H H' : Hp} {s : Shared} {b : Addr} (I : Inv X pins σ H s) (hb : s.heap.objs.size ≤ b) (hn : H' b = none) : FpOk X pins H' b := by
  refine ⟨hn, Nat.ne_of_gt (Nat.lt_of_lt_of_le I.lt hb), I.nofs hb, .inr (Nat.le_trans I.sz hb), fun x c e z => ?_, fun p hp z => ?_⟩
  · obtain ⟨v, q⟩ := I.cell x c e
    exact absurd (Nat.lt_of_lt_of_le q.lt (by rw [z]; exact hb)) (Nat.lt_irrefl _)
  · exact absurd (Nat.lt_of_lt_of_le (Heap.lt_size (I.pin p hp).1) (by rw [z]; exact hb)) (Nat.lt_irrefl _)
structure Turn (P : Program) (w : World) (K : PySem.W.Frag) (tg : Expr) (J : It) (fp : List Addr) (it : Addr) (tn : Nat → Heap → Prop) : Prop where
  mem : it ∈ fp
  obj : ∀ i h, tn i h → ∀ b ∈ fp, ∃ o, h.get? b = some o ∧ ∀ v, o.data ≠ .cell v
  keep : ∀ i h h', tn i h → (∀ b ∈ fp, ∀ o, h.get? b = some o → h'.get? b = some o) → tn i h'
  item : ∀ (X : Cx), X.prog = P → X.w = w → X.K = K → X.calm = true → ∀ (i : Nat) (pins : List (Addr × Obj)) (s : Shared) (σ : St) (H : Hp) (E : Value → Shared → Prop), Inv X pins σ H s → (∀ b ∈ fp, FpOk X pins H b) → tn i s.heap → J.go i H →
    wpAny (model P w) X.A (pyNext (.ref it)) (fun r s1 => ∃ u, r = some u ∧
      wpAny (model P w) X.A (letOwnedTupleGo tg (.ref it) u) (fun _ s2 => ∃ x H', Inv X pins σ H' s2 ∧ RelV x u ∧ J.yld i H x H' ∧ tn (i + 1) s2.heap ∧ ∀ b ∈ fp, H' b = none) E s1) E s
  done : ∀ (X : Cx), X.prog = P → X.w = w → X.K = K → X.calm = true → ∀ (i : Nat) (pins : List (Addr × Obj)) (s : Shared) (σ : St) (H : Hp) (E : Value → Shared → Prop), Inv X pins σ H s → (∀ b ∈ fp, FpOk X pins H b) → tn i s.heap → J.stop i H →
    wpAny (model P w) X.A (pyNext (.ref it)) (fun r s1 => r = none ∧ Inv X pins σ H s1) E s
  self : ∀ (A : Around) (i : Nat) (s : Shared) (Q : Value → Shared → Prop) (E : Value → Shared → Prop), tn i s.heap → Q (.ref it) s → wpAny (model P w) A (pyIter (.ref it)) Q E s
abbrev TI := St → Hp → (It → Hp → Prop) → Prop
def PIE (X : Cx) (pins : List (Addr × Obj)) (σ : St) (tg : Expr) (R : It → Hp → Prop) (itv : Value) (s2 : Shared) : Prop :=
  ∃ (it : Addr) (fp : List Addr) (tn : Nat → Heap → Prop) (J : It) (H' : Hp), itv = .ref it ∧ Inv X pins σ H' s2 ∧ Turn X.prog X.w X.K tg J fp it tn ∧ tn 0 s2.heap ∧ (∀ b ∈ fp, FpOk X pins H' b) ∧ R J H'
def PI (X : Cx) (tg iter : Expr) (wi : TI) : Prop :=
  ∀ (pins : List (Addr × Obj)) (s : Shared) (σ : St) (H : Hp) (R : It → Hp → Prop), Inv X pins σ H s → wi σ H R →
    wpAny (model X.prog X.w) X.A (eval iter X.env) (fun v s1 => wpAny (model X.prog X.w) X.A (pyIter v) (PIE X pins σ tg R) X.xe s1) X.xe s
theorem go_of {M : Model} {A : Around} {E : Value → Shared → Prop} {s : Shared} {tg : Expr} {it : Addr} {u : Value} {o : Obj} {n : String} {vs : Array Value} {Q : Unit → Shared → Prop} (ho : s.heap.get? it = some o) (hc : o.cls = .type n) (hd : o.data = .fields vs)
    (hn : ["enumerate", "zip", "dict_itemiterator", "dict_reverseitemiterator", "odict_iterator", "itertools.zip_longest", "itertools.pairwise"].contains n = false) (hQ : Q () s) : wpAny M A (letOwnedTupleGo tg (.ref it) u) Q E s := by
  unfold letOwnedTupleGo
  cases tg <;> first
    | exact wpAny_pure hQ
    | (cases u <;> first
        | exact wpAny_pure hQ
        | (refine wpAny_bind (wpAny_load ho ?_)
           rw [hc, hd]
           show wpAny M A (if (["enumerate", "zip", "dict_itemiterator", "dict_reverseitemiterator", "odict_iterator", "itertools.zip_longest", "itertools.pairwise"].contains n && vs[0]? == some (rawInt _)) = true then _ else _) Q E s
           rw [if_neg (by intro h; rw [hn, Bool.false_and] at h; cases h)]
           exact wpAny_pure hQ))
def Itl (K : PySem.W.Frag) (a : Addr) : It :=
  ⟨fun i H => ∃ xs x, SqL K H a xs ∧ xs[i]? = some x, fun i H x H' => H' = H ∧ ∀ xs, SqL K H a xs → xs[i]? = some x, fun i H => ∃ xs, SqL K H a xs ∧ xs.length ≤ i⟩
def Itr (lo : Int) (n : Nat) : It := ⟨fun i _ => i < n, fun i H x H' => H' = H ∧ x = .int (lo + i), fun i _ => n ≤ i⟩
theorem turn_list {P : Program} {w : World} {K : PySem.W.Frag} {tg : Expr} (a it : Addr) : Turn P w K tg (Itl K a) [it] it (fun i h => h.IsListIter it a i) where
  mem := by simp
  obj := fun i h st b hb => by
    have e : b = it := by simpa using hb
    subst e
    obtain ⟨o, e, c, d⟩ := st
    exact ⟨o, e, fun v z => by rw [d] at z; cases z⟩
  keep := fun i h h' st k => st.at fun o e => k it (by simp) o e
  item := by
    intro X hP hw hK hc i pins s σ H E I hf st hg
    subst hP hw hK
    obtain ⟨xs, x, hq, hx⟩ := hg
    obtain ⟨its, rv, p, hz⟩ := I.list hq
    obtain ⟨u, hu, ru⟩ := rv.get hx
    obtain ⟨f0, f1, f2, f3, f4, f5⟩ := hf it (by simp)
    refine wpAny_pyNext_list_item st p.isList (x := u) (by simpa using hu) fun h' st' sb => ?_
    have I1 : Inv X pins σ H { s with heap := h' } := I.turned (t' := s.toks) (fun b o hb e => (sb.2 b hb).trans e) f0 f1 f3 f4 f5
    obtain ⟨o, e, c, d⟩ := id st'
    exact ⟨u, rfl, go_of (s := { s with heap := h' }) e c d (by decide) ⟨x, H, I1, ru, ⟨rfl, fun ys hy => by rw [I.list_inj hy hq]; exact hx⟩, st', fun b hb => (hf b hb).1⟩⟩
  done := by
    intro X hP hw hK hc i pins s σ H E I hf st hg
    subst hP hw hK
    obtain ⟨xs, hq, hx⟩ := hg
    obtain ⟨its, rv, p, hz⟩ := I.list hq
    obtain ⟨f0, f1, f2, f3, f4, f5⟩ := hf it (by simp)
    have hl := rv.length
    exact wpAny_pyNext_list_end (I.ok.hd hc) st p.isList (by simp; omega) fun h' eb => ⟨rfl, I.turned (t' := s.toks) (fun b o hb e => eb b o hb e) f0 f1 f3 f4 f5⟩
  self := fun _ _ _ _ _ st h => wpAny_pyIter_listiter st h
theorem turn_range {P : Program} {w : World} {K : PySem.W.Frag} {tg : Expr} (it : Addr) (lo : Int) (n : Nat) : Turn P w K tg (Itr lo n) [it] it (fun i h => IsRangeIter h it (lo + (i : Nat) * 1) ((n : Int) - (i : Nat)) 1) where
  mem := by simp
  obj := fun i h st b hb => by
    have e : b = it := by simpa using hb
    subst e
    exact ⟨_, st, fun v z => by
      have z' : Data.fields _ = Data.cell v := z
      cases z'⟩
  keep := fun i h h' st k => k it (by simp) _ st
  item := by
    intro X hP hw hK hc i pins s σ H E I hf st hg
    subst hP hw hK
    obtain ⟨f0, f1, f2, f3, f4, f5⟩ := hf it (by simp)
    have W := Walks.range (prog := X.prog) (w := X.w) (I.ok.hd hc) it lo 1 n
    refine W.item i s _ _ hg st fun v h' tk hv st' kk => ?_
    obtain ⟨t, rfl⟩ := hv
    have I1 : Inv X pins σ H { s with heap := h', toks := tk } := I.turned (fun b o hb e => kk b o (by simpa using hb) e) f0 f1 f3 f4 f5
    refine ⟨_, rfl, go_of (s := { s with heap := h', toks := tk }) (n := "range_iterator") st' rfl rfl (by decide) ⟨.int (lo + i), H, I1, ⟨t, ?_⟩, ⟨rfl, rfl⟩, st', fun b hb => (hf b hb).1⟩⟩
    rw [Int.mul_one]
  done := by
    intro X hP hw hK hc i pins s σ H E I hf st hg
    subst hP hw hK
    obtain ⟨f0, f1, f2, f3, f4, f5⟩ := hf it (by simp)
    exact wpAny_pyNext_range_end (I.ok.hd hc) st (by have : n ≤ i := hg; omega) fun h' eb => ⟨rfl, I.turned (t' := s.toks) (fun b o hb e => eb b o hb e) f0 f1 f3 f4 f5⟩
  self := fun _ _ _ _ _ st h => wpAny_pyIter_rangeiter st h
end L2
namespace L2
open PySem PySem.Spec PyProof.Rows
section
variable {X : Cx} {tg : Expr}
def iList (K : PySem.W.Frag) (tl : TE) : TI := fun σ H R => tl σ H fun x H1 => ∃ a, x = .ref a ∧ (∃ xs, SqL K H1 a xs) ∧ R (Itl K a) H1
theorem pi_list {l : Expr} {tl : TE} (hl : PE X l tl) : PI X tg l (iList X.K tl) := by
  intro pins s σ H R I h
  refine thn (hl pins s σ H _ I h) fun v s1 ⟨x, H1, I1, r1, q1⟩ => ?_
  obtain ⟨a, e, ⟨xs, hq⟩, q⟩ := q1
  subst e
  cases r1
  obtain ⟨its, rv, p, hz⟩ := I1.list hq
  refine wpAny_pyIter_list p.isList ?_
  refine ⟨s1.heap.objs.size, [s1.heap.objs.size], _, _, H1, rfl, I1.kept (t' := s1.toks) fun b o e => Heap.get?_push_of_some _ e, turn_list a _, ⟨_, Heap.get?_push_size _ rfl, rfl, rfl⟩, fun b hb => ?_, q⟩
  have e : b = s1.heap.objs.size := by simpa using hb
  subst e
  exact I1.fpOk (Nat.le_refl _) (I1.hok.fresh (Nat.le_refl _))
theorem range_it {pins : List (Addr × Obj)} {σ : St} {H : Hp} {s : Shared} {R : It → Hp → Prop} {E : Value → Shared → Prop} {lo hi : Int} {t u v : Tok} {tk : Nat} (I : Inv X pins σ H s) (h1 : -(2 ^ 62) ≤ lo) (h2 : lo < 2 ^ 62) (h3 : -(2 ^ 62) ≤ hi) (h4 : hi < 2 ^ 62)
    (q : R (Itr lo (hi - lo).toNat) H) : wpAny (model X.prog X.w) X.A (pyIter (.ref s.heap.objs.size)) (PIE X pins σ tg R) E { s with heap := s.heap.push { cls := .type "range", data := .fields #[.int lo t, .int hi u, .int 1 v] }, toks := tk } := by
  refine wpAny_pyIter_range (IsRange.new ..) (small_one h1 h2 h3 h4) ?_
  have I1 : Inv X pins σ H { s with heap := s.heap.push { cls := .type "range", data := .fields #[.int lo t, .int hi u, .int 1 v] }, toks := tk } := I.kept fun b o e => Heap.get?_push_of_some _ e
  refine ⟨(s.heap.push { cls := .type "range", data := .fields #[.int lo t, .int hi u, .int 1 v] }).objs.size, [(s.heap.push { cls := .type "range", data := .fields #[.int lo t, .int hi u, .int 1 v] }).objs.size], _, _, H, rfl,
    I1.kept (t' := tk) fun b o e => Heap.get?_push_of_some _ e, turn_range _ lo (hi - lo).toNat, ?_, fun b hb => ?_, q⟩
  · have e1 : lo + ((0 : Nat) : Int) * 1 = lo := by simp
    have e2 : (((hi - lo).toNat : Nat) : Int) - ((0 : Nat) : Int) = Builtin.Range.rangeSize lo hi 1 := by rw [rangeSize_one]; split <;> omega
    show IsRangeIter _ _ (lo + ((0 : Nat) : Int) * 1) ((((hi - lo).toNat : Nat) : Int) - ((0 : Nat) : Int)) 1
    rw [e1, e2]
    exact Heap.get?_push_size _ rfl
  · have e : b = (s.heap.push { cls := .type "range", data := .fields #[.int lo t, .int hi u, .int 1 v] }).objs.size := by simpa using hb
    subst e
    exact I1.fpOk (Nat.le_refl _) (I1.hok.fresh (Nat.le_refl _))
def iRng1 (ta : TA) : TI := fun σ H R => ta σ H fun vs H1 => ∃ j : Int, vs = [.int j] ∧ -(2 ^ 62) ≤ j ∧ j < 2 ^ 62 ∧ R (Itr 0 j.toNat) H1
def iRng2 (ta : TA) : TI := fun σ H R => ta σ H fun vs H1 => ∃ i j : Int, vs = [.int i, .int j] ∧ (-(2 ^ 62) ≤ i ∧ i < 2 ^ 62 ∧ -(2 ^ 62) ≤ j ∧ j < 2 ^ 62) ∧ R (Itr i (j - i).toNat) H1
theorem pi_range1 {a : Expr} {ta : TA} {p pos : Pos} (hg : Gl X "range") (hm : X.mg "range" = none) (ha : PA X [a] ta) (hs : starEach [a] X.env = [(false, eval a X.env)] := by rfl) : PI X tg (.Call (.Name "range" p) [a] [] pos) (iRng1 ta) := by
  intro pins s σ H R I h
  refine Call_ (ld_blt I hg hm boot_range (PyProof.Rows.callWith_type1 (thn (ha pos pins s σ H _ I h) fun us s1 ⟨vs, H1, I1, r1, q1⟩ => ?_) hs rfl))
  obtain ⟨j, e, q1, q2, q⟩ := q1
  subst e
  cases r1 with
  | cons r rr =>
    cases rr
    obtain ⟨t, rfl⟩ := r
    exact call_range_1 (range_it I1 (by omega) (by omega) q1 q2 (by simpa using q))
theorem pi_range2 {a b : Expr} {ta : TA} {p pos : Pos} (hg : Gl X "range") (hm : X.mg "range" = none) (ha : PA X [a, b] ta) (hs : starEach [a, b] X.env = [(false, eval a X.env), (false, eval b X.env)] := by rfl) (hs2 : starEach [b] X.env = [(false, eval b X.env)] := by rfl) :
    PI X tg (.Call (.Name "range" p) [a, b] [] pos) (iRng2 ta) := by
  intro pins s σ H R I h
  refine Call_ (ld_blt I hg hm boot_range (PyProof.Rows.callWith_type1 (thn (ha pos pins s σ H _ I h) fun us s1 ⟨vs, H1, I1, r1, q1⟩ => ?_) (by rw [hs, hs2]) (by rw [hs2]; rfl)))
  obtain ⟨i, j, e, ⟨q1, q2, q3, q4⟩, q⟩ := q1
  subst e
  cases r1 with
  | cons r rr =>
    cases rr with
    | cons r' rr =>
      cases rr
      obtain ⟨t, rfl⟩ := r
      obtain ⟨t', rfl⟩ := r'
      exact call_range_2 (range_it I1 q1 q2 q3 q4 q)
def tFor (wi : TI) (g : TG) (tb : TS) : TS := fun D σ H => wi σ H fun J H1 => ∃ W : Nat → Nat → St → Hp → Prop, (∃ m, W 0 m σ H1) ∧ ∀ i m σ H, W i m σ H →
  (J.stop i H ∧ D.nx σ H) ∨ (J.go i H ∧ ∃ N : St → Hp → Prop, (∀ σ' H', N σ' H' → ∃ m', m' < m ∧ W (i + 1) m' σ' H') ∧ ∀ x H', J.yld i H x H' → g x σ H' fun σ2 H2 => tb { D with nx := N, ct := N, bk := D.nx } σ2 H2)
def pinsAt (fp : List Addr) (h : Heap) : List (Addr × Obj) := fp.filterMap fun b => (h.get? b).map fun o => (b, o)
theorem mem_pinsAt {fp : List Addr} {h : Heap} {b : Addr} {o : Obj} (hb : b ∈ fp) (e : h.get? b = some o) : (b, o) ∈ pinsAt fp h := List.mem_filterMap.mpr ⟨b, hb, by rw [e]; rfl⟩
theorem of_pinsAt {fp : List Addr} {h : Heap} {p : Addr × Obj} (hp : p ∈ pinsAt fp h) : p.1 ∈ fp ∧ h.get? p.1 = some p.2 := by
  obtain ⟨b, hb, e⟩ := List.mem_filterMap.mp hp
  cases q : h.get? b with
  | none => rw [q] at e; cases e
  | some o =>
    rw [q] at e
    have e' : (b, o) = p := Option.some.inj e
    subst e'
    exact ⟨hb, q⟩
theorem Inv.pinned {pins : List (Addr × Obj)} {σ : St} {H : Hp} {s : Shared} {fp : List Addr} (I : Inv X pins σ H s) (hf : ∀ b ∈ fp, FpOk X pins H b) (ho : ∀ b ∈ fp, ∃ o, s.heap.get? b = some o ∧ ∀ v, o.data ≠ .cell v) : Inv X (pins ++ pinsAt fp s.heap) σ H s :=
  I.pins_of fun p hp => (List.mem_append.mp hp).elim (fun z => I.pin p (List.mem_append_right _ z)) fun z => by
    obtain ⟨hb, e⟩ := of_pinsAt z
    obtain ⟨f0, f1, f2, _⟩ := hf p.1 hb
    obtain ⟨o, e', d⟩ := ho p.1 hb
    rw [e] at e'; cases e'
    exact ⟨e, f0, f1, f2, d⟩
theorem Inv.unpinned {pins pl : List (Addr × Obj)} {σ : St} {H : Hp} {s : Shared} (I : Inv X (pins ++ pl) σ H s) : Inv X pins σ H s := I.pins_of fun p hp => I.pin p (List.mem_append_right _ (List.mem_append_left _ hp))
theorem ps_for {iter : Expr} {body : List Stmt} {wi : TI} {g : TG} {tb : TS} {pos : Pos} (hp : PassesOwn (model X.prog X.w) X.A X.env X.xe) (hc : X.calm = true) (hi : PI X tg iter wi) (hg : PG X tg g) (hb : PSs X body tb)
    (hs : ∀ x, foldedSetIterable iter X.env x = pure x := by intro _; rfl) : PS X (.For tg iter body [] pos) (tFor wi g tb) := by
  intro pins s σ H D I h
  refine wpAny_For (thn (hi pins s σ H _ I h) fun v s1 h1 => thn h1 fun itv s2 h2 => ?_) hs
  obtain ⟨it, fp, tn, J, H2, e, I2, T, st2, f2, W, ⟨m0, w0⟩, turn⟩ := h2
  subst e
  have stat : ∀ {H' : Hp}, (∀ b ∈ fp, H' b = none) → ∀ b ∈ fp, FpOk X pins H' b := fun hn b hb => ⟨hn b hb, (f2 b hb).2⟩
  refine codeAny_forLoop_any (fun n s' => ∃ i σ' H', Inv X pins σ' H' s' ∧ tn i s'.heap ∧ (∀ b ∈ fp, H' b = none) ∧ W i n σ' H') ?_ m0 ⟨0, σ, H2, I2, st2, fun b hb => (f2 b hb).1, w0⟩
  rintro n s3 ⟨i, σ3, H3, I3, st3, fr3, w3⟩
  rcases turn i n σ3 H3 w3 with ⟨stop, qn⟩ | ⟨go, N, hN, step⟩
  · refine wpAny_passesOwn hp (thn (T.done X rfl rfl rfl hc i pins s3 σ3 H3 X.xe I3 (stat fr3) st3 stop) fun r s4 ⟨hr, I4⟩ => ?_)
    subst hr
    exact wpAny_execs_nil ⟨σ3, H3, I4, qn⟩
  · refine wpAny_passesOwn hp (thn (T.item X rfl rfl rfl hc i pins s3 σ3 H3 X.xe I3 (stat fr3) st3 go) fun r s4 ⟨u, hr, h4⟩ => ?_)
    subst hr
    refine wpAny_passesOwn hp (thn h4 fun _ s5 ⟨x, H5, I5, r5, y5, st5, fr5⟩ => ?_)
    have I5' := I5.pinned (stat fr5) (T.obj _ _ st5)
    refine wpAny_passesOwn hp (thn (hg _ s5 σ3 H5 x u _ I5' r5 (step x H5 y5)) fun _ s6 ⟨σ6, H6, I6, q6⟩ => ?_)
    refine wpAny_passesOwn hp (thn (hb _ s6 σ6 H6 _ I6 q6) fun f s7 q7 => ?_)
    have again : ∀ {σ7 : St} {H7 : Hp}, Inv X (pins ++ pinsAt fp s5.heap) σ7 H7 s7 → N σ7 H7 → ∃ m, m < n ∧ ∃ i σ' H', Inv X pins σ' H' s7 ∧ tn i s7.heap ∧ (∀ b ∈ fp, H' b = none) ∧ W i m σ' H' := fun {σ7 H7} I7 n7 => by
      obtain ⟨m', hm, w7⟩ := hN σ7 H7 n7
      refine ⟨m', hm, i + 1, σ7, H7, I7.unpinned, T.keep _ _ _ st5 fun b hb o e => (I7.pin (b, o) (List.mem_append_right _ (List.mem_append_right _ (mem_pinsAt hb e)))).1, fun b hb => ?_, w7⟩
      obtain ⟨o, e, d⟩ := T.obj _ _ st5 b hb
      exact (I7.pin (b, o) (List.mem_append_right _ (List.mem_append_right _ (mem_pinsAt hb e)))).2.1
    cases f with
    | next => obtain ⟨σ7, H7, I7, n7⟩ := q7; exact again I7 n7
    | cont => obtain ⟨σ7, H7, I7, n7⟩ := q7; exact again I7 n7
    | brk => obtain ⟨σ7, H7, I7, q7⟩ := q7; exact ⟨σ7, H7, I7.unpinned, q7⟩
    | ret v => obtain ⟨x7, σ7, H7, I7, r7, q7⟩ := q7; exact ⟨x7, σ7, H7, I7.unpinned, r7, q7⟩
end
theorem for_list {K : PySem.W.Frag} {a : Addr} {xs : List V} {g : TG} {tb : TS} {D : Ends} {σ : St} {H : Hp} (Pv : Nat → St → Hp → Prop) (h0 : Pv 0 σ H) (hl : ∀ i σ H, i ≤ xs.length → Pv i σ H → SqL K H a xs)
    (hs : ∀ i x σ H, xs[i]? = some x → Pv i σ H → g x σ H fun σ2 H2 => tb { D with nx := Pv (i + 1), ct := Pv (i + 1), bk := D.nx } σ2 H2) (hd : ∀ σ H, Pv xs.length σ H → D.nx σ H) :
    ∃ W : Nat → Nat → St → Hp → Prop, (∃ m, W 0 m σ H) ∧ ∀ i m σ H, W i m σ H →
      ((Itl K a).stop i H ∧ D.nx σ H) ∨ ((Itl K a).go i H ∧ ∃ N : St → Hp → Prop, (∀ σ' H', N σ' H' → ∃ m', m' < m ∧ W (i + 1) m' σ' H') ∧ ∀ x H', (Itl K a).yld i H x H' → g x σ H' fun σ2 H2 => tb { D with nx := N, ct := N, bk := D.nx } σ2 H2) := by
  refine ⟨fun i m σ H => m = xs.length - i ∧ i ≤ xs.length ∧ Pv i σ H, ⟨xs.length, by simp, Nat.zero_le _, h0⟩, ?_⟩
  rintro i m σ H ⟨rfl, hi, p⟩
  have q := hl i σ H hi p
  by_cases hlt : i < xs.length
  · refine .inr ⟨⟨xs, xs[i], q, by simp [hlt]⟩, Pv (i + 1), fun σ' H' p' => ⟨xs.length - (i + 1), by omega, rfl, hlt, p'⟩, fun x H' y => ?_⟩
    obtain ⟨e, y⟩ := y
    subst e
    exact hs i x σ _ (y xs q) p
  · have e : i = xs.length := by omega
    subst e
    exact .inl ⟨⟨xs, q, Nat.le_refl _⟩, hd σ H p⟩
theorem for_range {lo : Int} {n : Nat} {g : TG} {tb : TS} {D : Ends} {σ : St} {H : Hp} (Pv : Nat → St → Hp → Prop) (h0 : Pv 0 σ H)
    (hs : ∀ i σ H, i < n → Pv i σ H → g (.int (lo + i)) σ H fun σ2 H2 => tb { D with nx := Pv (i + 1), ct := Pv (i + 1), bk := D.nx } σ2 H2) (hd : ∀ σ H, Pv n σ H → D.nx σ H) :
    ∃ W : Nat → Nat → St → Hp → Prop, (∃ m, W 0 m σ H) ∧ ∀ i m σ H, W i m σ H →
      ((Itr lo n).stop i H ∧ D.nx σ H) ∨ ((Itr lo n).go i H ∧ ∃ N : St → Hp → Prop, (∀ σ' H', N σ' H' → ∃ m', m' < m ∧ W (i + 1) m' σ' H') ∧ ∀ x H', (Itr lo n).yld i H x H' → g x σ H' fun σ2 H2 => tb { D with nx := N, ct := N, bk := D.nx } σ2 H2) := by
  refine ⟨fun i m σ H => m = n - i ∧ i ≤ n ∧ Pv i σ H, ⟨n, by simp, Nat.zero_le _, h0⟩, ?_⟩
  rintro i m σ H ⟨rfl, hi, p⟩
  by_cases hlt : i < n
  · refine .inr ⟨hlt, Pv (i + 1), fun σ' H' p' => ⟨n - (i + 1), by omega, rfl, hlt, p'⟩, fun x H' y => ?_⟩
    obtain ⟨e, y⟩ := y
    subst e y
    exact hs i σ _ hlt p
  · have e : i = n := by omega
    subst e
    exact .inl ⟨Nat.le_refl _, hd σ H p⟩
end L2
namespace L2
open PySem PySem.Spec PyProof.Rows
abbrev R2 := V → V → Hp → VK → Prop
def OpR (X : Cx) (f : Value → Value → Sem Value) (r : R2) : Prop :=
  ∀ (pins : List (Addr × Obj)) (s : Shared) (σ : St) (H : Hp) (x y : V) (v u : Value) (Q : VK), Inv X pins σ H s → RelV x v → RelV y u → r x y H Q →
    wpAny (model X.prog X.w) X.A (f v u) (EP X pins σ Q) X.xe s
def UnR (X : Cx) (f : Value → Sem Value) (r : V → Hp → VK → Prop) : Prop :=
  ∀ (pins : List (Addr × Obj)) (s : Shared) (σ : St) (H : Hp) (x : V) (v : Value) (Q : VK), Inv X pins σ H s → RelV x v → r x H Q →
    wpAny (model X.prog X.w) X.A (f v) (EP X pins σ Q) X.xe s
def CallR (X : Cx) (f : Value) (r : List V → Hp → VK → Prop) : Prop :=
  ∀ (pins : List (Addr × Obj)) (s : Shared) (σ : St) (H : Hp) (xs : List V) (us : List Value) (Q : VK), Inv X pins σ H s → Vals xs us → r xs H Q →
    wpAny (model X.prog X.w) X.A (call f us) (EP X pins σ Q) X.xe s
def tOp (r : R2) (ta tb : TE) : TE := fun σ H Q => ta σ H fun x H1 => tb σ H1 fun y H2 => r x y H2 Q
def tUn (r : V → Hp → VK → Prop) (ta : TE) : TE := fun σ H Q => ta σ H fun x H1 => r x H1 Q
def rI (C : Int → Int → Prop) (g : Int → Int → V) : R2 := fun x y H Q => ∃ i j, x = .int i ∧ y = .int j ∧ C i j ∧ Q (g i j) H
def rI0 (g : Int → Int → V) : R2 := fun x y H Q => ∃ i j, x = .int i ∧ y = .int j ∧ Q (g i j) H
def rU (g : Int → V) : V → Hp → VK → Prop := fun x H Q => ∃ i, x = .int i ∧ Q (g i) H
section
variable {X : Cx} {a b c : Expr} {ta tb tc : TE} {pos : Pos}
theorem binT (ha : PE X a ta) (hb : PE X b tb) {pins : List (Addr × Obj)} {s : Shared} {σ : St} {H : Hp} {R : V → V → Hp → Prop} (I : Inv X pins σ H s)
    (h : ta σ H fun x H1 => tb σ H1 fun y H2 => R x y H2) {Q : Value → Shared → Prop} {f : Value → Value → Sem Value}
    (hf : ∀ v u s2 x y H2, Inv X pins σ H2 s2 → RelV x v → RelV y u → R x y H2 → wpAny (model X.prog X.w) X.A (f v u) Q X.xe s2) :
    wpAny (model X.prog X.w) X.A (eval a X.env) (fun v s₁ => wpAny (model X.prog X.w) X.A (eval b X.env) (fun u s₂ => wpAny (model X.prog X.w) X.A (f v u) Q X.xe s₂) X.xe s₁) X.xe s := by
  refine thn (ha pins s σ H _ I h) fun v s1 ⟨x, H1, I1, r1, q1⟩ => ?_
  refine thn (hb pins s1 σ H1 _ I1 q1) fun u s2 ⟨y, H2, I2, r2, q2⟩ => ?_
  exact hf v u s2 x y H2 I2 r1 r2 q2
theorem pe_op {op : Operator} {r : R2} (ho : OpR X (binaryOp op) r) (ha : PE X a ta) (hb : PE X b tb) : PE X (.BinOp a op b pos) (tOp r ta tb) := by
  intro pins s σ H Q I h
  exact wpAny_BinOp (binT ha hb I h fun v u s2 x y H2 I2 rx ry q => ho pins s2 σ H2 x y v u Q I2 rx ry q)
theorem pe_un {op : UnaryOp} {r : V → Hp → VK → Prop} (ho : UnR X (unaryOp op) r) (ha : PE X a ta) : PE X (.UnaryOp op a pos) (tUn r ta) := by
  intro pins s σ H Q I h
  exact UnaryOp_ (thn (ha pins s σ H _ I h) fun v s1 ⟨x, H1, I1, r1, q1⟩ => ho pins s1 σ H1 x v Q I1 r1 q1)
theorem opI {f : Value → Value → Sem Value} {C : Int → Int → Prop} {g : Int → Int → Int}
    (rule : ∀ (i j : Int) (t u : Tok) (s : Shared) (Q : Value → Shared → Prop) (E : Value → Shared → Prop), C i j → Q (.int (g i j) s.toks) { s with toks := s.toks + 1 } → wpAny (model X.prog X.w) X.A (f (.int i t) (.int j u)) Q E s) :
    OpR X f (rI C fun i j => .int (g i j)) := by
  intro pins s σ H x y v u Q I rx ry h
  obtain ⟨i, j, rfl, rfl, hc, q⟩ := h
  obtain ⟨t, rfl⟩ := rx
  obtain ⟨t', rfl⟩ := ry
  exact rule i j t t' s _ _ hc ⟨.int (g i j), H, I.tok _, ⟨_, rfl⟩, q⟩
theorem opI0 {f : Value → Value → Sem Value} {g : Int → Int → Int}
    (rule : ∀ (i j : Int) (t u : Tok) (s : Shared) (Q : Value → Shared → Prop) (E : Value → Shared → Prop), Q (.int (g i j) s.toks) { s with toks := s.toks + 1 } → wpAny (model X.prog X.w) X.A (f (.int i t) (.int j u)) Q E s) :
    OpR X f (rI0 fun i j => .int (g i j)) := by
  intro pins s σ H x y v u Q I rx ry h
  obtain ⟨i, j, rfl, rfl, q⟩ := h
  obtain ⟨t, rfl⟩ := rx
  obtain ⟨t', rfl⟩ := ry
  exact rule i j t t' s _ _ ⟨.int (g i j), H, I.tok _, ⟨_, rfl⟩, q⟩
theorem opB0 {f : Value → Value → Sem Value} {g : Int → Int → Bool}
    (rule : ∀ (i j : Int) (t u : Tok) (s : Shared) (Q : Value → Shared → Prop) (E : Value → Shared → Prop), Q (.bool (g i j)) s → wpAny (model X.prog X.w) X.A (f (.int i t) (.int j u)) Q E s) :
    OpR X f (rI0 fun i j => .bl (g i j)) := by
  intro pins s σ H x y v u Q I rx ry h
  obtain ⟨i, j, rfl, rfl, q⟩ := h
  obtain ⟨t, rfl⟩ := rx
  obtain ⟨t', rfl⟩ := ry
  exact rule i j t t' s _ _ ⟨.bl (g i j), H, I, rfl, q⟩
def CDiv (i j : Int) : Prop := 0 < j ∧ j < 1073741824
def CMul (i j : Int) : Prop := (-(2 ^ 64) < i ∧ i < 2 ^ 64) ∨ (-(2 ^ 64) < j ∧ j < 2 ^ 64)
theorem CMul.ok {i j : Int} (h : CMul i j) : IntMulOk i j := by
  rcases h with ⟨h1, h2⟩ | ⟨h1, h2⟩
  · exact .of_left (intBits_le_64 h1 h2)
  · exact .of_right (intBits_le_64 h1 h2)
theorem op_add : OpR X (binaryOp .Add) (rI0 fun i j => .int (i + j)) := opI0 fun _ _ _ _ _ _ _ q => add_int q
theorem op_sub : OpR X (binaryOp .Sub) (rI0 fun i j => .int (i - j)) := opI0 fun _ _ _ _ _ _ _ q => sub_int q
theorem op_mul : OpR X (binaryOp .Mult) (rI CMul fun i j => .int (i * j)) := opI fun _ _ _ _ _ _ _ hc q => mul_int q hc.ok
theorem op_fdiv : OpR X (binaryOp .FloorDiv) (rI CDiv fun i j => .int (i / j)) := opI fun i j _ _ _ _ _ hc q => by
  have h1 : (0 : Int) < j := hc.1
  have h2 : j < 1073741824 := hc.2
  exact floordiv_int (by omega) (by rw [Int.fdiv_eq_ediv_of_nonneg i (by omega)]; exact q) (.inl (PyProof.noPylong_small (by omega)))
theorem op_mod : OpR X (binaryOp .Mod) (rI (fun _ j => 0 < j) fun i j => .int (i % j)) := opI fun i j _ _ _ _ _ hc q => by
  have h1 : (0 : Int) < j := hc
  exact mod_int' (by omega) (by rw [Int.fmod_eq_emod_of_nonneg i (by omega)]; exact q)
theorem unI {f : Value → Sem Value} {g : Int → Int}
    (rule : ∀ (i : Int) (t : Tok) (s : Shared) (Q : Value → Shared → Prop) (E : Value → Shared → Prop), Q (.int (g i) s.toks) { s with toks := s.toks + 1 } → wpAny (model X.prog X.w) X.A (f (.int i t)) Q E s) :
    UnR X f (rU fun i => .int (g i)) := by
  intro pins s σ H x v Q I rx h
  obtain ⟨i, rfl, q⟩ := h
  obtain ⟨t, rfl⟩ := rx
  exact rule i t s _ _ ⟨.int (g i), H, I.tok _, ⟨_, rfl⟩, q⟩
theorem un_neg : UnR X (unaryOp .USub) (rU fun i => .int (-i)) := unI fun _ _ _ _ _ q => neg_int q
end
def scal : V → V → Bool
  | .non, .non => true | .non, .int _ => true | .int _, .non => true | .non, .bl _ => true | .bl _, .non => true | .non, .str _ => true | .str _, .non => true
  | .int _, .int _ => true | .bl _, .bl _ => true | .str _, .str _ => true | .byt _, .byt _ => true
  | .int _, .str _ => true | .str _, .int _ => true | .bl _, .str _ => true | .str _, .bl _ => true
  | _, _ => false
def rEq : R2 := fun x y H Q => scal x y = true ∧ Q (.bl (decide (x = y))) H
def rNe : R2 := fun x y H Q => scal x y = true ∧ Q (.bl (!decide (x = y))) H
theorem dec_int {i j : Int} : decide (V.int i = V.int j) = (i == j) := by
  rw [Bool.eq_iff_iff]
  simp
theorem dec_bl {i j : Bool} : decide (V.bl i = V.bl j) = (i == j) := by
  rw [Bool.eq_iff_iff]
  simp
theorem dec_str {i j : Str} : decide (V.str i = V.str j) = (i == j) := by
  rw [Bool.eq_iff_iff]
  simp
theorem dec_byt {i j : Array UInt8} : decide (V.byt i = V.byt j) = (i.toList == j.toList) := by
  rw [Bool.eq_iff_iff]
  cases i
  cases j
  simp
section
variable {X : Cx} {a b c : Expr} {ta tb tc : TE} {pos : Pos}
theorem fin_bl {pins : List (Addr × Obj)} {σ : St} {H : Hp} {s : Shared} {Q : VK} {k k' : Bool} (I : Inv X pins σ H s) (q : Q (.bl k) H) (e : k = k') : EP X pins σ Q (.bool k') s := by
  subst e
  exact ⟨.bl k, H, I, rfl, q⟩
theorem op_eq : OpR X (compareOp .Eq) rEq := by
  intro pins s σ H x y v u Q I rx ry h
  obtain ⟨hs, q⟩ := h
  cases x with
  | non =>
    cases rx
    cases y with
    | non => cases ry; exact PySem.EqNone.eq_none_none (fin_bl I q (by simp))
    | bl j => cases ry; exact PySem.EqNone.eq_none_bool (fin_bl I q (by simp))
    | int j => obtain ⟨t', rfl⟩ := ry; exact PySem.EqNone.eq_none_int (fin_bl I q (by simp))
    | str j => obtain ⟨t', rfl⟩ := ry; exact PySem.EqNone.eq_none_str (fin_bl I q (by simp))
    | _ => exact absurd (show false = true from hs) Bool.false_ne_true
  | bl i =>
    cases rx
    cases y with
    | non => cases ry; exact PySem.EqNone.eq_bool_none (fin_bl I q (by simp))
    | bl j => cases ry; exact eq_bool (fin_bl I q dec_bl)
    | str j => obtain ⟨t', rfl⟩ := ry; exact PySem.EqMixed.eq_bool_str (fin_bl I q (by simp))
    | _ => exact absurd (show false = true from hs) Bool.false_ne_true
  | int i =>
    obtain ⟨t, rfl⟩ := rx
    cases y with
    | non => cases ry; exact PySem.EqNone.eq_int_none (fin_bl I q (by simp))
    | int j => obtain ⟨t', rfl⟩ := ry; exact eq_int (fin_bl I q dec_int)
    | str j => obtain ⟨t', rfl⟩ := ry; exact PySem.EqMixed.eq_int_str (fin_bl I q (by simp))
    | _ => exact absurd (show false = true from hs) Bool.false_ne_true
  | str i =>
    obtain ⟨t, rfl⟩ := rx
    cases y with
    | non => cases ry; exact PySem.EqNone.eq_str_none (fin_bl I q (by simp))
    | bl j => cases ry; exact PySem.EqMixed.eq_str_bool (fin_bl I q (by simp))
    | int j => obtain ⟨t', rfl⟩ := ry; exact PySem.EqMixed.eq_str_int (fin_bl I q (by simp))
    | str j => obtain ⟨t', rfl⟩ := ry; exact eq_str (fin_bl I q dec_str)
    | _ => exact absurd (show false = true from hs) Bool.false_ne_true
  | byt i =>
    obtain ⟨t, rfl⟩ := rx
    cases y with
    | byt j => obtain ⟨t', rfl⟩ := ry; exact PySem.W.eq_bytes (fin_bl I q dec_byt)
    | _ => exact absurd (show false = true from hs) Bool.false_ne_true
  | _ => cases y <;> exact absurd (show false = true from hs) Bool.false_ne_true
theorem op_ne : OpR X (compareOp .NotEq) rNe := by
  intro pins s σ H x y v u Q I rx ry h
  obtain ⟨hs, q⟩ := h
  cases x with
  | non =>
    cases rx
    cases y with
    | non => cases ry; exact PySem.EqNone.ne_none_none (fin_bl I q (by simp))
    | bl j => cases ry; exact PySem.EqNone.ne_none_bool (fin_bl I q (by simp))
    | int j => obtain ⟨t', rfl⟩ := ry; exact PySem.EqNone.ne_none_int (fin_bl I q (by simp))
    | str j => obtain ⟨t', rfl⟩ := ry; exact PySem.EqNone.ne_none_str (fin_bl I q (by simp))
    | _ => exact absurd (show false = true from hs) Bool.false_ne_true
  | bl i =>
    cases rx
    cases y with
    | non => cases ry; exact PySem.EqNone.ne_bool_none (fin_bl I q (by simp))
    | bl j => cases ry; exact ne_bool (fin_bl I q (congrArg not dec_bl))
    | str j => obtain ⟨t', rfl⟩ := ry; exact PySem.EqMixed.ne_bool_str (fin_bl I q (by simp))
    | _ => exact absurd (show false = true from hs) Bool.false_ne_true
  | int i =>
    obtain ⟨t, rfl⟩ := rx
    cases y with
    | non => cases ry; exact PySem.EqNone.ne_int_none (fin_bl I q (by simp))
    | int j => obtain ⟨t', rfl⟩ := ry; exact ne_int (fin_bl I q (congrArg not dec_int))
    | str j => obtain ⟨t', rfl⟩ := ry; exact PySem.EqMixed.ne_int_str (fin_bl I q (by simp))
    | _ => exact absurd (show false = true from hs) Bool.false_ne_true
  | str i =>
    obtain ⟨t, rfl⟩ := rx
    cases y with
    | non => cases ry; exact PySem.EqNone.ne_str_none (fin_bl I q (by simp))
    | bl j => cases ry; exact PySem.EqMixed.ne_str_bool (fin_bl I q (by simp))
    | int j => obtain ⟨t', rfl⟩ := ry; exact PySem.EqMixed.ne_str_int (fin_bl I q (by simp))
    | str j => obtain ⟨t', rfl⟩ := ry; exact ne_str (fin_bl I q (congrArg not dec_str))
    | _ => exact absurd (show false = true from hs) Bool.false_ne_true
  | byt i =>
    obtain ⟨t, rfl⟩ := rx
    cases y with
    | byt j => obtain ⟨t', rfl⟩ := ry; exact PySem.W.ne_bytes (fin_bl I q (congrArg not dec_byt))
    | _ => exact absurd (show false = true from hs) Bool.false_ne_true
  | _ => cases y <;> exact absurd (show false = true from hs) Bool.false_ne_true
theorem op_lt : OpR X (compareOp .Lt) (rI0 fun i j => .bl (decide (i < j))) := opB0 fun _ _ _ _ _ _ _ q => lt_int q
theorem op_le : OpR X (compareOp .LtE) (rI0 fun i j => .bl (decide (i ≤ j))) := opB0 fun _ _ _ _ _ _ _ q => le_int q
theorem op_gt : OpR X (compareOp .Gt) (rI0 fun i j => .bl (decide (j < i))) := opB0 fun _ _ _ _ _ _ _ q => gt_int q
theorem nomark (b : Expr) {op : CmpOp} (h : op ≠ .In := by decide) (h2 : op ≠ .NotIn := by decide) : behindInMarks op b = false := by
  have e1 : (op == CmpOp.In) = false := by cases op <;> first | rfl | exact absurd rfl h
  have e2 : (op == CmpOp.NotIn) = false := by cases op <;> first | rfl | exact absurd rfl h2
  cases b <;> simp [behindInMarks, e1, e2]
theorem pe_cmpR {op : CmpOp} {r : R2} (ho : OpR X (compareOp op) r) (ha : PE X a ta) (hb : PE X b tb) (hm : behindInMarks op b = false) : PE X (.Compare a [op] [b] pos) (tOp r ta tb) := by
  intro pins s σ H Q I h
  exact wpAny_Compare1 (binT ha hb I h fun v u s2 x y H2 I2 rx ry q => ho pins s2 σ H2 x y v u Q I2 rx ry q) hm
def tTest (t : TE) : TT := fun σ H Q => t σ H fun x H' => ∃ k, x = .bl k ∧ Q k H'
theorem pt_cmpR {op : CmpOp} {r : R2} (ho : OpR X (compareOp op) r) (ha : PE X a ta) (hb : PE X b tb) (hm : behindInMarks op b = false) : PT X (.Compare a [op] [b] pos) (tTest (tOp r ta tb)) := by
  intro pins s σ H Q I h
  refine wpAny_isTrue_Compare1 (thn (ha pins s σ H _ I h) fun v s1 ⟨x, H1, I1, r1, q1⟩ => thn (hb pins s1 σ H1 _ I1 q1) fun u s2 ⟨y, H2, I2, r2, q2⟩ =>
    thn (ho pins s2 σ H2 x y v u _ I2 r1 r2 q2) fun c s3 ⟨z, H3, I3, r3, k, e, q3⟩ => ?_) hm
  subst e
  cases r3
  exact wpAny_truthy_bool ⟨H3, I3, q3⟩
def tChain (r r' : R2) (ta tb tc : TE) : TE := fun σ H Q => ta σ H fun x H1 => tb σ H1 fun y H2 => r x y H2 fun z H3 => ∃ k, z = .bl k ∧
  (if k = true then tc σ H3 fun w' H4 => r' y w' H4 Q else Q (.bl false) H3)
theorem pe_chain {op op' : CmpOp} {r r' : R2} (ho : OpR X (compareOp op) r) (ho' : OpR X (compareOp op') r') (ha : PE X a ta) (hb : PE X b tb) (hc : PE X c tc)
    (hm : lastMarks [op, op'] [b, c] = false := by with_unfolding_all rfl) : PE X (.Compare a [op, op'] [b, c] pos) (tChain r r' ta tb tc) := by
  intro pins s σ H Q I h
  refine Compare_chain (thn (ha pins s σ H _ I h) fun v s1 ⟨x, H1, I1, r1, q1⟩ => chain_link (thn (hb pins s1 σ H1 _ I1 q1) fun u s2 ⟨y, H2, I2, r2, q2⟩ =>
    thn (ho pins s2 σ H2 x y v u _ I2 r1 r2 q2) fun d s3 ⟨z, H3, I3, r3, k, e, q3⟩ => ?_)) hm
  subst e
  cases r3
  refine wpAny_truthy_bool ?_
  cases k with
  | false => exact ite_ff ⟨.bl false, H3, I3, rfl, q3⟩
  | true => exact ite_tt (chain_last (thn (hc pins s3 σ H3 _ I3 q3) fun w' s4 ⟨z', H4, I4, r4, q4⟩ => ho' pins s4 σ H4 y z' u w' Q I4 r2 r4 q4))
theorem pt_chain {op op' : CmpOp} {r r' : R2} (ho : OpR X (compareOp op) r) (ho' : OpR X (compareOp op') r') (ha : PE X a ta) (hb : PE X b tb) (hc : PE X c tc)
    (hm : lastMarks [op, op'] [b, c] = false := by with_unfolding_all rfl) : PT X (.Compare a [op, op'] [b, c] pos) (tTest (tChain r r' ta tb tc)) := by
  intro pins s σ H Q I h
  refine isTrue_chain (thn (ha pins s σ H _ I h) fun v s1 ⟨x, H1, I1, r1, q1⟩ => test_link (thn (hb pins s1 σ H1 _ I1 q1) fun u s2 ⟨y, H2, I2, r2, q2⟩ =>
    thn (ho pins s2 σ H2 x y v u _ I2 r1 r2 q2) fun d s3 ⟨z, H3, I3, r3, k, e, q3⟩ => ?_)) hm
  subst e
  cases r3
  refine wpAny_truthy_bool ?_
  cases k with
  | false =>
    obtain ⟨k', e', q'⟩ := q3
    cases e'
    exact ite_ff ⟨H3, I3, q'⟩
  | true =>
    refine ite_tt (test_last (thn (hc pins s3 σ H3 _ I3 q3) fun w' s4 ⟨z', H4, I4, r4, q4⟩ => thn (ho' pins s4 σ H4 y z' u w' _ I4 r2 r4 q4) fun d' s5 ⟨z2, H5, I5, r5, k2, e2, q5⟩ => ?_))
    subst e2
    cases r5
    exact wpAny_truthy_bool ⟨H5, I5, q5⟩
theorem line63 : (sizeLine : Nat) < 2 ^ 63 := by rw [sizeLine_eq]; decide
theorem vals1 {x : V} {us : List Value} (r : Vals [x] us) : ∃ u, us = [u] ∧ RelV x u := by
  cases r with
  | cons r1 r2 => cases r2; exact ⟨_, rfl, r1⟩
theorem vals2 {x y : V} {us : List Value} (r : Vals [x, y] us) : ∃ u w', us = [u, w'] ∧ RelV x u ∧ RelV y w' := by
  cases r with
  | cons r1 r2 =>
    cases r2 with
    | cons r3 r4 => cases r4; exact ⟨_, _, rfl, r1, r3⟩
theorem call_abs : CallR X (.builtin "abs") (fun xs H Q => ∃ i, xs = [.int i] ∧ Q (.int (if i < 0 then -i else i)) H) := by
  intro pins s σ H xs us Q I r h
  obtain ⟨i, rfl, q⟩ := h
  obtain ⟨u, rfl, t, rfl⟩ := vals1 r
  exact call_abs_int fun u tk => ⟨.int (if i < 0 then -i else i), H, I.tok _, ⟨_, rfl⟩, q⟩
theorem call_max2 (hc : X.calm = true) : CallR X (.builtin "max") (fun xs H Q => ∃ i j, xs = [.int i, .int j] ∧ Q (.int (if j > i then j else i)) H) := by
  intro pins s σ H xs us Q I r h
  obtain ⟨i, j, rfl, q⟩ := h
  obtain ⟨u, w', rfl, ⟨t, rfl⟩, ⟨t', rfl⟩⟩ := vals2 r
  refine max_two_ints (I.ok.hd hc) fun h' tk k => ⟨_, H, I.kept k, ?_, q⟩
  by_cases hj : j > i
  · rw [if_pos hj, if_pos hj]; exact ⟨_, rfl⟩
  · rw [if_neg hj, if_neg hj]; exact ⟨_, rfl⟩
theorem call_min2 (hc : X.calm = true) : CallR X (.builtin "min") (fun xs H Q => ∃ i j, xs = [.int i, .int j] ∧ Q (.int (if j < i then j else i)) H) := by
  intro pins s σ H xs us Q I r h
  obtain ⟨i, j, rfl, q⟩ := h
  obtain ⟨u, w', rfl, ⟨t, rfl⟩, ⟨t', rfl⟩⟩ := vals2 r
  refine min_two_ints (I.ok.hd hc) fun h' tk k => ⟨_, H, I.kept k, ?_, q⟩
  by_cases hj : j < i
  · rw [if_pos hj, if_pos hj]; exact ⟨_, rfl⟩
  · rw [if_neg hj, if_neg hj]; exact ⟨_, rfl⟩
end
end L2
namespace L2
open PySem PySem.Spec PyProof.Rows
structure ObjM (h : Heap) (x dx C : Addr) (mA : Str → Option Value) : Prop where
  obj : h.get? x = some (PySem.W.instObj C dx)
  ns : h.Ns1 dx mA
  ne : dx ≠ x
theorem lookIn_ns {h : Heap} {dx : Addr} {mA : Str → Option Value} (n : h.Ns1 dx mA) : ∃ od, h.get? dx = some od ∧ ∀ name, PySem.W.lookIn name od = some (mA name) := by
  obtain ⟨o, es, ep, ho, hd, hk, _, hm⟩ := n
  refine ⟨o, ho, fun name => ?_⟩
  have e := hm name
  unfold nsFind findBy at e
  rw [← Array.find?_toList] at e
  unfold PySem.W.lookIn
  rw [hd]
  dsimp only
  split
  · rename_i y q
    rw [q] at e
    exact congrArg some e
  · rename_i q
    rw [q] at e
    have a : es.toList.any (·.refKey) = false := by
      rw [List.any_eq_false]
      intro y hy
      obtain ⟨z, t, hkey⟩ := hk y (Array.mem_toList_iff.mp hy)
      simp [DictEntry.refKey, hkey]
    have a' : ¬ es.toList.any (·.refKey) = true := by rw [a]; exact Bool.false_ne_true
    rw [if_neg a']
    exact congrArg some e
theorem ObjM.look {h : Heap} {x dx C : Addr} {mA : Str → Option Value} (I : ObjM h x dx C mA) : ∃ od, PySem.W.InstAt h x (PySem.W.instObj C dx) C (some od) ∧ ∀ name, PySem.W.lookIn name od = some (mA name) :=
  let ⟨od, ho, hl⟩ := lookIn_ns I.ns
  ⟨od, ⟨I.obj, rfl, rfl, ho⟩, hl⟩
section
variable {prog : Program} {w : World} {A : Around} {E : Value → Shared → Prop} {s : Shared} {K : PySem.W.Frag} {x dx C f : Addr} {mA : Str → Option Value} {name : Str} {v : Value}
theorem get_map {expr : Bool} {Q : Value → Shared → Prop} (X : K.In s.heap) (I : ObjM s.heap x dx C mA) (hg : PySem.W.plainGet K C name = true) (hh : PySem.W.hasDictIn K C = true)
    (ha : PySem.W.findIn K (.ref C) name = some none) (hv : mA name = some v) (hv' : PySem.W.handedIn v = true) (h : Q v { s with toks := s.toks + 1 }) :
    wpAny (model prog w) A (getAttr (.ref x) name expr) Q E s := by
  obtain ⟨od, J, hl⟩ := I.look
  exact PySem.W.get_value X J (PySem.W.plainGet_of hg).1 (PySem.W.findObj_own hh ha rfl (by rw [hl, hv])) hv' h
theorem get_meth {pl : Sem Bool} {Q : Value × List Value → Shared → Prop} (X : K.In s.heap) (I : ObjM s.heap x dx C mA) (hg : PySem.W.plainGet K C name = true)
    (hf : PySem.W.findIn K (.ref C) name = some (some (.ref f))) (ht : PySem.W.isFn K (.ref f) = true) (hv : mA name = none) (h : Q (.ref f, [.ref x]) s) :
    wpAny (model prog w) A (getMethod (.ref x) name pl) Q E s := by
  obtain ⟨od, J, hl⟩ := I.look
  exact PySem.W.method_fn X J (PySem.W.plainGet_of hg).1 (PySem.W.plainGet_of hg).2 hf (beq_iff_eq.mp ht) (by show (PySem.W.lookIn name od).map (·.isSome) = some false; rw [hl, hv]; rfl) h
theorem set_map {ns : List Str} {Q : Unit → Shared → Prop} (X : K.In s.heap) (I : ObjM s.heap x dx C mA)
    (hs : PySem.W.findIn K (.ref C) "__setattr__" = some (some (.builtin "object.__setattr__"))) (hp : PySem.W.plainOver K C = true) (ht : PySem.W.takerIn K C name = some none) (hh : PySem.W.hasDictIn K C = true)
    (hw : PySem.Within mA ns) (hsz : ns.length ≤ sizeLine)
    (h : ∀ h', ObjM h' x dx C (fun y => if y = name then some v else mA y) → Heap.SameBut dx s.heap h' → Q () { s with heap := h', toks := s.toks + 2 }) :
    wpAny (model prog w) A (setAttr (.ref x) name v) Q E s := by
  obtain ⟨od, J, hl⟩ := I.look
  refine PySem.W.set_plain X J hs (PySem.W.osa_open (s := { s with toks := s.toks + 1 }) (r := none) X J hp ht fun b => ?_)
  obtain ⟨cd, hc, hd'⟩ := PySem.W.any_some hh
  have hx : s.heap.get? x = some ⟨.ref C, some dx, .plain, #[]⟩ := I.obj
  refine wpAny_bind (wpAny_pure (wpAny_bind (wpAny_bind (wpAny_loadPart hx (wpAny_bind (PySem.W.Looks.here (s := { s with toks := s.toks + 1 }) (PySem.W.looks_clsIn X hc) ?_))))))
  rw [hd']
  refine wpAny_pure (a := some dx) (wpAny_bind (wpAny_pure (wpAny_bind ?_)))
  refine wpAny_nsSet1 (s := { s with toks := s.toks + 1 }) I.ns fun h' hn2 hs2 => ?_
  obtain ⟨oD, esD, epD, hoD, hdD, hcD⟩ := hn2.count (PySem.Within.cons name v hw)
  refine wpAny_bind (wpAny_lookBehind hoD (by rw [hdD]; exact pastItsLine_dict (Nat.le_trans hcD (by rw [List.length_cons]; omega))) ?_)
  exact wpAny_pure (h _ ⟨(hs2.2 _ (Ne.symm I.ne)).trans I.obj, hn2, I.ne⟩ hs2)
theorem make_map {R : Result → Shared → Prop} {vs : List Value} {kw : List (Str × Value)} (X : K.In s.heap) (hm : PySem.W.makesIn K C = true)
    (hi : PySem.W.findIn K (.ref C) "__init__" = some (some (.ref f))) (hf : PySem.W.typeIn K (.ref f) = some (.type "function"))
    (h : codeAny (model prog w) (A.under (.builtin "type.__call__" ⟨.ref C :: vs, kw⟩)) (.call (.ref f) ⟨.ref (s.heap.objs.size + 1) :: vs, kw⟩) (PySem.W.InitBack (s.heap.objs.size + 1) R)
      { s with heap := (s.heap.push PySem.W.emptyDict).push (PySem.W.instObj C s.heap.objs.size) }) :
    codeAny (model prog w) A (.call (.ref C) ⟨vs, kw⟩) R s := by
  obtain ⟨hh, g, d, t, os⟩ := s
  exact PySem.W.make_core (PySem.W.makes_of X hm) (PySem.W.looks_findIn X hi) (fun self => PySem.W.bind_fn X self hf) (.inl rfl) h
end
def putF (f : Str) (v : V) : List (Str × V) → List (Str × V)
  | [] => [(f, v)]
  | (g, x) :: r => if g = f then (g, v) :: r else (g, x) :: putF f v r
theorem lookup_putF (f g : Str) (v : V) : ∀ fs : List (Str × V), (putF f v fs).lookup g = if g = f then some v else fs.lookup g
  | [] => by
    show List.lookup g [(f, v)] = _
    by_cases h : g = f
    · have hb : (g == f) = true := beq_iff_eq.mpr h
      simp only [List.lookup, hb, if_pos h]
    · have hb : (g == f) = false := beq_eq_false_iff_ne.mpr h
      simp only [List.lookup, hb, if_neg h]
  | (k, x) :: r => by
    have ih := lookup_putF f g v r
    rw [show putF f v ((k, x) :: r) = (if k = f then (k, v) :: r else (k, x) :: putF f v r) from rfl]
    by_cases hk : k = f
    · rw [if_pos hk]
      by_cases h : g = k
      · have hb : (g == k) = true := beq_iff_eq.mpr h
        simp only [List.lookup, hb, if_pos (h.trans hk)]
      · have hb : (g == k) = false := beq_eq_false_iff_ne.mpr h
        simp only [List.lookup, hb, if_neg (fun e : g = f => h (e.trans hk.symm))]
    · rw [if_neg hk]
      by_cases h : g = k
      · have hb : (g == k) = true := beq_iff_eq.mpr h
        simp only [List.lookup, hb, if_neg (fun e : g = f => hk (h.symm.trans e))]
      · have hb : (g == k) = false := beq_eq_false_iff_ne.mpr h
        simp only [List.lookup, hb]
        exact ih
theorem keys_putF (f : Str) (v : V) : ∀ fs : List (Str × V), f ∈ (putF f v fs).map (·.1) ∧ ∀ g, g ∈ fs.map (·.1) → g ∈ (putF f v fs).map (·.1)
  | [] => ⟨by simp [putF], fun g h => by simp at h⟩
  | (k, x) :: r => by
    obtain ⟨i1, i2⟩ := keys_putF f v r
    rw [show putF f v ((k, x) :: r) = (if k = f then (k, v) :: r else (k, x) :: putF f v r) from rfl]
    by_cases hk : k = f
    · rw [if_pos hk]
      subst hk
      exact ⟨by simp, fun g h => by simpa using h⟩
    · rw [if_neg hk]
      refine ⟨?_, fun g h => ?_⟩
      · rw [List.map_cons]
        exact List.mem_cons_of_mem _ i1
      · rw [List.map_cons] at h ⊢
        rcases List.mem_cons.mp h with e | e
        · exact List.mem_cons.mpr (.inl e)
        · exact List.mem_cons_of_mem _ (i2 g e)
theorem length_putF (f : Str) (v : V) : ∀ fs : List (Str × V), (putF f v fs).length ≤ fs.length + 1
  | [] => by simp [putF]
  | (k, x) :: r => by
    have ih := length_putF f v r
    rw [show putF f v ((k, x) :: r) = (if k = f then (k, v) :: r else (k, x) :: putF f v r) from rfl]
    by_cases hk : k = f
    · rw [if_pos hk, List.length_cons, List.length_cons]; omega
    · rw [if_neg hk, List.length_cons, List.length_cons]; omega
theorem RelO.some_of {v : V} {o : Option Value} (r : RelO (some v) o) : ∃ u, o = some u ∧ RelV v u := by
  cases o with
  | none => exact (show False from r).elim
  | some u => exact ⟨u, rfl, r⟩
theorem RelO.none_of {o : Option Value} (r : RelO none o) : o = none := by
  cases o with
  | none => rfl
  | some u => exact (show False from r).elim
theorem handed_of {v : V} {u : Value} (r : RelV v u) : PySem.W.handedIn u = true := by
  cases v with
  | non => cases (show u = Value.none from r); rfl
  | bl b => cases (show u = Value.bool b from r); rfl
  | int i => obtain ⟨t, e⟩ := (show ∃ t, u = Value.int i t from r); cases e; rfl
  | str x => obtain ⟨t, e⟩ := (show ∃ t, u = Value.str x t from r); cases e; rfl
  | byt b => obtain ⟨t, e⟩ := (show ∃ t, u = Value.bytes b t from r); cases e; rfl
  | flt b => obtain ⟨t, e⟩ := (show ∃ t, u = Value.float b t from r); cases e; rfl
  | ref a => cases (show u = Value.ref a from r); rfl
  | ty n => cases (show u = Value.type n from r); rfl
section
variable {P : Program} {w : World} {H H' : Hp} {h h' : Heap} {a C dx : Addr} {fs fs' : List (Str × V)}
theorem ins_get (hok : HOk P w H h) (e : H a = some (.ins C dx fs)) : ∃ mA, ObjM h a dx C mA ∧ (∀ f, RelO (fs.lookup f) (mA f)) ∧ PySem.Within mA (fs.map (·.1)) ∧ fs.length ≤ 1000 ∧ H dx = some (.own a) := by
  obtain ⟨d, z, ne, ob, mA, n, r, q⟩ := (show ObjOk P w H h a (.ins C dx fs) from hok a _ e)
  exact ⟨mA, ⟨ob, n, ne⟩, r, q, z, d⟩
end
structure Cls (K : PySem.W.Frag) (C : Addr) : Prop where
  pg : PySem.W.plainGet K C Str.empty = true
  hd : PySem.W.hasDictIn K C = true
  po : PySem.W.plainOver K C = true
  sa : PySem.W.findIn K (.ref C) "__setattr__" = some (some (.builtin "object.__setattr__"))
theorem Cls.get {K : PySem.W.Frag} {C : Addr} (c : Cls K C) (f : Str) : PySem.W.plainGet K C f = true := c.pg
def NoAttr (K : PySem.W.Frag) (C : Addr) (f : Str) : Prop := PySem.W.findIn K (.ref C) f = some none
theorem NoAttr.taker {K : PySem.W.Frag} {C : Addr} {f : Str} (n : NoAttr K C f) : PySem.W.takerIn K C f = some none := by
  unfold PySem.W.takerIn
  rw [show PySem.W.findIn K (.ref C) f = some none from n]
  rfl
structure Meth (K : PySem.W.Frag) (C : Addr) (m : Str) (f : Addr) : Prop where
  at_ : PySem.W.findIn K (.ref C) m = some (some (.ref f))
  fn : PySem.W.isFn K (.ref f) = true
  kp : PySem.W.keepIn K (.ref f) = true
section
variable {X : Cx} {pins : List (Addr × Obj)} {σ : St} {H : Hp} {s : Shared} {a C dx : Addr} {fs : List (Str × V)} {f : Str} {v : V} {A : Around} {E : Value → Shared → Prop}
theorem getattr_ok {b : Bool} {Q : Value → Shared → Prop} (I : Inv X pins σ H s) (e : H a = some (.ins C dx fs)) (c : Cls X.K C) (n : NoAttr X.K C f) (l : fs.lookup f = some v)
    (h : ∀ u s', Inv X pins σ H s' → RelV v u → Q u s') : wpAny (model X.prog X.w) A (getAttr (.ref a) f b) Q E s := by
  obtain ⟨mA, O, r, _, _, _⟩ := ins_get I.hok e
  obtain ⟨u, hu, ru⟩ := RelO.some_of (v := v) (o := mA f) (by rw [← l]; exact r f)
  exact get_map I.kIn O (c.get f) c.hd n hu (handed_of ru) (h u _ (I.tok _) ru)
theorem getmeth_ok {m : Str} {g : Addr} {pl : Sem Bool} {Q : Value × List Value → Shared → Prop} (I : Inv X pins σ H s) (e : H a = some (.ins C dx fs)) (c : Cls X.K C) (k : Meth X.K C m g) (l : fs.lookup m = none)
    (h : Q (.ref g, [.ref a]) s) : wpAny (model X.prog X.w) A (getMethod (.ref a) m pl) Q E s := by
  obtain ⟨mA, O, r, _, _, _⟩ := ins_get I.hok e
  have hn : mA m = none := RelO.none_of (by rw [← l]; exact r m)
  exact get_meth I.kIn O (c.get m) k.at_ k.fn hn h
theorem setattr_ok {y : V} {u : Value} {Q : Unit → Shared → Prop} (I : Inv X pins σ H s) (e : H a = some (.ins C dx fs)) (c : Cls X.K C) (n : NoAttr X.K C f) (hl : fs.length < 1000) (ry : RelV y u)
    (h : ∀ s', Inv X pins σ (upd H a (.ins C dx (putF f y fs))) s' → Q () s') : wpAny (model X.prog X.w) A (setAttr (.ref a) f u) Q E s := by
  obtain ⟨mA, O, r, wi, _, ho⟩ := ins_get I.hok e
  have hz : (fs.map (·.1)).length ≤ sizeLine := by rw [List.length_map, sizeLine_eq]; omega
  refine set_map I.kIn O c.sa c.po n.taker c.hd wi hz fun h' O' sb => h _ ?_
  have hd : ∃ o, h'.get? dx = some o := let ⟨o, _, _, e', _⟩ := O'.ns; ⟨o, e'⟩
  refine I.write (x := a) (e := dx) (by rw [e]; exact True.intro) (.inr ho) (fun b q hb z => (sb.2 b hb).trans z) hd ?_
  refine ⟨by rw [upd_ne O.ne]; exact ho, ?_, O.ne, O'.obj, _, O'.ns, fun g => ?_, fun g hg => ?_⟩
  · have := length_putF f y fs; omega
  · show RelO ((putF f y fs).lookup g) (if g = f then some u else mA g)
    rw [lookup_putF]
    by_cases q : g = f
    · rw [if_pos q, if_pos q]; exact ry
    · rw [if_neg q, if_neg q]; exact r g
  · by_cases q : g = f
    · rw [q]; exact (keys_putF f y fs).1
    · refine (keys_putF f y fs).2 g (wi g fun z => hg ?_)
      show (if g = f then some u else mA g) = none
      rw [if_neg q]; exact z
theorem Inv.made (I : Inv X pins σ H s) : Inv X pins σ (upd (upd H s.heap.objs.size (.own (s.heap.objs.size + 1))) (s.heap.objs.size + 1) (.ins C s.heap.objs.size []))
    { s with heap := (s.heap.push PySem.W.emptyDict).push (PySem.W.instObj C s.heap.objs.size) } := by
  have e1 : (s.heap.push PySem.W.emptyDict).get? s.heap.objs.size = some PySem.W.emptyDict := Heap.get?_push_size s.heap rfl
  have e2 : ((s.heap.push PySem.W.emptyDict).push (PySem.W.instObj C s.heap.objs.size)).get? (s.heap.objs.size + 1) = some (PySem.W.instObj C s.heap.objs.size) := by
    have := Heap.get?_push_size (s.heap.push PySem.W.emptyDict) (o := PySem.W.instObj C s.heap.objs.size) rfl
    rwa [Heap.size_push] at this
  have e3 : (s.heap.push PySem.W.emptyDict).Ns s.heap.objs.size (fun _ => none) := ⟨PySem.W.emptyDict, #[], _, e1, rfl, (fun e he => absurd he (by simp)), fun _ => rfl⟩
  have I1 := I.laid (a := s.heap.objs.size) (o := .own (s.heap.objs.size + 1)) (h' := s.heap.push PySem.W.emptyDict) (t' := s.toks) (fun b u q => Heap.get?_push_of_some _ q) (Nat.le_refl _) ⟨_, e1⟩
  refine I1.laid (a := s.heap.objs.size + 1) (o := .ins C s.heap.objs.size []) (t' := s.toks) (fun b u q => Heap.get?_push_of_some _ q) (Nat.le_of_eq (Heap.size_push _ _)) ?_
  have ne : s.heap.objs.size ≠ s.heap.objs.size + 1 := Nat.ne_of_lt (Nat.lt_succ_self _)
  refine ⟨by rw [upd_ne ne, upd_same], Nat.zero_le _, ne, e2, fun _ => none, (Heap.Ns1.of_empty e3).at fun o q => Heap.get?_push_of_some _ q, fun _ => True.intro, fun y hy => absurd rfl hy⟩
theorem attr_of {prog : Program} {w : World} {env : Env} {e : Expr} {f : Str} {pos : Pos} {s : Shared} {Q : Value → Shared → Prop} (hb : attributeBase e f env (eval e env) = eval e env)
    (h : wpAny (model prog w) A (eval e env) (fun o s₁ => wpAny (model prog w) A (getAttr o f true) Q E s₁) E s) : wpAny (model prog w) A (eval (.Attribute e f pos) env) Q E s :=
  Attribute_any_ h (by rw [arm_eval_Attribute, hb])
end
def tFld (K : PySem.W.Frag) (ta : TE) (f : Str) : TE := fun σ H Q => ta σ H fun x H1 => ∃ a C dx fs v, x = .ref a ∧ H1 a = some (.ins C dx fs) ∧ Cls K C ∧ NoAttr K C f ∧ fs.lookup f = some v ∧ Q v H1
def sFld (K : PySem.W.Frag) (ta tv : TE) (f : Str) : TS := fun D σ H => tv σ H fun y H1 => ta σ H1 fun x H2 => ∃ a C dx fs, x = .ref a ∧ H2 a = some (.ins C dx fs) ∧ Cls K C ∧ NoAttr K C f ∧ fs.length < 1000 ∧
  D.nx σ (upd H2 a (.ins C dx (putF f y fs)))
section
variable {X : Cx} {o e value : Expr} {f : Str} {pos pos' tpos : Pos} {ta tv : TE}
theorem pe_fld (he : PE X e ta) (hb : attributeBase e f X.env (eval e X.env) = eval e X.env) : PE X (.Attribute e f pos) (tFld X.K ta f) := by
  intro pins s σ H Q I h
  refine attr_of hb (thn (he pins s σ H _ I h) fun u s1 ⟨x, H1, I1, rx, a, C, dx, fs, v, ex, ea, c, n, l, q⟩ => ?_)
  subst ex
  obtain rfl : u = Value.ref a := rx
  exact getattr_ok I1 ea c n l fun u' s2 I2 ru => ⟨v, H1, I2, ru, q⟩
theorem ps_fld (ha : PE X o ta) (hv : PE X value tv) (hs : swapsWith value (some (.Attribute o f pos')) pos.line X.env = pure false) : PS X (.Assign [.Attribute o f pos'] value pos) (sFld X.K ta tv f) := by
  intro pins s σ H D I h
  refine plainObj_wpAny_Assign_Attribute (thn (hv pins s σ H _ I h) fun u s1 ⟨y, H1, I1, ry, q⟩ => thn (ha pins s1 σ H1 _ I1 q) fun ov s2 ⟨x, H2, I2, rx, a, C, dx, fs, ex, ea, c, n, l, q2⟩ => ?_) hs
  subst ex
  obtain rfl : ov = Value.ref a := rx
  exact setattr_ok I2 ea c n l ry fun s3 I3 => ⟨σ, _, I3, q2⟩
end
section
variable {X : Cx} {pins : List (Addr × Obj)} {σ : St} {H : Hp} {s : Shared} {A : Around} {E : Value → Shared → Prop} {Q : Value → Shared → Prop} {c : Value} {b : Bool}
end
end L2
namespace L2
open PySem PySem.Spec PyProof.Rows
structure Room (k : Nat) (A : Around) : Prop where
  hd : A.handled = none
  dp : A.depth + 3 * k + 5 < recursionLimit
  un : A.units + 16 * k + 200 < cLine
theorem Room.mono {j k : Nat} {A : Around} (r : Room k A) (h : j ≤ k) : Room j A := ⟨r.hd, by have := r.dp; omega, by have := r.un; omega⟩
theorem Room.deeper {k : Nat} {A : Around} (r : Room (k + 1) A) (env : Env) : Room k (A.deeper env) :=
  ⟨r.hd, by have := r.dp; show A.depth + 1 + 3 * k + 5 < _; omega, by have := r.un; show A.units + 3 + 16 * k + 200 < _; omega⟩
theorem make_depth {A : Around} {C : Addr} {us : List Value} {kw : List (Str × Value)} : (A.under (.builtin "type.__call__" ⟨.ref C :: us, kw⟩)).depth = A.depth + 1 := by
  first | rfl | simp [Around.under, Code.weight, Code.isCreation, Code.isGuard, Code.isCaller, Code.frames, Code.isFrame, guardIds]
theorem make_units {A : Around} {C : Addr} {us : List Value} {kw : List (Str × Value)} : (A.under (.builtin "type.__call__" ⟨.ref C :: us, kw⟩)).units = A.units + 1 := by
  first | rfl | simp [Around.under, Code.cUnits, Code.frames, Code.isFrame]
theorem Room.make {k : Nat} {A : Around} (r : Room (k + 1) A) (C : Addr) (us : List Value) (kw : List (Str × Value)) : Room k (A.under (.builtin "type.__call__" ⟨.ref C :: us, kw⟩)) :=
  ⟨r.hd, by have := r.dp; rw [make_depth]; omega, by have := r.un; rw [make_units]; omega⟩
theorem Room.depth {k : Nat} {A : Around} (r : Room k A) : A.depth < recursionLimit := by have := r.dp; omega
theorem Room.units {k : Nat} {A : Around} (r : Room k A) : A.units + 64 < cLine := by have := r.un; omega
def tNil : TA := fun _ H Q => Q [] H
def tCons (ta : TE) (tr : TA) : TA := fun σ H Q => ta σ H fun x H1 => tr σ H1 fun xs H2 => Q (x :: xs) H2
section
variable {X : Cx} {e : Expr} {es : List Expr} {te : TE} {t : TA} {pos : Pos}
theorem pa_nil : PA X [] tNil := fun _ _ _ _ H Q I h => Calls.spliced_nil ⟨[], H, I, .nil, h⟩
theorem pa_cons (ha : PE X e te) (hr : PA X es t) (hs : starEach (e :: es) X.env = (false, eval e X.env) :: starEach es X.env := by rfl) : PA X (e :: es) (tCons te t) := by
  intro pos pins s σ H Q I h
  rw [hs]
  show wpAny _ _ (spliced ((false, eval e X.env) :: backTo pos (starEach es X.env))) _ _ s
  refine Calls.spliced_cons (thn (ha pins s σ H _ I h) fun u s1 ⟨x, H1, I1, r1, q1⟩ => ?_)
  exact thn (hr pos pins s1 σ H1 _ I1 q1) fun us s2 ⟨xs, H2, I2, r2, q2⟩ => ⟨x :: xs, H2, I2, .cons r1 r2, q2⟩
def tTup (t : TA) : TE := fun σ H Q => t σ H fun xs H1 => xs.length ≤ sizeLine ∧ ∀ p, H1 p = none → Q (.ref p) (upd H1 p (.tup xs))
def tLst (t : TA) : TE := fun σ H Q => t σ H fun xs H1 => xs.length ≤ sizeLine ∧ ∀ p, H1 p = none → Q (.ref p) (upd H1 p (.lst xs))
theorem pe_tup {x1} (h : PA X es t) : PE X (.Tuple es x1 pos) (tTup t) := by
  intro pins s σ H Q I hq
  refine wpAny_Tuple_spliced (thn (h pos pins s σ H _ I hq) fun us s1 ⟨xs, H1, I1, r, z, q⟩ => ⟨by rw [← r.length]; exact z, ?_⟩)
  have hf : H1 s1.heap.objs.size = none := I1.hok.fresh (Nat.le_refl _)
  refine ⟨.ref s1.heap.objs.size, upd H1 s1.heap.objs.size (.tup xs), I1.laid (t' := s1.toks) (fun b u e => Heap.get?_push_of_some _ e) (Nat.le_refl _) ?_, rfl, q _ hf⟩
  exact ⟨z, us, r, ⟨_, Heap.get?_push_size _ rfl, rfl, _, rfl⟩⟩
theorem pe_lst (h : PA X es t) : PE X (.List es pos) (tLst t) := by
  intro pins s σ H Q I hq
  refine wpAny_List_spliced (thn (h pos pins s σ H _ I hq) fun us s1 ⟨xs, H1, I1, r, z, q⟩ => ⟨by rw [← r.length]; exact z, ?_⟩)
  have hf : H1 s1.heap.objs.size = none := I1.hok.fresh (Nat.le_refl _)
  refine ⟨.ref s1.heap.objs.size, upd H1 s1.heap.objs.size (.lst xs), I1.laid (t' := s1.toks) (fun b u e => Heap.get?_push_of_some _ e) (Nat.le_refl _) ?_, rfl, q _ hf⟩
  exact ⟨z, us, 0, r, Heap.get?_push_size _ rfl⟩
end
abbrev Sp := List V → Hp → VK → XK → Prop
abbrev CXT := List Env → Hp → Shared → XK → Value → Shared → Prop
structure Env0 (P : Program) (w : World) (K : PySem.W.Frag) (mg : Str → Option Value) (base : Heap) (A : Around) (outer : List Env) (s : Shared) (H : Hp) : Prop where
  frames : A.frames = some outer
  mod : Mod K mg base
  bs : ∀ b o, base.get? b = some o → s.heap.get? b = some o ∧ H b = none
  bsz : base.objs.size ≤ s.heap.objs.size
  funs : s.heap.FunFrames base outer
  frf : ∀ b ∈ frs outer, H b = none
  hok : HOk P w H s.heap
  bare : AllBare s.gens
def CE (outer : List Env) (P : Program) (w : World) (H : Hp) (s : Shared) (Q : VK) (u : Value) (s' : Shared) : Prop :=
  ∃ v H', s'.os = s.os ∧ AllBare s'.gens ∧ Un (frs outer) [] H H' s.heap s'.heap ∧ HOk P w H' s'.heap ∧ RelV v u ∧ Q v H'
def CR (CX : CXT) (outer : List Env) (P : Program) (w : World) (H : Hp) (s : Shared) (Q : VK) (E : XK) (r : Result) (s' : Shared) : Prop :=
  match r with
  | .ok (.ret u) => CE outer P w H s Q u s'
  | .ok _ => False
  | .error e => CX outer H s E e s'
structure FnOk (P : Program) (w : World) (K : PySem.W.Frag) (mg : Str → Option Value) (base : Heap) (CX : CXT) (k : Nat) (f : Addr) (fd : FuncData) (ps : List Str) (sp : Sp) : Prop where
  len : ∀ vs H Q E, sp vs H Q E → vs.length = ps.length
  run : ∀ (A : Around) (outer : List Env) (s : Shared) (H : Hp) (args : Args) (us : List Value) (vs : List V) (Q : VK) (E : XK), Room k A → Env0 P w K mg base A outer s H → BindsTo s fd args (ps.zip us) → Vals vs us → sp vs H Q E →
    codeAny (model P w) A (.call (.ref f) args) (CR CX outer P w H s Q E) s
theorem Env0.make {P : Program} {w : World} {K : PySem.W.Frag} {mg : Str → Option Value} {base : Heap} {A : Around} {outer : List Env} {s : Shared} {H : Hp} (e : Env0 P w K mg base A outer s H) (C : Addr) (us : List Value) (kw : List (Str × Value)) :
    Env0 P w K mg base (A.under (.builtin "type.__call__" ⟨.ref C :: us, kw⟩)) outer s H := ⟨by first | exact e.frames | (simpa [Around.under, Code.envs, Code.isFrame, pushEnvs] using e.frames), e.mod, e.bs, e.bsz, e.funs, e.frf, e.hok, e.bare⟩
section
variable {X : Cx} {pins : List (Addr × Obj)} {σ : St} {H : Hp} {s s' : Shared}
theorem Inv.env0 (I : Inv X pins σ H s) : Env0 X.prog X.w X.K X.mg X.base X.A X.stack s H :=
  ⟨I.ok.frames, I.ok.mod, I.bs, Nat.le_trans I.ok.bsz I.sz, I.stack, I.stkFree, I.hok, I.bare⟩
theorem Inv.after {Q : VK} {u : Value} (I : Inv X pins σ H s) (h : CE X.stack X.prog X.w H s Q u s') : EP X pins σ Q u s' := by
  obtain ⟨v, H', os, bare, un, hok, r, q⟩ := h
  obtain ⟨hh, g, d, t, os'⟩ := s'
  obtain rfl : os' = s.os := os
  exact ⟨v, H', I.call (h' := hh) (g' := g) (d' := d) (t' := t) (ch := []) un hok bare (fun b z => absurd z (by simp)), r, q⟩
end
def tCall (sp : Sp) (dvs : List V) (E : XK) (t : TA) : TE := fun σ H Q => t σ H fun vs H1 => sp (vs ++ dvs) H1 Q E
def tMeth (C : Addr) (m : Str) (sp : Sp) (dvs : List V) (E : XK) (ta : TE) (t : TA) : TE := fun σ H Q => ta σ H fun x H1 => ∃ a dx fs, x = .ref a ∧ H1 a = some (.ins C dx fs) ∧ fs.lookup m = none ∧
  t σ H1 fun vs H2 => sp (x :: (vs ++ dvs)) H2 Q E
def tMake (C : Addr) (sp : Sp) (dvs : List V) (E : XK) (t : TA) : TE := fun σ H Q => t σ H fun vs H1 => ∀ x dx, H1 x = none → H1 dx = none → dx ≠ x →
  sp (.ref x :: (vs ++ dvs)) (upd (upd H1 dx (.own x)) x (.ins C dx [])) (fun v H2 => v = .non ∧ Q (.ref x) H2) E
def Binds (K : PySem.W.Frag) (fd : FuncData) (ps : List Str) (ds : List Value) : Prop :=
  ∀ (s : Shared) (us : List Value), K.In s.heap → (us ++ ds).length = ps.length → BindsTo s fd ⟨us, []⟩ (ps.zip (us ++ ds))
theorem Binds.all {K : PySem.W.Frag} {fd : FuncData} {ps : List Str} (h : ∀ us : List Value, us.length = ps.length → bindArgs fd ⟨us, []⟩ = pure (ps.zip us)) : Binds K fd ps [] := fun s us _ hl => by
  rw [List.append_nil] at hl ⊢
  exact .of_eq (h us hl)
def Passes (CX : CXT) (X : Cx) (E : XK) : Prop := ∀ (pins : List (Addr × Obj)) (σ : St) (H : Hp) (s : Shared) (e : Value) (s' : Shared), Inv X pins σ H s → CX X.stack H s E e s' → X.xe e s'
section
variable {X : Cx} {CX : CXT} {k : Nat} {f C : Addr} {fd : FuncData} {ps : List Str} {sp : Sp} {dvs : List V} {ds : List Value} {E : XK} {x m : Str} {p pos apos : Pos} {e o : Expr} {es : List Expr} {ta : TE} {t : TA}
theorem run_fn {pins : List (Addr × Obj)} {σ : St} {H : Hp} {s : Shared} {Q : VK} {us : List Value} {vs : List V} (F : FnOk X.prog X.w X.K X.mg X.base CX k f fd ps sp) (hr : Room k X.A) (hb : Binds X.K fd ps ds) (hd : Vals dvs ds) (hx : Passes CX X E)
    (I : Inv X pins σ H s) (r : Vals vs us) (h : sp (vs ++ dvs) H Q E) : wpAny (model X.prog X.w) X.A (call (.ref f) us) (EP X pins σ Q) X.xe s := by
  have r2 : Vals (vs ++ dvs) (us ++ ds) := r.append hd
  have hl : (us ++ ds).length = ps.length := by rw [← r2.length]; exact F.len _ _ _ _ h
  refine wpAny_call (codeAny_mono (F.run X.A X.stack s H ⟨us, []⟩ (us ++ ds) (vs ++ dvs) Q E hr I.env0 (hb s us I.kIn hl) r2 h) fun r s' hq => ?_)
  cases r with
  | error e => exact hx pins σ H s e s' I hq
  | ok fl =>
    cases fl with
    | ret u => exact I.after hq
    | next => exact False.elim hq
    | brk => exact False.elim hq
    | cont => exact False.elim hq
theorem pe_call (F : FnOk X.prog X.w X.K X.mg X.base CX k f fd ps sp) (hr : Room k X.A) (hg : Gl X x) (hm : X.mg x = some (.ref f)) (hk : PySem.W.keepIn X.K (.ref f) = true) (hb : Binds X.K fd ps ds) (hd : Vals dvs ds) (hx : Passes CX X E)
    (ha : PA X (e :: es) t) (hdb : (x == ("__debug__" : Str)) = false := by decide) (he : starEach (e :: es) X.env = (false, eval e X.env) :: starEach es X.env := by rfl) (hpl : (backTo pos (starEach es X.env)).any (·.1) = false := by rfl) :
    PE X (.Call (.Name x p) (e :: es) [] pos) (tCall sp dvs E t) := by
  intro pins s σ H Q I h
  refine wpAny_Call_Name_kw (ld_glob I hg hm ?_ hdb)
  refine PySem.W.callWith_K (h₀ := X.base) I.ok.mod.kin hk (thn (ha pos pins s σ H _ I h) fun us s1 ⟨vs, H1, I1, r, q⟩ => ⟨I1.kIn, ?_⟩) he hpl
  exact run_fn F hr hb hd hx I1 r q
theorem pe_meth {pl : Sem Bool} (he : PE X o ta) (c : Cls X.K C) (hm : Meth X.K C m f) (F : FnOk X.prog X.w X.K X.mg X.base CX k f fd ps sp) (hr : Room k X.A) (hb : Binds X.K fd ps ds) (hd : Vals dvs ds) (hx : Passes CX X E) (ha : PA X (e :: es) t)
    (hst : starEach (e :: es) X.env = (false, eval e X.env) :: starEach es X.env := by rfl) (hpl : (backTo pos (starEach es X.env)).any (·.1) = false := by rfl)
    (ht : eval (.Call (.Attribute o m apos) (e :: es) [] pos) X.env = (do
      let ov ← eval o X.env
      standAt apos.atName
      let (f, first) ← holding [ov] (getMethod ov m pl)
      callWith pos f first (backTo pos (starEach (e :: es) X.env)) (backToKw pos (keywordEach [] X.env))) := by rfl) :
    PE X (.Call (.Attribute o m apos) (e :: es) [] pos) (tMeth C m sp dvs E ta t) := by
  intro pins s σ H Q I h
  refine PySem.W.methodCall_KW (pl := pl) (thn (he pins s σ H _ I h) fun u s1 ⟨x, H1, I1, rx, a, dx, fs, ex, ea, l, q⟩ => ?_) ht
  subst ex
  obtain rfl : u = Value.ref a := rx
  refine getmeth_ok I1 ea c hm l ?_
  refine PySem.W.callWith_K (first := [.ref a]) (h₀ := X.base) I.ok.mod.kin hm.kp (thn (ha pos pins s1 σ H1 _ I1 q) fun us s2 ⟨vs, H2, I2, r, q2⟩ => ⟨I2.kIn, ?_⟩) hst hpl
  exact run_fn (us := .ref a :: us) (vs := .ref a :: vs) F hr hb hd hx I2 (.cons rfl r) q2
theorem pe_meth0 {pl : Sem Bool} (he : PE X o ta) (c : Cls X.K C) (hm : Meth X.K C m f) (F : FnOk X.prog X.w X.K X.mg X.base CX k f fd ps sp) (hr : Room k X.A) (hb : Binds X.K fd ps ds) (hd : Vals dvs ds) (hx : Passes CX X E)
    (ht : eval (.Call (.Attribute o m apos) [] [] pos) X.env = (do
      let ov ← eval o X.env
      standAt apos.atName
      let (f, first) ← holding [ov] (getMethod ov m pl)
      callWith pos f first (backTo pos (starEach [] X.env)) (backToKw pos (keywordEach [] X.env))) := by rfl) :
    PE X (.Call (.Attribute o m apos) [] [] pos) (tMeth C m sp dvs E ta tNil) := by
  intro pins s σ H Q I h
  refine PySem.W.methodCall_KW (pl := pl) (thn (he pins s σ H _ I h) fun u s1 ⟨x, H1, I1, rx, a, dx, fs, ex, ea, l, q⟩ => ?_) ht
  subst ex
  obtain rfl : u = Value.ref a := rx
  refine getmeth_ok I1 ea c hm l ?_
  exact PySem.W.callWith_K0 (first := [.ref a]) I1.kIn hm.kp (run_fn (us := [.ref a]) (vs := [.ref a]) F hr hb hd hx I1 (.cons rfl .nil) q)
structure Mk (K : PySem.W.Frag) (C f : Addr) : Prop where
  makes : PySem.W.makesIn K C = true
  init : PySem.W.findIn K (.ref C) "__init__" = some (some (.ref f))
  fn : PySem.W.isFn K (.ref f) = true
  kp : PySem.W.keepIn K (.ref C) = true
theorem run_make {pins : List (Addr × Obj)} {σ : St} {H : Hp} {s : Shared} {Q : VK} {us : List Value} {vs : List V} (M : Mk X.K C f) (F : FnOk X.prog X.w X.K X.mg X.base CX k f fd ps sp) (hr : Room (k + 1) X.A) (hb : Binds X.K fd ps ds) (hd : Vals dvs ds)
    (hx : Passes CX X E) (I : Inv X pins σ H s) (r : Vals vs us)
    (h : ∀ x dx, H x = none → H dx = none → dx ≠ x → sp (.ref x :: (vs ++ dvs)) (upd (upd H dx (.own x)) x (.ins C dx [])) (fun v H2 => v = .non ∧ Q (.ref x) H2) E) :
    wpAny (model X.prog X.w) X.A (call (.ref C) us) (EP X pins σ Q) X.xe s := by
  have hq := h (s.heap.objs.size + 1) s.heap.objs.size (I.hok.fresh (Nat.le_succ _)) (I.hok.fresh (Nat.le_refl _)) (Nat.ne_of_lt (Nat.lt_succ_self _))
  have I2 := Inv.made (C := C) I
  have r2 : Vals (V.ref (s.heap.objs.size + 1) :: (vs ++ dvs)) (Value.ref (s.heap.objs.size + 1) :: (us ++ ds)) := .cons rfl (r.append hd)
  have hl : (Value.ref (s.heap.objs.size + 1) :: us ++ ds).length = ps.length := by
    have e := r2.length
    rw [F.len _ _ _ _ hq] at e
    exact e.symm
  refine wpAny_call (make_map (f := f) I.kIn M.makes M.init (beq_iff_eq.mp M.fn) (codeAny_mono (F.run _ X.stack _ _ ⟨Value.ref (s.heap.objs.size + 1) :: us, []⟩ (Value.ref (s.heap.objs.size + 1) :: (us ++ ds)) _ _ E (hr.make C us [])
    (I2.env0.make C us []) (hb _ (Value.ref (s.heap.objs.size + 1) :: us) I2.kIn hl) r2 hq) fun r s' hq' => ?_))
  cases r with
  | error e => exact hx pins σ _ _ e s' I2 hq'
  | ok fl =>
    cases fl with
    | ret u =>
      obtain ⟨v, H', I3, rv, ev, q3⟩ := I2.after hq'
      subst ev
      exact ⟨rv, ⟨V.ref (s.heap.objs.size + 1), H', I3, rfl, q3⟩⟩
    | next => exact False.elim hq'
    | brk => exact False.elim hq'
    | cont => exact False.elim hq'
theorem pe_make (M : Mk X.K C f) (F : FnOk X.prog X.w X.K X.mg X.base CX k f fd ps sp) (hr : Room (k + 1) X.A) (hg : Gl X x) (hm : X.mg x = some (.ref C)) (hb : Binds X.K fd ps ds) (hd : Vals dvs ds) (hx : Passes CX X E)
    (ha : PA X (e :: es) t) (hdb : (x == ("__debug__" : Str)) = false := by decide) (he : starEach (e :: es) X.env = (false, eval e X.env) :: starEach es X.env := by rfl) (hpl : (backTo pos (starEach es X.env)).any (·.1) = false := by rfl) :
    PE X (.Call (.Name x p) (e :: es) [] pos) (tMake C sp dvs E t) := by
  intro pins s σ H Q I h
  refine wpAny_Call_Name_kw (ld_glob I hg hm ?_ hdb)
  refine PySem.W.callWith_K (h₀ := X.base) I.ok.mod.kin M.kp (thn (ha pos pins s σ H _ I h) fun us s1 ⟨vs, H1, I1, r, q⟩ => ⟨I1.kIn, ?_⟩) he hpl
  exact run_make M F hr hb hd hx I1 r q
theorem pe_make0 (M : Mk X.K C f) (F : FnOk X.prog X.w X.K X.mg X.base CX k f fd ps sp) (hr : Room (k + 1) X.A) (hg : Gl X x) (hm : X.mg x = some (.ref C)) (hb : Binds X.K fd ps ds) (hd : Vals dvs ds) (hx : Passes CX X E)
    (hdb : (x == ("__debug__" : Str)) = false := by decide) : PE X (.Call (.Name x p) [] [] pos) (tMake C sp dvs E tNil) := by
  intro pins s σ H Q I h
  refine wpAny_Call_Name_kw (ld_glob I hg hm ?_ hdb)
  exact PySem.W.callWith_K0 I.kIn M.kp (run_make (us := []) M F hr hb hd hx I .nil h)
end
section
variable {X : Cx} {CX : CXT} {k : Nat} {f C : Addr} {fd : FuncData} {ps ks : List Str} {sp : Sp} {E : XK} {x m : Str} {p pos apos kpos : Pos} {e o : Expr} {es : List Expr} {kws : List Keyword} {te ta : TE} {t tk : TA} {nm : Option Str}
variable {g : List Value → List Value → List Value} {gV : List V → List V → List V}
end
structure FnScope (N P : List Str) (sc : Scope) : Prop where
  kind : sc.kind = .function
  co : sc.isCoroutine = false
  gen : sc.isGenerator = false
  nd : N.Nodup
  pre : N.take P.length = P
  par : ∀ x ∈ P, sc.names.lookup x = some .local ∨ sc.names.lookup x = some .cell
  nofree : ∀ y ∈ sc.names, y.2 ≠ .free
theorem bindL_out {kindOf : Str → Option NameKind} {x : Str} : ∀ {binds : List (Str × Value)} {m : Str → Option Value}, (∀ v, (x, v) ∉ binds) → bindL kindOf binds m x = m x
  | [], _, _ => rfl
  | (n, v) :: r, m, h => by
    unfold bindL
    rw [bindL_out fun w hw => h w (List.mem_cons_of_mem _ hw)]
    split
    · have : x ≠ n := by rintro rfl; exact h v List.mem_cons_self
      simp [this]
    · rfl
theorem bindC_out {kindOf : Str → Option NameKind} {x : Str} : ∀ {binds : List (Str × Value)} {m : Str → Option Value}, (∀ v, (x, v) ∉ binds) → bindC kindOf binds m x = m x
  | [], _, _ => rfl
  | (n, v) :: r, m, h => by
    unfold bindC
    rw [bindC_out fun w hw => h w (List.mem_cons_of_mem _ hw)]
    split
    · rfl
    · have : x ≠ n := by rintro rfl; exact h v List.mem_cons_self
      simp [this]
theorem bindL_get {kindOf : Str → Option NameKind} {x : Str} {v : Value} : ∀ {P : List Str} {vs : List Value} {i : Nat} {m : Str → Option Value}, P.Nodup → P[i]? = some x → vs[i]? = some v → kindOf x = some .local →
    bindL kindOf (P.zip vs) m x = some v
  | [], _, _, _, _, h, _, _ => by simp at h
  | _ :: _, [], _, _, _, _, h, _ => by simp at h
  | p :: P, w :: vs, 0, m, nd, h1, h2, hk => by
    simp at h1 h2; subst h1; subst h2
    show bindL kindOf ((p, w) :: P.zip vs) m p = _
    unfold bindL
    rw [bindL_out fun v hv => (List.nodup_cons.mp nd).1 (List.of_mem_zip hv).1, if_pos hk]
    simp
  | p :: P, w :: vs, i + 1, m, nd, h1, h2, hk => by
    show bindL kindOf ((p, w) :: P.zip vs) m x = _
    unfold bindL
    exact bindL_get (i := i) (List.nodup_cons.mp nd).2 (by simpa using h1) (by simpa using h2) hk
theorem bindC_get {kindOf : Str → Option NameKind} {x : Str} {v : Value} : ∀ {P : List Str} {vs : List Value} {i : Nat} {m : Str → Option Value}, P.Nodup → P[i]? = some x → vs[i]? = some v → kindOf x ≠ some .local →
    bindC kindOf (P.zip vs) m x = some v
  | [], _, _, _, _, h, _, _ => by simp at h
  | _ :: _, [], _, _, _, _, h, _ => by simp at h
  | p :: P, w :: vs, 0, m, nd, h1, h2, hk => by
    simp at h1 h2; subst h1; subst h2
    show bindC kindOf ((p, w) :: P.zip vs) m p = _
    unfold bindC
    rw [bindC_out fun v hv => (List.nodup_cons.mp nd).1 (List.of_mem_zip hv).1, if_neg hk]
    simp
  | p :: P, w :: vs, i + 1, m, nd, h1, h2, hk => by
    show bindC kindOf ((p, w) :: P.zip vs) m x = _
    unfold bindC
    exact bindC_get (i := i) (List.nodup_cons.mp nd).2 (by simpa using h1) (by simpa using h2) hk
def start (N : List Str) (vs : List V) : St := vs.map some ++ List.replicate (N.length - vs.length) none
def cxOf (CX : CXT) (P : Program) (w : World) (K : PySem.W.Frag) (mg : Str → Option Value) (base : Heap) (N : List Str) (qual : Str) (scope : Scope) (f : Addr) (cd : Value) (A : Around) (outer : List Env) (s : Shared) (H : Hp) (E : XK) : Cx where
  prog := P
  w := w
  K := K
  mg := mg
  base := base
  A := A.deeper (envOfC qual scope s.heap.objs.size f cd)
  N := N
  s_0 := s
  H_0 := H
  env := envOfC qual scope s.heap.objs.size f cd
  outer := outer
  stack := envOfC qual scope s.heap.objs.size f cd :: outer
  ex := []
  calm := true
  fn := fun _ => true
  pn := []
  xe := fun e s' => wpAny (model P w) (A.deeper (envOfC qual scope s.heap.objs.size f cd)) (leaving (envOfC qual scope s.heap.objs.size f cd) e) (fun _ s'' => CX outer H s E e s'') (fun e' s'' => CX outer H s E e' s'') s'
theorem cell_has {sc : Scope} {n : Nat} {x : Str} (h : sc.names.lookup x = some .cell) : ∃ c, (cellsFrom n sc.names []).lookup x = some c := by
  have q := PySem.W.cellsFrom_some sc.names n [] (.inl h)
  exact Option.isSome_iff_exists.mp q
theorem inv_start {CX : CXT} {P : Program} {w : World} {K : PySem.W.Frag} {mg : Str → Option Value} {base : Heap} {N ps : List Str} {qual : Str} {scope : Scope} {f : Addr} {cd : Value} {A : Around} {outer : List Env} {s s1 : Shared} {H : Hp} {E : XK} {us : List Value} {vs : List V}
    (S : FnScope N ps scope) (hd : A.handled = none) (e0 : Env0 P w K mg base A outer s H) (hl : vs.length = ps.length) (r : Vals vs us)
    (x : InCallC s s.heap.objs.size (bindL (envOfC qual scope s.heap.objs.size f cd).kindOf (ps.zip us) fun _ => none) (cellsFrom (s.heap.objs.size + 1) scope.names []) (bindC (envOfC qual scope s.heap.objs.size f cd).kindOf (ps.zip us) fun _ => none) s1) :
    Inv (cxOf CX P w K mg base N qual scope f cd A outer s H E) [] (start N vs) H s1 := by
  have hpl : ps.length ≤ N.length := by have := congrArg List.length S.pre; rw [List.length_take] at this; omega
  obtain ⟨h1, tk, rfl, hk⟩ := x.done
  have noA : ∀ b : Addr, b ∉ (cxOf CX P w K mg base N qual scope f cd A outer s H E).ex := fun b z => absurd (show b ∈ ([] : List Addr) from z) (by simp)
  refine ⟨⟨e0.mod, S.kind, rfl, rfl, Nat.le_refl _, fun y z c h1 h2 => ?_, fun y hy => ?_, fun y c _ h => ?_, fun _ => hd, Around.frames_deeper e0.frames, .inr ⟨rfl, rfl⟩, fun b z => absurd z (noA b), e0.bs, e0.bsz, fun b _ _ => noA b, fun b z => absurd z (noA b), e0.funs, e0.frf⟩,
    rfl, e0.bare, Un.kept hk, ⟨_, x.toInCall.ns, fun i y v h1 h2 h3 => ?_⟩, fun y c h => ⟨_, x.cell y c h⟩, e0.hok.fresh (Nat.le_refl _), fun y c h => ?_, fun p hp => absurd (show p ∈ ([] : List (Addr × Obj)) from hp) (by simp), e0.hok.kept hk, ?_⟩
  · exact name_of_addr x.apart (PySem.mem_of_lookup h1) (PySem.mem_of_lookup h2)
  · have hy : scope.names.lookup y = some .cell ∨ scope.names.lookup y = some .free := hy
    rcases hy with hy | hy
    · exact cell_has hy
    · exact absurd rfl (S.nofree _ (PySem.mem_of_lookup hy))
  · exact Nat.le_of_lt (x.above y c (PySem.mem_of_lookup h))
  · have hi : i < vs.length := by
      unfold start at h2
      by_cases hi : i < vs.length
      · exact hi
      · rw [List.getElem?_append_right (by simpa using hi)] at h2
        rw [List.getElem?_replicate] at h2
        split at h2 <;> cases h2
    have ha : vs[i]? = some v := by
      unfold start at h2
      rw [List.getElem?_append_left (by simpa using hi), List.getElem?_map] at h2
      cases e : vs[i]? with
      | none => rw [e] at h2; cases h2
      | some a => rw [e] at h2; cases h2; rfl
    obtain ⟨u, hu, rv⟩ := r.get ha
    have hp : ps[i]? = some y := by
      rw [← S.pre, List.getElem?_take_of_lt (by omega)]; exact h1
    have ndP : ps.Nodup := by rw [← S.pre]; exact S.nd.sublist (List.take_sublist _ _)
    refine ⟨u, rv, ?_⟩
    rcases S.par y (List.mem_of_getElem? hp) with k | k
    · exact .inl ⟨k, bindL_get ndP hp hu k⟩
    · obtain ⟨c, e⟩ := cell_has (n := s.heap.objs.size + 1) k
      refine .inr ⟨.inl k, c, e, ?_⟩
      have q := x.cell y c e
      rw [bindC_get ndP hp hu (by show scope.names.lookup y ≠ _; rw [k]; decide)] at q
      exact q
  · exact e0.hok.fresh (Nat.le_of_lt (x.above y c (PySem.mem_of_lookup h)))
  · unfold start
    show _ = N.length
    rw [List.length_append, List.length_map, List.length_replicate]
    omega
theorem fn_of {CX : CXT} {P : Program} {w : World} {K : PySem.W.Frag} {mg : Str → Option Value} {base : Heap} {k : Nat} {f : Addr} {name qual : Str} {params : Arguments} {body : List Stmt} {scope : Scope} {dV kV doc pm cdv ct oc : Value} {an od : Option Addr}
    {osl : Array (Option Value)} {N ps : List Str} {sp : Sp} (lk : K.lookup f = some ⟨oc, od, .func (PySem.W.fnOf name qual params body scope dV kV doc pm an cdv ct), osl⟩) (hcd : PySem.W.codeIn K cdv qual = true) (S : FnScope N ps scope)
    (len : ∀ vs H Q E, sp vs H Q E → vs.length = ps.length)
    (hbody : ∀ (A : Around) (outer : List Env) (s : Shared) (H : Hp) (vs : List V) (Q : VK) (E : XK), Room k (A.deeper (envOfC qual scope s.heap.objs.size f cdv)) → sp vs H Q E →
      ∃ t, PSs (cxOf CX P w K mg base N qual scope f cdv A outer s H E) body t ∧ t { nx := fun _ H' => Q .non H', rt := Q } (start N vs) H) :
    FnOk P w K mg base CX (k + 1) f (PySem.W.fnOf name qual params body scope dV kV doc pm an cdv ct) ps sp := by
  refine ⟨len, fun A outer s H args us vs Q E hr e0 hb r hsp => ?_⟩
  have hl := len _ _ _ _ hsp
  have KX : K.In s.heap := e0.mod.kin.keeps fun b o e => (e0.bs b o e).1
  have lim : s.heap.NoLimit := e0.mod.nolimit.keeps fun b o e => (e0.bs b o e).1
  have hkind : ∀ y ∈ ps.zip us, scope.names.lookup y.1 = some .local ∨ (scope.names.lookup y.1 = some .cell ∧ ((cellsFrom (s.heap.objs.size + 1) scope.names []).lookup y.1).isSome = true) := fun ⟨n, v⟩ hy => by
    rcases S.par n (List.of_mem_zip hy).1 with q | q
    · exact .inl q
    · exact .inr ⟨q, PySem.W.cellsFrom_some _ _ _ (.inl q)⟩
  refine codeAny_call_function hr.depth (KX _ _ lk) rfl S.co S.gen rfl (PySem.W.codeRec_of KX hcd) (hb _ _ _ _ ?_)
  refine wpAny_newFunctionEnv_cells S.kind hkind fun env he s1 x => ?_
  subst he
  refine ⟨lim.keeps x.toInCall.keep, codeAny_func ?_⟩
  obtain ⟨t, ht, hq⟩ := hbody A outer s H vs Q E (hr.deeper _) hsp
  have I : Inv (cxOf CX P w K mg base N qual scope f cdv A outer s H E) [] (start N vs) H s1 := inv_start S hr.hd e0 hl r x
  refine wpAny_mono (ht [] s1 (start N vs) H _ I hq) (fun fl s' hs => ?_) fun e s' hs => hs
  have fin : ∀ {σ' : St} {H' : Hp} {v : V} {u : Value}, Inv (cxOf CX P w K mg base N qual scope f cdv A outer s H E) [] σ' H' s' → RelV v u → Q v H' → CE outer P w H s Q u s' :=
    fun {σ' H' v u} J rv q => ⟨v, H', J.os, J.bare, J.base, J.hok, rv, q⟩
  cases fl with
  | ret u =>
    obtain ⟨v, σ', H', J, rv, q⟩ := hs
    exact fin J rv q
  | next =>
    obtain ⟨σ', H', J, q⟩ := hs
    exact fin (v := V.non) (u := Value.none) J rfl q
  | brk =>
    obtain ⟨_, _, _, q⟩ := hs
    exact False.elim q
  | cont =>
    obtain ⟨_, _, _, q⟩ := hs
    exact False.elim q
end L2
namespace L2
open PySem PySem.Spec PyProof.Rows
section
variable {X : Cx} {x : Str} {p pos : Pos} {e : Expr} {es : List Expr} {t : TA} {id T : String} {r : List V → Hp → VK → Prop}
def tCB (r : List V → Hp → VK → Prop) (t : TA) : TE := fun σ H Q => t σ H fun vs H1 => r vs H1 Q
theorem pe_callB (hc : CallR X (.builtin id) r) (hg : Gl X x) (hm : X.mg x = none) (hv : bootBuiltins x = some (.builtin id)) (ha : PA X (e :: es) t) (hn : x ≠ "__name__" := by decide) (hdb : (x == ("__debug__" : Str)) = false := by decide)
    (he : starEach (e :: es) X.env = (false, eval e X.env) :: starEach es X.env := by rfl) (hpl : (backTo pos (starEach es X.env)).any (·.1) = false := by rfl) : PE X (.Call (.Name x p) (e :: es) [] pos) (tCB r t) := by
  intro pins s σ H Q I h
  refine wpAny_Call_Name_kw (ld_blt I hg hm hv ?_ hn hdb)
  exact PyProof.Rows.callWith_builtin1 (thn (ha pos pins s σ H _ I h) fun us s1 ⟨vs, H1, I1, r1, q1⟩ => hc pins s1 σ H1 vs us Q I1 r1 q1) he hpl
theorem pe_callTy (hc : CallR X (.type T) r) (hg : Gl X x) (hm : X.mg x = none) (hv : bootBuiltins x = some (.type T)) (ha : PA X (e :: es) t) (hn : x ≠ "__name__" := by decide) (hdb : (x == ("__debug__" : Str)) = false := by decide)
    (he : starEach (e :: es) X.env = (false, eval e X.env) :: starEach es X.env := by rfl) (hpl : (backTo pos (starEach es X.env)).any (·.1) = false := by rfl) : PE X (.Call (.Name x p) (e :: es) [] pos) (tCB r t) := by
  intro pins s σ H Q I h
  refine wpAny_Call_Name_kw (ld_blt I hg hm hv ?_ hn hdb)
  exact PyProof.Rows.callWith_type1 (thn (ha pos pins s σ H _ I h) fun us s1 ⟨vs, H1, I1, r1, q1⟩ => hc pins s1 σ H1 vs us Q I1 r1 q1) he hpl
end
end L2
namespace HT
open PySem PyProof.Rows
section
open PySem.SeqAt
open PySem.AutoSeq1 (wpAny_loadPart')
open PySem.MeetsSeq PySem.MeetsSeq2 PySem.MeetsSeq3
end
section
variable {prog : Program} {w : World} {A : Around} {E : Value → Shared → Prop} {s : Shared}
def sIx (n d : Nat) : Option Int → Nat
  | none => d
  | some v => if v < 0 then (v + (n : Int)).toNat else min v.toNat n
theorem sIx_nat (n d k : Nat) : sIx n d (some (k : Int)) = min k n := by
  show (if (k : Int) < 0 then ((k : Int) + (n : Int)).toNat else min (k : Int).toNat n) = min k n
  rw [if_neg (by omega), Int.toNat_natCast]
end
end HT
namespace L2
open PySem PySem.Spec PyProof.Rows
abbrev TO := St → Hp → (Option Int → Hp → Prop) → Prop
def PO (X : Cx) (e : Option Expr) (t : TO) : Prop :=
  ∀ (pins : List (Addr × Obj)) (s : Shared) (σ : St) (H : Hp) (Q : Option Int → Hp → Prop), Inv X pins σ H s → t σ H Q →
    wpAny (model X.prog X.w) X.A (evalPart e X.env) (fun u s' => ∃ o H', Inv X pins σ H' s' ∧ IsPart u o ∧ Q o H') X.xe s
def tPart (t : TE) : TO := fun σ H Q => t σ H fun x H1 => ∃ i, x = .int i ∧ Q (some i) H1
section
variable {X : Cx} {e : Expr} {te : TE} {lo hi : Option Expr} {tl th : TO} {pos p2 : Pos}
theorem po_some (h : PE X e te) : PO X (some e) (tPart te) := by
  intro pins s σ H Q I hw
  rw [evalPart_some]
  refine thn (h pins s σ H _ I hw) fun u s1 ⟨x, H1, I1, r1, q1⟩ => ?_
  obtain ⟨i, rfl, q⟩ := q1
  obtain ⟨t, rfl⟩ := r1
  exact ⟨some i, H1, I1, .int i t, q⟩
def SlR (X : Cx) (r : V → Option Int → Option Int → Hp → VK → Prop) : Prop :=
  ∀ (pins : List (Addr × Obj)) (s : Shared) (σ : St) (H : Hp) (x : V) (v vl vu : Value) (lo hi : Option Int) (sl : Addr) (Q : VK), Inv X pins σ H s → RelV x v → s.heap.IsSliceOf sl vl vu .none → IsPart vl lo → IsPart vu hi → r x lo hi H Q →
    ∃ T id, typeLookup (.type T) "__getitem__" = pure (some (.builtin id)) ∧ s.TypeIs v T ∧ wpAny (model X.prog X.w) X.A (getItem v (.ref sl)) (EP X pins σ Q) X.xe s
def tSl (r : V → Option Int → Option Int → Hp → VK → Prop) (te : TE) (tl th : TO) : TE := fun σ H Q => te σ H fun x H1 => tl σ H1 fun l H2 => th σ H2 fun u H3 => r x l u H3 Q
theorem pe_slice {r : V → Option Int → Option Int → Hp → VK → Prop} (hr : SlR X r) (he : PE X e te) (hl : PO X lo tl) (hu : PO X hi th) : PE X (.Subscript e (.Slice lo hi none p2) pos) (tSl r te tl th) := by
  intro pins s σ H Q I h
  refine Subscript_ (thn (he pins s σ H _ I h) fun v s1 ⟨x, H1, I1, r1, q1⟩ => ?_)
  refine wpAny_Slice (thn (hl pins s1 σ H1 _ I1 q1) fun vl s2 ⟨l, H2, I2, pl, q2⟩ => thn (hu pins s2 σ H2 _ I2 q2) fun vu s3 ⟨u, H3, I3, pu, q3⟩ => ?_)
  rw [evalPart_none]
  refine wpAny_pure ?_
  have I4 : Inv X pins σ H3 { s3 with heap := s3.heap.push { cls := .type "slice", data := .fields #[vl, vu, .none] } } := I3.kept (t' := s3.toks) fun b ob q => Heap.get?_push_of_some _ q
  obtain ⟨T, id, hT, ht, hg⟩ := hr pins { s3 with heap := s3.heap.push { cls := .type "slice", data := .fields #[vl, vu, .none] } } σ H3 x v vl vu l u s3.heap.objs.size Q I4 r1 (Heap.IsSliceOf.new ..) pl pu q3
  show wpAny (model X.prog X.w) X.A (subscriptTail e (.Slice lo hi none p2) v (.ref s3.heap.objs.size)) (EP X pins σ Q) X.xe { s3 with heap := s3.heap.push { cls := .type "slice", data := .fields #[vl, vu, .none] } }
  exact tail_any (ops := [.ref s3.heap.objs.size, v]) ht hT hg (by with_unfolding_all rfl)
def cutV (xs : List V) (lo hi : Option Int) : List V := (xs.drop (HT.sIx xs.length 0 lo)).take (HT.sIx xs.length xs.length hi - HT.sIx xs.length 0 lo)
theorem cutV_length (xs : List V) (lo hi : Option Int) : (cutV xs lo hi).length ≤ xs.length := by
  unfold cutV
  rw [List.length_take, List.length_drop]
  omega
end
end L2
namespace L2
open PySem PySem.Spec PyProof.Rows
def ixN (n : Nat) (i : Int) : Option Nat := if 0 ≤ i then (if i < n then some i.toNat else none) else if -(n : Int) ≤ i then some (i + n).toNat else none
def atI {α : Type} (xs : List α) (i : Int) : Option α := (ixN xs.length i).bind fun j => xs[j]?
theorem ixN_seq {n : Nat} {i : Int} {j : Nat} (h : ixN n i = some j) : seqIndex? i n = some j ∧ j < n ∧ -(n : Int) ≤ i ∧ i < n := by
  unfold ixN at h
  by_cases h0 : 0 ≤ i
  · rw [if_pos h0] at h
    by_cases h1 : i < n
    · rw [if_pos h1] at h
      have e : i.toNat = j := Option.some.inj h
      exact ⟨by rw [seqIndex_of h0 h1, e], by omega, by omega, h1⟩
    · rw [if_neg h1] at h; cases h
  · rw [if_neg h0] at h
    by_cases h1 : -(n : Int) ≤ i
    · rw [if_pos h1] at h
      have e : (i + n).toNat = j := Option.some.inj h
      exact ⟨by rw [seqIndex_neg (by omega) h1, e], by omega, h1, by omega⟩
    · rw [if_neg h1] at h; cases h
theorem atI_get {α : Type} {xs : List α} {i : Int} {v : α} (h : atI xs i = some v) : ∃ j, seqIndex? i xs.length = some j ∧ xs[j]? = some v ∧ j < xs.length ∧ -(xs.length : Int) ≤ i ∧ i < xs.length := by
  unfold atI at h
  cases e : ixN xs.length i with
  | none => rw [e] at h; cases h
  | some j =>
    rw [e] at h
    obtain ⟨h1, h2, h3, h4⟩ := ixN_seq e
    exact ⟨j, h1, h, h2, h3, h4⟩
theorem atI_nat {α : Type} {xs : List α} {j : Nat} {v : α} (h : xs[j]? = some v) : atI xs (j : Int) = some v := by
  have hj : j < xs.length := (List.getElem?_eq_some_iff.mp h).1
  have e : ixN xs.length (j : Int) = some j := by
    unfold ixN
    rw [if_pos (by omega), if_pos (by omega)]; simp
  unfold atI; rw [e]; exact h
def PlainIx (b : Expr) : Prop := ∀ o i, subscripted b false o i = operate [o, i] (getItem o i)
def IxR (X : Cx) (r : R2) : Prop :=
  ∀ (value slice : Expr) (pins : List (Addr × Obj)) (s : Shared) (σ : St) (H : Hp) (x y : V) (v u : Value) (Q : VK), Inv X pins σ H s → RelV x v → RelV y u → r x y H Q →
    subscripted slice false v u = operate [v, u] (getItem v u) → wpAny (model X.prog X.w) X.A (subscriptTail value slice v u) (EP X pins σ Q) X.xe s
def MtR (X : Cx) (id : String) (r : V → List V → Hp → VK → Prop) : Prop :=
  ∀ (pins : List (Addr × Obj)) (s : Shared) (σ : St) (H : Hp) (x : V) (xs : List V) (v : Value) (us : List Value) (Q : VK), Inv X pins σ H s → RelV x v → Vals xs us → r x xs H Q →
    wpAny (model X.prog X.w) X.A (call (.builtin id) (v :: us)) (EP X pins σ Q) X.xe s
section
variable {X : Cx} {a b : Expr} {ta tb : TE} {pos : Pos}
theorem pe_ix {r : R2} (hr : IxR X r) (ha : PE X a ta) (hb : PE X b tb) (hs : PlainIx b) : PE X (.Subscript a b pos) (tOp r ta tb) := by
  intro pins s σ H Q I h
  exact Subscript_ (binT ha hb I h fun v u s2 x y H2 I2 rx ry q => hr a b pins s2 σ H2 x y v u Q I2 rx ry q (hs _ _))
def rIxL (K : PySem.W.Frag) : R2 := fun x y H Q => ∃ p xs i v, x = .ref p ∧ y = .int i ∧ SqL K H p xs ∧ atI xs i = some v ∧ Q v H
theorem ix_list : IxR X (rIxL X.K) := by
  intro value slice pins s σ H x y v u Q I rx ry h hs
  obtain ⟨p, xs, i, z, rfl, rfl, hq, he, q⟩ := h
  cases rx
  obtain ⟨t, rfl⟩ := ry
  obtain ⟨its, r, pl, hz⟩ := I.list hq
  obtain ⟨j, h1, h2, h3, h4, h5⟩ := atI_get he
  obtain ⟨w, ew, rw'⟩ := r.get h2
  have hl := r.length
  have hn := line63
  have fin : EP X pins σ Q w s := ⟨z, H, I, rw', q⟩
  by_cases h0 : 0 ≤ i
  · have hj : i.toNat = j := by
      rw [seqIndex_of h0 h5] at h1
      exact Option.some.inj h1
    exact item_listR pl.isList h0 (by omega) (by rw [hj]; simpa using ew) fin hs
  · have hj : (i + (its.toArray.size : Int)).toNat = j := by
      rw [seqIndex_neg (by omega) h4] at h1
      rw [List.size_toArray, ← hl]
      exact Option.some.inj h1
    exact subscriptTail_builtinR (x := w) pl.isList.typeIs slot_list_getitem.lookup
      (wpAny_getItem_list_neg (Q := fun r s' => r = w ∧ EP X pins σ Q r s') pl.isList (by omega) (by rw [List.size_toArray] <;> omega) (by omega) (by rw [hj]; simpa using ew) ⟨rfl, fin⟩) hs
theorem mapSeq_set (its : List Value) (n j : Nat) (u : Value) : Obj.mapSeq (·.setIfInBounds j u) { cls := .type "list", data := .seq its.toArray n } = { cls := .type "list", data := .seq (its.set j u).toArray n } := by
  simp [Obj.mapSeq]
theorem Inv.lst {pins : List (Addr × Obj)} {σ : St} {H : Hp} {s : Shared} {p : Addr} {xs : List V} (I : Inv X pins σ H s) (h : H p = some (.lst xs)) :
    ∃ (its : List Value) (n : Nat), Vals xs its ∧ s.heap.get? p = some { cls := .type "list", data := .seq its.toArray n } ∧ xs.length ≤ sizeLine := by
  obtain ⟨z, its, n, r, e⟩ := I.hok p _ h
  exact ⟨its, n, r, e, z⟩
theorem Inv.lstUpd {pins : List (Addr × Obj)} {σ : St} {H : Hp} {s : Shared} {p : Addr} {xs ys : List V} {its its' : List Value} {n n' : Nat} {f : Obj → Obj} (I : Inv X pins σ H s) (h : H p = some (.lst xs))
    (ho : s.heap.get? p = some { cls := .type "list", data := .seq its.toArray n }) (hf : f { cls := .type "list", data := .seq its.toArray n } = { cls := .type "list", data := .seq its'.toArray n' }) (r : Vals ys its') (hz : ys.length ≤ sizeLine) (t : Nat) :
    Inv X pins σ (upd H p (.lst ys)) { s with heap := s.heap.update p f, toks := t } := by
  have e : (s.heap.update p f).get? p = some { cls := .type "list", data := .seq its'.toArray n' } := by
    rw [Heap.get?_update_self f ho (by rw [hf] <;> rfl), hf]
  refine I.write (x := p) (e := p) (by rw [h]; trivial) (.inl rfl) (fun b u hb q => (Heap.get?_update_other _ _ (Ne.symm hb)).trans q) ⟨_, e⟩ ?_
  exact ⟨hz, its', n', r, e⟩
def rSetL : V → V → V → Hp → (Hp → Prop) → Prop := fun o i v H Q => ∃ p xs k j, o = .ref p ∧ i = .int k ∧ H p = some (.lst xs) ∧ ixN xs.length k = some j ∧ Q (upd H p (.lst (xs.set j v)))
theorem set_list : PSet X rSetL := by
  intro pins s σ H o i v ov iv u Q I ro ri rv h
  obtain ⟨p, xs, k, j, rfl, rfl, hp, hj, q⟩ := h
  cases ro
  obtain ⟨t, rfl⟩ := ri
  obtain ⟨its, n, r, ho, hz⟩ := I.lst hp
  obtain ⟨h1, h2, h3, h4⟩ := ixN_seq hj
  have hl := r.length
  have hn := line63
  have I' : Inv X pins σ (upd H p (.lst (xs.set j v))) { s with heap := s.heap.update p (Obj.mapSeq (·.setIfInBounds j u)) } :=
    I.lstUpd hp ho (mapSeq_set its n j u) (r.set rv j) (by rw [List.length_set]; exact hz) s.toks
  by_cases h0 : 0 ≤ k
  · have hk : k.toNat = j := by
      rw [seqIndex_of h0 h4] at h1
      exact Option.some.inj h1
    exact PySem.W.ki_setAt ho h0 (by omega) (by rw [List.size_toArray, ← hl]; exact h4) (by rw [hk]; exact ⟨_, I', q⟩)
  · have hk : (k + (its.toArray.size : Int)).toNat = j := by
      rw [seqIndex_neg (by omega) h3] at h1
      rw [List.size_toArray, ← hl]
      exact Option.some.inj h1
    exact PySem.W.ki_setBack ho (by omega) (by rw [List.size_toArray, ← hl]; exact h3) (by omega) (by rw [hk]; exact ⟨_, I', q⟩)
theorem slice_bounds (lo hi : Option Int) (n : Nat) : (sliceBounds lo hi none n).1 = ((HT.sIx n 0 lo : Nat) : Int) ∧ (sliceBounds lo hi none n).2.1 = ((HT.sIx n n hi : Nat) : Int) ∧ (sliceBounds lo hi none n).2.2 = 1 := by
  refine ⟨?_, ?_, rfl⟩
  · cases lo with
    | none => simp [sliceBounds, HT.sIx]
    | some i =>
      simp only [sliceBounds, HT.sIx, Option.getD_none, show (1 : Int) > 0 by decide, if_true]
      by_cases h : i < 0
      · simp only [h, if_true] <;> omega
      · simp only [h, if_false] <;> omega
  · cases hi with
    | none => simp [sliceBounds, HT.sIx]
    | some i =>
      simp only [sliceBounds, HT.sIx, Option.getD_none, show (1 : Int) > 0 by decide, if_true]
      by_cases h : i < 0
      · simp only [h, if_true] <;> omega
      · simp only [h, if_false] <;> omega
theorem slicePick_cut (its : List Value) (lo hi : Option Int) : slicePick its.toArray lo hi none = ((its.drop (HT.sIx its.length 0 lo)).take (HT.sIx its.length its.length hi - HT.sIx its.length 0 lo)).toArray := by
  obtain ⟨h1, h2, h3⟩ := slice_bounds lo hi its.toArray.size
  unfold slicePick
  rw [h1, h2, h3]
  simp only [sliceRange_one, pick_run, List.size_toArray] <;> rfl
def rSlL (K : PySem.W.Frag) : V → Option Int → Option Int → Hp → VK → Prop := fun x lo hi H Q => ∃ a xs, x = .ref a ∧ SqL K H a xs ∧ ∀ p, H p = none → Q (.ref p) (upd H p (.lst (cutV xs lo hi)))
theorem sl_list : SlR X (rSlL X.K) := by
  intro pins s σ H x v vl vu lo hi sl Q I rx hs pl pu h
  obtain ⟨a, xs, rfl, hx, q⟩ := h
  cases rx
  obtain ⟨its, r, ht, hz⟩ := I.list hx
  have hlen := r.length
  refine ⟨"list", _, slot_list_getitem.lookup, ht.isList.typeIs, ?_⟩
  refine wpAny_getItem_list_slice ht.isList hs pl pu .none (by simp) ?_ (by rw [List.size_toArray] <;> omega)
  rw [slicePick_cut, ← hlen]
  refine ⟨.ref s.heap.objs.size, _, I.laid (t' := s.toks) (o := .lst (cutV xs lo hi)) (fun b ob q => Heap.get?_push_of_some _ q) (Nat.le_refl _) ?_, rfl, q _ (I.hok.fresh (Nat.le_refl _))⟩
  exact ⟨Nat.le_trans (cutV_length xs lo hi) hz, _, 0, (r.drop (HT.sIx xs.length 0 lo)).take (HT.sIx xs.length xs.length hi - HT.sIx xs.length 0 lo), Heap.get?_push_size _ rfl⟩
def flatV : V → Bool
  | .non => true
  | .bl _ => true
  | .int _ => true
  | .str _ => true
  | _ => false
def eqV : V → V → Bool
  | .non, .non => true
  | .bl a, .bl b => a == b
  | .bl a, .int b => (if a then 1 else 0) == b
  | .int a, .bl b => a == (if b then 1 else 0)
  | .int a, .int b => a == b
  | .str a, .str b => a == b
  | _, _ => false
theorem eqAt_V {A : Around} {s : Shared} {y x : V} {u v : Value} (ry : RelV y u) (rx : RelV x v) (fy : flatV y = true) (fx : flatV x = true) : SeqAt.EqAt A s u v (eqV y x) := by
  cases y with
  | non =>
    cases ry
    cases x with
    | non => cases rx; exact SeqAt.EqAt.same _
    | bl b => cases rx; exact SeqAt.EqAt.none_bool b
    | int b => obtain ⟨t, rfl⟩ := rx; exact SeqAt.EqAt.none_int b t
    | str b => obtain ⟨t, rfl⟩ := rx; exact SeqAt.EqAt.none_str b t
    | _ => exact absurd (show false = true from fx) Bool.false_ne_true
  | bl a =>
    cases ry
    cases x with
    | non => cases rx; exact SeqAt.EqAt.bool_none a
    | bl b => cases rx; exact SeqAt.EqAt.bool_bool a b
    | int b => obtain ⟨t, rfl⟩ := rx; exact SeqAt.EqAt.bool_int a b t
    | str b => obtain ⟨t, rfl⟩ := rx; exact SeqAt.EqAt.bool_str a b t
    | _ => exact absurd (show false = true from fx) Bool.false_ne_true
  | int a =>
    obtain ⟨t', rfl⟩ := ry
    cases x with
    | non => cases rx; exact SeqAt.EqAt.int_none a t'
    | bl b => cases rx; exact SeqAt.EqAt.int_bool a t' b
    | int b => obtain ⟨t, rfl⟩ := rx; exact SeqAt.EqAt.int_int a t' b t
    | str b => obtain ⟨t, rfl⟩ := rx; exact SeqAt.EqAt.int_str a t' b t
    | _ => exact absurd (show false = true from fx) Bool.false_ne_true
  | str a =>
    obtain ⟨t', rfl⟩ := ry
    cases x with
    | non => cases rx; exact SeqAt.EqAt.str_none a t'
    | bl b => cases rx; exact SeqAt.EqAt.str_bool a t' b
    | int b => obtain ⟨t, rfl⟩ := rx; exact SeqAt.EqAt.str_int a t' b t
    | str b => obtain ⟨t, rfl⟩ := rx; exact SeqAt.EqAt.str_str a t' b t
    | _ => exact absurd (show false = true from fx) Bool.false_ne_true
  | _ => exact absurd (show false = true from fy) Bool.false_ne_true
def eqU (x : V) (u : Value) : Bool := match u with
  | .none => eqV .non x
  | .bool b => eqV (.bl b) x
  | .int i _ => eqV (.int i) x
  | .str z _ => eqV (.str z) x
  | _ => false
theorem eqU_of {x y : V} {u : Value} (r : RelV y u) (f : flatV y = true) : eqU x u = eqV y x := by
  cases y with
  | non => cases r; rfl
  | bl b => cases r; rfl
  | int i => obtain ⟨t, rfl⟩ := r; rfl
  | str z => obtain ⟨t, rfl⟩ := r; rfl
  | _ => exact absurd (show false = true from f) Bool.false_ne_true
theorem any_eqU {x : V} : ∀ {xs : List V} {us : List Value}, Vals xs us → xs.all flatV = true → us.any (eqU x) = xs.any fun y => eqV y x
  | _, _, .nil, _ => rfl
  | y :: xs, u :: us, .cons r t, f => by
    rw [List.all_cons, Bool.and_eq_true] at f
    rw [List.any_cons, List.any_cons, eqU_of r f.1, any_eqU t f.2]
theorem mem_eqAt {A : Around} {s : Shared} {x : V} {v : Value} (rx : RelV x v) (fx : flatV x = true) : ∀ {xs : List V} {us : List Value}, Vals xs us → xs.all flatV = true → ∀ u ∈ us, SeqAt.EqAt A s u v (eqU x u)
  | _, _, .nil, _ => fun u hu => by cases hu
  | y :: xs, u :: us, .cons r t, f => fun u' hu => by
    rw [List.all_cons, Bool.and_eq_true] at f
    rcases List.mem_cons.mp hu with rfl | hu
    · rw [eqU_of r f.1]; exact eqAt_V r rx f.1 fx
    · exact mem_eqAt rx fx t f.2 u' hu
def inV (x : V) (xs : List V) : Bool := xs.any fun y => eqV y x
def rIn (K : PySem.W.Frag) (neg : Bool) : R2 := fun x y H Q => ∃ p xs, y = .ref p ∧ (SqL K H p xs ∨ SqT K H p xs) ∧ flatV x = true ∧ xs.all flatV = true ∧ Q (.bl (if neg then !inV x xs else inV x xs)) H
theorem op_notIn_seq : OpR X (compareOp .NotIn) (rIn X.K true) := by
  intro pins s σ H x y v u Q I rx ry h
  obtain ⟨p, xs, rfl, hq, fx, fs, q⟩ := h
  cases ry
  rcases hq with hq | hq
  · obtain ⟨its, r, pl, hz⟩ := I.list hq
    refine SeqAt.notIn_listAt (eqU x) pl.isList (fun w hw => mem_eqAt rx fx r fs w (by simpa using hw)) ⟨.bl _, H, I, rfl, ?_⟩
    rw [show its.toArray.any (eqU x) = its.any (eqU x) by simp, any_eqU r fs]
    exact q
  · obtain ⟨its, r, pl, hz⟩ := I.tuple hq
    refine SeqAt.notIn_tupleAt (eqU x) pl (fun w hw => mem_eqAt rx fx r fs w (by simpa using hw)) ⟨.bl _, H, I, rfl, ?_⟩
    rw [show its.toArray.any (eqU x) = its.any (eqU x) by simp, any_eqU r fs]
    exact q
theorem call_len_seq : CallR X (.builtin "len") (fun xs H Q => ∃ p ys, xs = [.ref p] ∧ (SqL X.K H p ys ∨ SqT X.K H p ys) ∧ Q (.int ys.length) H) := by
  intro pins s σ H xs us Q I r h
  obtain ⟨p, ys, rfl, hq, q⟩ := h
  obtain ⟨u, rfl, rx⟩ := vals1 r
  cases rx
  have hn := line63
  rcases hq with hq | hq
  · obtain ⟨its, r', pl, hz⟩ := I.list hq
    have hlen := r'.length
    exact Calls.call_len_list pl.isList (by simp only [List.size_toArray] <;> omega) ⟨.int ys.length, H, I.tok _, ⟨s.toks + 1, by rw [List.size_toArray, hlen]⟩, q⟩
  · obtain ⟨its, r', pl, hz⟩ := I.tuple hq
    have hlen := r'.length
    exact len_tuple pl (by simp only [List.size_toArray] <;> omega) ⟨.int ys.length, H, I.tok _, ⟨s.toks + 1, by rw [List.size_toArray, hlen]⟩, q⟩
theorem call_list_of : CallR X (.type "list") (fun xs H Q => ∃ p ys, xs = [.ref p] ∧ (SqL X.K H p ys ∨ SqT X.K H p ys) ∧ ∀ l, H l = none → Q (.ref l) (upd H l (.lst ys))) := by
  intro pins s σ H xs us Q I r h
  obtain ⟨p, ys, rfl, hq, q⟩ := h
  obtain ⟨u, rfl, rx⟩ := vals1 r
  cases rx
  have fin : ∀ (its : List Value), Vals ys its → ys.length ≤ sizeLine → ∀ (h' : Heap) (c' : Nat), (∀ b o', s.heap.get? b = some o' → h'.get? b = some o') →
      h'.get? s.heap.objs.size = some { cls := .type "list", dict := none, data := .seq its.toArray c', slots := #[] } → EP X pins σ Q (.ref s.heap.objs.size) { s with heap := h' } := fun its r' hz h' c' kp e =>
    ⟨.ref s.heap.objs.size, _, I.laid (t' := s.toks) kp (Nat.le_refl _) (show ObjOk X.prog X.w _ h' _ (.lst ys) from ⟨hz, its, c', r', e⟩), rfl, q _ (I.hok.fresh (Nat.le_refl _))⟩
  rcases hq with hq | hq
  · obtain ⟨its, r', pl, hz⟩ := I.list hq
    have hlen := r'.length
    obtain ⟨o, ho, hc, n, hd⟩ := pl.isList
    exact call_list_seq p (.inl rfl) ho hc hd (fun h' c' kp e => fin its r' hz h' c' kp e) (by simp only [List.size_toArray] <;> omega)
  · obtain ⟨its, r', pl, hz⟩ := I.tuple hq
    have hlen := r'.length
    obtain ⟨o, ho, hc, n, hd⟩ := pl
    exact call_list_seq p (.inr rfl) ho hc hd (fun h' c' kp e => fin its r' hz h' c' kp e) (by simp only [List.size_toArray] <;> omega)
def tyV (K : PySem.W.Frag) (T : String) (x : V) (H : Hp) : Prop := match x with
  | .str _ => T = "str"
  | .int _ => T = "int"
  | .ref p => (T = "list" ∧ ∃ xs, SqL K H p xs) ∨ (T = "tuple" ∧ ∃ o, K.lookup p = some o ∧ o.cls = .type "tuple" ∧ o.dict = none) ∨
      (T = "dict" ∧ ((∃ kvs, H p = some (.dK kvs)) ∨ ∃ kvs, H p = some (.dT kvs))) ∨ (T = "set" ∧ ∃ S n, H p = some (.set S n))
  | _ => False
theorem tyV_is {pins : List (Addr × Obj)} {σ : St} {H : Hp} {s : Shared} {T : String} {x : V} {v : Value} (I : Inv X pins σ H s) (r : RelV x v) (ty : tyV X.K T x H) :
    s.TypeIs v T ∧ ∀ a, v = .ref a → ∃ ob, s.heap.get? a = some ob ∧ ob.dict = none := by
  cases x with
  | str z =>
    obtain ⟨t, rfl⟩ := r
    cases (show T = "str" from ty)
    exact ⟨typeIs_str s z t, fun _ e => nomatch e⟩
  | int i =>
    obtain ⟨t, rfl⟩ := r
    cases (show T = "int" from ty)
    exact ⟨typeIs_int s i t, fun _ e => nomatch e⟩
  | ref p =>
    cases r
    rcases ty with ⟨rfl, xs, hq⟩ | ⟨rfl, o, hk, hc, hd⟩ | ⟨rfl, hk⟩ | ⟨rfl, S, n, hk⟩
    · obtain ⟨its, _, pl, _⟩ := I.list hq
      refine ⟨pl.isList.typeIs, fun a e => ?_⟩
      cases e
      obtain ⟨o, n, e, c, hd, _⟩ := pl
      exact ⟨o, e, hd⟩
    · refine ⟨⟨o, I.kIn p o hk, hc⟩, fun a e => ?_⟩
      cases e
      exact ⟨o, I.kIn _ o hk, hd⟩
    · have z : ∃ o, s.heap.get? p = some o ∧ o.ExactDict := by
        rcases hk with ⟨kvs, hk⟩ | ⟨kvs, hk⟩
        · obtain ⟨_, _, _, _, o, _, _, e, ex, _⟩ := I.hok p _ hk
          exact ⟨o, e, ex⟩
        · obtain ⟨_, _, _, _, o, _, _, e, ex, _⟩ := I.hok p _ hk
          exact ⟨o, e, ex⟩
      obtain ⟨o, e, ex⟩ := z
      refine ⟨⟨o, e, ex.1⟩, fun a e2 => ?_⟩
      cases e2
      exact ⟨o, e, ex.2.1⟩
    · obtain ⟨o, _, _, _, e, ex, _⟩ := I.hok p _ hk
      refine ⟨⟨o, e, ex.1⟩, fun a e2 => ?_⟩
      cases e2
      exact ⟨o, e, ex.2.1⟩
  | _ => exact False.elim ty
def tBM (K : PySem.W.Frag) (T : String) (r : V → List V → Hp → VK → Prop) (to : TE) (t : TA) : TE := fun σ H Q => to σ H fun x H1 => tyV K T x H1 ∧ t σ H1 fun xs H2 => r x xs H2 Q
variable {o e : Expr} {es : List Expr} {to : TE} {t : TA} {name : Str} {apos cpos : Pos} {T id : String} {r : V → List V → Hp → VK → Prop}
theorem pe_bm (pa : PlainAttrs T) (slot : Slot T name id) (hty : typeOf (.builtin id) = pure (.type "method_descriptor")) (hm : MtR X id r) (ho : PE X o to) (ha : PA X (e :: es) t)
    (hbase : attributeBase o name X.env (eval o X.env) = eval o X.env := by rfl)
    (hfew : ((backTo cpos (starEach (e :: es) X.env)).all (fun x => !x.1) && (backToKw cpos (keywordEach [] X.env)).all (fun x => x.1.isSome)
      && decide ((e :: es).length + ([] : List Keyword).length + (if ([] : List Keyword).isEmpty then 0 else 1) < 30)) = true := by rfl)
    (hline : (apos.endLine == cpos.line) = true := by rfl) (hs : starEach (e :: es) X.env = (false, eval e X.env) :: starEach es X.env := by rfl) (hplain : (backTo cpos (starEach es X.env)).any (·.1) = false := by rfl) :
    PE X (.Call (.Attribute o name apos) (e :: es) [] cpos) (tBM X.K T r to t) := by
  intro pins s σ H Q I h
  refine wpAny_Call_method_late hbase hfew hline rfl (thn (ho pins s σ H _ I h) fun v s1 ⟨x, H1, I1, r1, ty, q1⟩ => ?_)
  obtain ⟨h1, h2⟩ := tyV_is I1 r1 ty
  refine ⟨T, id, pa, slot, hty, h1, h2, ?_⟩
  have hA := ha cpos pins s1 σ H1 _ I1 q1
  rw [hs] at hA ⊢
  refine Calls.callWith_builtin (by show (false || (backTo cpos (starEach es X.env)).any (·.1)) = false; rw [hplain] <;> rfl) (Calls.evalArgs_plain ?_)
  exact thn hA fun us s2 ⟨vs, H2, I2, r2, q2⟩ => hm pins s2 σ H2 x vs v us Q I2 r1 r2 q2
/- xs.append(e), list.index on a module's tuple .. are MtR facts of 06m -/
end
end L2
namespace L2
open PySem PySem.Spec PyProof.Rows
def MtM (X : Cx) (id : String) (r : V → List V → Hp → VK → Prop) : Prop :=
  ∀ (pins : List (Addr × Obj)) (s : Shared) (σ : St) (H : Hp) (x : V) (xs : List V) (v : Value) (us : List Value) (Q : VK), Inv X pins σ H s → RelV x v → Vals xs us → r x xs H Q →
    wpAny (model X.prog X.w) X.A (call (.builtin id) (v :: us)) (EP X pins σ Q) X.xe s
theorem Vals.one : ∀ {x : V} {us : List Value}, Vals [x] us → ∃ u, us = [u] ∧ RelV x u
  | _, _, .cons r .nil => ⟨_, rfl, r⟩
theorem Vals.rep {xs : List V} {us : List Value} (h : Vals xs us) : ∀ k : Nat, Vals (List.replicate k xs).flatten (List.replicate k us).flatten
  | 0 => .nil
  | k + 1 => by
    rw [List.replicate_succ, List.replicate_succ, List.flatten_cons, List.flatten_cons]
    exact Vals.append h (Vals.rep h k)
theorem foldl_rep (its : List Value) : ∀ (k : Nat) (acc : List Value),
    List.foldl (fun x1 x2 => x1 ++ x2) acc.toArray (List.replicate k its.toArray) = (acc ++ (List.replicate k its).flatten).toArray
  | 0, acc => by simp
  | k + 1, acc => by
    have e : acc.toArray ++ its.toArray = (acc ++ its).toArray := by simp
    have e2 : (acc ++ its) ++ (List.replicate k its).flatten = acc ++ (List.replicate (k + 1) its).flatten := by
      rw [List.replicate_succ, List.flatten_cons, List.append_assoc]
    rw [← e2, ← foldl_rep its k (acc ++ its), ← e, List.replicate_succ, List.foldl_cons]
section
variable {X : Cx} {pins : List (Addr × Obj)} {σ : St} {H : Hp} {s : Shared} {l b : Addr} {xs ys zs : List V}
theorem Inv.lset {its its' : List Value} {n : Nat} {f : Array Value → Array Value} {t' : Nat} (I : Inv X pins σ H s) (hH : H l = some (.lst xs))
    (e : s.heap.get? l = some { cls := .type "list", data := .seq its.toArray n }) (hf : f its.toArray = its'.toArray) (hv : Vals ys its') (hz : ys.length ≤ sizeLine) :
    Inv X pins σ (upd H l (.lst ys)) { s with heap := s.heap.update l (Obj.mapSeq f), toks := t' } := by
  have q := PySem.IsL.update e f
  rw [hf] at q
  refine I.write (x := l) (e := l) (by rw [hH]; exact trivial) (.inl rfl) (fun b' u hb hu => (Heap.get?_update_other s.heap (Obj.mapSeq f) (Ne.symm hb)).trans hu) ⟨_, q⟩ ?_
  exact ⟨hz, its', _, hv, q⟩
theorem Inv.lnew {its : List Value} {t' : Nat} (I : Inv X pins σ H s) (hv : Vals ys its) (hz : ys.length ≤ sizeLine) :
    Inv X pins σ (upd H s.heap.objs.size (.lst ys)) { s with heap := s.heap.push { cls := .type "list", data := .seq its.toArray }, toks := t' } :=
  I.laid (fun _ _ q => Heap.get?_push_of_some _ q) (Nat.le_refl _) ⟨hz, its, 0, hv, Heap.get?_push_size _ rfl⟩
theorem Inv.fresh (I : Inv X pins σ H s) : H s.heap.objs.size = none := I.hok.fresh (Nat.le_refl _)
theorem Inv.lstM (I : Inv X pins σ H s) (hH : H l = some (.lst xs)) : xs.length ≤ sizeLine ∧ ∃ (its : List Value) (n : Nat), Vals xs its ∧ xs.length = its.length ∧ s.heap.get? l = some { cls := .type "list", data := .seq its.toArray n } := by
  obtain ⟨z, its, n, r, e⟩ := I.hok l _ hH
  exact ⟨z, its, n, r, r.length, e⟩
theorem notLongL {n : Nat} (h : n ≤ sizeLine) : Builtin.List.listTooLong n = false := by
  unfold Builtin.List.listTooLong
  exact decide_eq_false (by omega)
end
section
variable {X : Cx}
def rAppend : V → List V → Hp → VK → Prop := fun x vs H Q => ∃ l xs y, x = .ref l ∧ vs = [y] ∧ H l = some (.lst xs) ∧ xs.length < sizeLine ∧ Q .non (upd H l (.lst (xs ++ [y])))
theorem mt_append : MtM X "list.append" rAppend := by
  intro pins s σ H x vs v us Q I rx rv h
  obtain ⟨l, xs, y, rfl, rfl, hH, hz, q⟩ := h
  cases rx
  obtain ⟨u, rfl, ru⟩ := rv.one
  obtain ⟨z, its, n, r, hl, e⟩ := I.lstM hH
  refine call_meets F.slot_list_append ⟨_, e, rfl⟩ F.entry_list_append (F.args_list_append_2 _ _) (PySem.list_append l its.toArray n u (by rw [List.size_toArray]; omega)) ⟨e, ?_⟩
  refine ⟨.non, _, I.lset (its' := its ++ [u]) hH e (by simp) (r.append (.cons ru .nil)) ?_, rfl, q⟩
  rw [List.length_append, List.length_singleton]
  omega
def rExtend : V → List V → Hp → VK → Prop := fun x vs H Q => ∃ l b xs zs, x = .ref l ∧ vs = [.ref b] ∧ H l = some (.lst xs) ∧ H b = some (.lst zs) ∧ xs.length + zs.length ≤ sizeLine ∧ Q .non (upd H l (.lst (xs ++ zs)))
theorem mt_extend : MtM X "list.extend" rExtend := by
  intro pins s σ H x vs v us Q I rx rv h
  obtain ⟨l, b, xs, zs, rfl, rfl, hH, hB, hz, q⟩ := h
  cases rx
  obtain ⟨u, rfl, ru⟩ := rv.one
  cases ru
  obtain ⟨z, its, n, r, hl, e⟩ := I.lstM hH
  obtain ⟨z2, its2, n2, r2, hl2, e2⟩ := I.lstM hB
  have hsz : its.toArray.size + its2.toArray.size ≤ sizeLine := by rw [List.size_toArray, List.size_toArray]; omega
  have hlong : ¬ (!its.toArray.isEmpty && Builtin.List.listTooLong (its.toArray.size + its2.toArray.size)) = true := by
    rw [notLongL hsz, Bool.and_false]
    exact Bool.false_ne_true
  refine call_meets F.slot_list_extend ⟨_, e, rfl⟩ F.entry_list_extend (F.args_list_extend_2 _ _)
    (AutoSeq1.list_extend_list_list_0 l its.toArray n b its2.toArray n2 hlong (by rw [List.size_toArray]; omega) (by omega)) ⟨e, e2, ?_⟩
  refine ⟨.non, _, I.lset (its' := its ++ its2) hH e (by simp) (r.append r2) ?_, rfl, q⟩
  rw [List.length_append]
  omega
def rCat : R2 := fun x y H Q => ∃ l b xs zs, x = .ref l ∧ y = .ref b ∧ H l = some (.lst xs) ∧ H b = some (.lst zs) ∧ xs.length + zs.length ≤ sizeLine ∧ ∀ p, H p = none → Q (.ref p) (upd H p (.lst (xs ++ zs)))
theorem op_cat : OpR X (binaryOp .Add) rCat := by
  intro pins s σ H x y v u Q I rx ry h
  obtain ⟨l, b, xs, zs, rfl, rfl, hH, hB, hz, q⟩ := h
  cases rx
  cases ry
  obtain ⟨z, its, n, r, hl, e⟩ := I.lstM hH
  obtain ⟨z2, its2, n2, r2, hl2, e2⟩ := I.lstM hB
  refine PySem.P.add_list e e2 ?_ (by rw [List.size_toArray, List.size_toArray]; omega)
  have ea : its.toArray ++ its2.toArray = (its ++ its2).toArray := by simp
  rw [ea]
  exact ⟨.ref _, _, I.lnew (t' := s.toks) (r.append r2) (by rw [List.length_append]; omega), rfl, q _ I.fresh⟩
def rRep : R2 := fun x y H Q => ∃ l k xs, x = .ref l ∧ y = .int k ∧ H l = some (.lst xs) ∧ -(2 ^ 63) ≤ k ∧ k < 2 ^ 63 ∧ xs.length * k.toNat ≤ sizeLine ∧
  ∀ p, H p = none → Q (.ref p) (upd H p (.lst (List.replicate k.toNat xs).flatten))
theorem len_rep {α : Type} (xs : List α) (k : Nat) : (List.replicate k xs).flatten.length = k * xs.length := by
  induction k with
  | zero => simp
  | succ k ih => rw [List.replicate_succ, List.flatten_cons, List.length_append, ih, Nat.succ_mul, Nat.add_comm]
theorem op_rep : OpR X (binaryOp .Mult) rRep := by
  intro pins s σ H x y v u Q I rx ry h
  obtain ⟨l, k, xs, rfl, rfl, hH, h1, h2, hz, q⟩ := h
  cases rx
  obtain ⟨t, rfl⟩ := ry
  obtain ⟨z, its, n, r, hl, e⟩ := I.lstM hH
  have hlen : its.toArray.size * k.toNat ≤ sizeLine := by rw [List.size_toArray, ← hl]; exact hz
  have hcap : ¬ its.toArray.size * k.toNat > (2 ^ 63 - 1) / 8 := by
    have : (sizeLine : Nat) ≤ (2 ^ 63 - 1) / 8 := by decide
    omega
  have hfit : ¬ (!Builtin.List.listFitsIndex k) = true := by
    rw [fitsIndex_both h1 h2]
    exact Bool.false_ne_true
  have hlong : ¬ Builtin.List.listTooLong (its.toArray.size * k.toNat) = true := by
    rw [notLongL hlen]
    exact Bool.false_ne_true
  have hnew : List.foldl (fun x1 x2 => x1 ++ x2) #[] (List.replicate (if its.toArray.isEmpty = true then 0 else k.toNat) its.toArray) = (List.replicate k.toNat its).flatten.toArray := by
    have f0 : ∀ m : Nat, List.foldl (fun x1 x2 => x1 ++ x2) #[] (List.replicate m its.toArray) = (List.replicate m its).flatten.toArray := fun m => by
      have := foldl_rep its m []
      rw [List.nil_append] at this
      exact this
    rw [f0]
    cases its with
    | nil => simp
    | cons a r' => rw [if_neg (by simp)]
  refine wpAny_binaryOp_repeat_ref (T := "list") (U := "int") (by decide) ⟨_, e, rfl⟩ (fun s' => typeIs_int s' k t) noFill_list_mul F.fills_int_mul F.slot_int_rmul repeat_list F.slot_int_index.lookup
    (call_meets F.slot_int_rmul (typeIs_int s k t) F.entry_int_rmul (F.args_int_rmul_2 _ _) (int___rmul___int_list k t l its.toArray n)
      ⟨e, rfl, ⟨_, e, rfl⟩, call_meets F.slot_list_mul ⟨_, e, rfl⟩ F.entry_list_mul (F.args_list_mul_2 _ _) (AutoListH.list___mul___list_int_3 l its.toArray n k t hfit hcap hlong) ⟨e, ?_⟩⟩)
  rw [hnew]
  exact ⟨.ref _, _, I.lnew (t' := s.toks) (r.rep k.toNat) (by rw [len_rep, Nat.mul_comm]; exact hz), rfl, q _ I.fresh⟩
end
section
variable {prog : Program} {w : World} {A : Around} {E : Value → Shared → Prop} {s : Shared}
set_option maxRecDepth 100000 in
end
section
variable {X : Cx}
end
end L2
namespace L2
open PySem PySem.Spec PyProof.Rows
theorem Vals.ints : ∀ {ns : List Int} {us : List Value}, Vals (ns.map V.int) us → IntsAre us ns
  | [], us, h => by
    rw [List.map_nil] at h
    cases h
    exact IntsAre.nil
  | n :: ns, us, h => by
    rw [List.map_cons] at h
    cases h with
    | cons r t =>
      obtain ⟨k, rfl⟩ := r
      exact IntsAre.cons n k (Vals.ints t)
theorem Vals.ref1 {a : Addr} {us : List Value} (r : Vals [V.ref a] us) : us = [Value.ref a] := by
  cases r with
  | cons r t =>
    cases t
    cases r
    rfl
section
variable {prog : Program} {w : World} {A : Around} {E : Value → Shared → Prop} {s : Shared} {l : Addr} {its : List Value} {ns : List Int} {Q : Value → Shared → Prop}
theorem sum_raw (hh : A.handled = none) (hl : s.heap.IsList l its.toArray) (hi : IntsAre its ns)
    (h : ∀ h' tk t', (∀ b o, s.heap.get? b = some o → h'.get? b = some o) → Q (.int ns.sum t') { s with heap := h', toks := tk }) : wpAny (model prog w) A (call (.builtin "sum") [.ref l]) Q E s := by
  obtain ⟨xs, e⟩ := hi.allInts.items
  have hn : numsOf (intItems xs).toList = ns := by rw [← e]; exact hi.numsOf
  rw [nums_intItems] at hn
  rw [e] at hl
  refine PySem.sum_intListG hh hl fun h' tk t' hk => ?_
  have := h h' tk t' hk
  rw [preSum_eq, List.take_of_length_le (by simp), hn]; exact this
end
section
variable {X : Cx}
def rSum (K : PySem.W.Frag) : List V → Hp → VK → Prop := fun vs H Q => ∃ (a : Addr) (ns : List Int), vs = [V.ref a] ∧ SqL K H a (ns.map V.int) ∧ Q (.int ns.sum) H
theorem cr_sum (hc : X.calm = true) : CallR X (.builtin "sum") (rSum X.K) := by
  intro pins s σ H vs us Q I r h
  obtain ⟨a, ns, rfl, hs, q⟩ := h
  obtain ⟨its, rv, hl, _⟩ := I.list hs
  rw [Vals.ref1 r]
  exact sum_raw (I.ok.hd hc) hl.isList rv.ints fun h' tk t' hk => ⟨.int _, H, I.kept hk, ⟨_, rfl⟩, q⟩
end
section
variable {X : Cx}
end
section
variable {X : Cx}
end
section
variable {X : Cx}
end
mutual
inductive Dp (K : PySem.W.Frag) (H : Hp) : V → PyData → Prop
  | non : Dp K H .non .none
  | bl (b : Bool) : Dp K H (.bl b) (.bool b)
  | int (i : Int) : Dp K H (.int i) (.int i)
  | str (x : Str) : Dp K H (.str x) (.str x)
  | lst {a : Addr} {xs : List V} {ds : List PyData} : SqL K H a xs → DpAll K H xs ds → Dp K H (.ref a) (.list ds)
  | tup {a : Addr} {xs : List V} {ds : List PyData} : SqT K H a xs → DpAll K H xs ds → Dp K H (.ref a) (.tuple ds)
inductive DpAll (K : PySem.W.Frag) (H : Hp) : List V → List PyData → Prop
  | nil : DpAll K H [] []
  | cons {v : V} {vs : List V} {d : PyData} {ds : List PyData} : Dp K H v d → DpAll K H vs ds → DpAll K H (v :: vs) (d :: ds)
end
section
variable {X : Cx} {pins : List (Addr × Obj)} {σ : St} {H : Hp} {s : Shared}
mutual
theorem Dp.reads (I : Inv X pins σ H s) : ∀ (d : PyData) (v : V) (u : Value), Dp X.K H v d → RelV v u → ∃ as, Reads s.heap u d as
  | .none, _, _, h, r => by
    cases h
    cases r
    exact ⟨_, Reads.none⟩
  | .bool b, _, _, h, r => by
    cases h
    cases r
    exact ⟨_, Reads.bool b⟩
  | .int i, _, _, h, r => by
    cases h
    obtain ⟨t, rfl⟩ := r
    exact ⟨_, Reads.int i t⟩
  | .str x, _, _, h, r => by
    cases h
    obtain ⟨t, rfl⟩ := r
    exact ⟨_, Reads.str x t⟩
  | .list ds, _, _, h, r => by
    cases h with
    | lst hs ha =>
      cases r
      obtain ⟨its, rv, ⟨o, n, ho, hc, _, hd⟩, _⟩ := I.list hs
      obtain ⟨as, hr⟩ := Dp.readsAll I ds _ its ha rv
      exact ⟨_, Reads.list ho hc hd hr⟩
  | .tuple ds, _, _, h, r => by
    cases h with
    | tup hs ha =>
      cases r
      obtain ⟨its, rv, ⟨o, ho, hc, n, hd⟩, _⟩ := I.tuple hs
      obtain ⟨as, hr⟩ := Dp.readsAll I ds _ its ha rv
      exact ⟨_, Reads.tuple ho hc hd hr⟩
  | .dict _, _, _, h, _ => by cases h
theorem Dp.readsAll (I : Inv X pins σ H s) : ∀ (ds : List PyData) (vs : List V) (us : List Value), DpAll X.K H vs ds → Vals vs us → ∃ as, ReadsAll s.heap us ds as
  | [], _, _, h, r => by
    cases h
    cases r
    exact ⟨_, ReadsAll.nil⟩
  | d :: ds, _, _, h, r => by
    cases h with
    | cons h1 h2 =>
      cases r with
      | cons r1 r2 =>
        obtain ⟨as, q1⟩ := Dp.reads I d _ _ h1 r1
        obtain ⟨bs, q2⟩ := Dp.readsAll I ds _ _ h2 r2
        exact ⟨_, ReadsAll.cons q1 q2⟩
end
end
section
variable {X : Cx}
def rEqD (K : PySem.W.Frag) : R2 := fun x y H Q => ∃ d e, Dp K H x d ∧ Dp K H y e ∧ SeqAt.shaped d = true ∧ SeqAt.shaped e = true ∧ Q (.bl (PyData.eqv d e)) H
theorem op_eqD (hu : X.A.units + 64 < cLine) : OpR X (compareOp .Eq) (rEqD X.K) := by
  intro pins s σ H x y v u Q I rx ry h
  obtain ⟨d, e, hd, he, sd, se, q⟩ := h
  obtain ⟨as, r1⟩ := Dp.reads I d x v hd rx
  obtain ⟨bs, r2⟩ := Dp.reads I e y u he ry
  exact SeqAt.compareEq_shaped r1 r2 sd se hu ⟨.bl _, H, I, rfl, q⟩
end
end L2
namespace L2
open PySem PySem.Spec PyProof.Rows
abbrev CellAt (h : Heap) (c : Addr) (v : Option Value) : Prop := h.IsCell c v
def relS (scope sc : Scope) : Scope :=
  { scope with names := scope.names.map fun (n, k) => if (k == .free && sc.kind == .function && sc.names.lookup n == some .cell) then (n, .cell) else (n, k) }
def cloFrom (cells : List (Str × Addr)) : List (Str × NameKind) → List (Str × Addr) → List (Str × Addr)
  | [], acc => acc
  | (n, k) :: r, acc => if k == .free then cloFrom cells r ((n, (cells.lookup n).getD 0) :: acc) else cloFrom cells r acc
theorem closure_loop (env : Env) (f : Str × NameKind → List (Str × Addr) → Sem (ForInStep (List (Str × Addr))))
    (hf : ∀ n k c, f (n, k) c = if k == .free then (do let a ← cellOf env n; pure (.yield ((n, a) :: c))) else pure (.yield c)) :
    ∀ (names : List (Str × NameKind)) (acc : List (Str × Addr)), (∀ y ∈ names, y.2 = .free → ∃ c, env.cells.lookup y.1 = some c) → forIn names acc f = pure (cloFrom env.cells names acc)
  | [], acc, _ => by rw [List.forIn_nil]; rfl
  | (n, k) :: r, acc, h => by
    rw [List.forIn_cons, hf]
    have ih := fun acc => closure_loop env f hf r acc fun y hy => h y (List.mem_cons_of_mem _ hy)
    unfold cloFrom
    by_cases hk : (k == NameKind.free) = true
    · rw [if_pos hk, if_pos hk]
      obtain ⟨c, hc⟩ := h (n, k) List.mem_cons_self (by simpa using hk)
      have e : cellOf env n = pure c := by unfold cellOf; rw [hc]
      rw [e]
      have e2 : (env.cells.lookup n).getD 0 = c := by rw [hc]; rfl
      rw [e2]
      exact ih _
    · rw [if_neg hk, if_neg hk]
      exact ih _
theorem closure_ok {scope : Scope} {env : Env} (h : ∀ y ∈ scope.names, y.2 = .free → ∃ c, env.cells.lookup y.1 = some c) : closureFor scope env = pure (cloFrom env.cells scope.names []) := by
  simp only [closureFor]
  rw [closure_loop env _ (fun n k c => rfl) scope.names [] h]
  rfl
theorem mem_lookup {α : Type} : ∀ {l : List (Str × α)} {n : Str} {c : α}, (n, c) ∈ l → ∃ c', l.lookup n = some c'
  | (k, v) :: r, n, c, h => by
    rw [List.lookup_cons]
    cases hb : n == k with
    | true => exact ⟨_, rfl⟩
    | false =>
      rcases List.mem_cons.mp h with e | h
      · cases e; simp at hb
      · exact mem_lookup h
theorem cloFrom_mem {cells : List (Str × Addr)} : ∀ {names : List (Str × NameKind)} {acc : List (Str × Addr)} {n : Str} {c : Addr}, (n, c) ∈ cloFrom cells names acc → (n, c) ∈ acc ∨ ((n, .free) ∈ names ∧ c = (cells.lookup n).getD 0)
  | [], _, _, _, h => .inl h
  | (m, k) :: r, acc, n, c, h => by
    unfold cloFrom at h
    split at h
    · rename_i hk
      have hk : k = .free := by simpa using hk
      rcases cloFrom_mem h with h | ⟨h1, h2⟩
      · rcases List.mem_cons.mp h with e | h
        · cases e; exact .inr ⟨hk ▸ List.mem_cons_self, rfl⟩
        · exact .inl h
      · exact .inr ⟨List.mem_cons_of_mem _ h1, h2⟩
    · rcases cloFrom_mem h with h | ⟨h1, h2⟩
      · exact .inl h
      · exact .inr ⟨List.mem_cons_of_mem _ h1, h2⟩
theorem cloFrom_acc {cells : List (Str × Addr)} : ∀ {names : List (Str × NameKind)} {acc : List (Str × Addr)} {p : Str × Addr}, p ∈ acc → p ∈ cloFrom cells names acc
  | [], _, _, h => h
  | (m, k) :: r, acc, p, h => by
    unfold cloFrom
    split
    · exact cloFrom_acc (List.mem_cons_of_mem _ h)
    · exact cloFrom_acc h
theorem cloFrom_has {cells : List (Str × Addr)} : ∀ {names : List (Str × NameKind)} {acc : List (Str × Addr)} {n : Str}, (n, .free) ∈ names → (n, (cells.lookup n).getD 0) ∈ cloFrom cells names acc
  | (m, k) :: r, acc, n, h => by
    unfold cloFrom
    rcases List.mem_cons.mp h with e | h
    · cases e
      exact cloFrom_acc List.mem_cons_self
    · split
      · exact cloFrom_has h
      · exact cloFrom_has h
theorem cells_mem : ∀ {names : List (Str × NameKind)} {h : Heap} {acc : List (Str × Addr)} {x : Str} {c : Addr}, (x, c) ∈ cellsFrom h.objs.size names acc →
    (x, c) ∈ acc ∨ ((x, .cell) ∈ names ∧ h.objs.size ≤ c ∧ CellAt (pushCells h names) c none)
  | [], _, _, _, _, h => .inl h
  | (n, k) :: r, h, acc, x, c, hm => by
    unfold cellsFrom at hm
    unfold pushCells
    split at hm
    · rename_i hk
      rw [if_pos hk]
      have hk : k = .cell := by simpa using hk
      rw [← Heap.size_push h { cls := .type "cell", data := .cell none }] at hm
      rcases cells_mem hm with hm | ⟨h1, h2, h3⟩
      · rcases List.mem_cons.mp hm with e | hm
        · cases e
          exact .inr ⟨hk ▸ List.mem_cons_self, Nat.le_refl _, _, pushCells_keeps r _ _ _ (Heap.get?_push_size _ rfl), rfl⟩
        · exact .inl hm
      · rw [Heap.size_push] at h2
        exact .inr ⟨List.mem_cons_of_mem _ h1, Nat.le_of_succ_le h2, h3⟩
    · rename_i hk
      rw [if_neg hk]
      rcases cells_mem hm with hm | ⟨h1, h2, h3⟩
      · exact .inl hm
      · exact .inr ⟨List.mem_cons_of_mem _ h1, h2, h3⟩
theorem cells_acc : ∀ {names : List (Str × NameKind)} {n : Nat} {acc : List (Str × Addr)} {p : Str × Addr}, p ∈ acc → p ∈ cellsFrom n names acc
  | [], _, _, _, h => h
  | (m, k) :: r, n, acc, p, h => by
    unfold cellsFrom
    split
    · exact cells_acc (List.mem_cons_of_mem _ h)
    · exact cells_acc h
theorem cells_has : ∀ {names : List (Str × NameKind)} {n : Nat} {acc : List (Str × Addr)} {x : Str}, (x, .cell) ∈ names → ∃ c, (x, c) ∈ cellsFrom n names acc
  | (m, k) :: r, n, acc, x, h => by
    unfold cellsFrom
    rcases List.mem_cons.mp h with e | h
    · cases e
      exact ⟨n, cells_acc List.mem_cons_self⟩
    · split
      · exact cells_has h
      · exact cells_has h
theorem cells_inj : ∀ {names : List (Str × NameKind)} {h : Heap} {acc : List (Str × Addr)} {x y : Str} {c : Addr}, (∀ p ∈ acc, p.2 < h.objs.size) → (∀ x y c, (x, c) ∈ acc → (y, c) ∈ acc → x = y) →
    (x, c) ∈ cellsFrom h.objs.size names acc → (y, c) ∈ cellsFrom h.objs.size names acc → x = y
  | [], _, _, _, _, _, _, hi, h1, h2 => hi _ _ _ h1 h2
  | (n, k) :: r, h, acc, x, y, c, hl, hi, h1, h2 => by
    unfold cellsFrom at h1 h2
    split at h1
    · rename_i hk
      rw [if_pos hk] at h2
      rw [← Heap.size_push h { cls := .type "cell", data := .cell none }] at h1 h2
      refine cells_inj (h := h.push _) (fun p hp => ?_) (fun x y c a b => ?_) h1 h2
      · rw [Heap.size_push]
        rcases List.mem_cons.mp hp with rfl | hp
        · exact Nat.lt_succ_self _
        · exact Nat.lt_succ_of_lt (hl p hp)
      · rcases List.mem_cons.mp a with e | a <;> rcases List.mem_cons.mp b with e' | b
        · cases e; cases e'; rfl
        · cases e; exact absurd (hl _ b) (Nat.lt_irrefl _)
        · cases e'; exact absurd (hl _ a) (Nat.lt_irrefl _)
        · exact hi _ _ _ a b
    · rename_i hk
      rw [if_neg hk] at h2
      exact cells_inj hl hi h1 h2
theorem newEnv_comp {M : Model} {A : Around} {E : Value → Shared → Prop} {s : Shared} {scope : Scope} {globals : Addr} {closure : List (Str × Addr)} {qual : Str} {func : Option Addr} {code : Value} {around : Env} {builtins : Addr} {Q : Env → Shared → Prop}
    (h : Q (newEnv scope s.heap.objs.size globals (cellsFrom (s.heap.objs.size + 1) scope.names closure) qual func code (some around) builtins)
      { s with heap := pushCells (s.heap.push { cls := .type "dict", data := .dict #[] }) scope.names }) :
    wpAny M A (newFunctionEnv scope globals closure [] qual func code (some around) builtins) Q E s := by
  simp only [newFunctionEnv, Option.isSome_some, if_true]
  refine wpAny_bind (wpAny_alloc ?_)
  refine wpAny_bind (wpAny_layCells _ (fun n k c => rfl) scope.names closure _ _ ?_)
  rw [show ({ s with heap := s.heap.push { cls := .type "dict", data := .dict #[] } } : Shared).heap.objs.size = s.heap.objs.size + 1 from Heap.size_push ..]
  rw [List.forIn_nil]
  exact wpAny_bind (wpAny_pure (wpAny_pure h))
theorem lookup_relS {sc : Scope} : ∀ {names : List (Str × NameKind)} {x : Str} {k : NameKind},
    (names.map fun (n, k) => if (k == NameKind.free && sc.kind == .function && sc.names.lookup n == some .cell) then (n, NameKind.cell) else (n, k)).lookup x = some k →
    ∃ k', names.lookup x = some k' ∧ (k = k' ∨ (k' = .free ∧ k = .cell))
  | [], _, _, h => by simp at h
  | (n, k₀) :: r, x, k, h => by
    have ih := @lookup_relS sc r x k
    have h' : List.lookup x ((if (k₀ == NameKind.free && sc.kind == .function && sc.names.lookup n == some .cell) = true then (n, NameKind.cell) else (n, k₀)) :: (r.map _)) = some k := h
    cases hx : x == n with
    | true =>
      simp only [List.lookup_cons, hx]
      by_cases hc : (k₀ == NameKind.free && sc.kind == .function && sc.names.lookup n == some .cell) = true
      · rw [if_pos hc] at h'
        simp only [List.lookup_cons, hx] at h'
        cases h'
        simp only [Bool.and_eq_true, beq_iff_eq] at hc
        exact ⟨k₀, rfl, .inr ⟨hc.1.1, rfl⟩⟩
      · rw [if_neg hc] at h'
        simp only [List.lookup_cons, hx] at h'
        cases h'
        exact ⟨_, rfl, .inl rfl⟩
    | false =>
      simp only [List.lookup_cons, hx]
      by_cases hc : (k₀ == NameKind.free && sc.kind == .function && sc.names.lookup n == some .cell) = true
      · rw [if_pos hc] at h'
        simp only [List.lookup_cons, hx] at h'
        exact ih h'
      · rw [if_neg hc] at h'
        simp only [List.lookup_cons, hx] at h'
        exact ih h'
structure BlkOk (N : List Str) (sc scope : Scope) (own : List (Str × Nat)) : Prop where
  kind : scope.kind = .function
  uniq : ∀ y ∈ scope.names, scope.names.lookup y.1 = some y.2
  ix : ∀ p ∈ own, N[p.2]? = some p.1
  free : ∀ y ∈ scope.names, y.2 = .free → sc.names.lookup y.1 = some .cell ∨ sc.names.lookup y.1 = some .free
  own : ∀ y ∈ scope.names, y.2 = .local ∨ y.2 = .cell → y.1 ∈ own.map (·.1) ∨ y.1 ∉ N
def wipe (σ : St) : List Nat → St
  | [] => σ
  | v :: vs => (wipe σ vs).set v none
theorem wipe_length (σ : St) : ∀ vs : List Nat, (wipe σ vs).length = σ.length
  | [] => rfl
  | v :: vs => by unfold wipe; rw [List.length_set, wipe_length σ vs]
theorem wipe_some {σ : St} {i : Nat} {x : V} : ∀ {vs : List Nat}, (wipe σ vs)[i]? = some (some x) → σ[i]? = some (some x) ∧ i ∉ vs
  | [], h => ⟨h, by simp⟩
  | v :: vs, h => by
    unfold wipe at h
    by_cases hi : v = i
    · subst hi
      by_cases hv : v < (wipe σ vs).length
      · rw [List.getElem?_set_self hv] at h; cases h
      · rw [List.getElem?_eq_none (by simpa using hv)] at h; cases h
    · rw [List.getElem?_set_ne hi] at h
      obtain ⟨h1, h2⟩ := wipe_some h
      exact ⟨h1, by simp only [List.mem_cons, not_or]; exact ⟨fun e => hi e.symm, h2⟩⟩
abbrev Cx.blk (X : Cx) (s : Shared) (H : Hp) (scope : Scope) (cenv : Env) (fp : List Addr) : Cx := { X with s_0 := s, H_0 := H, env := cenv, outer := X.stack, ex := fp, fn := fun x => scope.names.lookup x == some .cell, pn := [], xe := fun _ _ => False }
section
variable {X : Cx} {pins : List (Addr × Obj)} {σ : St} {H : Hp} {s : Shared}
theorem block_start {scope : Scope} {own : List (Str × Nat)} {fp : List Addr} (I : Inv X pins σ H s) (ok : BlkOk X.N X.env.scope scope own) (hN : X.N.Nodup) (hfp : ∀ b ∈ fp, FpOk X pins H b ∧ b < s.heap.objs.size) :
    Inv (X.blk s H scope (compEnvC scope (cellsFrom (s.heap.objs.size + 1) scope.names (cloFrom X.env.cells scope.names [])) s.heap.objs.size X.env) fp) [] (wipe σ (own.map (·.2))) H { s with heap := pushCells (s.heap.push { cls := .type "dict", data := .dict #[] }) scope.names } := by
  have hfree : ∀ y ∈ scope.names, y.2 = .free → ∃ c, X.env.cells.lookup y.1 = some c := fun y hy e => by
    rcases ok.free y hy e with k | k
    · exact I.ok.has _ (.inl k)
    · exact I.ok.has _ (.inr k)
  generalize hcenv : compEnvC scope (cellsFrom (s.heap.objs.size + 1) scope.names (cloFrom X.env.cells scope.names [])) s.heap.objs.size X.env = cenv
  have kp : ∀ b o, s.heap.get? b = some o → (pushCells (s.heap.push { cls := .type "dict", data := .dict #[] }) scope.names).get? b = some o := fun b o e => pushCells_keeps _ _ _ _ (Heap.get?_push_of_some _ e)
  have hL : cenv.locals = s.heap.objs.size := by rw [← hcenv]; rfl
  have hcl : cenv.cells = cellsFrom (s.heap.objs.size + 1) scope.names (cloFrom X.env.cells scope.names []) := by rw [← hcenv]; rfl
  have hsc : cenv.scope = relS scope X.env.scope := by rw [← hcenv]; rfl
  rw [← Heap.size_push s.heap { cls := .type "dict", data := .dict #[] }] at hcl
  have cm : ∀ {y c}, (y, c) ∈ cloFrom X.env.cells scope.names [] → X.env.cells.lookup y = some c ∧ c < s.heap.objs.size := fun {y c} hm => by
    rcases cloFrom_mem hm with hm | ⟨h1, rfl⟩
    · cases hm
    · obtain ⟨c, hc⟩ := hfree _ h1 rfl
      rw [hc]
      obtain ⟨w, z⟩ := I.cell _ _ hc
      exact ⟨rfl, z.lt⟩
  have mem : ∀ {y c}, cenv.cells.lookup y = some c → (X.env.cells.lookup y = some c ∧ c < s.heap.objs.size) ∨ (s.heap.objs.size + 1 ≤ c ∧ CellAt (pushCells (s.heap.push { cls := .type "dict", data := .dict #[] }) scope.names) c none) := fun {y c} e => by
    rw [hcl] at e
    rcases cells_mem (PySem.mem_of_lookup e) with hm | ⟨_, h2, h3⟩
    · exact .inl (cm hm)
    · rw [Heap.size_push] at h2; exact .inr ⟨h2, h3⟩
  have look : ∀ {y}, scope.names.lookup y = some .free → ∃ c, cenv.cells.lookup y = some c ∧ X.env.cells.lookup y = some c := fun {y} hl => by
    have hy : (y, NameKind.free) ∈ scope.names := PySem.mem_of_lookup hl
    obtain ⟨c', e'⟩ := mem_lookup (cells_acc (names := scope.names) (n := (s.heap.push { cls := .type "dict", data := .dict #[] }).objs.size) (cloFrom_has (cells := X.env.cells) (acc := []) hy))
    rw [← hcl] at e'
    refine ⟨c', e', ?_⟩
    rw [hcl] at e'
    rcases cells_mem (PySem.mem_of_lookup e') with hm | ⟨h1, _, _⟩
    · exact (cm hm).1
    · have := ok.uniq _ h1
      rw [hl] at this; cases this
  have okB : (X.blk s H scope cenv fp).Ok := by
    refine ⟨I.ok.mod, by show cenv.scope.kind = _; rw [hsc]; exact ok.kind, by show cenv.globals = _; rw [← hcenv]; exact I.ok.glob, by show cenv.builtins = _; rw [← hcenv]; exact I.ok.blt, by show s.heap.objs.size ≤ cenv.locals; rw [hL]; exact Nat.le_refl _,
      fun y z c e1 e2 => ?_, fun y hy => ?_, fun y c z e => ?_, I.ok.hd, I.ok.frames, .inl rfl, fun b hb => ⟨?_, fun y c e z => ?_⟩, I.bs, Nat.le_trans I.ok.bsz I.sz, fun b o e hb => ?_, fun b hb z => ?_, I.stack, I.stkFree⟩
    · have e1 : cenv.cells.lookup y = some c := e1
      have e2 : cenv.cells.lookup z = some c := e2
      rw [hcl] at e1 e2
      refine cells_inj (fun p hp => ?_) (fun y z c a b => I.ok.inj y z c (cm a).1 (cm b).1) (PySem.mem_of_lookup e1) (PySem.mem_of_lookup e2)
      rw [Heap.size_push]
      exact Nat.lt_succ_of_lt (cm (y := p.1) (c := p.2) hp).2
    · show ∃ c, cenv.cells.lookup y = some c
      have key : ∀ k, cenv.kindOf y = some k → (k = .cell ∨ k = .free) → ∃ c, cenv.cells.lookup y = some c := fun k hk hk' => by
        unfold Env.kindOf at hk
        rw [hsc] at hk
        obtain ⟨k', e, r⟩ := lookup_relS hk
        have : k' = .cell ∨ k' = .free := by
          rcases r with rfl | ⟨rfl, _⟩
          · exact hk'
          · exact .inr rfl
        rcases this with rfl | rfl
        · obtain ⟨c, hm⟩ := cells_has (n := (s.heap.push { cls := .type "dict", data := .dict #[] }).objs.size) (acc := cloFrom X.env.cells scope.names []) (PySem.mem_of_lookup e)
          obtain ⟨c', e'⟩ := mem_lookup hm
          exact ⟨c', by rw [hcl]; exact e'⟩
        · obtain ⟨c, h1, _⟩ := look e
          exact ⟨c, h1⟩
      rcases hy with hy | hy
      · exact key _ hy (.inl rfl)
      · exact key _ hy (.inr rfl)
    · have z : (scope.names.lookup y == some NameKind.cell) = true := z
      have z : scope.names.lookup y = some .cell := by simpa using z
      have e : cenv.cells.lookup y = some c := e
      rw [hcl] at e
      rcases cells_mem (PySem.mem_of_lookup e) with hm | ⟨_, h2, _⟩
      · rcases cloFrom_mem hm with hm | ⟨h1, _⟩
        · cases hm
        · have q := ok.uniq _ h1
          rw [z] at q; cases q
      · rw [Heap.size_push] at h2
        exact Nat.le_of_succ_le h2
    · show b ≠ cenv.locals
      rw [hL]; exact Nat.ne_of_lt (hfp b hb).2
    · have e : cenv.cells.lookup y = some c := e
      rcases mem e with ⟨h1, _⟩ | ⟨h1, _⟩
      · exact (hfp b hb).1.2.2.2.2.1 y c h1 z
      · have h2 : s.heap.objs.size + 1 ≤ b := by rw [← z]; exact h1
        exact absurd (Nat.lt_of_lt_of_le (hfp b hb).2 (Nat.le_of_succ_le h2)) (Nat.lt_irrefl _)
    · rcases (hfp b hb).1.2.2.2.1 with z | z
      · exact I.ok.noex b o e z
      · exact absurd (Nat.lt_of_lt_of_le (Heap.lt_size e) (Nat.le_trans I.ok.bsz z)) (Nat.lt_irrefl _)
    · rcases List.mem_cons.mp (I.stkSub b z) with z | z
      · exact (hfp b hb).1.2.1 z
      · exact (hfp b hb).1.2.2.1 z
  refine ⟨okB, rfl, I.bare, Un.kept kp, ⟨fun _ => none, ?_, fun i y av e1 e2 e3 => ?_⟩, fun y c e => ?_, ?_, fun y c e => ?_, fun p hp => ?_, I.hok.kept kp, by rw [wipe_length]; exact I.len⟩
  · show Heap.Ns _ cenv.locals _
    rw [hL]
    exact Heap.Ns.keeps (Heap.Ns.new ..) fun b o e => pushCells_keeps _ _ _ _ e
  · obtain ⟨e2, hne⟩ := wipe_some e2
    have hfr : scope.names.lookup y = some .free ∧ (cenv.kindOf y = some .cell ∨ cenv.kindOf y = some .free) := by
      have key : ∀ k, cenv.scope.names.lookup y = some k → k = .local ∨ k = .cell ∨ k = .free → scope.names.lookup y = some .free ∧ (cenv.kindOf y = some .cell ∨ cenv.kindOf y = some .free) := fun k hk hk' => by
        have hk0 := hk
        rw [hsc] at hk
        obtain ⟨k', e, r⟩ := lookup_relS hk
        have no : ¬ (k' = .local ∨ k' = .cell) := fun hh => by
          rcases ok.own _ (PySem.mem_of_lookup e) hh with e' | e'
          · obtain ⟨p, hp, hpy⟩ := List.mem_map.mp e'
            have e3 := ok.ix p hp
            have : p.1 = y := hpy
            rw [this] at e3
            exact hne (List.mem_map.mpr ⟨p, hp, nodup_ix hN e3 e1⟩)
          · exact e' (List.mem_of_getElem? e1)
        rcases r with rfl | ⟨rfl, rfl⟩
        · rcases hk' with rfl | rfl | rfl
          · exact absurd (.inl rfl) no
          · exact absurd (.inr rfl) no
          · exact ⟨e, .inr hk0⟩
        · exact ⟨e, .inl hk0⟩
      have e3 : Vis cenv.scope y := e3
      rcases e3 with e3 | e3 | e3
      · exact key _ e3 (.inl rfl)
      · exact key _ e3 (.inr (.inl rfl))
      · exact key _ e3 (.inr (.inr rfl))
    obtain ⟨m, hn, hl⟩ := I.loc
    have hvis : Vis X.env.scope y := (ok.free _ (PySem.mem_of_lookup hfr.1) rfl).elim (fun k => .inr (.inl k)) (fun k => .inr (.inr k))
    obtain ⟨w, r, q⟩ := hl i y av e1 e2 hvis
    refine ⟨w, r, .inr ⟨hfr.2, ?_⟩⟩
    obtain ⟨c, h1, h2⟩ := look hfr.1
    rcases q with ⟨k, _⟩ | ⟨_, c', e', z⟩
    · have k : X.env.scope.names.lookup y = some .local := k
      rcases ok.free _ (PySem.mem_of_lookup hfr.1) rfl with k' | k' <;> rw [show X.env.scope.names.lookup y = _ from k'] at k <;> cases k
    · rw [h2] at e'; cases e'
      exact ⟨c, h1, z.keeps kp⟩
  · have e : cenv.cells.lookup y = some c := e
    rcases mem e with ⟨h1, _⟩ | ⟨_, z⟩
    · obtain ⟨w, z⟩ := I.cell y c h1
      exact ⟨w, z.keeps kp⟩
    · exact ⟨_, z⟩
  · show H cenv.locals = none
    rw [hL]; exact I.hok.fresh (Nat.le_refl _)
  · have e : cenv.cells.lookup y = some c := e
    rcases mem e with ⟨h1, _⟩ | ⟨h1, _⟩
    · exact I.freeC y c h1
    · exact I.hok.fresh (Nat.le_of_succ_le h1)
  · exact absurd (show p ∈ ([] : List (Addr × Obj)) ++ [] from hp) (by simp)
theorem app_ok {E : Value → Shared → Prop} {D : Addr} {xs : List V} {y : V} {v : Value} {Q : Value → Shared → Prop} (I : Inv X pins σ H s) (hD : H D = some (.lst xs)) (hz : xs.length < sizeLine) (r : RelV y v)
    (h : ∀ s', Inv X pins σ (upd H D (.lst (xs ++ [y]))) s' → Q .none s') : wpAny (model X.prog X.w) X.A (call (.builtin "list.append") [.ref D, v]) Q E s := by
  obtain ⟨hz', its, n, ri, e⟩ := I.hok D _ hD
  have hl := ri.length
  refine append_at (hsz := by rw [List.size_toArray]; omega) e fun h' sb ho' => ?_
  refine h { s with heap := h' } (I.write (t' := s.toks) (by rw [hD]; trivial) (.inl rfl) (fun b u hb q => (sb.2 b hb).trans q) ⟨_, ho'⟩ ⟨by rw [List.length_append]; exact hz, its ++ [v], n + 1, ri.append (.cons r .nil), ?_⟩)
  rw [ho']
  simp
def PTs (X : Cx) (ifs : List Expr) (t : TT) : Prop :=
  ∀ (pins : List (Addr × Obj)) (s : Shared) (σ : St) (H : Hp) (Q : Bool → Hp → Prop), Inv X pins σ H s → t σ H Q →
    wpAny (model X.prog X.w) X.A (forIn ifs true fun c r => if r = true then do let ok ← isTrue c X.env (eval c X.env); pure (ForInStep.yield ok) else pure (ForInStep.yield r)) (TP X pins σ Q) X.xe s
def tYes : TT := fun _ H Q => Q true H
theorem pts_nil : PTs X [] tYes := fun _ _ _ H _ I h => wpAny_tests_nil ⟨H, I, h⟩
end
theorem thnF {α : Type} {t : Sem α} {Q Q' : α → Shared → Prop} {M : Model} {A : Around} {E : Value → Shared → Prop} {s : Shared} (h : wpAny M A t Q (fun _ _ => False) s) (hQ : ∀ a s, Q a s → Q' a s) : wpAny M A t Q' E s := wpAny_mono h hQ fun _ _ z => False.elim z
theorem compLoop_any {prog : Program} {w : World} {A : Around} {R : Result → Shared → Prop} {s : Shared} {elt target iter : Expr} {ifs : List Expr} {scope : Scope} {pos : Pos} {it acc : Value} {env : Env} (I : Nat → Shared → Prop)
    (turn : ∀ n s, I n s → wpAny (model prog w) A (pyNext it) (fun r s₁ => match r with
      | none => R (.ok .next) s₁
      | some v => wpAny (model prog w) A (letOwnedTupleGo target it v) (fun _ s₁' => wpAny (model prog w) A (assign target env v) (fun _ s₂ =>
          wpAny (model prog w) A (forIn ifs true fun c r => if r = true then do let ok ← isTrue c env (eval c env); pure (ForInStep.yield ok) else pure (ForInStep.yield r)) (fun ok s₃ =>
            if ok = true then wpAny (model prog w) A (eval elt env) (fun x s₄ =>
              wpAny (model prog w) A (call (.builtin "list.append") [acc, x]) (fun _ s₅ => ∃ m, m < n ∧ I m s₅) (notedBy (model prog w) A env fun e s' => R (.error e) s') s₄) (notedBy (model prog w) A env fun e s' => R (.error e) s') s₃
            else ∃ m, m < n ∧ I m s₃) (notedBy (model prog w) A env fun e s' => R (.error e) s') s₂) (notedBy (model prog w) A env fun e s' => R (.error e) s') s₁') (notedBy (model prog w) A env fun e s' => R (.error e) s') s₁) (notedBy (model prog w) A env fun e s' => R (.error e) s') s)
    (n : Nat) (h : I n s) :
    codeAny (model prog w) A (.compLoop (.ListComp elt [⟨target, iter, ifs, 0⟩] scope pos) 0 it acc env) R s := by
  refine codeAny_loop rfl I (fun n s hI => ?_) n h
  show wpAny _ A ((compTurn (.ListComp elt [⟨target, iter, ifs, 0⟩] scope pos) 0 it acc env).onRaise (fun x => do noteFrame x env; theTreesLotGoes x)) _ _ s
  refine wpAny_noted ?_
  rw [compTurn_list]
  refine wpAny_bind (wpAny_standAt (wpAny_bind (wpAny_mono (turn n s hI) (fun r s₁ h₁ => ?_) fun _ _ h' => h')))
  cases r with
  | none => exact wpAny_pure h₁
  | some v =>
    refine wpAny_bind (wpAny_mono h₁ (fun _ s₁' h₁' => ?_) fun _ _ h' => h')
    refine wpAny_bind (wpAny_mono h₁' (fun _ s₂ h₂ => wpAny_bind (wpAny_mono h₂ (fun ok s₃ h₃ => ?_) fun _ _ h' => h')) fun _ _ h' => h')
    cases ok with
    | false => exact wpAny_pure ⟨rfl, h₃⟩
    | true =>
      exact wpAny_bind (wpAny_bind (wpAny_mono h₃ (fun x s₄ h₄ => wpAny_bind (wpAny_mono h₄ (fun _ s₅ h₅ => wpAny_pure (wpAny_pure ⟨rfl, h₅⟩)) fun _ _ h' => h')) fun _ _ h' => h'))
section
variable {X : Cx}
def tLc (wi : TI) (g : TG) (tt : TT) (te : TE) (vs : List Nat) : TE := fun σ H Q => wi σ H fun J H1 => ∀ D, H1 D = none → ∃ W : Nat → Nat → Hp → Prop, (∃ m, W 0 m (upd H1 D (.lst []))) ∧ ∀ i m H, W i m H →
  (J.stop i H ∧ Q (.ref D) H) ∨ (J.go i H ∧ ∃ Nx : Hp → Prop, (∀ H', Nx H' → ∃ m', m' < m ∧ W (i + 1) m' H') ∧ ∀ x H', J.yld i H x H' → g x (wipe σ vs) H' fun σ2 H2 => wipe σ2 vs = wipe σ vs ∧ tt σ2 H2 fun b H3 =>
    if b = true then te σ2 H3 fun y H4 => ∃ acc, H4 D = some (.lst acc) ∧ acc.length < sizeLine ∧ Nx (upd H4 D (.lst (acc ++ [y]))) else Nx H3)
theorem lc_core {pins : List (Addr × Obj)} {s : Shared} {σ : St} {H : Hp} {Q : VK} {elt tg iter : Expr} {ifs : List Expr} {scope : Scope} {own : List (Str × Nat)} {pos pos' : Pos} {wi : TI} {g : TG} {tt : TT} {te : TE} {use : Option (Value → Sem Unit)} {Qf : Value → Shared → Prop}
    (hc : X.calm = true) (hN : X.N.Nodup) (I : Inv X pins σ H s) (hi : PI X tg iter wi) (ok : BlkOk X.N X.env.scope scope own)
    (hg : ∀ (s : Shared) (H : Hp) (C : Addr) (cl : List (Str × Addr)) (fp : List Addr), PG (X.blk s H scope (compEnvC scope cl C X.env) fp) tg g) (ht : ∀ (s : Shared) (H : Hp) (C : Addr) (cl : List (Str × Addr)) (fp : List Addr), PTs (X.blk s H scope (compEnvC scope cl C X.env) fp) ifs tt)
    (he : ∀ (s : Shared) (H : Hp) (C : Addr) (cl : List (Str × Addr)) (fp : List Addr), PE (X.blk s H scope (compEnvC scope cl C X.env) fp) elt te) (hs : ∀ x, foldedSetIterable iter X.env x = pure x)
    (h : tLc wi g tt te (own.map (·.2)) σ H Q)
    (hRR : ∀ D C s' m H', Inv X pins σ H' s' → Q (.ref D) H' → s'.heap.Ns C m → FpOk X pins H' C → compPost (model X.prog X.w) X.A X.xe use Qf (.ref D) C (.ok .next) s') :
    wpAny (model X.prog X.w) X.A (comprehension (.ListComp elt [⟨tg, iter, ifs, 0⟩] scope pos) scope X.env pos' (newList []) false (eval iter X.env) use) Qf X.xe s := by
  have hfree : ∀ y ∈ scope.names, y.2 = .free → ∃ c, X.env.cells.lookup y.1 = some c := fun y hy e => by
    rcases ok.free y hy e with k | k
    · exact I.ok.has _ (.inl k)
    · exact I.ok.has _ (.inr k)
  refine wpAny_comprehension_free (use := use) rfl hs (closure_ok hfree) ok.kind (fun y hy e => by rw [ok.uniq y hy, e])
    (thn (hi pins s σ H _ I h) fun xv s1 hx => thn hx fun itv s2 h2 => ?_)
  obtain ⟨it, fp, tn, J, H2, e, I2, T, st2, f2, q⟩ := h2
  subst e
  refine wpAny_newObj_type (newEnv_comp ?_) (by show 0 ≤ sizeLine; decide)
  generalize hD : s2.heap.objs.size = D
  have hDn : H2 D = none := I2.hok.fresh (Nat.le_of_eq hD)
  obtain ⟨W, ⟨m0, w0⟩, turn⟩ := q D hDn
  generalize hs3 : ({ s2 with heap := s2.heap.push { cls := .type "list", data := .seq ([] : List Value).toArray } } : Shared) = s3
  have I3 : Inv X pins σ (upd H2 D (.lst [])) s3 := by
    rw [← hs3]
    refine I2.laid (t' := s2.toks) (fun b o e => Heap.get?_push_of_some _ e) (Nat.le_of_eq hD) ⟨Nat.zero_le _, [], 0, .nil, ?_⟩
    rw [← hD]
    exact Heap.get?_push_size _ rfl
  have h3 : s3.heap = s2.heap.push { cls := .type "list", data := .seq ([] : List Value).toArray } := by rw [← hs3]
  have sz : ∀ b ∈ fp, b < s2.heap.objs.size := fun b hb => by
    obtain ⟨o, e, _⟩ := T.obj _ _ st2 b hb
    exact Heap.lt_size e
  have f3 : ∀ b ∈ fp, FpOk X pins (upd H2 D (.lst [])) b ∧ b < s3.heap.objs.size := fun b hb => by
    have hlt := sz b hb
    refine ⟨⟨?_, (f2 b hb).2⟩, by rw [h3, Heap.size_push]; exact Nat.lt_succ_of_lt hlt⟩
    rw [upd_ne (by rw [← hD]; exact Nat.ne_of_lt hlt)]
    exact (f2 b hb).1
  have st3 : tn 0 s3.heap := T.keep _ _ _ st2 fun b _ o e => by rw [h3]; exact Heap.get?_push_of_some _ e
  have I4 := block_start I3 ok hN f3
  have pg := hg s3 (upd H2 D (.lst [])) s3.heap.objs.size (cellsFrom (s3.heap.objs.size + 1) scope.names (cloFrom X.env.cells scope.names [])) fp
  have pt := ht s3 (upd H2 D (.lst [])) s3.heap.objs.size (cellsFrom (s3.heap.objs.size + 1) scope.names (cloFrom X.env.cells scope.names [])) fp
  have pe := he s3 (upd H2 D (.lst [])) s3.heap.objs.size (cellsFrom (s3.heap.objs.size + 1) scope.names (cloFrom X.env.cells scope.names [])) fp
  show codeAny _ _ (.compStart (.ListComp elt [⟨tg, iter, ifs, 0⟩] scope pos) 0 (.ref it) (.ref D) (compEnvC scope (cellsFrom (s3.heap.objs.size + 1) scope.names (cloFrom X.env.cells scope.names [])) s3.heap.objs.size X.env)) (compPost (model X.prog X.w) X.A X.xe use Qf (.ref D) s3.heap.objs.size) { s3 with heap := pushCells (s3.heap.push { cls := .type "dict", data := .dict #[] }) scope.names }
  have nfp : ∀ b ∈ fp, (upd H2 D (.lst [])) b = none := fun b hb => (f3 b hb).1.1
  generalize hce : compEnvC scope (cellsFrom (s3.heap.objs.size + 1) scope.names (cloFrom X.env.cells scope.names [])) s3.heap.objs.size X.env = ce at I4 pg pt pe ⊢
  have cL : ce.locals = s3.heap.objs.size := by subst hce; rfl
  generalize hH3 : upd H2 D (.lst []) = H3 at I3 I4 pg pt pe w0 nfp f3
  generalize hs4 : ({ s3 with heap := pushCells (s3.heap.push { cls := .type "dict", data := .dict #[] }) scope.names } : Shared) = s4 at I4 ⊢
  have st4 : tn 0 s4.heap := T.keep _ _ _ st3 fun b _ o e => by rw [← hs4]; exact pushCells_keeps _ _ _ _ (Heap.get?_push_of_some _ e)
  have stat : ∀ {σ' : St} {H' : Hp} {s' : Shared}, Inv (X.blk s3 H3 scope ce fp) [] σ' H' s' → (∀ b ∈ fp, H' b = none) → ∀ b ∈ fp, FpOk (X.blk s3 H3 scope ce fp) [] H' b := fun {σ' H' s'} I' hn b hb =>
    ⟨hn b hb, (I'.ok.exf b hb).1, I'.ok.exfs b hb, .inl hb, fun x c e => (I'.ok.exf b hb).2 x c e, fun p hp => absurd (show p ∈ ([] : List (Addr × Obj)) ++ [] from hp) (by simp)⟩
  have loop : codeAny (model X.prog X.w) X.A (.compLoop (.ListComp elt [⟨tg, iter, ifs, 0⟩] scope pos) 0 (.ref it) (.ref D) ce) (compPost (model X.prog X.w) X.A X.xe use Qf (.ref D) s3.heap.objs.size) s4 := by
    refine compLoop_any (fun n s' => ∃ i H', Inv (X.blk s3 H3 scope ce fp) [] (wipe σ (own.map (·.2))) H' s' ∧ tn i s'.heap ∧ (∀ b ∈ fp, H' b = none) ∧ W i n H') ?_ m0 ⟨0, H3, I4, st4, nfp, w0⟩
    rintro n s5 ⟨i, H5, I5, st5, n5, w5⟩
    rcases turn i n H5 w5 with ⟨stop, qq⟩ | ⟨go, Nx, hNx, step⟩
    · have td := T.done (X.blk s3 H3 scope ce fp) rfl rfl rfl hc i [] s5 _ H5 (fun _ _ => False) I5 (stat I5 n5) st5 stop
      refine thnF td fun r s6 ⟨hr, I6⟩ => ?_
      subst hr
      have I7 : Inv X pins σ H5 s6 := I3.call' (ch := fp) I6.os I6.base I6.hok I6.bare fun b hb => ⟨(f3 b hb).1.2.2.2.1, (f3 b hb).1.2.1, (f3 b hb).1.2.2.2.2.1, (f3 b hb).1.2.2.2.2.2⟩
      have nC : H5 s3.heap.objs.size = none := by
        have z : H5 ce.locals = none := I6.free
        rw [cL] at z
        exact z
      obtain ⟨m, hn, _⟩ := I6.loc
      have hn : s6.heap.Ns ce.locals m := hn
      rw [cL] at hn
      exact hRR D s3.heap.objs.size s6 m H5 I7 qq hn (I3.fpOk (Nat.le_refl _) nC)
    · have ti := T.item (X.blk s3 H3 scope ce fp) rfl rfl rfl hc i [] s5 _ H5 (fun _ _ => False) I5 (stat I5 n5) st5 go
      refine thnF ti fun r s6 ⟨u, hr, h6⟩ => ?_
      subst hr
      refine thnF h6 fun _ s7 ⟨x, H7, I7, r7, y7, st7, n7⟩ => ?_
      have I7' := I7.pinned (stat I7 n7) (T.obj _ _ st7)
      refine thnF (pg _ s7 _ H7 x u _ I7' r7 (step x H7 y7)) fun _ s8 ⟨σ8, H8, I8, hw8, q8⟩ => ?_
      refine thnF (pt _ s8 σ8 H8 _ I8 q8) fun b s9 ⟨H9, I9, q9⟩ => ?_
      have fin : ∀ {s' : Shared} {H' : Hp}, Inv (X.blk s3 H3 scope ce fp) ([] ++ pinsAt fp s7.heap) σ8 H' s' → Nx H' → ∃ m, m < n ∧ ∃ i H', Inv (X.blk s3 H3 scope ce fp) [] (wipe σ (own.map (·.2))) H' s' ∧ tn i s'.heap ∧ (∀ b ∈ fp, H' b = none) ∧ W i m H' := fun {s' H'} I' nx => by
        obtain ⟨m', hm, w'⟩ := hNx H' nx
        have pin' : ∀ b ∈ fp, ∀ o, s7.heap.get? b = some o → s'.heap.get? b = some o ∧ H' b = none := fun b hb o e =>
          let z := I'.pin (b, o) (List.mem_append_right _ (List.mem_append_right _ (mem_pinsAt hb e)))
          ⟨z.1, z.2.1⟩
        have hl : (wipe σ (own.map (·.2))).length = σ8.length := by rw [← hw8, wipe_length]
        refine ⟨m', hm, i + 1, H', (I'.unpinned (pins := [])).weak hl (fun j v e => ?_), T.keep _ _ _ st7 fun b hb o e => (pin' b hb o e).1, fun b hb => ?_, w'⟩
        · rw [← hw8] at e
          exact (wipe_some e).1
        · obtain ⟨o, e, _⟩ := T.obj _ _ st7 b hb
          exact (pin' b hb o e).2
      cases b with
      | false =>
        simp only [Bool.false_eq_true, if_false] at q9 ⊢
        exact fin I9 q9
      | true =>
        simp only [if_true] at q9 ⊢
        refine thnF (pe _ s9 σ8 H9 _ I9 q9) fun z s10 ⟨yv, H10, I10, r10, acc, hD10, hz10, nx⟩ => ?_
        exact app_ok (X := X.blk s3 H3 scope ce fp) I10 hD10 hz10 r10 fun s11 I11 => fin I11 nx
  exact codeAny_compStart_list loop (T.self X.A 0 _ _ _ st4 loop)
theorem pe_lc {elt tg iter : Expr} {ifs : List Expr} {scope : Scope} {own : List (Str × Nat)} {pos : Pos} {wi : TI} {g : TG} {tt : TT} {te : TE} (hc : X.calm = true) (hN : X.N.Nodup) (hi : PI X tg iter wi) (ok : BlkOk X.N X.env.scope scope own)
    (hg : ∀ (s : Shared) (H : Hp) (C : Addr) (cl : List (Str × Addr)) (fp : List Addr), PG (X.blk s H scope (compEnvC scope cl C X.env) fp) tg g) (ht : ∀ (s : Shared) (H : Hp) (C : Addr) (cl : List (Str × Addr)) (fp : List Addr), PTs (X.blk s H scope (compEnvC scope cl C X.env) fp) ifs tt)
    (he : ∀ (s : Shared) (H : Hp) (C : Addr) (cl : List (Str × Addr)) (fp : List Addr), PE (X.blk s H scope (compEnvC scope cl C X.env) fp) elt te) (hs : ∀ x, foldedSetIterable iter X.env x = pure x := by intro _; rfl) :
    PE X (.ListComp elt [⟨tg, iter, ifs, 0⟩] scope pos) (tLc wi g tt te (own.map (·.2))) := by
  intro pins s σ H Q I h
  rw [eval_ListComp]
  refine lc_core hc hN I hi ok hg ht he hs h fun D C s' m H' I' q hn f => ⟨m, hn, fun h'' sb => ?_⟩
  obtain ⟨f0, f1, f2, f3, f4, f5⟩ := f
  exact ⟨.ref D, H', I'.turned (t' := s'.toks) (fun b o hb e => (sb.2 b hb).trans e) f0 f1 f3 f4 f5, rfl, q⟩
theorem ps_setLc {i : Nat} {y : Str} {py : Pos} {elt tg iter : Expr} {ifs : List Expr} {scope : Scope} {own : List (Str × Nat)} {pos spos : Pos} {wi : TI} {g : TG} {tt : TT} {te : TE} (hc : X.calm = true) (hN : X.N.Nodup) (hy : X.N[i]? = some y) (hyl : X.env.scope.names.lookup y = some .local)
    (hsw : swapsWith (.ListComp elt [⟨tg, iter, ifs, 0⟩] scope pos) (some (.Name y py)) spos.line X.env = pure true) (hi : PI X tg iter wi) (ok : BlkOk X.N X.env.scope scope own)
    (hg : ∀ (s : Shared) (H : Hp) (C : Addr) (cl : List (Str × Addr)) (fp : List Addr), PG (X.blk s H scope (compEnvC scope cl C X.env) fp) tg g) (ht : ∀ (s : Shared) (H : Hp) (C : Addr) (cl : List (Str × Addr)) (fp : List Addr), PTs (X.blk s H scope (compEnvC scope cl C X.env) fp) ifs tt)
    (he : ∀ (s : Shared) (H : Hp) (C : Addr) (cl : List (Str × Addr)) (fp : List Addr), PE (X.blk s H scope (compEnvC scope cl C X.env) fp) elt te) (hs : ∀ x, foldedSetIterable iter X.env x = pure x := by intro _; rfl) :
    PS X (.Assign [.Name y py] (.ListComp elt [⟨tg, iter, ifs, 0⟩] scope pos) spos) (tAsg (tLc wi g tt te (own.map (·.2))) (gName i)) := by
  intro pins s σ H D I h
  rw [exec_Assign_Name_used _ _ _ _ hsw]
  refine wpAny_bind (wpAny_standAt (wpAny_bind ?_))
  show wpAny _ X.A (do let _ ← comprehension (.ListComp elt [⟨tg, iter, ifs, 0⟩] scope pos) scope X.env (firstIterPos [⟨tg, iter, ifs, 0⟩] pos) (newList []) false (eval iter X.env) (some (assign (.Name y py) X.env))) _ _ s
  have h : tLc wi g tt te (own.map (·.2)) σ H (fun x H1 => gName i x σ H1 D.nx) := h
  refine wpAny_bind (thn (lc_core (Qf := fun _ s' => SP X pins D .next s') hc hN I hi ok hg ht he hs h fun L C s' m H' I' q hn f => ?_) fun _ s' hq => wpAny_pure (wpAny_pure hq))
  show wpAny _ _ (assign (.Name y py) X.env (.ref L)) _ _ _
  refine wpAny_assign_Name (store_ok2 (v := V.ref L) I' hN hy (.inl hyl) rfl (fun s2 I2 ⟨a, sb, ha⟩ => ?_) (.inr hyl))
  obtain ⟨f0, f1, f2, f3, f4, f5⟩ := f
  have haC : C ≠ a := by
    rcases ha with z | z
    · rw [z]; exact f1
    · exact fun e => f4 y a z e.symm
  refine ⟨m, hn.sameBut sb haC, fun h3 sb3 => ?_⟩
  exact ⟨_, H', I2.turned (t' := s2.toks) (fun b o hb e => (sb3.2 b hb).trans e) f0 f1 f3 f4 f5, q⟩
theorem sw_true {elt : Expr} {gs : List Comprehension} {scope : Scope} {pos py : Pos} {y : Str} {l : Nat} {env : Env} (hk : env.scope.kind = .function) (hy : env.scope.names.lookup y = some .local) (hl : (py.line == pos.line) = true)
    (ha : (scope.names.any fun (n, k) => n == y && (k == .local || k == .cell)) = false) : swapsWith (.ListComp elt gs scope pos) (some (.Name y py)) l env = pure true := by
  have ky : env.kindOf y = some .local := hy
  have hb : env.blockKind = .function := by unfold Env.blockKind; rw [hk]; rfl
  unfold swapsWith
  simp only [hb, ky, ha, Expr.pos, hl]
  rfl
end
theorem lc_range {lo : Int} {n : Nat} {g : TG} {tt : TT} {te : TE} {vs : List Nat} {σ : St} {H1 : Hp} {D : Addr} {Qd : Hp → Prop} (Pv : Nat → Hp → Prop) (h0 : Pv 0 (upd H1 D (.lst [])))
    (hs : ∀ i H, i < n → Pv i H → g (.int (lo + i)) (wipe σ vs) H fun σ2 H2 => wipe σ2 vs = wipe σ vs ∧ tt σ2 H2 fun b H3 =>
      if b = true then te σ2 H3 fun y H4 => ∃ acc, H4 D = some (.lst acc) ∧ acc.length < sizeLine ∧ Pv (i + 1) (upd H4 D (.lst (acc ++ [y]))) else Pv (i + 1) H3) (hd : ∀ H, Pv n H → Qd H) :
    ∃ W : Nat → Nat → Hp → Prop, (∃ m, W 0 m (upd H1 D (.lst []))) ∧ ∀ i m H, W i m H →
      ((Itr lo n).stop i H ∧ Qd H) ∨ ((Itr lo n).go i H ∧ ∃ Nx : Hp → Prop, (∀ H', Nx H' → ∃ m', m' < m ∧ W (i + 1) m' H') ∧ ∀ x H', (Itr lo n).yld i H x H' → g x (wipe σ vs) H' fun σ2 H2 => wipe σ2 vs = wipe σ vs ∧ tt σ2 H2 fun b H3 =>
        if b = true then te σ2 H3 fun y H4 => ∃ acc, H4 D = some (.lst acc) ∧ acc.length < sizeLine ∧ Nx (upd H4 D (.lst (acc ++ [y]))) else Nx H3) := by
  refine ⟨fun i m H => m = n - i ∧ i ≤ n ∧ Pv i H, ⟨n, by simp, Nat.zero_le _, h0⟩, ?_⟩
  rintro i m H ⟨rfl, hi, p⟩
  by_cases hlt : i < n
  · refine .inr ⟨hlt, Pv (i + 1), fun H' p' => ⟨n - (i + 1), by omega, rfl, hlt, p'⟩, fun x H' y => ?_⟩
    obtain ⟨e, y⟩ := y
    subst e y
    exact hs i _ hlt p
  · have e : i = n := by omega
    subst e
    exact .inl ⟨Nat.le_refl _, hd H p⟩
theorem lc_list {K : PySem.W.Frag} {a : Addr} {xs : List V} {g : TG} {tt : TT} {te : TE} {vs : List Nat} {σ : St} {H1 : Hp} {D : Addr} {Qd : Hp → Prop} (Pv : Nat → Hp → Prop) (h0 : Pv 0 (upd H1 D (.lst []))) (hl : ∀ i H, i ≤ xs.length → Pv i H → SqL K H a xs)
    (hs : ∀ i x H, xs[i]? = some x → Pv i H → g x (wipe σ vs) H fun σ2 H2 => wipe σ2 vs = wipe σ vs ∧ tt σ2 H2 fun b H3 =>
      if b = true then te σ2 H3 fun y H4 => ∃ acc, H4 D = some (.lst acc) ∧ acc.length < sizeLine ∧ Pv (i + 1) (upd H4 D (.lst (acc ++ [y]))) else Pv (i + 1) H3) (hd : ∀ H, Pv xs.length H → Qd H) :
    ∃ W : Nat → Nat → Hp → Prop, (∃ m, W 0 m (upd H1 D (.lst []))) ∧ ∀ i m H, W i m H →
      ((Itl K a).stop i H ∧ Qd H) ∨ ((Itl K a).go i H ∧ ∃ Nx : Hp → Prop, (∀ H', Nx H' → ∃ m', m' < m ∧ W (i + 1) m' H') ∧ ∀ x H', (Itl K a).yld i H x H' → g x (wipe σ vs) H' fun σ2 H2 => wipe σ2 vs = wipe σ vs ∧ tt σ2 H2 fun b H3 =>
        if b = true then te σ2 H3 fun y H4 => ∃ acc, H4 D = some (.lst acc) ∧ acc.length < sizeLine ∧ Nx (upd H4 D (.lst (acc ++ [y]))) else Nx H3) := by
  refine ⟨fun i m H => m = xs.length - i ∧ i ≤ xs.length ∧ Pv i H, ⟨xs.length, by simp, Nat.zero_le _, h0⟩, ?_⟩
  rintro i m H ⟨rfl, hi, p⟩
  have q := hl i H hi p
  by_cases hlt : i < xs.length
  · refine .inr ⟨⟨xs, xs[i], q, by simp [hlt]⟩, Pv (i + 1), fun H' p' => ⟨xs.length - (i + 1), by omega, rfl, hlt, p'⟩, fun x H' y => ?_⟩
    obtain ⟨e, y⟩ := y
    subst e
    exact hs i x _ (y xs q) p
  · have e : i = xs.length := by omega
    subst e
    exact .inl ⟨⟨xs, q, Nat.le_refl _⟩, hd H p⟩
def blkC (N : List Str) (sc scope : Scope) (own : List (Str × Nat)) : Bool :=
  (match scope.kind with | .function => true | _ => false) && (scope.names.all fun y => decide (scope.names.lookup y.1 = some y.2)) && (own.all fun p => decide (N[p.2]? = some p.1)) &&
    (scope.names.all fun y => match y.2 with
      | .free => (match sc.names.lookup y.1 with | some .cell => true | some .free => true | _ => false)
      | .local => decide (y.1 ∈ own.map (·.1)) || decide (y.1 ∉ N)
      | .cell => decide (y.1 ∈ own.map (·.1)) || decide (y.1 ∉ N)
      | _ => true)
theorem blkOk_by {N : List Str} {sc scope : Scope} {own : List (Str × Nat)} (h : blkC N sc scope own = true) : BlkOk N sc scope own := by
  unfold blkC at h
  simp only [Bool.and_eq_true, List.all_eq_true, decide_eq_true_eq] at h
  obtain ⟨⟨⟨h1, h2⟩, h3⟩, h4⟩ := h
  refine ⟨?_, h2, h3, fun y hy e => ?_, fun y hy e => ?_⟩
  · split at h1
    · assumption
    · cases h1
  · have q := h4 y hy
    simp only [e] at q
    split at q <;> first | exact .inl (by assumption) | exact .inr (by assumption) | cases q
  · have q := h4 y hy
    rcases e with e | e <;> (simp only [e, Bool.or_eq_true, decide_eq_true_eq] at q; exact q)
end L2
namespace L2
open PySem PySem.Spec PyProof.Rows
section
variable {prog : Program} {w : World} {A : Around} {R : Result → Shared → Prop} {s : Shared} {elt t0 i0 t1 i1 : Expr} {ifs0 ifs1 : List Expr} {scope : Scope} {pos : Pos} {it acc : Value} {env : Env}
end
section
variable {X : Cx}
end
end L2
namespace L2
open PySem PySem.Spec PyProof.Rows
section
variable {κ : Type} [DecidableEq κ]
end
section
variable {P : Program} {w : World} {H : Hp} {h : Heap} {a : Addr}
end
section
variable {X : Cx} {pins : List (Addr × Obj)} {σ : St} {H : Hp} {s : Shared} {a : Addr} {y v : V} {u r : Value} {o : Option V} {A : Around} {E : Value → Shared → Prop}
end
section
variable {X : Cx} {pins : List (Addr × Obj)} {σ : St} {H : Hp} {s : Shared} {a : Addr} {kvs : List (Key × V)} {k : Key} {u : Value} {A : Around} {E : Value → Shared → Prop}
end
section
variable {X : Cx} {o i e value : Expr} {pos pos' tpos : Pos} {td ty tv : TE}
end
section
variable {X : Cx} {pos : Pos}
end
section
variable {X : Cx} {pins : List (Addr × Obj)} {σ : St} {H : Hp} {s : Shared} {a : Addr} {y d : V} {u r : Value} {o : Option V} {A : Around} {E : Value → Shared → Prop}
end
section
variable {X : Cx} {o e f : Expr} {apos cpos : Pos} {td ty tx : TE}
end
section
variable {X : Cx} {pins : List (Addr × Obj)} {σ : St} {H : Hp} {s : Shared} {a : Addr} {kvs : List (Key × V)} {A : Around} {E : Value → Shared → Prop}
end
section
variable {X : Cx} {pins : List (Addr × Obj)} {σ : St} {H : Hp} {s : Shared} {a : Addr} {y : V} {u : Value} {A : Around} {E : Value → Shared → Prop}
end
end L2
namespace L2
open PySem PySem.Spec PyProof.Rows
section
variable {prog : Program} {w : World} {A : Around} {E : Value → Shared → Prop}
end
section
variable {X : Cx}
end
end L2
namespace L2
open PySem PySem.Spec PyProof.Rows
theorem boot_reversed5 : bootBuiltins "reversed" = some (.type "reversed") := by decide +kernel
section
variable {X : Cx} {pins : List (Addr × Obj)} {σ : St} {H : Hp} {s : Shared} {h' : Heap}
theorem Inv.turnedL {t' : Nat} {ch : List Addr} (I : Inv X pins σ H s) (k : ∀ b o, b ∉ ch → s.heap.get? b = some o → h'.get? b = some o) (hf : ∀ b ∈ ch, FpOk X pins H b) : Inv X pins σ H { s with heap := h', toks := t' } := by
  have nit : ∀ b u, H b = some u → b ∉ ch := fun b u e z => by
    have q := (hf b z).1
    rw [q] at e; cases e
  refine I.step (g' := s.gens) (d' := s.drawn) (ch := ch) (fun b hb => ⟨(hf b hb).2.2.2.1, (hf b hb).2.1, (hf b hb).2.2.2.2.1, (hf b hb).2.2.2.2.2⟩) (fun b o _ _ hc e _ => k b o hc e) (fun b o _ _ hc e _ => ⟨o.slots, k b o hc e⟩)
    (fun _ _ _ _ n => n) (fun b o hc e => ⟨o, k b o hc e⟩) (fun _ _ e => e) (fun _ _ _ e => e) (fun b ps e => ⟨#[], by rw [e]; simp⟩) (fun m hm => ?_) (fun b u e => ?_) I.bare
  · obtain ⟨o, es, ep, ho, r⟩ := hm
    exact ⟨o, es, ep, k _ o (fun z => (hf _ z).2.1 rfl) ho, r⟩
  · refine (I.hok b u e).stay (fun c v hc q => k c v ?_ q) (fun _ q => q) fun _ _ q => q
    rcases hc with z | z
    · rw [z]; exact nit b u e
    · exact nit c _ z
theorem Inv.turnedNew {t' : Nat} {ch : List Addr} {T : Addr} {ob : HO} (I : Inv X pins σ H s) (k : ∀ b o, b ∉ ch → s.heap.get? b = some o → h'.get? b = some o) (hf : ∀ b ∈ ch, FpOk X pins H b) (hT : s.heap.objs.size ≤ T)
    (new : ObjOk X.prog X.w (upd H T ob) h' T ob) : Inv X pins σ (upd H T ob) { s with heap := h', toks := t' } := by
  have hn : H T = none := I.hok.fresh hT
  have nit : ∀ b u, H b = some u → b ∉ ch := fun b u e z => by
    have q := (hf b z).1
    rw [q] at e; cases e
  refine I.step (g' := s.gens) (d' := s.drawn) (ch := ch) (fun b hb => ⟨(hf b hb).2.2.2.1, (hf b hb).2.1, (hf b hb).2.2.2.2.1, (hf b hb).2.2.2.2.2⟩) (fun b o _ _ hc e _ => k b o hc e) (fun b o _ _ hc e _ => ⟨o.slots, k b o hc e⟩)
    (fun b o _ e n => ?_) (fun b o hc e => ⟨o, k b o hc e⟩) (fun b xs e => ?_) (fun b o u e => ?_) (fun b ps e => ⟨#[], ?_⟩) (fun m hm => ?_) (fun b u e => ?_) I.bare
  · rw [upd_ne (Nat.ne_of_lt (Nat.lt_of_lt_of_le (Heap.lt_size e) hT))]; exact n
  · rw [upd_ne (ne_of_none e hn)]; exact e
  · rw [upd_ne (ne_of_none e hn)]; exact e
  · rw [upd_ne (ne_of_none e hn), e]; simp
  · obtain ⟨o, es, ep, ho, r⟩ := hm
    exact ⟨o, es, ep, k _ o (fun z => (hf _ z).2.1 rfl) ho, r⟩
  · by_cases hb : b = T
    · subst hb
      rw [upd_same] at e
      cases e
      exact new
    · rw [upd_ne hb] at e
      refine (I.hok b u e).stay (fun c v hc q => k c v ?_ q) (fun c q => by rw [upd_ne (ne_of_none q hn)]; exact q) fun c xs q => by rw [upd_ne (ne_of_none q hn)]; exact q
      rcases hc with z | z
      · rw [z]; exact nit b u e
      · exact nit c _ z
end
section
variable {X : Cx}
end
section
variable {X : Cx} {tg : Expr}
end
section
variable {X : Cx} {tg : Expr}
end
section
variable {prog : Program} {w : World} {A : Around} {E : Value → Shared → Prop} {s : Shared}
end
section
variable {X : Cx} {pins : List (Addr × Obj)} {σ : St} {H : Hp} {s : Shared} {d : Addr} {o : Obj}
end
section
variable {P : Program} {w : World} {K : PySem.W.Frag} {tg : Expr} {d : Addr} {o : Obj} {es : Array DictEntry} {ep : Nat}
end
section
variable {X : Cx} {tg e : Expr} {td : TE} {apos cpos : Pos}
end
def Ite (K : PySem.W.Frag) (a : Addr) : It :=
  ⟨fun i H => ∃ (xs : List V) (x : V), SqL K H a xs ∧ xs[i]? = some x, fun i H v H' => ∃ T x, v = .ref T ∧ H T = none ∧ H' = upd H T (.tup [.int (i : Nat), x]) ∧ ∀ xs, SqL K H a xs → xs[i]? = some x, fun i H => ∃ xs : List V, SqL K H a xs ∧ xs.length ≤ i⟩
theorem turn_enum {P : Program} {w : World} {K : PySem.W.Frag} {elts : List Expr} {kk : Nat} {tpos : Pos} (a e it : Addr) :
    Turn P w K (.Tuple elts kk tpos) (Ite K a) [e, it] e (fun i h => (∃ old, IsEnum h e it ((i : Nat) : Int) old) ∧ h.IsListIter it a i ∧ e ≠ it) where
  mem := by simp
  obj := fun i h st b hb => by
    obtain ⟨⟨old, he⟩, ⟨o, ho, hc, hd⟩, _⟩ := st
    have e' : b = e ∨ b = it := by simpa using hb
    rcases e' with z | z
    · rw [z]; exact ⟨_, he, fun v q => nomatch q⟩
    · rw [z]; exact ⟨o, ho, fun v q => by rw [hd] at q; cases q⟩
  keep := fun i h h' st k => let ⟨⟨old, he⟩, hi, hne⟩ := st; ⟨⟨old, k e (by simp) _ he⟩, hi.at fun o q => k it (by simp) o q, hne⟩
  item := by
    intro X hP hw hK hc i pins s σ H E I hf st hg
    subst hP hw hK
    obtain ⟨⟨old, he⟩, hit, hne⟩ := st
    obtain ⟨xs, x, hq, hx⟩ := hg
    obtain ⟨its, rv, p, hz⟩ := I.list hq
    obtain ⟨u, hu, ru⟩ := rv.get hx
    have hel : e < s.heap.objs.size := Heap.lt_size he
    have hil : it < s.heap.objs.size := by obtain ⟨_, q, _⟩ := hit; exact Heap.lt_size q
    refine wpAny_pyNext_enum_item he hit p.isList (x := u) (by simpa using hu) hne fun h' ho hit' hT hsz hk => ?_
    refine ⟨_, rfl, wpAny_letOwnedTupleGo_enum (s := { s with heap := h', toks := s.toks + 1 }) ho fun h'' he' sb => ?_⟩
    have hT2 : h''.get? s.heap.objs.size = some { cls := .type "tuple", data := .seq #[.int i s.toks, u] } := (sb.2 _ (Nat.ne_of_gt hel)).trans hT
    have new : ObjOk X.prog X.w (upd H s.heap.objs.size (.tup [.int (i : Nat), x])) h'' s.heap.objs.size (.tup [.int (i : Nat), x]) :=
      ⟨by show 2 ≤ sizeLine; decide, [.int i s.toks, u], .cons ⟨_, rfl⟩ (.cons ru .nil), ⟨_, hT2, rfl, _, rfl⟩⟩
    have I1 : Inv X pins σ (upd H s.heap.objs.size (.tup [.int (i : Nat), x])) { s with heap := h'', toks := s.toks + 1 } :=
      I.turnedNew (ch := [e, it]) (fun b ob hb q => (sb.2 b (fun z => hb (by simp [z]))).trans (hk b ob (fun z => hb (by simp [z])) (fun z => hb (by simp [z])) q)) hf (Nat.le_refl _) new
    refine ⟨.ref s.heap.objs.size, _, I1, rfl, ⟨_, x, rfl, I.hok.fresh (Nat.le_refl _), rfl, fun ys hy => by rw [I.list_inj hy hq]; exact hx⟩, ⟨⟨u, ?_⟩, hit'.at fun o q => (sb.2 it (Ne.symm hne)).trans q, hne⟩, fun b hb => ?_⟩
    · have e1 : ((i + 1 : Nat) : Int) = (i : Int) + 1 := by omega
      rw [e1]; exact he'
    · have hb' : b < s.heap.objs.size := by
        have e' : b = e ∨ b = it := by simpa using hb
        rcases e' with z | z
        · rw [z]; exact hel
        · rw [z]; exact hil
      rw [upd_ne (Nat.ne_of_lt hb')]
      exact (hf b hb).1
  done := by
    intro X hP hw hK hc i pins s σ H E I hf st hg
    subst hP hw hK
    obtain ⟨⟨old, he⟩, hit, hne⟩ := st
    obtain ⟨xs, hq, hx⟩ := hg
    obtain ⟨its, rv, p, hz⟩ := I.list hq
    obtain ⟨f0, f1, f2, f3, f4, f5⟩ := hf it (by simp)
    have hl := rv.length
    exact wpAny_pyNext_enum_end (I.ok.hd hc) he hit p.isList (by simp; omega) fun h' eb => ⟨rfl, I.turned (t' := s.toks) (fun b o hb q => eb b o hb q) f0 f1 f3 f4 f5⟩
  self := fun A i s Q E st h => let ⟨⟨_, he⟩, _⟩ := st; wpAny_pyIter_enum he h
def iEnum (K : PySem.W.Frag) (ta : TA) : TI := fun σ H R => ta σ H fun vs H1 => ∃ a xs, vs = [.ref a] ∧ SqL K H1 a xs ∧ R (Ite K a) H1
theorem pi_enum {X : Cx} {e : Expr} {ta : TA} {p pos tpos : Pos} {elts : List Expr} {kk : Nat} (hg : Gl X "enumerate") (hm : X.mg "enumerate" = none) (ha : PA X [e] ta) (hs : starEach [e] X.env = [(false, eval e X.env)] := by rfl) :
    PI X (.Tuple elts kk tpos) (.Call (.Name "enumerate" p) [e] [] pos) (iEnum X.K ta) := by
  intro pins s σ H R I h
  refine Call_ (ld_blt I hg hm boot_enumerate (PyProof.Rows.callWith_type1 (thn (ha pos pins s σ H _ I h) fun us s1 ⟨vs, H1, I1, r1, q1⟩ => ?_) hs rfl))
  obtain ⟨a, xs, ex, hq, q⟩ := q1
  subst ex
  cases r1 with
  | cons r rr =>
    cases rr
    cases r
    obtain ⟨its, rv, p', hz⟩ := I1.list hq
    refine call_enumerate_list p'.isList fun h' he hit hsz hk => wpAny_pyIter_enum he ?_
    have I2 : Inv X pins σ H1 { s1 with heap := h' } := I1.kept (t' := s1.toks) hk
    refine ⟨s1.heap.objs.size + 1, [s1.heap.objs.size + 1, s1.heap.objs.size], _, _, H1, rfl, I2, turn_enum a (s1.heap.objs.size + 1) s1.heap.objs.size, ⟨⟨.none, he⟩, hit, Nat.succ_ne_self _⟩, fun b hb => ?_, q⟩
    have e' : b = s1.heap.objs.size + 1 ∨ b = s1.heap.objs.size := by simpa using hb
    have hle : s1.heap.objs.size ≤ b := by
      rcases e' with z | z
      · rw [z]; exact Nat.le_add_right _ _
      · rw [z]; exact Nat.le_refl _
    exact I1.fpOk hle (I1.hok.fresh hle)
theorem boot_zip5 : bootBuiltins "zip" = some (.type "zip") := by decide +kernel
def Itz (K : PySem.W.Frag) (a b : Addr) : It :=
  ⟨fun i H => ∃ (xs ys : List V) (x y : V), SqL K H a xs ∧ SqL K H b ys ∧ xs[i]? = some x ∧ ys[i]? = some y,
    fun i H v H' => ∃ T x y, v = .ref T ∧ H T = none ∧ H' = upd H T (.tup [x, y]) ∧ (∀ xs, SqL K H a xs → xs[i]? = some x) ∧ ∀ ys, SqL K H b ys → ys[i]? = some y,
    fun i H => ∃ xs ys : List V, SqL K H a xs ∧ SqL K H b ys ∧ (xs.length ≤ i ∨ ys.length ≤ i)⟩
theorem turn_zip {P : Program} {w : World} {K : PySem.W.Frag} {elts : List Expr} {kk : Nat} {tpos : Pos} {a b z TI TO i1 i2 : Addr} (D : ZipApart z TI TO i1 i2 a b) :
    Turn P w K (.Tuple elts kk tpos) (Itz K a b) [z, TI, TO, i1, i2] z (fun i h => IsZip h z TI TO .none ∧ IsPair h TI (.ref i1) (.ref i2) ∧ (∃ x y, IsPair h TO x y) ∧ h.IsListIter i1 a i ∧ h.IsListIter i2 b i) where
  mem := by simp
  obj := fun i h st c hc => by
    obtain ⟨hz, hTI, ⟨x, y, hTO⟩, ⟨o1, e1, _, d1⟩, ⟨o2, e2, _, d2⟩⟩ := st
    have e' : c = z ∨ c = TI ∨ c = TO ∨ c = i1 ∨ c = i2 := by simpa using hc
    rcases e' with q | q | q | q | q
    · rw [q]; exact ⟨_, hz, fun v q => nomatch q⟩
    · rw [q]; exact ⟨_, hTI, fun v q => nomatch q⟩
    · rw [q]; exact ⟨_, hTO, fun v q => nomatch q⟩
    · rw [q]; exact ⟨o1, e1, fun v q => by rw [d1] at q; cases q⟩
    · rw [q]; exact ⟨o2, e2, fun v q => by rw [d2] at q; cases q⟩
  keep := fun i h h' st k => by
    obtain ⟨hz, hTI, ⟨x, y, hTO⟩, h1, h2⟩ := st
    exact ⟨k z (by simp) _ hz, k TI (by simp) _ hTI, ⟨x, y, k TO (by simp) _ hTO⟩, h1.at fun o q => k i1 (by simp) o q, h2.at fun o q => k i2 (by simp) o q⟩
  item := by
    intro X hP hw hK hc i pins s σ H E I hf st hg
    subst hP hw hK
    obtain ⟨hz, hTI, ⟨x0, y0, hTO⟩, h1, h2⟩ := st
    obtain ⟨xs, ys, x, y, hqx, hqy, hx, hy⟩ := hg
    obtain ⟨its, rv, p, _⟩ := I.list hqx
    obtain ⟨its2, rv2, p2, _⟩ := I.list hqy
    obtain ⟨u, hu, ru⟩ := rv.get hx
    obtain ⟨u2, hu2, ru2⟩ := rv2.get hy
    have hzl : z < s.heap.objs.size := Heap.lt_size hz
    refine wpAny_pyNext_zip_item D hz hTI hTO h1 h2 p.isList p2.isList (x := u) (y := u2) (by simpa using hu) (by simpa using hu2) fun h' z' TO' h1' h2' hT hsz hk => ?_
    refine ⟨_, rfl, wpAny_letOwnedTupleGo_zip (s := { s with heap := h' }) z' fun h'' z'' sb => ?_⟩
    have hT2 : h''.get? s.heap.objs.size = some { cls := .type "tuple", data := .seq #[u, u2] } := (sb.2 _ (Nat.ne_of_gt hzl)).trans hT
    have new : ObjOk X.prog X.w (upd H s.heap.objs.size (.tup [x, y])) h'' s.heap.objs.size (.tup [x, y]) :=
      ⟨by show 2 ≤ sizeLine; decide, [u, u2], .cons ru (.cons ru2 .nil), ⟨_, hT2, rfl, _, rfl⟩⟩
    have I1 : Inv X pins σ (upd H s.heap.objs.size (.tup [x, y])) { s with heap := h'' } :=
      I.turnedNew (t' := s.toks) (ch := [z, TI, TO, i1, i2]) (fun c o hb q => (sb.2 c (fun q' => hb (by simp [q']))).trans (hk c o (fun q' => hb (by simp [q'])) (fun q' => hb (by simp [q'])) (fun q' => hb (by simp [q'])) (fun q' => hb (by simp [q'])) q)) hf (Nat.le_refl _) new
    refine ⟨.ref s.heap.objs.size, _, I1, rfl, ⟨_, x, y, rfl, I.hok.fresh (Nat.le_refl _), rfl, fun l hl => by rw [I.list_inj hl hqx]; exact hx, fun l hl => by rw [I.list_inj hl hqy]; exact hy⟩, ⟨z'', ?_, ⟨u, u2, ?_⟩, ?_, ?_⟩, fun c hcm => ?_⟩
    · exact (sb.2 _ D.TIz).trans (hk _ _ D.TIz D.TITO D.TIi1 D.TIi2 hTI)
    · exact (sb.2 _ D.TOz).trans TO'
    · exact h1'.at fun o q => (sb.2 _ D.i1z).trans q
    · exact h2'.at fun o q => (sb.2 _ D.i2z).trans q
    · have hlt : c < s.heap.objs.size := by
        have e' : c = z ∨ c = TI ∨ c = TO ∨ c = i1 ∨ c = i2 := by simpa using hcm
        rcases e' with q | q | q | q | q
        · rw [q]; exact hzl
        · rw [q]; exact Heap.lt_size hTI
        · rw [q]; exact Heap.lt_size hTO
        · rw [q]; obtain ⟨_, e1, _⟩ := h1; exact Heap.lt_size e1
        · rw [q]; obtain ⟨_, e2, _⟩ := h2; exact Heap.lt_size e2
      rw [upd_ne (Nat.ne_of_lt hlt)]
      exact (hf c hcm).1
  done := by
    intro X hP hw hK hc i pins s σ H E I hf st hg
    subst hP hw hK
    obtain ⟨hz, hTI, ⟨x0, y0, hTO⟩, h1, h2⟩ := st
    obtain ⟨xs, ys, hqx, hqy, hend⟩ := hg
    obtain ⟨its, rv, p, _⟩ := I.list hqx
    obtain ⟨its2, rv2, p2, _⟩ := I.list hqy
    have l1 := rv.length
    have l2 := rv2.length
    have he : its.toArray[i]? = none ∨ its2.toArray[i]? = none := by
      rcases hend with q | q
      · exact .inl (by simp; omega)
      · exact .inr (by simp; omega)
    exact wpAny_pyNext_zip_end (I.ok.hd hc) D hz hTI hTO h1 h2 p.isList p2.isList he fun h' hk => ⟨rfl, I.turnedL (t' := s.toks) (ch := [z, TI, TO, i1, i2]) (fun c o hb q =>
      hk c o (fun q' => hb (by simp [q'])) (fun q' => hb (by simp [q'])) (fun q' => hb (by simp [q'])) (fun q' => hb (by simp [q'])) q) hf⟩
  self := fun A i s Q E st h => wpAny_pyIter_zip st.1 h
def iZip (K : PySem.W.Frag) (ta : TA) : TI := fun σ H R => ta σ H fun vs H1 => ∃ a b xs ys, vs = [.ref a, .ref b] ∧ SqL K H1 a xs ∧ SqL K H1 b ys ∧ R (Itz K a b) H1
theorem pi_zip {X : Cx} {e e2 : Expr} {ta : TA} {p pos tpos : Pos} {elts : List Expr} {kk : Nat} (hg : Gl X "zip") (hm : X.mg "zip" = none) (ha : PA X [e, e2] ta)
    (hs : starEach [e, e2] X.env = (false, eval e X.env) :: starEach [e2] X.env := by rfl) (hpl : (backTo pos (starEach [e2] X.env)).any (·.1) = false := by rfl) :
    PI X (.Tuple elts kk tpos) (.Call (.Name "zip" p) [e, e2] [] pos) (iZip X.K ta) := by
  intro pins s σ H R I h
  refine Call_ (ld_blt I hg hm boot_zip5 (PyProof.Rows.callWith_type1 (thn (ha pos pins s σ H _ I h) fun us s1 ⟨vs, H1, I1, r1, q1⟩ => ?_) hs hpl))
  obtain ⟨a, b, xs, ys, ex, hqx, hqy, q⟩ := q1
  subst ex
  cases r1 with
  | cons r rr =>
    cases rr with
    | cons r' rr =>
      cases rr
      cases r
      cases r'
      obtain ⟨its, rv, p1, _⟩ := I1.list hqx
      obtain ⟨its2, rv2, p2, _⟩ := I1.list hqy
      have la : a < s1.heap.objs.size := p1.lt
      have lb : b < s1.heap.objs.size := p2.lt
      refine call_zip_2 p1.isList p2.isList fun h' hz hTI hTO h1 h2 hsz hk => wpAny_pyIter_zip hz ?_
      have I2 : Inv X pins σ H1 { s1 with heap := h' } := I1.kept (t' := s1.toks) hk
      refine ⟨s1.heap.objs.size + 4, [s1.heap.objs.size + 4, s1.heap.objs.size + 2, s1.heap.objs.size + 3, s1.heap.objs.size, s1.heap.objs.size + 1], _, _, H1, rfl, I2, turn_zip (PySem.W.ktu_apart s1.heap.objs.size a b la lb), ⟨hz, hTI, ⟨_, _, hTO⟩, h1, h2⟩, fun c hcm => ?_, q⟩
      have e' : c = s1.heap.objs.size + 4 ∨ c = s1.heap.objs.size + 2 ∨ c = s1.heap.objs.size + 3 ∨ c = s1.heap.objs.size ∨ c = s1.heap.objs.size + 1 := by simpa using hcm
      have hle : s1.heap.objs.size ≤ c := by
        rcases e' with z | z | z | z | z
        · rw [z]; exact Nat.le_add_right _ _
        · rw [z]; exact Nat.le_add_right _ _
        · rw [z]; exact Nat.le_add_right _ _
        · rw [z]; exact Nat.le_refl _
        · rw [z]; exact Nat.le_add_right _ _
      exact I1.fpOk hle (I1.hok.fresh hle)
end L2
section 
namespace Bits
open PySem PyProof.Rows
end Bits
end 
section 
namespace TL
open PySem PySem.Builtin PySem.Builtin.Str PySem.StrLaws
end TL
end 
namespace L2
open PySem PySem.Spec PyProof.Rows
section
variable {X : Cx} {pins : List (Addr × Obj)} {σ : St} {H : Hp} {s : Shared} {Q : VK}
end
section
variable {X : Cx}
end
section
variable {X : Cx} {o e : Expr} {to te : TE}
end
end L2
namespace L2
open PySem PySem.Spec PyProof.Rows
section
variable {X : Cx}
end
end L2
namespace Att
open PySem PySem.W PySem.Calls PyProof.Rows
section
variable {prog : Program} {w : World} {A : Around} {E : Value → Shared → Prop} {s : Shared} {K : Frag}
end
end Att
namespace L2
open PySem PySem.Spec PyProof.Rows
end L2
namespace L2
open PySem PySem.Spec PyProof.Rows
abbrev KOf {K : PySem.W.Frag} {h : Heap} (_ : K.In h) : PySem.W.Frag := K
end L2
/- THE LAST THEOREM (shape; LID, My.* are yours):
   My.Adr: a structure of the addresses that your layer names (classes, functions); My.Txt K t: a structure (Prop) of the equations over K;
   My.txt_mk : {K} {implicit addresses ..} (e1 : nsIn K mainGlobals "law" = some (some (.ref f))) (e2 : K.lookup f = some ⟨oc, od, .func (fnOf "law" "law" params body scope dV kV doc pm an cdv ct), sl⟩) (e3 : codeIn K cdv "law" = true) .. : ∃ t, My.Txt K t
set_option maxRecDepth 100000 in
set_option maxHeartbeats 0 in
theorem PySem.Challenge.cw_LID_holds : PySem.Challenge.rw_LID.Holds := by
  w_on; o_law; k_head; (case hw => w_witness2)
  k_fill
  refine L2.walk_of (l := PySem.Challenge.rw_LID) (n := 63) (k := 40) (x := "script") (CX := fun w => ..) (sp := fun _ => My.sp_law) rfl (by decide) rfl ⟨rfl, by decide, by decide⟩ (fun w h Y => PySem.W.kIn_of Y) ?F ?S ?C
  case F =>
    intro w mg fa h KX G hmg
    have T : ∃ t, My.Txt (L2.KOf KX) t := by
      dsimp only [L2.KOf]                          -- K must stand as «<heap const> w.params» for k_is
      refine' My.txt_mk ?e1 ?e2 ?e3 ..
      (case e1 => PySem.W.k_is)                    -- in the order: a name -> its address -> its object -> its parts
      (case e2 => PySem.W.k_is)
      ..
    obtain ⟨t, T⟩ := T
    have e0 := hmg.symm.trans (PySem.W.mg_of KX G T.law)
    cases e0                                       -- fa is the law's own address
    exact ⟨_, fun s u => .of_eq rfl, fun base kb nb => My.law_fn T kb nb⟩     -- if «.of_eq rfl» comes too early: refine' ⟨_, ?b, fun base kb nb => My.law_fn T kb nb⟩; exact fun s u => .of_eq rfl
  case S => exact fun w H a ns hl hO hS => ..
  case C => exact ..
(the tactic k_is has no namespace: write k_is) -/
namespace L2
open PySem PySem.Spec PyProof.Rows
def inClass (s : Stmt) (j : Nat) : Stmt := match s with
  | .ClassDef _ _ _ body _ _ _ _ _ _ _ => body.getD j (.Pass ⟨0, 0, 0, 0⟩)
  | _ => .Pass ⟨0, 0, 0, 0⟩
def defArgs (s : Stmt) : Arguments := match s with
  | .FunctionDef _ a _ _ _ _ _ _ _ _ => a
  | _ => { posonlyargs := [], args := [], vararg := none, kwonlyargs := [], kw_defaults := [], kwarg := none, defaults := [] }
def defBody (s : Stmt) : List Stmt := match s with
  | .FunctionDef _ _ b _ _ _ _ _ _ _ => b
  | _ => []
def defScope (s : Stmt) : Scope := match s with
  | .FunctionDef _ _ _ _ _ _ sc _ _ _ => sc
  | _ => { kind := .function, names := [], isGenerator := false, isCoroutine := false }
abbrev CX0 : CXT := fun _ _ _ _ _ _ => False
abbrev E0 : XK := fun _ _ _ => False
theorem pass0 {X : Cx} : Passes CX0 X E0 := fun _ _ _ _ _ _ _ h => h.elim
structure Fun (K : PySem.W.Frag) (x qual : Str) (st : Stmt) (f : Addr) (fd : FuncData) : Prop where
  ex : ∃ (oc : Value) (od : Option Addr) (kV doc pm : Value) (an : Option Addr) (cdv ct : Value) (osl : Array (Option Value)),
    fd = PySem.W.fnOf x qual (defArgs st) (defBody st) (defScope st) .none kV doc pm an cdv ct ∧ K.lookup f = some ⟨oc, od, .func fd, osl⟩ ∧ PySem.W.codeIn K cdv qual = true
  kp : PySem.W.keepIn K (.ref f) = true
section
variable {P : Program} {w : World} {K : PySem.W.Frag} {mg : Str → Option Value} {base : Heap}
theorem Fun.ok {x qual : Str} {st : Stmt} {f : Addr} {fd : FuncData} {N ps : List Str} {k : Nat} {sp : Sp} (F : Fun K x qual st f fd) (S : FnScope N ps (defScope st)) (len : ∀ vs H Q E, sp vs H Q E → vs.length = ps.length)
    (hbody : ∀ (cdv : Value) (A : Around) (outer : List Env) (s : Shared) (H : Hp) (vs : List V) (Q : VK) (E : XK), Room k (A.deeper (envOfC qual (defScope st) s.heap.objs.size f cdv)) → sp vs H Q E →
      ∃ t, PSs (cxOf CX0 P w K mg base N qual (defScope st) f cdv A outer s H E).nox (defBody st) t ∧ t { nx := fun _ H' => Q .non H', rt := Q } (start N vs) H) : FnOk P w K mg base CX0 (k + 1) f fd ps sp := by
  obtain ⟨oc, od, kV, doc, pm, an, cdv, ct, osl, rfl, lk, hcd⟩ := F.ex
  refine fn_of lk hcd S len fun A outer s H vs Q E hr hsp => ?_
  obtain ⟨t, h, q⟩ := hbody cdv A outer s H vs Q E hr hsp
  exact ⟨t, h.nox, q⟩
theorem Fun.binds {x qual : Str} {st : Stmt} {f : Addr} {fd : FuncData} {ps : List Str} (F : Fun K x qual st f fd)
    (h : ∀ (kV doc pm : Value) (an : Option Addr) (cdv ct : Value) (us : List Value), us.length = ps.length → bindArgs (PySem.W.fnOf x qual (defArgs st) (defBody st) (defScope st) .none kV doc pm an cdv ct) ⟨us, []⟩ = pure (ps.zip us)) : Binds K fd ps [] := by
  obtain ⟨oc, od, kV, doc, pm, an, cdv, ct, osl, rfl, lk, hcd⟩ := F.ex
  exact .all (h kV doc pm an cdv ct)
theorem fun_mk {x qual : Str} {st : Stmt} {f : Addr} {oc : Value} {od an : Option Addr} {osl : Array (Option Value)} {kV doc pm cdv ct : Value} (l : K.lookup f = some ⟨oc, od, .func (PySem.W.fnOf x qual (defArgs st) (defBody st) (defScope st) .none kV doc pm an cdv ct), osl⟩)
    (c : PySem.W.codeIn K cdv qual = true) (k : PySem.W.keepIn K (.ref f) = true) : Fun K x qual st f (PySem.W.fnOf x qual (defArgs st) (defBody st) (defScope st) .none kV doc pm an cdv ct) := ⟨⟨oc, od, kV, doc, pm, an, cdv, ct, osl, rfl, l, c⟩, k⟩
end
theorem small1000 {n : Nat} (h : n ≤ 1000) : n < sizeLine := Nat.lt_of_le_of_lt h (by decide)
section
variable {X : Cx}
theorem pv (i : Nat) {x : Str} {pos : Pos} (hN : X.N[i]? = some x := by rfl) (hv : Vis X.env.scope x := by first | exact Or.inl rfl | exact Or.inr (Or.inl rfl) | exact Or.inr (Or.inr rfl)) (hd : (x == ("__debug__" : Str)) = false := by decide)
    (hcd : (x == ("__classdict__" : Str)) = false := by decide) : PE X (.Name x pos) (tVar i) := pe_var hN hv hd hcd
end
theorem iteF {A B : Prop} (h : B) : if false = true then A else B := by
  rw [if_neg Bool.false_ne_true]
  exact h
theorem iteT {A B : Prop} (h : A) : if true = true then A else B := by
  rw [if_pos rfl]
  exact h
theorem ite2 {c A B : Prop} [Decidable c] (h1 : c → A) (h2 : ¬ c → B) : if c then A else B := by
  by_cases h : c
  · rw [if_pos h]
    exact h1 h
  · rw [if_neg h]
    exact h2 h
def Same (H H' : Hp) : Prop := ∀ b o, H b = some o → H' b = some o
theorem Same.refl (H : Hp) : Same H H := fun _ _ h => h
theorem Same.trans {H H1 H2 : Hp} (a : Same H H1) (b : Same H1 H2) : Same H H2 := fun c o h => b c o (a c o h)
theorem Same.free {H H' : Hp} (e : Same H H') {l : Addr} (h : H' l = Option.none) : H l = Option.none := by
  cases q : H l with
  | none => rfl
  | some o =>
    rw [e l o q] at h
    cases h
theorem Same.seq {K : PySem.W.Frag} {H H' : Hp} {a : Addr} {xs : List V} (e : Same H H') (h : SqL K H a xs) : SqL K H' a xs := by
  rcases h with (h | ⟨o, h⟩) | h
  · exact .inl (.inl (e _ _ h))
  · exact .inl (.inr ⟨o, e _ _ h⟩)
  · exact .inr h
section
variable {κ : Type} [DecidableEq κ]
end
theorem at_of {xs : List V} {z : Int} {j : Nat} {v : V} (e : z = (j : Int)) (h : xs[j]? = some v) : atI xs z = some v := by
  rw [e]
  exact atI_nat h
theorem Same.made {H H1 : Hp} {x dx C : Addr} (nx : H x = Option.none) (nd : H dx = Option.none) (k : ∀ b o, (upd (upd H dx (.own x)) x (.ins C dx [])) b = some o → b ≠ x → H1 b = some o) : Same H H1 := fun b o e =>
  k b o (by rw [upd_ne (ne_of_none e nx), upd_ne (ne_of_none e nd)]; exact e) (ne_of_none e nx)
end L2

end
section
set_option Elab.async false
set_option linter.all false
set_option maxRecDepth 100000
section
set_option Elab.async false
set_option linter.all false
set_option maxRecDepth 100000
set_option maxHeartbeats 2000000
namespace L2
open PySem PySem.Spec PyProof.Rows
open PySem.W (WData Codec OpenSpec Well WellAll ReadsW ReadsAllW)
mutual
inductive Dw (K : PySem.W.Frag) (H : Hp) : V → WData → Prop
  | non : Dw K H .non .none
  | bl (b : Bool) : Dw K H (.bl b) (.bool b)
  | int (i : Int) : Dw K H (.int i) (.int i)
  | str (x : Str) : Dw K H (.str x) (.str x)
  | byt (b : Array UInt8) : Dw K H (.byt b) (.bytes b.toList)
  | lst {a : Addr} {xs : List V} {ds : List WData} : SqL K H a xs → DwAll K H xs ds → Dw K H (.ref a) (.list ds)
  | tup {a : Addr} {xs : List V} {ds : List WData} : SqT K H a xs → DwAll K H xs ds → Dw K H (.ref a) (.tuple ds)
inductive DwAll (K : PySem.W.Frag) (H : Hp) : List V → List WData → Prop
  | nil : DwAll K H [] []
  | cons {v : V} {vs : List V} {d : WData} {ds : List WData} : Dw K H v d → DwAll K H vs ds → DwAll K H (v :: vs) (d :: ds)
end
theorem dw_ints {K : PySem.W.Frag} {H : Hp} : ∀ ns : List Int, DwAll K H (ns.map V.int) (ns.map WData.int)
  | [] => .nil
  | n :: r => .cons (.int n) (dw_ints r)
theorem ints_dw {K : PySem.W.Frag} {H : Hp} : ∀ (ns : List Int) (xs : List V), DwAll K H xs (ns.map WData.int) → xs = ns.map V.int
  | [], xs, h => by
    cases h
    rfl
  | n :: r, xs, h => by
    cases h with
    | cons h1 h2 =>
      cases h1
      rw [ints_dw r _ h2] <;> rfl
section
variable {P : Program} {w : World} {K : PySem.W.Frag} {H : Hp} {h : Heap} {R : PySem.W.WRecords} {cl : Str → Option Addr}
theorem sqL_at {a : Addr} {xs : List V} (hok : HOk P w H h) (KX : K.In h) (q : SqL K H a xs) : ∃ (its : List Value) (o : Obj) (n : Nat), Vals xs its ∧ h.get? a = some o ∧ o.cls = .type "list" ∧ o.data = .seq its.toArray n := by
  rcases q with q | ⟨o, its, n, e, hc, _, hd, _, hv⟩
  · obtain ⟨_, its, n, hv, e⟩ := (show ObjOk P w H h a (.lst xs) from q.ok hok)
    exact ⟨its, _, n, hv, e, rfl, rfl⟩
  · exact ⟨its.toList, o, n, hv, KX _ _ e, hc, by simp [hd]⟩
theorem sqT_at {a : Addr} {xs : List V} (hok : HOk P w H h) (KX : K.In h) (q : SqT K H a xs) : ∃ (its : List Value) (o : Obj) (n : Nat), Vals xs its ∧ h.get? a = some o ∧ o.cls = .type "tuple" ∧ o.data = .seq its.toArray n := by
  rcases q with q | ⟨o, its, n, e, hc, hd, _, hv⟩
  · obtain ⟨_, its, hv, o, e, hc, n, hd⟩ := (show ObjOk P w H h a (.tup xs) from q.ok hok)
    exact ⟨its, o, n, hv, e, hc, hd⟩
  · exact ⟨its.toList, o, n, hv, KX _ _ e, hc, by simp [hd]⟩
mutual
theorem Dw.reads (hok : HOk P w H h) (KX : K.In h) : ∀ (d : WData) (v : V) (u : Value), Dw K H v d → RelV v u → ∃ as, ReadsW R cl h u d as
  | .none, _, _, x, r => by
    cases x
    cases r
    exact ⟨_, ReadsW.none⟩
  | .bool b, _, _, x, r => by
    cases x
    cases r
    exact ⟨_, ReadsW.bool b⟩
  | .int i, _, _, x, r => by
    cases x
    obtain ⟨t, rfl⟩ := r
    exact ⟨_, ReadsW.int i t⟩
  | .str s, _, _, x, r => by
    cases x
    obtain ⟨t, rfl⟩ := r
    exact ⟨_, ReadsW.str s t⟩
  | .bytes b, _, _, x, r => by
    cases x
    obtain ⟨t, rfl⟩ := r
    exact ⟨_, ReadsW.bytes _ t⟩
  | .list ds, _, _, x, r => by
    cases x with
    | lst hs ha =>
      cases r
      obtain ⟨its, o, n, rv, ho, hc, hd⟩ := sqL_at hok KX hs
      obtain ⟨as, hr⟩ := Dw.readsAll hok KX ds _ its ha rv
      exact ⟨_, ReadsW.list ho hc hd hr⟩
  | .tuple ds, _, _, x, r => by
    cases x with
    | tup hs ha =>
      cases r
      obtain ⟨its, o, n, rv, ho, hc, hd⟩ := sqT_at hok KX hs
      obtain ⟨as, hr⟩ := Dw.readsAll hok KX ds _ its ha rv
      exact ⟨_, ReadsW.tuple ho hc hd hr⟩
  | .float _, _, _, x, _ => by cases x
  | .dict _, _, _, x, _ => by cases x
  | .bytearray _, _, _, x, _ => by cases x
  | .set _, _, _, x, _ => by cases x
  | .frozenset _, _, _, x, _ => by cases x
  | .obj _ _, _, _, x, _ => by cases x
theorem Dw.readsAll (hok : HOk P w H h) (KX : K.In h) : ∀ (ds : List WData) (vs : List V) (us : List Value), DwAll K H vs ds → Vals vs us → ∃ as, ReadsAllW R cl h us ds as
  | [], _, _, x, r => by
    cases x
    cases r
    exact ⟨_, ReadsAllW.nil⟩
  | d :: ds, _, _, x, r => by
    cases x with
    | cons h1 h2 =>
      cases r with
      | cons r1 r2 =>
        obtain ⟨as, q1⟩ := Dw.reads hok KX d _ _ h1 r1
        obtain ⟨bs, q2⟩ := Dw.readsAll hok KX ds _ _ h2 r2
        exact ⟨_, ReadsAllW.cons q1 q2⟩
end
end
mutual
def plW : WData → Bool
  | .none => true
  | .bool _ => true
  | .int _ => true
  | .str _ => true
  | .bytes _ => true
  | .list xs => plWs xs
  | .tuple xs => plWs xs
  | _ => false
def plWs : List WData → Bool
  | [] => true
  | x :: r => plW x && plWs r
end
theorem plWs_map {α : Type} {f : α → WData} (h : ∀ a, plW (f a) = true) : ∀ l : List α, plWs (l.map f) = true
  | [] => rfl
  | x :: r => by
    show (plW (f x) && plWs (r.map f)) = true
    rw [h x, plWs_map h r] <;> rfl
theorem pl_enc : ∀ (c : Codec) (a : c.denote), plW (c.enc a) = true
  | .unit, _ => rfl
  | .bool, _ => rfl
  | .int _ _, _ => rfl
  | .nat _ _, _ => rfl
  | .u8, _ => rfl
  | .bytes _ _, _ => rfl
  | .text _ _ _ _, _ => rfl
  | .list _ _ c, a => plWs_map (fun x => pl_enc c x) a
  | .pair c d, a => by
    show (plW (c.enc a.1) && (plW (d.enc a.2) && true)) = true
    rw [pl_enc c a.1, pl_enc d a.2] <;> rfl
  | .triple c d e, a => by
    show (plW (c.enc a.1) && (plW (d.enc a.2.1) && (plW (e.enc a.2.2) && true))) = true
    rw [pl_enc c a.1, pl_enc d a.2.1, pl_enc e a.2.2] <;> rfl
  | .option c, none => rfl
  | .option c, some x => pl_enc c x
theorem pl_encAll : ∀ (cs : List Codec) (a : Codec.denoteAll cs), plWs (Codec.encAll cs a) = true
  | [], _ => rfl
  | c :: cs, a => by
    show (plW (c.enc a.1) && plWs (Codec.encAll cs a.2)) = true
    rw [pl_enc c a.1, pl_encAll cs a.2] <;> rfl
theorem weight_mem : ∀ {xs : List WData} {d : WData}, d ∈ xs → d.weight ≤ WData.weightAll xs
  | [], d, h => absurd h (by simp)
  | x :: r, d, h => by
    show d.weight ≤ x.weight + 1 + WData.weightAll r
    rcases List.mem_cons.mp h with e | m
    · rw [e]
      omega
    · have z := weight_mem m
      omega
def toV : Value → V
  | .none => .non
  | .bool b => .bl b
  | .int i _ => .int i
  | .str x _ => .str x
  | .bytes b _ => .byt b
  | .ref a => .ref a
  | _ => .non
def OkU (A : List Addr) : Value → Prop
  | .none => True
  | .bool _ => True
  | .int _ _ => True
  | .str _ _ => True
  | .bytes _ _ => True
  | .ref a => a ∈ A
  | _ => False
theorem OkU.mono {A B : List Addr} (h : ∀ a ∈ A, a ∈ B) : ∀ {u : Value}, OkU A u → OkU B u := fun {u} x => by
  cases u with
  | ref a => exact h a x
  | none => trivial
  | bool b => trivial
  | int i t => trivial
  | str s t => trivial
  | bytes b t => trivial
  | _ => exact False.elim x
theorem relV_toV {A : List Addr} {u : Value} (x : OkU A u) : RelV (toV u) u := by
  cases u with
  | ref a => rfl
  | none => rfl
  | bool b => rfl
  | int i t => exact ⟨t, rfl⟩
  | str s t => exact ⟨t, rfl⟩
  | bytes b t => exact ⟨t, rfl⟩
  | _ => exact False.elim x
theorem vals_toV {A : List Addr} : ∀ {vs : List Value}, (∀ u ∈ vs, OkU A u) → Vals (vs.map toV) vs
  | [], _ => .nil
  | u :: r, h => .cons (relV_toV (h u (List.mem_cons_self ..))) (vals_toV fun x hx => h x (List.mem_cons_of_mem _ hx))
def ArgOb (h : Heap) (A : List Addr) (a : Addr) : Prop := ∃ vs : List Value, vs.length ≤ sizeLine ∧ (∀ u ∈ vs, OkU A u) ∧
  (h.get? a = some { cls := .type "list", data := .seq vs.toArray } ∨ h.get? a = some { cls := .type "tuple", data := .seq vs.toArray })
theorem ArgOb.mono {h : Heap} {A B : List Addr} {a : Addr} (k : ∀ a ∈ A, a ∈ B) (x : ArgOb h A a) : ArgOb h B a := by
  obtain ⟨vs, h1, h2, h3⟩ := x
  exact ⟨vs, h1, fun u hu => (h2 u hu).mono k, h3⟩
theorem wellAll_len {P : Params} {h : Heap} : ∀ {vs : List Value} {ds : List WData}, WellAll P h vs ds → vs.length = ds.length
  | _, _, .nil => rfl
  | _, _, .cons _ b => by
    show _ + 1 = _ + 1
    rw [wellAll_len b]
theorem well_list {P : Params} {h : Heap} {v : Value} {ds : List WData} (x : Well P h v (.list ds)) : ∃ (a : Addr) (vs : List Value), v = .ref a ∧ h.get? a = some { cls := .type "list", data := .seq vs.toArray } ∧ WellAll P h vs ds := by
  cases x with
  | list ho hall => exact ⟨_, _, rfl, ho, hall⟩
theorem well_tuple {P : Params} {h : Heap} {v : Value} {ds : List WData} (x : Well P h v (.tuple ds)) : ∃ (a : Addr) (vs : List Value), v = .ref a ∧ h.get? a = some { cls := .type "tuple", data := .seq vs.toArray } ∧ WellAll P h vs ds := by
  cases x with
  | tuple ho hall => exact ⟨_, _, rfl, ho, hall⟩
theorem well_cons {P : Params} {h : Heap} {us : List Value} {d : WData} {ds : List WData} (x : WellAll P h us (d :: ds)) : ∃ (v : Value) (vs : List Value), us = v :: vs ∧ Well P h v d ∧ WellAll P h vs ds := by
  cases x with
  | cons a b => exact ⟨_, _, rfl, a, b⟩
theorem line_of {n : Nat} (h : n ≤ 1048576) : n ≤ sizeLine := Nat.le_trans h (by decide)
section
variable {P : Params} {h : Heap}
mutual
theorem area_one : ∀ (d : WData) (v : Value), Well P h v d → plW d = true → d.weight ≤ 1048576 → ∃ A : List Addr, OkU A v ∧ ∀ a ∈ A, ArgOb h A a
  | .none, _, x, _, _ => by
    cases x
    exact ⟨[], trivial, fun a m => absurd m (by simp)⟩
  | .bool b, _, x, _, _ => by
    cases x
    exact ⟨[], trivial, fun a m => absurd m (by simp)⟩
  | .int i, _, x, _, _ => by
    cases x
    exact ⟨[], trivial, fun a m => absurd m (by simp)⟩
  | .str s, _, x, _, _ => by
    cases x
    exact ⟨[], trivial, fun a m => absurd m (by simp)⟩
  | .bytes b, _, x, _, _ => by
    cases x
    exact ⟨[], trivial, fun a m => absurd m (by simp)⟩
  | .list ds, _, x, p, z => by
    obtain ⟨a, vs, rfl, ho, hall⟩ := well_list x
    have z2 : WData.weightAll ds ≤ 1048576 := z
    obtain ⟨A, h1, h2⟩ := area_all ds _ hall p fun d hd => Nat.le_trans (weight_mem hd) z2
    have k : ∀ b ∈ A, b ∈ a :: A := fun b hb => List.mem_cons_of_mem _ hb
    refine ⟨a :: A, List.mem_cons_self .., fun b hb => ?_⟩
    rcases List.mem_cons.mp hb with e | m
    · rw [e]
      exact ⟨vs, line_of (by rw [wellAll_len hall]; exact Nat.le_trans (PySem.W.length_le_weightAllW ds) z2), fun u hu => (h1 u hu).mono k, .inl ho⟩
    · exact (h2 b m).mono k
  | .tuple ds, _, x, p, z => by
    obtain ⟨a, vs, rfl, ho, hall⟩ := well_tuple x
    have z2 : WData.weightAll ds ≤ 1048576 := z
    obtain ⟨A, h1, h2⟩ := area_all ds _ hall p fun d hd => Nat.le_trans (weight_mem hd) z2
    have k : ∀ b ∈ A, b ∈ a :: A := fun b hb => List.mem_cons_of_mem _ hb
    refine ⟨a :: A, List.mem_cons_self .., fun b hb => ?_⟩
    rcases List.mem_cons.mp hb with e | m
    · rw [e]
      exact ⟨vs, line_of (by rw [wellAll_len hall]; exact Nat.le_trans (PySem.W.length_le_weightAllW ds) z2), fun u hu => (h1 u hu).mono k, .inr ho⟩
    · exact (h2 b m).mono k
  | .float _, _, _, p, _ => Bool.noConfusion (show false = true from p)
  | .dict _, _, _, p, _ => Bool.noConfusion (show false = true from p)
  | .bytearray _, _, _, p, _ => Bool.noConfusion (show false = true from p)
  | .set _, _, _, p, _ => Bool.noConfusion (show false = true from p)
  | .frozenset _, _, _, p, _ => Bool.noConfusion (show false = true from p)
  | .obj _ _, _, _, p, _ => Bool.noConfusion (show false = true from p)
theorem area_all : ∀ (ds : List WData) (vs : List Value), WellAll P h vs ds → plWs ds = true → (∀ d ∈ ds, d.weight ≤ 1048576) → ∃ A : List Addr, (∀ u ∈ vs, OkU A u) ∧ ∀ a ∈ A, ArgOb h A a
  | [], _, x, _, _ => by
    cases x
    exact ⟨[], fun u m => absurd m (by simp), fun a m => absurd m (by simp)⟩
  | d :: ds, _, x, p, z => by
    obtain ⟨v, vs, rfl, x1, x2⟩ := well_cons x
    have q : plW d = true ∧ plWs ds = true := Bool.and_eq_true_iff.mp p
    obtain ⟨A, a1, a2⟩ := area_one d v x1 q.1 (z d (List.mem_cons_self ..))
    obtain ⟨B, b1, b2⟩ := area_all ds vs x2 q.2 fun e he => z e (List.mem_cons_of_mem _ he)
    have kA : ∀ b ∈ A, b ∈ A ++ B := fun b hb => List.mem_append.mpr (.inl hb)
    have kB : ∀ b ∈ B, b ∈ A ++ B := fun b hb => List.mem_append.mpr (.inr hb)
    refine ⟨A ++ B, fun u hu => ?_, fun b hb => ?_⟩
    · rcases List.mem_cons.mp hu with e | m
      · rw [e]
        exact a1.mono kA
      · exact (b1 u m).mono kB
    · rcases List.mem_append.mp hb with m | m
      · exact (a2 b m).mono kA
      · exact (b2 b m).mono kB
end
end
def hoOf (o : Obj) : Option HO := match o.data with
  | .seq vs _ => if (o.cls == Value.type "list") = true then some (.frz o (.lst (vs.toList.map toV))) else some (.frz o (.tup (vs.toList.map toV)))
  | _ => none
def argH (K : PySem.W.Frag) (h : Heap) (A : List Addr) : Hp := fun b => if b ∈ A then (if (K.lookup b).isNone = true then (h.get? b).bind hoOf else none) else none
def OnlyF (H : Hp) : Prop := ∀ b, H b = none ∨ ∃ o u, H b = some (.frz o u)
theorem hoOf_lst (vs : List Value) : hoOf { cls := .type "list", data := .seq vs.toArray } = some (.frz { cls := .type "list", data := .seq vs.toArray } (.lst (vs.map toV))) := by
  show (if (Value.type "list" == Value.type "list") = true then some (HO.frz { cls := .type "list", data := .seq vs.toArray } (.lst (vs.toArray.toList.map toV))) else some (HO.frz { cls := .type "list", data := .seq vs.toArray } (.tup (vs.toArray.toList.map toV)))) = _
  rw [if_pos (beq_self_eq_true _)]
theorem hoOf_tup (vs : List Value) : hoOf { cls := .type "tuple", data := .seq vs.toArray } = some (.frz { cls := .type "tuple", data := .seq vs.toArray } (.tup (vs.map toV))) := by
  show (if (Value.type "tuple" == Value.type "list") = true then some (HO.frz { cls := .type "tuple", data := .seq vs.toArray } (.lst (vs.toArray.toList.map toV))) else some (HO.frz { cls := .type "tuple", data := .seq vs.toArray } (.tup (vs.toArray.toList.map toV)))) = _
  rw [if_neg (by decide)]
section
variable {P : Program} {w : World} {K : PySem.W.Frag} {h : Heap} {A : List Addr}
theorem argH_at {b : Addr} {o : Obj} (hb : b ∈ A) (hk : K.lookup b = none) (e : h.get? b = some o) : argH K h A b = hoOf o := by
  unfold argH
  rw [if_pos hb, hk, if_pos (show (none : Option Obj).isNone = true from rfl), e] <;> rfl
theorem of_argH {b : Addr} {u : HO} (q : argH K h A b = some u) : b ∈ A ∧ K.lookup b = none := by
  unfold argH at q
  by_cases hb : b ∈ A
  · rw [if_pos hb] at q
    cases hk : K.lookup b with
    | none => exact ⟨hb, rfl⟩
    | some o =>
      rw [hk, if_neg (by simp)] at q
      cases q
  · rw [if_neg hb] at q
    cases q
theorem argH_is (ar : ∀ a ∈ A, ArgOb h A a) {b : Addr} {u : HO} (q : argH K h A b = some u) : K.lookup b = none ∧ ∃ vs : List Value, vs.length ≤ sizeLine ∧ (∀ u ∈ vs, OkU A u) ∧
    ((h.get? b = some { cls := .type "list", data := .seq vs.toArray } ∧ u = .frz { cls := .type "list", data := .seq vs.toArray } (.lst (vs.map toV))) ∨
     (h.get? b = some { cls := .type "tuple", data := .seq vs.toArray } ∧ u = .frz { cls := .type "tuple", data := .seq vs.toArray } (.tup (vs.map toV)))) := by
  obtain ⟨hb, hk⟩ := of_argH q
  obtain ⟨vs, h1, h2, h3⟩ := ar b hb
  refine ⟨hk, vs, h1, h2, ?_⟩
  rcases h3 with e | e
  · rw [argH_at hb hk e, hoOf_lst] at q
    exact .inl ⟨e, (Option.some.inj q).symm⟩
  · rw [argH_at hb hk e, hoOf_tup] at q
    exact .inr ⟨e, (Option.some.inj q).symm⟩
theorem argH_only (ar : ∀ a ∈ A, ArgOb h A a) : OnlyF (argH K h A) := fun b => by
  cases q : argH K h A b with
  | none => exact .inl rfl
  | some u =>
    obtain ⟨_, vs, _, _, ⟨_, e⟩ | ⟨_, e⟩⟩ := argH_is ar q
    · exact .inr ⟨_, _, by rw [e]⟩
    · exact .inr ⟨_, _, by rw [e]⟩
theorem argH_ok (ar : ∀ a ∈ A, ArgOb h A a) : HOk P w (argH K h A) h := fun b u q => by
  obtain ⟨_, vs, h1, h2, ⟨e, rfl⟩ | ⟨e, rfl⟩⟩ := argH_is ar q
  · exact ⟨e, by rw [List.length_map]; exact h1, vs, _, vals_toV h2, e⟩
  · exact ⟨e, by rw [List.length_map]; exact h1, vs, vals_toV h2, _, e, rfl, _, rfl⟩
theorem seq_inj {c c' : Value} {vs us : List Value} (e : (some { cls := c, data := .seq vs.toArray } : Option Obj) = some { cls := c', data := .seq us.toArray }) : c = c' ∧ vs = us := by
  have e1 := Option.some.inj e
  have e2 : c = c' := congrArg Obj.cls e1
  have e3 : Data.seq vs.toArray = Data.seq us.toArray := congrArg Obj.data e1
  injection e3 with e4
  refine ⟨e2, ?_⟩
  have e5 := congrArg Array.toList e4
  simpa using e5
theorem argL (KX : K.In h) (ar : ∀ a ∈ A, ArgOb h A a) {a : Addr} {vs : List Value} (ha : a ∈ A) (e : h.get? a = some { cls := .type "list", data := .seq vs.toArray }) : (∀ u ∈ vs, OkU A u) ∧ SqL K (argH K h A) a (vs.map toV) := by
  obtain ⟨us, h1, h2, h3⟩ := ar a ha
  have hu : us = vs := by
    rcases h3 with q | q
    · rw [e] at q
      exact (seq_inj q).2.symm
    · rw [e] at q
      exact absurd (Value.type.inj (seq_inj q).1) (by decide)
  subst hu
  refine ⟨h2, ?_⟩
  cases hk : K.lookup a with
  | none => exact .inl (.inr ⟨_, by rw [argH_at ha hk e, hoOf_lst]⟩)
  | some o =>
    have e2 := KX a o hk
    rw [e] at e2
    obtain rfl := Option.some.inj e2
    exact .inr ⟨_, us.toArray, _, hk, rfl, rfl, rfl, by rw [List.size_toArray]; exact h1, by simpa using vals_toV h2⟩
theorem argT (KX : K.In h) (ar : ∀ a ∈ A, ArgOb h A a) {a : Addr} {vs : List Value} (ha : a ∈ A) (e : h.get? a = some { cls := .type "tuple", data := .seq vs.toArray }) : (∀ u ∈ vs, OkU A u) ∧ SqT K (argH K h A) a (vs.map toV) := by
  obtain ⟨us, h1, h2, h3⟩ := ar a ha
  have hu : us = vs := by
    rcases h3 with q | q
    · rw [e] at q
      exact absurd (Value.type.inj (seq_inj q).1) (by decide)
    · rw [e] at q
      exact (seq_inj q).2.symm
  subst hu
  refine ⟨h2, ?_⟩
  cases hk : K.lookup a with
  | none => exact .inl (.inr ⟨_, by rw [argH_at ha hk e, hoOf_tup]⟩)
  | some o =>
    have e2 := KX a o hk
    rw [e] at e2
    obtain rfl := Option.some.inj e2
    exact .inr ⟨_, us.toArray, _, hk, rfl, rfl, by rw [List.size_toArray]; exact h1, by simpa using vals_toV h2⟩
mutual
theorem dw_one {Pm : Params} (KX : K.In h) (ar : ∀ a ∈ A, ArgOb h A a) : ∀ (d : WData) (v : Value), Well Pm h v d → plW d = true → OkU A v → Dw K (argH K h A) (toV v) d
  | .none, _, x, _, _ => by
    cases x
    exact .non
  | .bool b, _, x, _, _ => by
    cases x
    exact .bl b
  | .int i, _, x, _, _ => by
    cases x
    exact .int i
  | .str s, _, x, _, _ => by
    cases x
    exact .str s
  | .bytes b, _, x, _, _ => by
    cases x
    have z := Dw.byt (K := K) (H := argH K h A) b.toArray
    exact z
  | .list ds, _, x, p, hu => by
    obtain ⟨a, vs, rfl, ho, hall⟩ := well_list x
    obtain ⟨h2, hs⟩ := argL KX ar hu ho
    exact .lst hs (dw_all KX ar ds _ hall p h2)
  | .tuple ds, _, x, p, hu => by
    obtain ⟨a, vs, rfl, ho, hall⟩ := well_tuple x
    obtain ⟨h2, hs⟩ := argT KX ar hu ho
    exact .tup hs (dw_all KX ar ds _ hall p h2)
  | .float _, _, _, p, _ => Bool.noConfusion (show false = true from p)
  | .dict _, _, _, p, _ => Bool.noConfusion (show false = true from p)
  | .bytearray _, _, _, p, _ => Bool.noConfusion (show false = true from p)
  | .set _, _, _, p, _ => Bool.noConfusion (show false = true from p)
  | .frozenset _, _, _, p, _ => Bool.noConfusion (show false = true from p)
  | .obj _ _, _, _, p, _ => Bool.noConfusion (show false = true from p)
theorem dw_all {Pm : Params} (KX : K.In h) (ar : ∀ a ∈ A, ArgOb h A a) : ∀ (ds : List WData) (vs : List Value), WellAll Pm h vs ds → plWs ds = true → (∀ u ∈ vs, OkU A u) → DwAll K (argH K h A) (vs.map toV) ds
  | [], _, x, _, _ => by
    cases x
    exact .nil
  | d :: ds, _, x, p, hu => by
    obtain ⟨v, vs, rfl, x1, x2⟩ := well_cons x
    have q : plW d = true ∧ plWs ds = true := Bool.and_eq_true_iff.mp p
    exact .cons (dw_one KX ar d v x1 q.1 (hu _ (List.mem_cons_self ..))) (dw_all KX ar ds vs x2 q.2 fun u m => hu u (List.mem_cons_of_mem _ m))
end
end
theorem spec_call {P : Program} {w : World} {K : PySem.W.Frag} {mg mb : Str → Option Value} {CX : CXT} {k : Nat} {fa : Addr} {fd : FuncData} {ps : List Str} {sp : Sp} {s₁ : Shared} {vals : List Value} {ds : List WData} {R : PySem.W.WRecords} {cl : Str → Option Addr} {d0 : WData}
    (KX : K.In s₁.heap) (hns : s₁.heap.Ns mainGlobals mg) (hb : s₁.heap.Ns builtinsNs mb) (hbb : ∀ x : Str, x ≠ "__name__" → mb x = bootBuiltins x) (hlim : s₁.heap.NoLimit) (hg : s₁.gens = #[])
    (hwl : WellAll w.params s₁.heap vals ds) (hpl : plWs ds = true) (hwt : ∀ d ∈ ds, d.weight ≤ 1048576) (hr : Room k callerA)
    (F : ∀ base : Heap, K.In base → base.Ns mainGlobals mg → FnOk P w K mg base CX k fa fd ps sp) (hbind : ∀ (s : Shared) (us : List Value), us.length = ps.length → BindsTo s fd ⟨us, []⟩ (ps.zip us)) (hlen : ds.length = ps.length)
    (hsp : ∀ (H : Hp) (xs : List V), OnlyF H → DwAll K H xs ds → sp xs H (fun v H' => Dw K H' v d0) fun _ _ _ => False)
    (hCX : ∀ H e s', CX [] H s₁ (fun _ _ _ => False) e s' → False) :
    codeAny (model P w) callerA (.call (.ref fa) ⟨vals, []⟩) (fun r s' => ∃ u as, r = .ok (.ret u) ∧ ReadsW R cl s'.heap u d0 as ∧ OldK s₁.heap s'.heap ∧ s'.os = s₁.os ∧ AllBare s'.gens) s₁ := by
  obtain ⟨A, ho, ar⟩ := area_all ds vals hwl hpl hwt
  have hO : OnlyF (argH K s₁.heap A) := argH_only ar
  have hok : HOk P w (argH K s₁.heap A) s₁.heap := argH_ok ar
  have hS := dw_all KX ar ds vals hwl hpl ho
  have hV := vals_toV ho
  have hK : ∀ b u, argH K s₁.heap A b = some u → K.lookup b = none := fun b u q => (argH_is ar q).1
  have noA : ∀ {b : Addr} {o : Obj} {es : Array DictEntry} {ep : Nat}, s₁.heap.get? b = some o → o.data = .dict es ep → argH K s₁.heap A b = none := fun {b o es ep} e d => by
    cases q : argH K s₁.heap A b with
    | none => rfl
    | some u =>
      obtain ⟨_, vs, _, _, ⟨e2, _⟩ | ⟨e2, _⟩⟩ := argH_is ar q
      · rw [e2] at e
        cases e
        have d' : Data.seq vs.toArray _ = Data.dict es ep := d
        cases d'
      · rw [e2] at e
        cases e
        have d' : Data.seq vs.toArray _ = Data.dict es ep := d
        cases d'
  generalize argH K s₁.heap A = H at hO hok hS hK noA
  have base_of : ∀ {b : Addr} {o : Obj}, s₁.heap.get? b = some o → H b = none → (hidT s₁.heap H).get? b = some o := fun e n => hidT_get e n
  have nsK : ∀ {b : Addr} {m : Str → Option Value}, s₁.heap.Ns b m → (hidT s₁.heap H).Ns b m := fun {b m} ⟨o, es, ep, e, d, r⟩ => ⟨o, es, ep, base_of e (noA e d), d, r⟩
  have nK : ∀ b o, K.lookup b = some o → H b = none := fun b o e => by
    cases q : H b with
    | none => rfl
    | some u =>
      rw [hK b u q] at e
      cases e
  have hKb : K.In (hidT s₁.heap H) := fun b o e => base_of (KX b o e) (nK b o e)
  have hM : Mod K mg (hidT s₁.heap H) := ⟨hKb, nsK hns, ⟨mb, nsK hb, hbb⟩, let ⟨mc, h1, h2⟩ := hlim; ⟨mc, nsK h1, h2⟩⟩
  have e0 : Env0 P w K mg (hidT s₁.heap H) callerA [] s₁ H := ⟨rfl, hM, fun b o e => of_hidT e, Nat.le_of_eq (hidT_size _ _), trivial, fun b hb => absurd (show b ∈ ([] : List Addr) from hb) (by simp), hok, .of_eq hg⟩
  have hl : vals.length = ps.length := by rw [wellAll_len hwl]; exact hlen
  refine codeAny_mono ((F _ hKb (nsK hns)).run callerA [] s₁ H ⟨vals, []⟩ vals (vals.map toV) _ _ hr e0 (hbind s₁ vals hl) hV (hsp H _ hO hS)) fun r s' x => ?_
  cases r with
  | error e => exact (hCX H e s' x).elim
  | ok fl =>
    cases fl with
    | next => exact False.elim x
    | brk => exact False.elim x
    | cont => exact False.elim x
    | ret u =>
      obtain ⟨v, H', os, bare, un, hok', r', q⟩ := x
      have kept : ∀ b o, s₁.heap.get? b = some o → s'.heap.get? b = some o := fun b o e => by
        cases q2 : H b with
        | none => exact un.keep b o e q2 (by intro z; exact absurd (show b ∈ ([] : List Addr) from z) (by simp)) (by simp)
        | some u2 =>
          rcases hO b with z | ⟨ob, u3, z⟩
          · rw [q2] at z
            cases z
          · have z2 := un.frzs b ob _ z
            obtain ⟨e1, _⟩ := hok b _ z
            obtain ⟨e2, _⟩ := hok' b _ z2
            rw [e] at e1
            cases e1
            exact e2
      have KX' : K.In s'.heap := fun b o e => kept b o (KX b o e)
      obtain ⟨as, hrd⟩ := Dw.reads (R := R) (cl := cl) hok' KX' d0 v u q r'
      exact ⟨u, as, rfl, hrd, OldK.of_keep kept, os, bare⟩
theorem layable_weight {ds : List WData} (h : WData.layableAll ds = true) : ∀ d ∈ ds, d.weight ≤ 1048576 := fun d hd =>
  (PySem.W.layableW_iff.mp (List.all_eq_true.mp h d hd)).2.2
theorem encAll_len : ∀ (cs : List Codec) (a : Codec.denoteAll cs), (Codec.encAll cs a).length = cs.length
  | [], _ => rfl
  | c :: cs, a => by
    show (Codec.encAll cs a.2).length + 1 = cs.length + 1
    rw [encAll_len cs a.2]
theorem walk_spec {r : OpenSpec} {k : Nat} {q : Program} {loose : List Str} {XP : (Str → Option Value) → Heap → Prop} {YP : World → Heap → Prop} {d : DefRec} {K : Params → PySem.W.Frag} {CX : World → CXT} {ps : List Str} {sp : World → Sp}
    (hwell : r.wellSaid = true) (hdf : d.params.defaults = []) (hlen : r.args.length = ps.length) (hr : Room k callerA)
    (hY : ∀ (w : World) (h : Heap), YP w h → (K w.params).In h)
    (F : ∀ (w : World) (mg : Str → Option Value) (fa : Addr) (h : Heap), YP w h → (K w.params).In h → h.Ns mainGlobals mg → mg d.name = some (.ref fa) →
      ∃ fd : FuncData, (∀ (s : Shared) (us : List Value), us.length = ps.length → BindsTo s fd ⟨us, []⟩ (ps.zip us)) ∧
        ∀ base : Heap, (K w.params).In base → base.Ns mainGlobals mg → FnOk r.prog w (K w.params) mg base (CX w) k fa fd ps (sp w))
    (hsp : ∀ (w : World) (H : Hp) (xs : List V) (a : Codec.denoteAll r.args), OnlyF H → Codec.withinAll r.args a = true → Codec.app r.args r.asked a = true → DwAll (K w.params) H xs (Codec.encAll r.args a) →
      sp w xs H (fun v H' => Dw (K w.params) H' v (r.ret.enc (Codec.app r.args r.f a))) fun _ _ _ => False)
    (hCX : ∀ (w : World) (H : Hp) (s : Shared) (e : Value) (s' : Shared), CX w [] H s (fun _ _ _ => False) e s' → False) :
    PySem.W.WalkOS q loose XP YP r d [] (fun f vs => PySem.call f vs) := by
  intro w s_0 s₁ mg mb G Y fa o pm cd doc dV kV ho hd hcd hD hmg hg args vals as hpre hlay hrd hwl hlo
  obtain ⟨a, e1, e2⟩ := PySem.W.os_pre_some hpre
  obtain ⟨e3, hwi⟩ := Codec.encAll_of_decAll r.args args a e1
  subst e3
  have KX := hY w _ Y
  obtain ⟨fd, hb, hF⟩ := F w mg fa _ Y KX G.T.g hmg
  refine PySem.W.enter_call (codeAny_mono (spec_call (R := []) (cl := classAt s_0.heap) (d0 := r.ret.enc (Codec.app r.args r.f a)) KX G.T.g G.T.b G.T.builtins G.T.nolimit hg hwl (pl_encAll _ _) (layable_weight hlay) hr hF hb (by rw [encAll_len]; exact hlen)
    (fun H xs hO hS => hsp w H xs a hO hwi e2 hS) fun H e s' => hCX w H s₁ e s') fun r' s' hq => ?_)
  obtain ⟨u, as', rfl, h1, h2, h3, h4⟩ := hq
  exact ⟨.inl ⟨u, _, as', rfl, fun _ => rfl, h1, (OpenSpec.post_iff hwell hwi _ _).mpr rfl, fun z => Bool.noConfusion (show false = true from z)⟩, h2, h3, h4⟩
theorem walk_specK {r : OpenSpec} {k : Nat} {q : Program} {loose : List Str} {XP : (Str → Option Value) → Heap → Prop} {YP : World → Heap → Prop} {d : DefRec} {K : Params → PySem.W.Frag} {CX : CXT} {ps : List Str} {sp : PySem.W.Frag → Sp}
    (hwell : r.wellSaid = true) (hdf : d.params.defaults = []) (hlen : r.args.length = ps.length) (hr : Room k callerA)
    (hY : ∀ (w : World) (h : Heap), YP w h → (K w.params).In h)
    (F : ∀ (w : World) (mg : Str → Option Value) (fa : Addr) (h : Heap), YP w h → (K w.params).In h → h.Ns mainGlobals mg → mg d.name = some (.ref fa) →
      ∃ fd : FuncData, (∀ (s : Shared) (us : List Value), us.length = ps.length → BindsTo s fd ⟨us, []⟩ (ps.zip us)) ∧
        ∀ base : Heap, (K w.params).In base → base.Ns mainGlobals mg → FnOk r.prog w (K w.params) mg base CX k fa fd ps (sp (K w.params)))
    (hsp : ∀ (K : PySem.W.Frag) (H : Hp) (xs : List V) (a : Codec.denoteAll r.args), OnlyF H → Codec.withinAll r.args a = true → Codec.app r.args r.asked a = true → DwAll K H xs (Codec.encAll r.args a) →
      sp K xs H (fun v H' => Dw K H' v (r.ret.enc (Codec.app r.args r.f a))) fun _ _ _ => False)
    (hCX : ∀ (H : Hp) (s : Shared) (e : Value) (s' : Shared), CX [] H s (fun _ _ _ => False) e s' → False) :
    PySem.W.WalkOS q loose XP YP r d [] (fun f vs => PySem.call f vs) :=
  walk_spec (K := K) (CX := fun _ => CX) (sp := fun w => sp (K w.params)) hwell hdf hlen hr hY F (fun w H xs a h1 h2 h3 h4 => hsp (K w.params) H xs a h1 h2 h3 h4) fun _ H s e s' => hCX H s e s'
end L2
end

end
section
set_option Elab.async false
set_option linter.all false
set_option maxRecDepth 100000
set_option maxHeartbeats 4000000
namespace FL
open PySem PySem.Spec PyProof.Rows L2
def top (i : Nat) : Stmt := PySem.Challenge.pw_fairlines_s01_answers.main.body.getD i (.Pass ⟨0, 0, 0, 0⟩)
abbrev s_first_not_rising : Stmt := top 14
abbrev s_first_beyond : Stmt := top 15
abbrev s_fault_of_sizes : Stmt := top 16
abbrev s_verdict_on : Stmt := top 17
abbrev s_Table___init__ : Stmt := inClass (top 18) 0
abbrev s_Table_line_count : Stmt := inClass (top 18) 1
abbrev s_Table_spots : Stmt := inClass (top 18) 2
abbrev s_Table_nail_xs : Stmt := inClass (top 18) 3
abbrev s_Table_nail_ys : Stmt := inClass (top 18) 4
abbrev s_Table_put_ys : Stmt := inClass (top 18) 5
abbrev s_stands_of : Stmt := top 19
abbrev s_first_unfair : Stmt := top 25
abbrev s_choices_of : Stmt := top 26
abbrev s_Room___init__ : Stmt := inClass (top 27) 0
abbrev s_Room_moved_by : Stmt := inClass (top 27) 1
abbrev s_Counts___init__ : Stmt := inClass (top 28) 0
abbrev s_Counts_either : Stmt := inClass (top 28) 1
abbrev s_Counts_along : Stmt := inClass (top 28) 2
abbrev s_GreatestMoves___init__ : Stmt := inClass (top 29) 0
abbrev s_GreatestMoves_either : Stmt := inClass (top 29) 1
abbrev s_GreatestMoves_along : Stmt := inClass (top 29) 2
abbrev s_digit_weights : Stmt := top 30
abbrev s_rank_costs : Stmt := top 31
abbrev s_Ranks___init__ : Stmt := inClass (top 32) 0
abbrev s_Ranks_either : Stmt := inClass (top 32) 1
abbrev s_Ranks_along : Stmt := inClass (top 32) 2
abbrev s_choices_of_rank : Stmt := top 33
abbrev s_gathered : Stmt := top 34
abbrev s_total : Stmt := top 35
abbrev s_clamped : Stmt := top 36
abbrev s_straight_points : Stmt := top 37
abbrev s_hollow_or_straight : Stmt := top 38
abbrev s_full_or_straight : Stmt := top 39
abbrev s_straight_alone : Stmt := top 40
abbrev s_tallies_behind : Stmt := top 41
abbrev s_with_cost : Stmt := top 42
abbrev s_first_rows : Stmt := top 43
abbrev s_nth_of_each : Stmt := top 44
abbrev s_next_rows : Stmt := top 45
abbrev s_total_of_fair : Stmt := top 46
abbrev s_how_many_fair : Stmt := top 47
abbrev s_nails_showing_none : Stmt := top 48
abbrev s_nearest : Stmt := top 49
abbrev s_Reader___init__ : Stmt := inClass (top 65) 0
abbrev s_Reader_has_more : Stmt := inClass (top 65) 1
abbrev s_Reader_take_number : Stmt := inClass (top 65) 2
abbrev s_Reader_take_row : Stmt := inClass (top 65) 3
abbrev s_Loft___init__ : Stmt := inClass (top 66) 0
abbrev s_Loft_refusal : Stmt := inClass (top 66) 1
abbrev s_Loft_refusal_of_moving : Stmt := inClass (top 66) 2
abbrev s_Loft_room : Stmt := inClass (top 66) 3
abbrev s_Loft_make : Stmt := inClass (top 66) 4
abbrev s_Loft_line : Stmt := inClass (top 66) 5
abbrev s_Loft_put : Stmt := inClass (top 66) 6
abbrev s_Loft_stands : Stmt := inClass (top 66) 7
abbrev s_Loft_judge : Stmt := inClass (top 66) 8
abbrev s_Loft_least : Stmt := inClass (top 66) 9
abbrev s_Loft_many : Stmt := inClass (top 66) 10
abbrev s_Loft_none : Stmt := inClass (top 66) 11
abbrev s_answer_make : Stmt := top 67
abbrev s_answer_on_line : Stmt := top 68
abbrev s_answer_on_moved : Stmt := top 69
abbrev s_answer_next : Stmt := top 70
abbrev s_answers : Stmt := top 71
structure Adr where
  c_Table : Addr
  c_Room : Addr
  c_Counts : Addr
  c_GreatestMoves : Addr
  c_Ranks : Addr
  c_Reader : Addr
  c_Loft : Addr
  f_first_not_rising : Addr
  d_first_not_rising : FuncData
  f_first_beyond : Addr
  d_first_beyond : FuncData
  f_fault_of_sizes : Addr
  d_fault_of_sizes : FuncData
  f_verdict_on : Addr
  d_verdict_on : FuncData
  f_Table___init__ : Addr
  d_Table___init__ : FuncData
  f_Table_line_count : Addr
  d_Table_line_count : FuncData
  f_Table_spots : Addr
  d_Table_spots : FuncData
  f_Table_nail_xs : Addr
  d_Table_nail_xs : FuncData
  f_Table_nail_ys : Addr
  d_Table_nail_ys : FuncData
  f_Table_put_ys : Addr
  d_Table_put_ys : FuncData
  f_stands_of : Addr
  d_stands_of : FuncData
  f_first_unfair : Addr
  d_first_unfair : FuncData
  f_choices_of : Addr
  d_choices_of : FuncData
  f_Room___init__ : Addr
  d_Room___init__ : FuncData
  f_Room_moved_by : Addr
  d_Room_moved_by : FuncData
  f_Counts___init__ : Addr
  d_Counts___init__ : FuncData
  f_Counts_either : Addr
  d_Counts_either : FuncData
  f_Counts_along : Addr
  d_Counts_along : FuncData
  f_GreatestMoves___init__ : Addr
  d_GreatestMoves___init__ : FuncData
  f_GreatestMoves_either : Addr
  d_GreatestMoves_either : FuncData
  f_GreatestMoves_along : Addr
  d_GreatestMoves_along : FuncData
  f_digit_weights : Addr
  d_digit_weights : FuncData
  f_rank_costs : Addr
  d_rank_costs : FuncData
  f_Ranks___init__ : Addr
  d_Ranks___init__ : FuncData
  f_Ranks_either : Addr
  d_Ranks_either : FuncData
  f_Ranks_along : Addr
  d_Ranks_along : FuncData
  f_choices_of_rank : Addr
  d_choices_of_rank : FuncData
  f_gathered : Addr
  d_gathered : FuncData
  f_total : Addr
  d_total : FuncData
  f_clamped : Addr
  d_clamped : FuncData
  f_straight_points : Addr
  d_straight_points : FuncData
  f_hollow_or_straight : Addr
  d_hollow_or_straight : FuncData
  f_full_or_straight : Addr
  d_full_or_straight : FuncData
  f_straight_alone : Addr
  d_straight_alone : FuncData
  f_tallies_behind : Addr
  d_tallies_behind : FuncData
  f_with_cost : Addr
  d_with_cost : FuncData
  f_first_rows : Addr
  d_first_rows : FuncData
  f_nth_of_each : Addr
  d_nth_of_each : FuncData
  f_next_rows : Addr
  d_next_rows : FuncData
  f_total_of_fair : Addr
  d_total_of_fair : FuncData
  f_how_many_fair : Addr
  d_how_many_fair : FuncData
  f_nails_showing_none : Addr
  d_nails_showing_none : FuncData
  f_nearest : Addr
  d_nearest : FuncData
  f_Reader___init__ : Addr
  d_Reader___init__ : FuncData
  f_Reader_has_more : Addr
  d_Reader_has_more : FuncData
  f_Reader_take_number : Addr
  d_Reader_take_number : FuncData
  f_Reader_take_row : Addr
  d_Reader_take_row : FuncData
  f_Loft___init__ : Addr
  d_Loft___init__ : FuncData
  f_Loft_refusal : Addr
  d_Loft_refusal : FuncData
  f_Loft_refusal_of_moving : Addr
  d_Loft_refusal_of_moving : FuncData
  f_Loft_room : Addr
  d_Loft_room : FuncData
  f_Loft_make : Addr
  d_Loft_make : FuncData
  f_Loft_line : Addr
  d_Loft_line : FuncData
  f_Loft_put : Addr
  d_Loft_put : FuncData
  f_Loft_stands : Addr
  d_Loft_stands : FuncData
  f_Loft_judge : Addr
  d_Loft_judge : FuncData
  f_Loft_least : Addr
  d_Loft_least : FuncData
  f_Loft_many : Addr
  d_Loft_many : FuncData
  f_Loft_none : Addr
  d_Loft_none : FuncData
  f_answer_make : Addr
  d_answer_make : FuncData
  f_answer_on_line : Addr
  d_answer_on_line : FuncData
  f_answer_on_moved : Addr
  d_answer_on_moved : FuncData
  f_answer_next : Addr
  d_answer_next : FuncData
  f_answers : Addr
  d_answers : FuncData
  k_GREATEST : Tok
  k_FEWEST : Tok
  k_MOST_STATIONS : Tok
  k_MOST_LEVELS : Tok
  k_TAKEN : Tok
  k_WRONG_COUNT : Tok
  k_WRONG_SIZE : Tok
  k_WRONG_PLACE : Tok
  k_WRONG_HEIGHT : Tok
  k_WRONG_BREADTH : Tok
  k_HOLLOW : Tok
  k_FULL : Tok
  k_STRAIGHT : Tok
  k_ANY : Tok
  k_GREATEST_WISH : Tok
  k_FARTHEST : Tok
  k_MOST_CHOICES : Tok
  k_MAKE : Tok
  k_LINE : Tok
  k_PUT : Tok
  k_STANDS : Tok
  k_JUDGE : Tok
  k_LEAST : Tok
  k_MANY : Tok
  k_NONE : Tok
  k_NO_TABLE : Tok
  k_WRONG_NUMBER : Tok
  k_NO_LINE : Tok
  k_WRONG_LENGTH : Tok
  k_NONE_FAIR : Tok
structure Txt (K : PySem.W.Frag) (mg : Str → Option Value) (t : Adr) : Prop where
  cl_Table : Cls K t.c_Table
  mk_Table : Mk K t.c_Table t.f_Table___init__
  m_Table : mg "Table" = some (.ref t.c_Table)
  na_Table_places : NoAttr K t.c_Table "places"
  na_Table_heights : NoAttr K t.c_Table "heights"
  na_Table_half_breadths : NoAttr K t.c_Table "half_breadths"
  cl_Room : Cls K t.c_Room
  mk_Room : Mk K t.c_Room t.f_Room___init__
  m_Room : mg "Room" = some (.ref t.c_Room)
  na_Room_xs : NoAttr K t.c_Room "xs"
  na_Room_ys : NoAttr K t.c_Room "ys"
  na_Room_shape : NoAttr K t.c_Room "shape"
  na_Room_moves : NoAttr K t.c_Room "moves"
  na_Room_choices : NoAttr K t.c_Room "choices"
  cl_Counts : Cls K t.c_Counts
  mk_Counts : Mk K t.c_Counts t.f_Counts___init__
  m_Counts : mg "Counts" = some (.ref t.c_Counts)
  na_Counts_nothing : NoAttr K t.c_Counts "nothing"
  na_Counts_costs : NoAttr K t.c_Counts "costs"
  cl_GreatestMoves : Cls K t.c_GreatestMoves
  mk_GreatestMoves : Mk K t.c_GreatestMoves t.f_GreatestMoves___init__
  m_GreatestMoves : mg "GreatestMoves" = some (.ref t.c_GreatestMoves)
  na_GreatestMoves_nothing : NoAttr K t.c_GreatestMoves "nothing"
  na_GreatestMoves_costs : NoAttr K t.c_GreatestMoves "costs"
  cl_Ranks : Cls K t.c_Ranks
  mk_Ranks : Mk K t.c_Ranks t.f_Ranks___init__
  m_Ranks : mg "Ranks" = some (.ref t.c_Ranks)
  na_Ranks_nothing : NoAttr K t.c_Ranks "nothing"
  na_Ranks_costs : NoAttr K t.c_Ranks "costs"
  cl_Reader : Cls K t.c_Reader
  mk_Reader : Mk K t.c_Reader t.f_Reader___init__
  m_Reader : mg "Reader" = some (.ref t.c_Reader)
  na_Reader_numbers : NoAttr K t.c_Reader "numbers"
  na_Reader_at : NoAttr K t.c_Reader "at"
  cl_Loft : Cls K t.c_Loft
  mk_Loft : Mk K t.c_Loft t.f_Loft___init__
  m_Loft : mg "Loft" = some (.ref t.c_Loft)
  na_Loft_table : NoAttr K t.c_Loft "table"
  fn_first_not_rising : Fun K "first_not_rising" "first_not_rising" s_first_not_rising t.f_first_not_rising t.d_first_not_rising
  b_first_not_rising : Binds K t.d_first_not_rising ["numbers", "least"] []
  m_first_not_rising : mg "first_not_rising" = some (.ref t.f_first_not_rising)
  fn_first_beyond : Fun K "first_beyond" "first_beyond" s_first_beyond t.f_first_beyond t.d_first_beyond
  b_first_beyond : Binds K t.d_first_beyond ["numbers", "most"] []
  m_first_beyond : mg "first_beyond" = some (.ref t.f_first_beyond)
  fn_fault_of_sizes : Fun K "fault_of_sizes" "fault_of_sizes" s_fault_of_sizes t.f_fault_of_sizes t.d_fault_of_sizes
  b_fault_of_sizes : Binds K t.d_fault_of_sizes ["places", "heights", "half_breadths"] []
  m_fault_of_sizes : mg "fault_of_sizes" = some (.ref t.f_fault_of_sizes)
  fn_verdict_on : Fun K "verdict_on" "verdict_on" s_verdict_on t.f_verdict_on t.d_verdict_on
  b_verdict_on : Binds K t.d_verdict_on ["places", "heights", "half_breadths"] []
  m_verdict_on : mg "verdict_on" = some (.ref t.f_verdict_on)
  fn_Table___init__ : Fun K "__init__" "Table.__init__" s_Table___init__ t.f_Table___init__ t.d_Table___init__
  b_Table___init__ : Binds K t.d_Table___init__ ["self", "places", "heights", "half_breadths"] []
  fn_Table_line_count : Fun K "line_count" "Table.line_count" s_Table_line_count t.f_Table_line_count t.d_Table_line_count
  b_Table_line_count : Binds K t.d_Table_line_count ["self", "way"] []
  mt_Table_line_count : Meth K t.c_Table "line_count" t.f_Table_line_count
  fn_Table_spots : Fun K "spots" "Table.spots" s_Table_spots t.f_Table_spots t.d_Table_spots
  b_Table_spots : Binds K t.d_Table_spots ["self", "way", "k"] []
  mt_Table_spots : Meth K t.c_Table "spots" t.f_Table_spots
  fn_Table_nail_xs : Fun K "nail_xs" "Table.nail_xs" s_Table_nail_xs t.f_Table_nail_xs t.d_Table_nail_xs
  b_Table_nail_xs : Binds K t.d_Table_nail_xs ["self", "way"] []
  mt_Table_nail_xs : Meth K t.c_Table "nail_xs" t.f_Table_nail_xs
  fn_Table_nail_ys : Fun K "nail_ys" "Table.nail_ys" s_Table_nail_ys t.f_Table_nail_ys t.d_Table_nail_ys
  b_Table_nail_ys : Binds K t.d_Table_nail_ys ["self", "way", "k"] []
  mt_Table_nail_ys : Meth K t.c_Table "nail_ys" t.f_Table_nail_ys
  fn_Table_put_ys : Fun K "put_ys" "Table.put_ys" s_Table_put_ys t.f_Table_put_ys t.d_Table_put_ys
  b_Table_put_ys : Binds K t.d_Table_put_ys ["self", "way", "k", "ys"] []
  mt_Table_put_ys : Meth K t.c_Table "put_ys" t.f_Table_put_ys
  fn_stands_of : Fun K "stands_of" "stands_of" s_stands_of t.f_stands_of t.d_stands_of
  b_stands_of : Binds K t.d_stands_of ["xs", "ys"] []
  m_stands_of : mg "stands_of" = some (.ref t.f_stands_of)
  fn_first_unfair : Fun K "first_unfair" "first_unfair" s_first_unfair t.f_first_unfair t.d_first_unfair
  b_first_unfair : Binds K t.d_first_unfair ["xs", "ys", "shape"] []
  m_first_unfair : mg "first_unfair" = some (.ref t.f_first_unfair)
  fn_choices_of : Fun K "choices_of" "choices_of" s_choices_of t.f_choices_of t.d_choices_of
  b_choices_of : Binds K t.d_choices_of ["y", "move"] []
  m_choices_of : mg "choices_of" = some (.ref t.f_choices_of)
  fn_Room___init__ : Fun K "__init__" "Room.__init__" s_Room___init__ t.f_Room___init__ t.d_Room___init__
  b_Room___init__ : Binds K t.d_Room___init__ ["self", "xs", "ys", "shape", "moves"] []
  fn_Room_moved_by : Fun K "moved_by" "Room.moved_by" s_Room_moved_by t.f_Room_moved_by t.d_Room_moved_by
  b_Room_moved_by : Binds K t.d_Room_moved_by ["self", "nail"] []
  mt_Room_moved_by : Meth K t.c_Room "moved_by" t.f_Room_moved_by
  fn_Counts___init__ : Fun K "__init__" "Counts.__init__" s_Counts___init__ t.f_Counts___init__ t.d_Counts___init__
  b_Counts___init__ : Binds K t.d_Counts___init__ ["self", "room"] []
  fn_Counts_either : Fun K "either" "Counts.either" s_Counts_either t.f_Counts_either t.d_Counts_either
  b_Counts_either : Binds K t.d_Counts_either ["self", "one", "other"] []
  mt_Counts_either : Meth K t.c_Counts "either" t.f_Counts_either
  fn_Counts_along : Fun K "along" "Counts.along" s_Counts_along t.f_Counts_along t.d_Counts_along
  b_Counts_along : Binds K t.d_Counts_along ["self", "tally", "cost"] []
  mt_Counts_along : Meth K t.c_Counts "along" t.f_Counts_along
  fn_GreatestMoves___init__ : Fun K "__init__" "GreatestMoves.__init__" s_GreatestMoves___init__ t.f_GreatestMoves___init__ t.d_GreatestMoves___init__
  b_GreatestMoves___init__ : Binds K t.d_GreatestMoves___init__ ["self", "room"] []
  fn_GreatestMoves_either : Fun K "either" "GreatestMoves.either" s_GreatestMoves_either t.f_GreatestMoves_either t.d_GreatestMoves_either
  b_GreatestMoves_either : Binds K t.d_GreatestMoves_either ["self", "one", "other"] []
  mt_GreatestMoves_either : Meth K t.c_GreatestMoves "either" t.f_GreatestMoves_either
  fn_GreatestMoves_along : Fun K "along" "GreatestMoves.along" s_GreatestMoves_along t.f_GreatestMoves_along t.d_GreatestMoves_along
  b_GreatestMoves_along : Binds K t.d_GreatestMoves_along ["self", "tally", "cost"] []
  mt_GreatestMoves_along : Meth K t.c_GreatestMoves "along" t.f_GreatestMoves_along
  fn_digit_weights : Fun K "digit_weights" "digit_weights" s_digit_weights t.f_digit_weights t.d_digit_weights
  b_digit_weights : Binds K t.d_digit_weights ["count"] []
  m_digit_weights : mg "digit_weights" = some (.ref t.f_digit_weights)
  fn_rank_costs : Fun K "rank_costs" "rank_costs" s_rank_costs t.f_rank_costs t.d_rank_costs
  b_rank_costs : Binds K t.d_rank_costs ["moved", "sum_weight", "digit_weight"] []
  m_rank_costs : mg "rank_costs" = some (.ref t.f_rank_costs)
  fn_Ranks___init__ : Fun K "__init__" "Ranks.__init__" s_Ranks___init__ t.f_Ranks___init__ t.d_Ranks___init__
  b_Ranks___init__ : Binds K t.d_Ranks___init__ ["self", "room"] []
  fn_Ranks_either : Fun K "either" "Ranks.either" s_Ranks_either t.f_Ranks_either t.d_Ranks_either
  b_Ranks_either : Binds K t.d_Ranks_either ["self", "one", "other"] []
  mt_Ranks_either : Meth K t.c_Ranks "either" t.f_Ranks_either
  fn_Ranks_along : Fun K "along" "Ranks.along" s_Ranks_along t.f_Ranks_along t.d_Ranks_along
  b_Ranks_along : Binds K t.d_Ranks_along ["self", "tally", "cost"] []
  mt_Ranks_along : Meth K t.c_Ranks "along" t.f_Ranks_along
  fn_choices_of_rank : Fun K "choices_of_rank" "choices_of_rank" s_choices_of_rank t.f_choices_of_rank t.d_choices_of_rank
  b_choices_of_rank : Binds K t.d_choices_of_rank ["room", "rank"] []
  m_choices_of_rank : mg "choices_of_rank" = some (.ref t.f_choices_of_rank)
  fn_gathered : Fun K "gathered" "gathered" s_gathered t.f_gathered t.d_gathered
  b_gathered : Binds K t.d_gathered ["tallies", "row"] []
  m_gathered : mg "gathered" = some (.ref t.f_gathered)
  fn_total : Fun K "total" "total" s_total t.f_total t.d_total
  b_total : Binds K t.d_total ["tallies", "rows"] []
  m_total : mg "total" = some (.ref t.f_total)
  fn_clamped : Fun K "clamped" "clamped" s_clamped t.f_clamped t.d_clamped
  b_clamped : Binds K t.d_clamped ["number", "most"] []
  m_clamped : mg "clamped" = some (.ref t.f_clamped)
  fn_straight_points : Fun K "straight_points" "straight_points" s_straight_points t.f_straight_points t.d_straight_points
  b_straight_points : Binds K t.d_straight_points ["room", "nail", "here"] []
  m_straight_points : mg "straight_points" = some (.ref t.f_straight_points)
  fn_hollow_or_straight : Fun K "hollow_or_straight" "hollow_or_straight" s_hollow_or_straight t.f_hollow_or_straight t.d_hollow_or_straight
  b_hollow_or_straight : Binds K t.d_hollow_or_straight ["tallies", "row", "lowest", "points", "step"] []
  m_hollow_or_straight : mg "hollow_or_straight" = some (.ref t.f_hollow_or_straight)
  fn_full_or_straight : Fun K "full_or_straight" "full_or_straight" s_full_or_straight t.f_full_or_straight t.d_full_or_straight
  b_full_or_straight : Binds K t.d_full_or_straight ["tallies", "row", "lowest", "points", "step"] []
  m_full_or_straight : mg "full_or_straight" = some (.ref t.f_full_or_straight)
  fn_straight_alone : Fun K "straight_alone" "straight_alone" s_straight_alone t.f_straight_alone t.d_straight_alone
  b_straight_alone : Binds K t.d_straight_alone ["tallies", "row", "lowest", "points", "step"] []
  m_straight_alone : mg "straight_alone" = some (.ref t.f_straight_alone)
  fn_tallies_behind : Fun K "tallies_behind" "tallies_behind" s_tallies_behind t.f_tallies_behind t.d_tallies_behind
  b_tallies_behind : Binds K t.d_tallies_behind ["room", "tallies", "nail", "here", "row"] []
  m_tallies_behind : mg "tallies_behind" = some (.ref t.f_tallies_behind)
  fn_with_cost : Fun K "with_cost" "with_cost" s_with_cost t.f_with_cost t.d_with_cost
  b_with_cost : Binds K t.d_with_cost ["tallies", "row", "cost"] []
  m_with_cost : mg "with_cost" = some (.ref t.f_with_cost)
  fn_first_rows : Fun K "first_rows" "first_rows" s_first_rows t.f_first_rows t.d_first_rows
  b_first_rows : Binds K t.d_first_rows ["tallies"] []
  m_first_rows : mg "first_rows" = some (.ref t.f_first_rows)
  fn_nth_of_each : Fun K "nth_of_each" "nth_of_each" s_nth_of_each t.f_nth_of_each t.d_nth_of_each
  b_nth_of_each : Binds K t.d_nth_of_each ["columns", "index"] []
  m_nth_of_each : mg "nth_of_each" = some (.ref t.f_nth_of_each)
  fn_next_rows : Fun K "next_rows" "next_rows" s_next_rows t.f_next_rows t.d_next_rows
  b_next_rows : Binds K t.d_next_rows ["room", "tallies", "nail", "rows"] []
  m_next_rows : mg "next_rows" = some (.ref t.f_next_rows)
  fn_total_of_fair : Fun K "total_of_fair" "total_of_fair" s_total_of_fair t.f_total_of_fair t.d_total_of_fair
  b_total_of_fair : Binds K t.d_total_of_fair ["room", "tallies"] []
  m_total_of_fair : mg "total_of_fair" = some (.ref t.f_total_of_fair)
  fn_how_many_fair : Fun K "how_many_fair" "how_many_fair" s_how_many_fair t.f_how_many_fair t.d_how_many_fair
  b_how_many_fair : Binds K t.d_how_many_fair ["room"] []
  m_how_many_fair : mg "how_many_fair" = some (.ref t.f_how_many_fair)
  fn_nails_showing_none : Fun K "nails_showing_none" "nails_showing_none" s_nails_showing_none t.f_nails_showing_none t.d_nails_showing_none
  b_nails_showing_none : Binds K t.d_nails_showing_none ["room"] []
  m_nails_showing_none : mg "nails_showing_none" = some (.ref t.f_nails_showing_none)
  fn_nearest : Fun K "nearest" "nearest" s_nearest t.f_nearest t.d_nearest
  b_nearest : Binds K t.d_nearest ["room"] []
  m_nearest : mg "nearest" = some (.ref t.f_nearest)
  fn_Reader___init__ : Fun K "__init__" "Reader.__init__" s_Reader___init__ t.f_Reader___init__ t.d_Reader___init__
  b_Reader___init__ : Binds K t.d_Reader___init__ ["self", "numbers"] []
  fn_Reader_has_more : Fun K "has_more" "Reader.has_more" s_Reader_has_more t.f_Reader_has_more t.d_Reader_has_more
  b_Reader_has_more : Binds K t.d_Reader_has_more ["self"] []
  mt_Reader_has_more : Meth K t.c_Reader "has_more" t.f_Reader_has_more
  fn_Reader_take_number : Fun K "take_number" "Reader.take_number" s_Reader_take_number t.f_Reader_take_number t.d_Reader_take_number
  b_Reader_take_number : Binds K t.d_Reader_take_number ["self"] []
  mt_Reader_take_number : Meth K t.c_Reader "take_number" t.f_Reader_take_number
  fn_Reader_take_row : Fun K "take_row" "Reader.take_row" s_Reader_take_row t.f_Reader_take_row t.d_Reader_take_row
  b_Reader_take_row : Binds K t.d_Reader_take_row ["self"] []
  mt_Reader_take_row : Meth K t.c_Reader "take_row" t.f_Reader_take_row
  fn_Loft___init__ : Fun K "__init__" "Loft.__init__" s_Loft___init__ t.f_Loft___init__ t.d_Loft___init__
  b_Loft___init__ : Binds K t.d_Loft___init__ ["self"] []
  fn_Loft_refusal : Fun K "refusal" "Loft.refusal" s_Loft_refusal t.f_Loft_refusal t.d_Loft_refusal
  b_Loft_refusal : Binds K t.d_Loft_refusal ["self", "way", "k", "numbers_fit"] []
  mt_Loft_refusal : Meth K t.c_Loft "refusal" t.f_Loft_refusal
  fn_Loft_refusal_of_moving : Fun K "refusal_of_moving" "Loft.refusal_of_moving" s_Loft_refusal_of_moving t.f_Loft_refusal_of_moving t.d_Loft_refusal_of_moving
  b_Loft_refusal_of_moving : Binds K t.d_Loft_refusal_of_moving ["self", "way", "k", "shape", "moves"] []
  mt_Loft_refusal_of_moving : Meth K t.c_Loft "refusal_of_moving" t.f_Loft_refusal_of_moving
  fn_Loft_room : Fun K "room" "Loft.room" s_Loft_room t.f_Loft_room t.d_Loft_room
  b_Loft_room : Binds K t.d_Loft_room ["self", "way", "k", "shape", "moves"] []
  mt_Loft_room : Meth K t.c_Loft "room" t.f_Loft_room
  fn_Loft_make : Fun K "make" "Loft.make" s_Loft_make t.f_Loft_make t.d_Loft_make
  b_Loft_make : Binds K t.d_Loft_make ["self", "places", "heights", "half_breadths"] []
  mt_Loft_make : Meth K t.c_Loft "make" t.f_Loft_make
  fn_Loft_line : Fun K "line" "Loft.line" s_Loft_line t.f_Loft_line t.d_Loft_line
  b_Loft_line : Binds K t.d_Loft_line ["self", "way", "k"] []
  mt_Loft_line : Meth K t.c_Loft "line" t.f_Loft_line
  fn_Loft_put : Fun K "put" "Loft.put" s_Loft_put t.f_Loft_put t.d_Loft_put
  b_Loft_put : Binds K t.d_Loft_put ["self", "way", "k", "ys"] []
  mt_Loft_put : Meth K t.c_Loft "put" t.f_Loft_put
  fn_Loft_stands : Fun K "stands" "Loft.stands" s_Loft_stands t.f_Loft_stands t.d_Loft_stands
  b_Loft_stands : Binds K t.d_Loft_stands ["self", "way", "k"] []
  mt_Loft_stands : Meth K t.c_Loft "stands" t.f_Loft_stands
  fn_Loft_judge : Fun K "judge" "Loft.judge" s_Loft_judge t.f_Loft_judge t.d_Loft_judge
  b_Loft_judge : Binds K t.d_Loft_judge ["self", "way", "k", "shape"] []
  mt_Loft_judge : Meth K t.c_Loft "judge" t.f_Loft_judge
  fn_Loft_least : Fun K "least" "Loft.least" s_Loft_least t.f_Loft_least t.d_Loft_least
  b_Loft_least : Binds K t.d_Loft_least ["self", "way", "k", "shape", "moves"] []
  mt_Loft_least : Meth K t.c_Loft "least" t.f_Loft_least
  fn_Loft_many : Fun K "many" "Loft.many" s_Loft_many t.f_Loft_many t.d_Loft_many
  b_Loft_many : Binds K t.d_Loft_many ["self", "way", "k", "shape", "moves"] []
  mt_Loft_many : Meth K t.c_Loft "many" t.f_Loft_many
  fn_Loft_none : Fun K "none" "Loft.none" s_Loft_none t.f_Loft_none t.d_Loft_none
  b_Loft_none : Binds K t.d_Loft_none ["self", "way", "k", "shape", "moves"] []
  mt_Loft_none : Meth K t.c_Loft "none" t.f_Loft_none
  fn_answer_make : Fun K "answer_make" "answer_make" s_answer_make t.f_answer_make t.d_answer_make
  b_answer_make : Binds K t.d_answer_make ["loft", "reader"] []
  m_answer_make : mg "answer_make" = some (.ref t.f_answer_make)
  fn_answer_on_line : Fun K "answer_on_line" "answer_on_line" s_answer_on_line t.f_answer_on_line t.d_answer_on_line
  b_answer_on_line : Binds K t.d_answer_on_line ["loft", "reader", "call"] []
  m_answer_on_line : mg "answer_on_line" = some (.ref t.f_answer_on_line)
  fn_answer_on_moved : Fun K "answer_on_moved" "answer_on_moved" s_answer_on_moved t.f_answer_on_moved t.d_answer_on_moved
  b_answer_on_moved : Binds K t.d_answer_on_moved ["loft", "reader", "call", "way", "k"] []
  m_answer_on_moved : mg "answer_on_moved" = some (.ref t.f_answer_on_moved)
  fn_answer_next : Fun K "answer_next" "answer_next" s_answer_next t.f_answer_next t.d_answer_next
  b_answer_next : Binds K t.d_answer_next ["loft", "reader"] []
  m_answer_next : mg "answer_next" = some (.ref t.f_answer_next)
  fn_answers : Fun K "answers" "answers" s_answers t.f_answers t.d_answers
  b_answers : Binds K t.d_answers ["calls"] []
  m_answers : mg "answers" = some (.ref t.f_answers)
  g_GREATEST : mg "GREATEST" = some (.int (1048575) t.k_GREATEST)
  g_FEWEST : mg "FEWEST" = some (.int (2) t.k_FEWEST)
  g_MOST_STATIONS : mg "MOST_STATIONS" = some (.int (24) t.k_MOST_STATIONS)
  g_MOST_LEVELS : mg "MOST_LEVELS" = some (.int (16) t.k_MOST_LEVELS)
  g_TAKEN : mg "TAKEN" = some (.int (0) t.k_TAKEN)
  g_WRONG_COUNT : mg "WRONG_COUNT" = some (.int (1) t.k_WRONG_COUNT)
  g_WRONG_SIZE : mg "WRONG_SIZE" = some (.int (2) t.k_WRONG_SIZE)
  g_WRONG_PLACE : mg "WRONG_PLACE" = some (.int (3) t.k_WRONG_PLACE)
  g_WRONG_HEIGHT : mg "WRONG_HEIGHT" = some (.int (4) t.k_WRONG_HEIGHT)
  g_WRONG_BREADTH : mg "WRONG_BREADTH" = some (.int (5) t.k_WRONG_BREADTH)
  g_HOLLOW : mg "HOLLOW" = some (.int (1) t.k_HOLLOW)
  g_FULL : mg "FULL" = some (.int (2) t.k_FULL)
  g_STRAIGHT : mg "STRAIGHT" = some (.int (3) t.k_STRAIGHT)
  g_ANY : mg "ANY" = some (.int (0) t.k_ANY)
  g_GREATEST_WISH : mg "GREATEST_WISH" = some (.int (3) t.k_GREATEST_WISH)
  g_FARTHEST : mg "FARTHEST" = some (.int (16) t.k_FARTHEST)
  g_MOST_CHOICES : mg "MOST_CHOICES" = some (.int (33) t.k_MOST_CHOICES)
  g_MAKE : mg "MAKE" = some (.int (1) t.k_MAKE)
  g_LINE : mg "LINE" = some (.int (2) t.k_LINE)
  g_PUT : mg "PUT" = some (.int (3) t.k_PUT)
  g_STANDS : mg "STANDS" = some (.int (4) t.k_STANDS)
  g_JUDGE : mg "JUDGE" = some (.int (5) t.k_JUDGE)
  g_LEAST : mg "LEAST" = some (.int (6) t.k_LEAST)
  g_MANY : mg "MANY" = some (.int (7) t.k_MANY)
  g_NONE : mg "NONE" = some (.int (8) t.k_NONE)
  g_NO_TABLE : mg "NO_TABLE" = some (.int (-3) t.k_NO_TABLE)
  g_WRONG_NUMBER : mg "WRONG_NUMBER" = some (.int (-1) t.k_WRONG_NUMBER)
  g_NO_LINE : mg "NO_LINE" = some (.int (-4) t.k_NO_LINE)
  g_WRONG_LENGTH : mg "WRONG_LENGTH" = some (.int (-9) t.k_WRONG_LENGTH)
  g_NONE_FAIR : mg "NONE_FAIR" = some (.int (-5) t.k_NONE_FAIR)
  n_len : mg "len" = none
  n_abs : mg "abs" = none
  n_sum : mg "sum" = none
  n_min : mg "min" = none
  n_max : mg "max" = none
  n_list : mg "list" = none
  n_enumerate : mg "enumerate" = none
  n_range : mg "range" = none
  n_reversed : mg "reversed" = none
  n_zip : mg "zip" = none
theorem sc_first_not_rising : FnScope ["numbers", "least", "floor", "index", "number"] ["numbers", "least"] (defScope s_first_not_rising) := ⟨rfl, rfl, rfl, by decide +kernel, rfl, by decide +kernel, by decide +kernel⟩
theorem sc_first_beyond : FnScope ["numbers", "most", "index", "number"] ["numbers", "most"] (defScope s_first_beyond) := ⟨rfl, rfl, rfl, by decide +kernel, rfl, by decide +kernel, by decide +kernel⟩
theorem sc_fault_of_sizes : FnScope ["places", "heights", "half_breadths"] ["places", "heights", "half_breadths"] (defScope s_fault_of_sizes) := ⟨rfl, rfl, rfl, by decide +kernel, rfl, by decide +kernel, by decide +kernel⟩
theorem sc_verdict_on : FnScope ["places", "heights", "half_breadths", "fault", "place", "height", "breadth"] ["places", "heights", "half_breadths"] (defScope s_verdict_on) := ⟨rfl, rfl, rfl, by decide +kernel, rfl, by decide +kernel, by decide +kernel⟩
theorem sc_Table___init__ : FnScope ["self", "places", "heights", "half_breadths"] ["self", "places", "heights", "half_breadths"] (defScope s_Table___init__) := ⟨rfl, rfl, rfl, by decide +kernel, rfl, by decide +kernel, by decide +kernel⟩
theorem sc_Table_line_count : FnScope ["self", "way"] ["self", "way"] (defScope s_Table_line_count) := ⟨rfl, rfl, rfl, by decide +kernel, rfl, by decide +kernel, by decide +kernel⟩
theorem sc_Table_spots : FnScope ["self", "way", "k", "stations", "station", "level"] ["self", "way", "k"] (defScope s_Table_spots) := ⟨rfl, rfl, rfl, by decide +kernel, rfl, by decide +kernel, by decide +kernel⟩
theorem sc_Table_nail_xs : FnScope ["self", "way"] ["self", "way"] (defScope s_Table_nail_xs) := ⟨rfl, rfl, rfl, by decide +kernel, rfl, by decide +kernel, by decide +kernel⟩
theorem sc_Table_nail_ys : FnScope ["self", "way", "k", "spot"] ["self", "way", "k"] (defScope s_Table_nail_ys) := ⟨rfl, rfl, rfl, by decide +kernel, rfl, by decide +kernel, by decide +kernel⟩
theorem sc_Table_put_ys : FnScope ["self", "way", "k", "ys", "spot", "y"] ["self", "way", "k", "ys"] (defScope s_Table_put_ys) := ⟨rfl, rfl, rfl, by decide +kernel, rfl, by decide +kernel, by decide +kernel⟩
theorem sc_stands_of : FnScope ["xs", "ys", "found", "nail", "step_before", "step_behind", "bend"] ["xs", "ys"] (defScope s_stands_of) := ⟨rfl, rfl, rfl, by decide +kernel, rfl, by decide +kernel, by decide +kernel⟩
theorem sc_first_unfair : FnScope ["xs", "ys", "shape", "index", "stand"] ["xs", "ys", "shape"] (defScope s_first_unfair) := ⟨rfl, rfl, rfl, by decide +kernel, rfl, by decide +kernel, by decide +kernel⟩
theorem sc_choices_of : FnScope ["y", "move"] ["y", "move"] (defScope s_choices_of) := ⟨rfl, rfl, rfl, by decide +kernel, rfl, by decide +kernel, by decide +kernel⟩
theorem sc_Room___init__ : FnScope ["self", "xs", "ys", "shape", "moves", "y", "move"] ["self", "xs", "ys", "shape", "moves"] (defScope s_Room___init__) := ⟨rfl, rfl, rfl, by decide +kernel, rfl, by decide +kernel, by decide +kernel⟩
theorem sc_Room_moved_by : FnScope ["self", "nail", "choice"] ["self", "nail"] (defScope s_Room_moved_by) := ⟨rfl, rfl, rfl, by decide +kernel, rfl, by decide +kernel, by decide +kernel⟩
theorem sc_Counts___init__ : FnScope ["self", "room", "choices"] ["self", "room"] (defScope s_Counts___init__) := ⟨rfl, rfl, rfl, by decide +kernel, rfl, by decide +kernel, by decide +kernel⟩
theorem sc_Counts_either : FnScope ["self", "one", "other"] ["self", "one", "other"] (defScope s_Counts_either) := ⟨rfl, rfl, rfl, by decide +kernel, rfl, by decide +kernel, by decide +kernel⟩
theorem sc_Counts_along : FnScope ["self", "tally", "cost"] ["self", "tally", "cost"] (defScope s_Counts_along) := ⟨rfl, rfl, rfl, by decide +kernel, rfl, by decide +kernel, by decide +kernel⟩
theorem sc_GreatestMoves___init__ : FnScope ["self", "room", "nail"] ["self", "room"] (defScope s_GreatestMoves___init__) := ⟨rfl, rfl, rfl, by decide +kernel, rfl, by decide +kernel, by decide +kernel⟩
theorem sc_GreatestMoves_either : FnScope ["self", "one", "other"] ["self", "one", "other"] (defScope s_GreatestMoves_either) := ⟨rfl, rfl, rfl, by decide +kernel, rfl, by decide +kernel, by decide +kernel⟩
theorem sc_GreatestMoves_along : FnScope ["self", "tally", "cost"] ["self", "tally", "cost"] (defScope s_GreatestMoves_along) := ⟨rfl, rfl, rfl, by decide +kernel, rfl, by decide +kernel, by decide +kernel⟩
theorem sc_digit_weights : FnScope ["count", "weights"] ["count"] (defScope s_digit_weights) := ⟨rfl, rfl, rfl, by decide +kernel, rfl, by decide +kernel, by decide +kernel⟩
theorem sc_rank_costs : FnScope ["moved", "sum_weight", "digit_weight", "digit", "move"] ["moved", "sum_weight", "digit_weight"] (defScope s_rank_costs) := ⟨rfl, rfl, rfl, by decide +kernel, rfl, by decide +kernel, by decide +kernel⟩
theorem sc_Ranks___init__ : FnScope ["self", "room", "nails", "weights", "nail"] ["self", "room"] (defScope s_Ranks___init__) := ⟨rfl, rfl, rfl, by decide +kernel, rfl, by decide +kernel, by decide +kernel⟩
theorem sc_Ranks_either : FnScope ["self", "one", "other"] ["self", "one", "other"] (defScope s_Ranks_either) := ⟨rfl, rfl, rfl, by decide +kernel, rfl, by decide +kernel, by decide +kernel⟩
theorem sc_Ranks_along : FnScope ["self", "tally", "cost"] ["self", "tally", "cost"] (defScope s_Ranks_along) := ⟨rfl, rfl, rfl, by decide +kernel, rfl, by decide +kernel, by decide +kernel⟩
theorem sc_choices_of_rank : FnScope ["room", "rank", "weights", "ys", "nail", "choices"] ["room", "rank"] (defScope s_choices_of_rank) := ⟨rfl, rfl, rfl, by decide +kernel, rfl, by decide +kernel, by decide +kernel⟩
theorem sc_gathered : FnScope ["tallies", "row", "together", "found", "tally"] ["tallies", "row"] (defScope s_gathered) := ⟨rfl, rfl, rfl, by decide +kernel, rfl, by decide +kernel, by decide +kernel⟩
theorem sc_total : FnScope ["tallies", "rows", "row"] ["tallies", "rows"] (defScope s_total) := ⟨rfl, rfl, rfl, by decide +kernel, rfl, by decide +kernel, by decide +kernel⟩
theorem sc_clamped : FnScope ["number", "most"] ["number", "most"] (defScope s_clamped) := ⟨rfl, rfl, rfl, by decide +kernel, rfl, by decide +kernel, by decide +kernel⟩
theorem sc_straight_points : FnScope ["room", "nail", "here", "step_before", "step_behind", "behind"] ["room", "nail", "here"] (defScope s_straight_points) := ⟨rfl, rfl, rfl, by decide +kernel, rfl, by decide +kernel, by decide +kernel⟩
theorem sc_hollow_or_straight : FnScope ["tallies", "row", "lowest", "points", "step", "from_above", "end", "point"] ["tallies", "row", "lowest", "points", "step"] (defScope s_hollow_or_straight) := ⟨rfl, rfl, rfl, by decide +kernel, rfl, by decide +kernel, by decide +kernel⟩
theorem sc_full_or_straight : FnScope ["tallies", "row", "lowest", "points", "step", "from_below", "point"] ["tallies", "row", "lowest", "points", "step"] (defScope s_full_or_straight) := ⟨rfl, rfl, rfl, by decide +kernel, rfl, by decide +kernel, by decide +kernel⟩
theorem sc_straight_alone : FnScope ["tallies", "row", "lowest", "points", "step", "found", "point", "index", "hit"] ["tallies", "row", "lowest", "points", "step"] (defScope s_straight_alone) := ⟨rfl, rfl, rfl, by decide +kernel, rfl, by decide +kernel, by decide +kernel⟩
theorem sc_tallies_behind : FnScope ["room", "tallies", "nail", "here", "row", "wish", "lowest", "points", "step"] ["room", "tallies", "nail", "here", "row"] (defScope s_tallies_behind) := ⟨rfl, rfl, rfl, by decide +kernel, rfl, by decide +kernel, by decide +kernel⟩
theorem sc_with_cost : FnScope ["tallies", "row", "cost", "tally"] ["tallies", "row", "cost"] (defScope s_with_cost) := ⟨rfl, rfl, rfl, by decide +kernel, rfl, by decide +kernel, by decide +kernel⟩
theorem sc_first_rows : FnScope ["tallies", "cost"] ["tallies"] (defScope s_first_rows) := ⟨rfl, rfl, rfl, by decide +kernel, rfl, by decide +kernel, by decide +kernel⟩
theorem sc_nth_of_each : FnScope ["columns", "index", "column"] ["columns", "index"] (defScope s_nth_of_each) := ⟨rfl, rfl, rfl, by decide +kernel, rfl, by decide +kernel, by decide +kernel⟩
theorem sc_next_rows : FnScope ["room", "tallies", "nail", "rows", "columns", "costs", "here", "row", "index", "cost"] ["room", "tallies", "nail", "rows"] (defScope s_next_rows) := ⟨rfl, rfl, rfl, by decide +kernel, rfl, by decide +kernel, by decide +kernel⟩
theorem sc_total_of_fair : FnScope ["room", "tallies", "rows", "nail"] ["room", "tallies"] (defScope s_total_of_fair) := ⟨rfl, rfl, rfl, by decide +kernel, rfl, by decide +kernel, by decide +kernel⟩
theorem sc_how_many_fair : FnScope ["room"] ["room"] (defScope s_how_many_fair) := ⟨rfl, rfl, rfl, by decide +kernel, rfl, by decide +kernel, by decide +kernel⟩
theorem sc_nails_showing_none : FnScope ["room", "tallies", "rows", "nail"] ["room"] (defScope s_nails_showing_none) := ⟨rfl, rfl, rfl, by decide +kernel, rfl, by decide +kernel, by decide +kernel⟩
theorem sc_nearest : FnScope ["room", "greatest", "narrow", "ys", "moved", "move", "new", "old"] ["room"] (defScope s_nearest) := ⟨rfl, rfl, rfl, by decide +kernel, rfl, by decide +kernel, by decide +kernel⟩
theorem sc_Reader___init__ : FnScope ["self", "numbers"] ["self", "numbers"] (defScope s_Reader___init__) := ⟨rfl, rfl, rfl, by decide +kernel, rfl, by decide +kernel, by decide +kernel⟩
theorem sc_Reader_has_more : FnScope ["self"] ["self"] (defScope s_Reader_has_more) := ⟨rfl, rfl, rfl, by decide +kernel, rfl, by decide +kernel, by decide +kernel⟩
theorem sc_Reader_take_number : FnScope ["self", "number"] ["self"] (defScope s_Reader_take_number) := ⟨rfl, rfl, rfl, by decide +kernel, rfl, by decide +kernel, by decide +kernel⟩
theorem sc_Reader_take_row : FnScope ["self", "size", "start"] ["self"] (defScope s_Reader_take_row) := ⟨rfl, rfl, rfl, by decide +kernel, rfl, by decide +kernel, by decide +kernel⟩
theorem sc_Loft___init__ : FnScope ["self"] ["self"] (defScope s_Loft___init__) := ⟨rfl, rfl, rfl, by decide +kernel, rfl, by decide +kernel, by decide +kernel⟩
theorem sc_Loft_refusal : FnScope ["self", "way", "k", "numbers_fit"] ["self", "way", "k", "numbers_fit"] (defScope s_Loft_refusal) := ⟨rfl, rfl, rfl, by decide +kernel, rfl, by decide +kernel, by decide +kernel⟩
theorem sc_Loft_refusal_of_moving : FnScope ["self", "way", "k", "shape", "moves", "numbers_fit", "refused", "nails"] ["self", "way", "k", "shape", "moves"] (defScope s_Loft_refusal_of_moving) := ⟨rfl, rfl, rfl, by decide +kernel, rfl, by decide +kernel, by decide +kernel⟩
theorem sc_Loft_room : FnScope ["self", "way", "k", "shape", "moves"] ["self", "way", "k", "shape", "moves"] (defScope s_Loft_room) := ⟨rfl, rfl, rfl, by decide +kernel, rfl, by decide +kernel, by decide +kernel⟩
theorem sc_Loft_make : FnScope ["self", "places", "heights", "half_breadths", "verdict"] ["self", "places", "heights", "half_breadths"] (defScope s_Loft_make) := ⟨rfl, rfl, rfl, by decide +kernel, rfl, by decide +kernel, by decide +kernel⟩
theorem sc_Loft_line : FnScope ["self", "way", "k", "refused"] ["self", "way", "k"] (defScope s_Loft_line) := ⟨rfl, rfl, rfl, by decide +kernel, rfl, by decide +kernel, by decide +kernel⟩
theorem sc_Loft_put : FnScope ["self", "way", "k", "ys", "refused"] ["self", "way", "k", "ys"] (defScope s_Loft_put) := ⟨rfl, rfl, rfl, by decide +kernel, rfl, by decide +kernel, by decide +kernel⟩
theorem sc_Loft_stands : FnScope ["self", "way", "k", "refused"] ["self", "way", "k"] (defScope s_Loft_stands) := ⟨rfl, rfl, rfl, by decide +kernel, rfl, by decide +kernel, by decide +kernel⟩
theorem sc_Loft_judge : FnScope ["self", "way", "k", "shape", "refused", "xs"] ["self", "way", "k", "shape"] (defScope s_Loft_judge) := ⟨rfl, rfl, rfl, by decide +kernel, rfl, by decide +kernel, by decide +kernel⟩
theorem sc_Loft_least : FnScope ["self", "way", "k", "shape", "moves", "refused", "found"] ["self", "way", "k", "shape", "moves"] (defScope s_Loft_least) := ⟨rfl, rfl, rfl, by decide +kernel, rfl, by decide +kernel, by decide +kernel⟩
theorem sc_Loft_many : FnScope ["self", "way", "k", "shape", "moves", "refused"] ["self", "way", "k", "shape", "moves"] (defScope s_Loft_many) := ⟨rfl, rfl, rfl, by decide +kernel, rfl, by decide +kernel, by decide +kernel⟩
theorem sc_Loft_none : FnScope ["self", "way", "k", "shape", "moves", "refused"] ["self", "way", "k", "shape", "moves"] (defScope s_Loft_none) := ⟨rfl, rfl, rfl, by decide +kernel, rfl, by decide +kernel, by decide +kernel⟩
theorem sc_answer_make : FnScope ["loft", "reader", "places", "heights", "half_breadths"] ["loft", "reader"] (defScope s_answer_make) := ⟨rfl, rfl, rfl, by decide +kernel, rfl, by decide +kernel, by decide +kernel⟩
theorem sc_answer_on_line : FnScope ["loft", "reader", "call", "way", "k"] ["loft", "reader", "call"] (defScope s_answer_on_line) := ⟨rfl, rfl, rfl, by decide +kernel, rfl, by decide +kernel, by decide +kernel⟩
theorem sc_answer_on_moved : FnScope ["loft", "reader", "call", "way", "k", "shape", "moves"] ["loft", "reader", "call", "way", "k"] (defScope s_answer_on_moved) := ⟨rfl, rfl, rfl, by decide +kernel, rfl, by decide +kernel, by decide +kernel⟩
theorem sc_answer_next : FnScope ["loft", "reader", "call"] ["loft", "reader"] (defScope s_answer_next) := ⟨rfl, rfl, rfl, by decide +kernel, rfl, by decide +kernel, by decide +kernel⟩
theorem sc_answers : FnScope ["calls", "loft", "reader", "given", "answer"] ["calls"] (defScope s_answers) := ⟨rfl, rfl, rfl, by decide +kernel, rfl, by decide +kernel, by decide +kernel⟩
theorem b_list : bootBuiltins "list" = some (.type "list") := by decide +kernel
theorem hu64_of {A : Around} {k : Nat} (hr : Room k A) : A.units + 64 < cLine := hr.units
end FL

end
section
set_option Elab.async false
set_option linter.all false
set_option maxRecDepth 100000
set_option maxHeartbeats 4000000
namespace FL
open PySem PySem.Spec PyProof.Rows L2
theorem for_enum {K : PySem.W.Frag} {a : Addr} {xs : List V} {g : TG} {tb : TS} {D : Ends} {σ : L2.St} {H : Hp} (Pv : Nat → L2.St → Hp → Prop) (h0 : Pv 0 σ H) (hl : ∀ i σ H, i ≤ xs.length → Pv i σ H → SqL K H a xs)
    (hs : ∀ i x σ H T, xs[i]? = some x → Pv i σ H → H T = none → g (.ref T) σ (upd H T (.tup [.int (i : Nat), x])) fun σ2 H2 => tb { D with nx := Pv (i + 1), ct := Pv (i + 1), bk := D.nx } σ2 H2) (hd : ∀ σ H, Pv xs.length σ H → D.nx σ H) :
    ∃ W : Nat → Nat → L2.St → Hp → Prop, (∃ m, W 0 m σ H) ∧ ∀ i m σ H, W i m σ H →
      ((Ite K a).stop i H ∧ D.nx σ H) ∨ ((Ite K a).go i H ∧ ∃ N : L2.St → Hp → Prop, (∀ σ' H', N σ' H' → ∃ m', m' < m ∧ W (i + 1) m' σ' H') ∧ ∀ x H', (Ite K a).yld i H x H' → g x σ H' fun σ2 H2 => tb { D with nx := N, ct := N, bk := D.nx } σ2 H2) := by
  refine ⟨fun i m σ H => m = xs.length - i ∧ i ≤ xs.length ∧ Pv i σ H, ⟨xs.length, by simp, Nat.zero_le _, h0⟩, ?_⟩
  rintro i m σ H ⟨rfl, hi, p⟩
  have q := hl i σ H hi p
  by_cases hlt : i < xs.length
  · refine .inr ⟨⟨xs, xs[i], q, by simp [hlt]⟩, Pv (i + 1), fun σ' H' p' => ⟨xs.length - (i + 1), by omega, rfl, hlt, p'⟩, fun v H' y => ?_⟩
    obtain ⟨T, x, e1, hT, e2, y⟩ := y
    subst e1 e2
    exact hs i x σ _ T (y xs q) p hT
  · have e : i = xs.length := by omega
    subst e
    exact .inl ⟨⟨xs, q, Nat.le_refl _⟩, hd σ H p⟩
theorem for_zip {K : PySem.W.Frag} {a b : Addr} {xs ys : List V} {g : TG} {tb : TS} {D : Ends} {σ : L2.St} {H : Hp} (hlen : xs.length = ys.length) (Pv : Nat → L2.St → Hp → Prop) (h0 : Pv 0 σ H)
    (hl : ∀ i σ H, i ≤ xs.length → Pv i σ H → SqL K H a xs ∧ SqL K H b ys)
    (hs : ∀ i x y σ H T, xs[i]? = some x → ys[i]? = some y → Pv i σ H → H T = none → g (.ref T) σ (upd H T (.tup [x, y])) fun σ2 H2 => tb { D with nx := Pv (i + 1), ct := Pv (i + 1), bk := D.nx } σ2 H2) (hd : ∀ σ H, Pv xs.length σ H → D.nx σ H) :
    ∃ W : Nat → Nat → L2.St → Hp → Prop, (∃ m, W 0 m σ H) ∧ ∀ i m σ H, W i m σ H →
      ((Itz K a b).stop i H ∧ D.nx σ H) ∨ ((Itz K a b).go i H ∧ ∃ N : L2.St → Hp → Prop, (∀ σ' H', N σ' H' → ∃ m', m' < m ∧ W (i + 1) m' σ' H') ∧ ∀ x H', (Itz K a b).yld i H x H' → g x σ H' fun σ2 H2 => tb { D with nx := N, ct := N, bk := D.nx } σ2 H2) := by
  refine ⟨fun i m σ H => m = xs.length - i ∧ i ≤ xs.length ∧ Pv i σ H, ⟨xs.length, by simp, Nat.zero_le _, h0⟩, ?_⟩
  rintro i m σ H ⟨rfl, hi, p⟩
  obtain ⟨q, q'⟩ := hl i σ H hi p
  by_cases hlt : i < xs.length
  · have hlt' : i < ys.length := by omega
    refine .inr ⟨⟨xs, ys, xs[i], ys[i], q, q', by simp [hlt], by simp [hlt']⟩, Pv (i + 1), fun σ' H' p' => ⟨xs.length - (i + 1), by omega, rfl, hlt, p'⟩, fun v H' y => ?_⟩
    obtain ⟨T, x, y', e1, hT, e2, y1, y2⟩ := y
    subst e1 e2
    exact hs i x y' σ _ T (y1 xs q) (y2 ys q') p hT
  · have e : i = xs.length := by omega
    subst e
    exact .inl ⟨⟨xs, ys, q, q', .inl (Nat.le_refl _)⟩, hd σ H p⟩
theorem get_int {ns : List Int} {i : Nat} {y : V} (h : (ns.map V.int)[i]? = some y) : ∃ z, ns[i]? = some z ∧ y = .int z := by
  rw [List.getElem?_map] at h
  cases e : ns[i]? with
  | none => rw [e] at h; cases h
  | some z => rw [e] at h; exact ⟨z, rfl, (Option.some.inj h).symm⟩
theorem get_map {ns : List Int} {i : Nat} {z : Int} (h : ns[i]? = some z) : (ns.map V.int)[i]? = some (.int z) := by
  rw [List.getElem?_map, h]; rfl
theorem _root_.L2.Same.upd {H H' : Hp} {p : Addr} {o : HO} (s : Same H H') (h : H p = none) : Same H (L2.upd H' p o) := fun b u e => by
  rw [upd_ne (ne_of_none e h)]
  exact s b u e
theorem _root_.L2.Same.new {H H' : Hp} {p : Addr} {o : HO} (s : Same H H') (h : H' p = none) : Same H (L2.upd H' p o) := s.upd (s.free h)
theorem pe_gint {X : Cx} {x : Str} {i : Int} {tok : Tok} {pos : Pos} (hg : Gl X x) (hm : X.mg x = some (.int i tok)) (hd : (x == ("__debug__" : Str)) = false := by decide) : PE X (.Name x pos) (tC (.int i)) := pe_glob hg hm ⟨_, rfl⟩ hd
def optV : Option Nat → V
  | none => .non
  | some i => .int (i : Int)
end FL

end
section
set_option Elab.async false
set_option linter.all false
set_option maxRecDepth 100000
set_option maxHeartbeats 4000000
namespace FL
open Loft (Spot as_ standing moveOf lesser)
def ok3 (c : Nat) (u v w : Spot) (a b d : Int) : Bool := as_ c (standing u.x v.x w.x a b d)
def FairRow : List Spot → List Nat → List Int → Prop
  | u :: v :: w :: r, c :: s, a :: b :: d :: q => a ∈ u.ys ∧ ok3 c u v w a b d = true ∧ FairRow (v :: w :: r) s (b :: d :: q)
  | [u, v], _, [a, b] => a ∈ u.ys ∧ b ∈ v.ys
  | _, _, _ => False
def mv : List Spot → List Int → Nat
  | u :: r, a :: q => moveOf u a + mv r q
  | _, _ => 0
theorem fair_in : ∀ (l : List Spot) (s : List Nat) (q : List Int), FairRow l s q → ∃ u v r a b p, l = u :: v :: r ∧ q = a :: b :: p ∧ a ∈ u.ys ∧ b ∈ v.ys
  | u :: v :: w :: r, c :: s, a :: b :: d :: q, h => by
    obtain ⟨u', v', r', a', b', p', e1, e2, m1, m2⟩ := fair_in _ _ _ h.2.2
    injection e1 with e1 _
    injection e2 with e2 _
    subst e1 e2
    exact ⟨u, v, w :: r, a, b, d :: q, rfl, rfl, h.1, m1⟩
  | [u, v], _, [a, b], h => ⟨u, v, [], a, b, [], rfl, rfl, h.1, h.2⟩
  | [], _, _, h => by simp [FairRow] at h
  | [_], _, _, h => by simp [FairRow] at h
  | [_, _], _, [], h => by simp [FairRow] at h
  | [_, _], _, [_], h => by simp [FairRow] at h
  | [_, _], _, _ :: _ :: _ :: _, h => by simp [FairRow] at h
  | _ :: _ :: _ :: _, [], _, h => by simp [FairRow] at h
  | _ :: _ :: _ :: _, _ :: _, [], h => by simp [FairRow] at h
  | _ :: _ :: _ :: _, _ :: _, [_], h => by simp [FairRow] at h
  | _ :: _ :: _ :: _, _ :: _, [_, _], h => by simp [FairRow] at h
theorem fair_cons {u v w : Spot} {r : List Spot} {c : Nat} {s : List Nat} {a b : Int} {p : List Int} : FairRow (u :: v :: w :: r) (c :: s) (a :: b :: p) ↔ ∃ d q, p = d :: q ∧ a ∈ u.ys ∧ ok3 c u v w a b d = true ∧ FairRow (v :: w :: r) s (b :: d :: q) := by
  constructor
  · intro h
    match p, h with
    | d :: q, h => exact ⟨d, q, rfl, h⟩
  · rintro ⟨d, q, rfl, h⟩
    exact h
def cnt : List Spot → List Nat → Int → Int → Nat
  | u :: v :: w :: r, c :: s, a, b => Loft.sum (w.ys.map fun (d : Int) => if ok3 c u v w a b d = true then cnt (v :: w :: r) s b d else 0)
  | [_, _], _, _, _ => 1
  | _, _, _, _ => 0
theorem zip_map_self {α β : Type} (f : α → β) : ∀ l : List α, l.zip (l.map f) = l.map fun a => (a, f a)
  | [] => rfl
  | a :: r => by
    show (a, f a) :: r.zip (r.map f) = (a, f a) :: _
    rw [zip_map_self f r]
theorem rows_eq : ∀ (u v : Spot) (r : List Spot) (s : List Nat), r.length ≤ s.length → Loft.rows (u :: v :: r) s = u.ys.map fun (a : Int) => v.ys.map fun (b : Int) => cnt (u :: v :: r) s a b
  | u, v, [], s, _ => by
    unfold Loft.rows
    rfl
  | u, v, w :: r, [], h => by simp at h
  | u, v, w :: r, c :: s, h => by
    unfold Loft.rows
    simp only
    rw [rows_eq v w r s (by simpa using h)]
    apply List.map_congr_left
    intro a _
    rw [zip_map_self, List.map_map]
    apply List.map_congr_left
    intro b _
    show Loft.sum ((w.ys.zip (w.ys.map fun (d : Int) => cnt (v :: w :: r) s b d)).map _) = _
    rw [zip_map_self, List.map_map]
    conv => rhs; unfold cnt
    rfl
theorem many_eq (u v : Spot) (r : List Spot) (s : List Nat) (h : r.length ≤ s.length) : Loft.many (u :: v :: r) s = Loft.sum (u.ys.map fun (a : Int) => Loft.sum (v.ys.map fun (b : Int) => cnt (u :: v :: r) s a b)) := by
  show Loft.sum ((Loft.rows (u :: v :: r) s).map Loft.sum) = _
  rw [rows_eq u v r s h, List.map_map]
  rfl
theorem sum_zero : ∀ {l : List Nat}, Loft.sum l = 0 ↔ ∀ x ∈ l, x = 0
  | [] => by simp [Loft.sum]
  | a :: r => by
    have ih := sum_zero (l := r)
    show a + Loft.sum r = 0 ↔ _
    constructor
    · intro h x hx
      rcases List.mem_cons.mp hx with rfl | hx
      · omega
      · exact ih.mp (by omega) x hx
    · intro h
      have h1 := h a (List.mem_cons_self ..)
      have h2 := ih.mpr fun x hx => h x (List.mem_cons_of_mem _ hx)
      omega
theorem cnt_zero : ∀ (l : List Spot) (s : List Nat) (a b : Int), (∀ u v r, l = u :: v :: r → a ∈ u.ys ∧ b ∈ v.ys ∧ r.length ≤ s.length) → 2 ≤ l.length → (cnt l s a b = 0 ↔ ∀ q, ¬ FairRow l s (a :: b :: q))
  | [], _, _, _, _, h => by simp at h
  | [_], _, _, _, _, h => by simp at h
  | [u, v], s, a, b, h, _ => by
    obtain ⟨h1, h2, _⟩ := h u v [] rfl
    constructor
    · intro z
      simp [cnt] at z
    · intro z
      exact absurd (show FairRow [u, v] s [a, b] from by unfold FairRow; exact ⟨h1, h2⟩) (z [])
  | u :: v :: w :: r, [], a, b, h, _ => by
    have := (h u v (w :: r) rfl).2.2
    simp at this
  | u :: v :: w :: r, c :: s, a, b, h, _ => by
    obtain ⟨h1, h2, h3⟩ := h u v (w :: r) rfl
    have h3 : r.length ≤ s.length := by simpa using h3
    show Loft.sum (w.ys.map fun (d : Int) => if ok3 c u v w a b d = true then cnt (v :: w :: r) s b d else 0) = 0 ↔ _
    rw [sum_zero]
    constructor
    · intro z q hq
      obtain ⟨d, q', rfl, _, k1, k2⟩ := fair_cons.mp hq
      obtain ⟨u', v', r', a', b', p', e1, e2, m1, m2⟩ := fair_in _ _ _ k2
      injection e1 with e0 e1
      injection e1 with e1 _
      injection e2 with e3 e2
      injection e2 with e2 _
      subst e1 e2 e0 e3
      have z' := z _ (List.mem_map.mpr ⟨d, m2, rfl⟩)
      rw [if_pos k1] at z'
      refine (cnt_zero (v :: w :: r) s b d (fun u' v' r' e => ?_) (by simp)).mp z' q' k2
      injection e with e1 e
      injection e with e2 e
      subst e1 e2 e
      exact ⟨h2, m2, h3⟩
    · intro z x hx
      obtain ⟨d, hd, rfl⟩ := List.mem_map.mp hx
      by_cases k1 : ok3 c u v w a b d = true
      · rw [if_pos k1]
        refine (cnt_zero (v :: w :: r) s b d (fun u' v' r' e => ?_) (by simp)).mpr fun q hq => z (d :: q) (fair_cons.mpr ⟨d, q, rfl, h1, k1, hq⟩)
        injection e with e1 e
        injection e with e2 e
        subst e1 e2 e
        exact ⟨h2, hd, h3⟩
      · rw [if_neg k1]
theorem many_zero (u v : Spot) (r : List Spot) (s : List Nat) (h : r.length ≤ s.length) : Loft.many (u :: v :: r) s = 0 ↔ ∀ q, ¬ FairRow (u :: v :: r) s q := by
  rw [many_eq u v r s h, sum_zero]
  constructor
  · intro z q hq
    obtain ⟨u', v', r', a, b, p, e1, rfl, m1, m2⟩ := fair_in _ _ _ hq
    injection e1 with e1 e2
    injection e2 with e2 e3
    subst e1 e2 e3
    have z1 := sum_zero.mp (z _ (List.mem_map.mpr ⟨a, m1, rfl⟩)) _ (List.mem_map.mpr ⟨b, m2, rfl⟩)
    refine (cnt_zero (u :: v :: r) s a b (fun u' v' r' e => ?_) (by simp)).mp z1 p hq
    injection e with e1 e
    injection e with e2 e
    subst e1 e2 e
    exact ⟨m1, m2, h⟩
  · intro z x hx
    obtain ⟨a, ha, rfl⟩ := List.mem_map.mp hx
    refine sum_zero.mpr fun y hy => ?_
    obtain ⟨b, hb, rfl⟩ := List.mem_map.mp hy
    refine (cnt_zero (u :: v :: r) s a b (fun u' v' r' e => ?_) (by simp)).mpr fun q => z _
    injection e with e1 e
    injection e with e2 e
    subst e1 e2 e
    exact ⟨ha, hb, h⟩
theorem fold_none : ∀ {l : List (Option Nat)}, l.foldr lesser none = none ↔ ∀ x ∈ l, x = none
  | [] => by simp
  | a :: r => by
    have ih := fold_none (l := r)
    show lesser a (r.foldr lesser none) = none ↔ _
    cases a with
    | none =>
      have e : ∀ y, lesser none y = y := fun y => by cases y <;> rfl
      rw [e, ih]
      constructor
      · intro h x hx
        rcases List.mem_cons.mp hx with rfl | hx
        · rfl
        · exact h x hx
      · intro h x hx
        exact h x (List.mem_cons_of_mem _ hx)
    | some n =>
      constructor
      · intro h
        cases e : r.foldr lesser none with
        | none => rw [e] at h; cases h
        | some k => rw [e] at h; cases h
      · intro h
        have := h (some n) (List.mem_cons_self ..)
        cases this
theorem fold_some : ∀ {l : List (Option Nat)} {n : Nat}, l.foldr lesser none = some n → some n ∈ l ∧ ∀ k, some k ∈ l → n ≤ k
  | [], n, h => by simp at h
  | a :: r, n, h => by
    have h : lesser a (r.foldr lesser none) = some n := h
    cases e : r.foldr lesser none with
    | none =>
      rw [e] at h
      have hn := fold_none.mp e
      cases a with
      | none => cases h
      | some x =>
        have hx : x = n := Option.some.inj h
        subst hx
        refine ⟨List.mem_cons_self .., fun k hk => ?_⟩
        rcases List.mem_cons.mp hk with q | q
        · cases q
          exact Nat.le_refl _
        · have := hn _ q
          cases this
    | some y =>
      rw [e] at h
      obtain ⟨i1, i2⟩ := fold_some (l := r) e
      cases a with
      | none =>
        have hx : y = n := Option.some.inj h
        subst hx
        refine ⟨List.mem_cons_of_mem _ i1, fun k hk => ?_⟩
        rcases List.mem_cons.mp hk with q | q
        · cases q
        · exact i2 k q
      | some x =>
        have hx : min x y = n := Option.some.inj h
        refine ⟨?_, fun k hk => ?_⟩
        · rcases Nat.le_total x y with l | l
          · rw [Nat.min_eq_left l] at hx
            subst hx
            exact List.mem_cons_self ..
          · rw [Nat.min_eq_right l] at hx
            subst hx
            exact List.mem_cons_of_mem _ i1
        · rcases List.mem_cons.mp hk with q | q
          · cases q
            omega
          · have := i2 k q
            omega
def lst : List Spot → List Nat → Int → Int → Option Nat
  | u :: v :: w :: r, c :: s, a, b => ((w.ys.map fun (d : Int) => if ok3 c u v w a b d = true then lst (v :: w :: r) s b d else none).foldr lesser none).map fun (n : Nat) => n + moveOf u a
  | [u, v], _, a, b => some (moveOf u a + moveOf v b)
  | _, _, _, _ => none
theorem leasts_eq : ∀ (u v : Spot) (r : List Spot) (s : List Nat), r.length ≤ s.length → Loft.leasts (u :: v :: r) s = u.ys.map fun (a : Int) => v.ys.map fun (b : Int) => lst (u :: v :: r) s a b
  | u, v, [], s, _ => by
    unfold Loft.leasts
    rfl
  | u, v, w :: r, [], h => by simp at h
  | u, v, w :: r, c :: s, h => by
    unfold Loft.leasts
    simp only
    rw [leasts_eq v w r s (by simpa using h)]
    apply List.map_congr_left
    intro a _
    rw [zip_map_self, List.map_map]
    apply List.map_congr_left
    intro b _
    show Option.map _ (((w.ys.zip (w.ys.map fun (d : Int) => lst (v :: w :: r) s b d)).map _).foldr lesser none) = _
    rw [zip_map_self, List.map_map]
    conv => rhs; unfold lst
    rfl
theorem lst_spec : ∀ (l : List Spot) (s : List Nat) (a b : Int), (∀ u v r, l = u :: v :: r → a ∈ u.ys ∧ b ∈ v.ys ∧ r.length ≤ s.length) → 2 ≤ l.length →
    (∀ n, lst l s a b = some n → (∃ q, FairRow l s (a :: b :: q) ∧ mv l (a :: b :: q) = n)) ∧ (∀ q, FairRow l s (a :: b :: q) → ∃ n, lst l s a b = some n ∧ n ≤ mv l (a :: b :: q))
  | [], _, _, _, _, h => by simp at h
  | [_], _, _, _, _, h => by simp at h
  | [u, v], s, a, b, h, _ => by
    obtain ⟨h1, h2, _⟩ := h u v [] rfl
    constructor
    · intro n hn
      have hn : moveOf u a + moveOf v b = n := Option.some.inj hn
      exact ⟨[], by unfold FairRow; exact ⟨h1, h2⟩, hn⟩
    · intro q hq
      match q, hq with
      | [], _ => exact ⟨_, rfl, Nat.le_refl _⟩
      | _ :: _, hq => simp [FairRow] at hq
  | u :: v :: w :: r, [], a, b, h, _ => by
    have := (h u v (w :: r) rfl).2.2
    simp at this
  | u :: v :: w :: r, c :: s, a, b, h, _ => by
    obtain ⟨h1, h2, h3⟩ := h u v (w :: r) rfl
    have h3 : r.length ≤ s.length := by simpa using h3
    have hyp : ∀ d, d ∈ w.ys → ∀ u' v' r', v :: w :: r = u' :: v' :: r' → b ∈ u'.ys ∧ d ∈ v'.ys ∧ r'.length ≤ s.length := fun d hd u' v' r' e => by
      injection e with e1 e
      injection e with e2 e
      subst e1 e2 e
      exact ⟨h2, hd, h3⟩
    have el : lst (u :: v :: w :: r) (c :: s) a b = ((w.ys.map fun (d : Int) => if ok3 c u v w a b d = true then lst (v :: w :: r) s b d else none).foldr lesser none).map fun (n : Nat) => n + moveOf u a := by
      conv => lhs; unfold lst
    constructor
    · intro n hn
      rw [el] at hn
      obtain ⟨m, e1, rfl⟩ := Option.map_eq_some_iff.mp hn
      obtain ⟨i1, _⟩ := fold_some e1
      obtain ⟨d, hd, e2⟩ := List.mem_map.mp i1
      by_cases k1 : ok3 c u v w a b d = true
      · rw [if_pos k1] at e2
        obtain ⟨q, f1, f2⟩ := (lst_spec (v :: w :: r) s b d (hyp d hd) (by simp)).1 m e2
        refine ⟨d :: q, fair_cons.mpr ⟨d, q, rfl, h1, k1, f1⟩, ?_⟩
        show moveOf u a + mv (v :: w :: r) (b :: d :: q) = _
        rw [f2]
        omega
      · rw [if_neg k1] at e2
        cases e2
    · intro p hp
      obtain ⟨d, q, rfl, _, k1, k2⟩ := fair_cons.mp hp
      obtain ⟨u', v', r', a', b', p', e1, e2, m1, m2⟩ := fair_in _ _ _ k2
      injection e1 with e0 e1
      injection e1 with e1 _
      injection e2 with e3 e2
      injection e2 with e2 _
      subst e1 e2 e0 e3
      obtain ⟨k, e3, e4⟩ := (lst_spec (v :: w :: r) s b d (hyp d m2) (by simp)).2 q k2
      have hm : some k ∈ w.ys.map fun (d : Int) => if ok3 c u v w a b d = true then lst (v :: w :: r) s b d else none := List.mem_map.mpr ⟨d, m2, by rw [if_pos k1]; exact e3⟩
      cases e5 : (w.ys.map fun (d : Int) => if ok3 c u v w a b d = true then lst (v :: w :: r) s b d else none).foldr lesser none with
      | none =>
        have := fold_none.mp e5 _ hm
        cases this
      | some m =>
        obtain ⟨_, i2⟩ := fold_some e5
        refine ⟨m + moveOf u a, by rw [el, e5]; rfl, ?_⟩
        have := i2 k hm
        show m + moveOf u a ≤ moveOf u a + mv (v :: w :: r) (b :: d :: q)
        omega
def lexLe : List Int → List Int → Prop
  | [], _ => True
  | a :: p, b :: q => a < b ∨ (a = b ∧ lexLe p q)
  | _ :: _, [] => False
theorem lexLe_refl : ∀ l : List Int, lexLe l l
  | [] => trivial
  | a :: r => .inr ⟨rfl, lexLe_refl r⟩
theorem find_first {p : Int → Bool} : ∀ {l : List Int} {x : Int}, l.Pairwise (· < ·) → l.find? p = some x → x ∈ l ∧ p x = true ∧ ∀ y ∈ l, p y = true → x ≤ y
  | [], x, _, h => by cases h
  | a :: r, x, hs, h => by
    obtain ⟨h1, h2⟩ := List.pairwise_cons.mp hs
    unfold List.find? at h
    cases e : p a with
    | true =>
      rw [e] at h
      have hx : a = x := Option.some.inj h
      subst hx
      refine ⟨List.mem_cons_self .., e, fun y hy _ => ?_⟩
      rcases List.mem_cons.mp hy with rfl | hy
      · exact Int.le_refl _
      · exact Int.le_of_lt (h1 y hy)
    | false =>
      rw [e] at h
      obtain ⟨i1, i2, i3⟩ := find_first h2 h
      refine ⟨List.mem_cons_of_mem _ i1, i2, fun y hy hp => ?_⟩
      rcases List.mem_cons.mp hy with rfl | hy
      · rw [e] at hp; cases hp
      · exact i3 y hy hp
theorem find_map {α β : Type} {f : α → β} {p : β → Bool} : ∀ l : List α, (l.map f).find? p = (l.find? fun a => p (f a)).map f
  | [] => rfl
  | a :: r => by
    show (f a :: r.map f).find? p = _
    unfold List.find?
    cases p (f a) with
    | true => rfl
    | false => exact find_map r
theorem find_some_of {α : Type} {p : α → Bool} : ∀ {l : List α} {x : α}, x ∈ l → p x = true → ∃ y, l.find? p = some y
  | [], _, h, _ => by cases h
  | a :: r, x, h, hp => by
    unfold List.find?
    cases e : p a with
    | true => exact ⟨a, rfl⟩
    | false =>
      rcases List.mem_cons.mp h with rfl | h
      · rw [hp] at e; cases e
      · exact find_some_of h hp
theorem find_eq_self : ∀ {l : List Int} {b : Int}, b ∈ l → (l.find? fun x => x == b) = some b
  | [], _, h => by cases h
  | a :: r, b, h => by
    unfold List.find?
    cases e : (a == b) with
    | true =>
      have : a = b := eq_of_beq e
      rw [this]
    | false =>
      rcases List.mem_cons.mp h with rfl | h
      · simp at e
      · exact find_eq_self h
def Rising (l : List Spot) : Prop := ∀ u ∈ l, u.ys.Pairwise (· < ·)
theorem walk_step {u v w : Spot} {r : List Spot} {c : Nat} {s : List Nat} {a b : Int} {n : Nat} (hr : r.length ≤ s.length) (hb : b ∈ v.ys) :
    Loft.walk (u :: v :: w :: r) (c :: s) a b n = match (w.ys.find? fun (d : Int) => ok3 c u v w a b d && lst (v :: w :: r) s b d == some (n - moveOf u a)) with
      | none => []
      | some d => d :: Loft.walk (v :: w :: r) s b d (n - moveOf u a) := by
  conv => lhs; unfold Loft.walk
  simp only
  rw [leasts_eq v w r s hr, zip_map_self, find_map]
  have e1 : (v.ys.find? fun a_1 => ((a_1, w.ys.map fun (d : Int) => lst (v :: w :: r) s a_1 d) : Int × List (Option Nat)).fst == b) = some b := find_eq_self hb
  rw [e1]
  simp only [Option.map_some]
  rw [zip_map_self, find_map]
  have e2 : (w.ys.find? fun (d : Int) => ok3 c u v w a b d && lst (v :: w :: r) s b d == some (n - moveOf u a)) = (w.ys.find? fun a_1 => as_ c (standing u.x v.x w.x a b ((a_1, lst (v :: w :: r) s b a_1) : Int × Option Nat).fst) && ((a_1, lst (v :: w :: r) s b a_1) : Int × Option Nat).snd == some (n - moveOf u a)) := rfl
  rw [e2]
  cases (w.ys.find? fun a_1 => as_ c (standing u.x v.x w.x a b ((a_1, lst (v :: w :: r) s b a_1) : Int × Option Nat).fst) && ((a_1, lst (v :: w :: r) s b a_1) : Int × Option Nat).snd == some (n - moveOf u a)) with
  | none => rfl
  | some d => rfl
theorem walk_spec : ∀ (l : List Spot) (s : List Nat) (a b : Int) (n : Nat), (∀ u v r, l = u :: v :: r → a ∈ u.ys ∧ b ∈ v.ys ∧ r.length ≤ s.length) → 2 ≤ l.length → Rising l → lst l s a b = some n →
    FairRow l s (a :: b :: Loft.walk l s a b n) ∧ mv l (a :: b :: Loft.walk l s a b n) = n ∧ ∀ q, FairRow l s (a :: b :: q) → mv l (a :: b :: q) = n → lexLe (Loft.walk l s a b n) q
  | [], _, _, _, _, _, h, _, _ => by simp at h
  | [_], _, _, _, _, _, h, _, _ => by simp at h
  | [u, v], s, a, b, n, h, _, _, hn => by
    obtain ⟨h1, h2, _⟩ := h u v [] rfl
    have hn : moveOf u a + moveOf v b = n := Option.some.inj hn
    have ew : Loft.walk [u, v] s a b n = [] := by cases s <;> rfl
    rw [ew]
    exact ⟨by unfold FairRow; exact ⟨h1, h2⟩, hn, fun _ _ _ => trivial⟩
  | u :: v :: w :: r, [], a, b, n, h, _, _, _ => by
    have := (h u v (w :: r) rfl).2.2
    simp at this
  | u :: v :: w :: r, c :: s, a, b, n, h, _, hs, hn => by
    obtain ⟨h1, h2, h3⟩ := h u v (w :: r) rfl
    have h3 : r.length ≤ s.length := by simpa using h3
    have hyp : ∀ d, d ∈ w.ys → ∀ u' v' r', v :: w :: r = u' :: v' :: r' → b ∈ u'.ys ∧ d ∈ v'.ys ∧ r'.length ≤ s.length := fun d hd u' v' r' e => by
      injection e with e1 e
      injection e with e2 e
      subst e1 e2 e
      exact ⟨h2, hd, h3⟩
    have hs' : Rising (v :: w :: r) := fun x hx => hs x (List.mem_cons_of_mem _ hx)
    have el : lst (u :: v :: w :: r) (c :: s) a b = ((w.ys.map fun (d : Int) => if ok3 c u v w a b d = true then lst (v :: w :: r) s b d else none).foldr lesser none).map fun (n : Nat) => n + moveOf u a := by
      conv => lhs; unfold lst
    rw [el] at hn
    obtain ⟨m, e1, rfl⟩ := Option.map_eq_some_iff.mp hn
    obtain ⟨i1, i2⟩ := fold_some e1
    have em : m + moveOf u a - moveOf u a = m := by omega
    rw [walk_step h3 h2, em]
    obtain ⟨d0, hd0, e2⟩ := List.mem_map.mp i1
    have k0 : ok3 c u v w a b d0 = true := by
      by_cases k1 : ok3 c u v w a b d0 = true
      · exact k1
      · rw [if_neg k1] at e2; cases e2
    rw [if_pos k0] at e2
    obtain ⟨d, hd⟩ := find_some_of (p := fun (d : Int) => ok3 c u v w a b d && lst (v :: w :: r) s b d == some m) hd0 (by simp [k0, e2])
    obtain ⟨j1, j2, j3⟩ := find_first (hs w (by simp)) hd
    rw [hd]
    simp only
    have j2 := Bool.and_eq_true_iff.mp j2
    have jl : lst (v :: w :: r) s b d = some m := eq_of_beq j2.2
    obtain ⟨w1, w2, w3⟩ := walk_spec (v :: w :: r) s b d m (hyp d j1) (by simp) hs' jl
    refine ⟨fair_cons.mpr ⟨d, _, rfl, h1, j2.1, w1⟩, ?_, fun p hp hm => ?_⟩
    · show moveOf u a + mv (v :: w :: r) (b :: d :: _) = _
      rw [w2]
      omega
    · obtain ⟨d', q, rfl, _, k1, k2⟩ := fair_cons.mp hp
      obtain ⟨u', v', r', a', b', p', e1', e2', m1, m2⟩ := fair_in _ _ _ k2
      injection e1' with e0 e1'
      injection e1' with e1' _
      injection e2' with e3 e2'
      injection e2' with e2' _
      subst e1' e2' e0 e3
      have hm : moveOf u a + mv (v :: w :: r) (b :: d' :: q) = m + moveOf u a := hm
      obtain ⟨k, e3, e4⟩ := (lst_spec (v :: w :: r) s b d' (hyp d' m2) (by simp)).2 q k2
      have hk := i2 k (List.mem_map.mpr ⟨d', m2, by rw [if_pos k1]; exact e3⟩)
      have ekm : k = m := by omega
      subst ekm
      have le := j3 d' m2 (by simp [k1, e3])
      rcases Int.lt_or_eq_of_le le with lt | eq
      · exact .inl lt
      · subst eq
        exact .inr ⟨rfl, w3 q k2 (by omega)⟩
theorem leastLine_some {u v : Spot} {r : List Spot} {s : List Nat} {m : List Int} (hr : r.length ≤ s.length) (hs : Rising (u :: v :: r)) (h : Loft.leastLine (u :: v :: r) s = some m) :
    FairRow (u :: v :: r) s m ∧ ∀ q, FairRow (u :: v :: r) s q → mv (u :: v :: r) m < mv (u :: v :: r) q ∨ (mv (u :: v :: r) m = mv (u :: v :: r) q ∧ lexLe m q) := by
  have hyp : ∀ a b, a ∈ u.ys → b ∈ v.ys → ∀ u' v' r', u :: v :: r = u' :: v' :: r' → a ∈ u'.ys ∧ b ∈ v'.ys ∧ r'.length ≤ s.length := fun a b ha hb u' v' r' e => by
    injection e with e1 e
    injection e with e2 e
    subst e1 e2 e
    exact ⟨ha, hb, hr⟩
  unfold Loft.leastLine at h
  simp only at h
  rw [leasts_eq u v r s hr] at h
  generalize ef : ((u.ys.map fun (a : Int) => v.ys.map fun (b : Int) => lst (u :: v :: r) s a b).flatten).foldr lesser none = o at h
  cases o with
  | none => cases h
  | some n =>
    obtain ⟨f1, f2⟩ := fold_some ef
    have hmem : ∀ k, some k ∈ ((u.ys.map fun (a : Int) => v.ys.map fun (b : Int) => lst (u :: v :: r) s a b).flatten) ↔ ∃ a ∈ u.ys, ∃ b ∈ v.ys, lst (u :: v :: r) s a b = some k := fun k => by
      rw [List.mem_flatten]
      constructor
      · rintro ⟨x, hx, hk⟩
        obtain ⟨a, ha, rfl⟩ := List.mem_map.mp hx
        obtain ⟨b, hb, e⟩ := List.mem_map.mp hk
        exact ⟨a, ha, b, hb, e⟩
      · rintro ⟨a, ha, b, hb, e⟩
        exact ⟨_, List.mem_map.mpr ⟨a, ha, rfl⟩, List.mem_map.mpr ⟨b, hb, e⟩⟩
    simp only at h
    rw [zip_map_self, find_map] at h
    cases e1 : (u.ys.find? fun a => ((a, v.ys.map fun (b : Int) => lst (u :: v :: r) s a b) : Int × List (Option Nat)).snd.contains (some n)) with
    | none => rw [e1] at h; cases h
    | some a =>
      rw [e1] at h
      simp only [Option.map_some] at h
      obtain ⟨a1, a2, a3⟩ := find_first (hs u (by simp)) e1
      rw [zip_map_self, find_map] at h
      cases e2 : (v.ys.find? fun b => ((b, lst (u :: v :: r) s a b) : Int × Option Nat).snd == some n) with
      | none => rw [e2] at h; cases h
      | some b =>
        rw [e2] at h
        simp only [Option.map_some] at h
        obtain ⟨b1, b2, b3⟩ := find_first (hs v (by simp)) e2
        have bl : lst (u :: v :: r) s a b = some n := eq_of_beq b2
        obtain ⟨w1, w2, w3⟩ := walk_spec (u :: v :: r) s a b n (hyp a b a1 b1) (by simp) hs bl
        have hm : a :: b :: Loft.walk (u :: v :: r) s a b n = m := Option.some.inj h
        subst hm
        refine ⟨w1, fun q hq => ?_⟩
        obtain ⟨u', v', r', a', b', p, e3, rfl, m1, m2⟩ := fair_in _ _ _ hq
        injection e3 with e3 e4
        injection e4 with e4 e5
        subst e3 e4 e5
        obtain ⟨k, k1, k2⟩ := (lst_spec (u :: v :: r) s a' b' (hyp a' b' m1 m2) (by simp)).2 p hq
        have hk := f2 k ((hmem k).mpr ⟨a', m1, b', m2, k1⟩)
        rw [w2]
        by_cases lt : n < mv (u :: v :: r) (a' :: b' :: p)
        · exact .inl lt
        · have e6 : mv (u :: v :: r) (a' :: b' :: p) = n := by omega
          have e7 : k = n := by omega
          subst e7
          refine .inr ⟨e6.symm, ?_⟩
          have la := a3 a' m1 (by
            show (v.ys.map fun (b : Int) => lst (u :: v :: r) s a' b).contains (some k) = true
            rw [List.contains_iff_mem]
            exact List.mem_map.mpr ⟨b', m2, k1⟩)
          rcases Int.lt_or_eq_of_le la with lt | eq
          · exact .inl lt
          · subst eq
            refine .inr ⟨rfl, ?_⟩
            have lb := b3 b' m2 (by simp [k1])
            rcases Int.lt_or_eq_of_le lb with lt | eq
            · exact .inl lt
            · subst eq
              exact .inr ⟨rfl, w3 p hq e6⟩
theorem leastLine_none {u v : Spot} {r : List Spot} {s : List Nat} (hr : r.length ≤ s.length) (hs : Rising (u :: v :: r)) {q : List Int} (hq : FairRow (u :: v :: r) s q) : ∃ m, Loft.leastLine (u :: v :: r) s = some m := by
  have hyp : ∀ a b, a ∈ u.ys → b ∈ v.ys → ∀ u' v' r', u :: v :: r = u' :: v' :: r' → a ∈ u'.ys ∧ b ∈ v'.ys ∧ r'.length ≤ s.length := fun a b ha hb u' v' r' e => by
    injection e with e1 e
    injection e with e2 e
    subst e1 e2 e
    exact ⟨ha, hb, hr⟩
  obtain ⟨u', v', r', a', b', p, e3, rfl, m1, m2⟩ := fair_in _ _ _ hq
  injection e3 with e3 e4
  injection e4 with e4 e5
  subst e3 e4 e5
  obtain ⟨k, k1, k2⟩ := (lst_spec (u :: v :: r) s a' b' (hyp a' b' m1 m2) (by simp)).2 p hq
  unfold Loft.leastLine
  simp only
  rw [leasts_eq u v r s hr]
  have hk : some k ∈ ((u.ys.map fun (a : Int) => v.ys.map fun (b : Int) => lst (u :: v :: r) s a b).flatten) := List.mem_flatten.mpr ⟨_, List.mem_map.mpr ⟨a', m1, rfl⟩, List.mem_map.mpr ⟨b', m2, k1⟩⟩
  cases ef : ((u.ys.map fun (a : Int) => v.ys.map fun (b : Int) => lst (u :: v :: r) s a b).flatten).foldr lesser none with
  | none =>
    have := fold_none.mp ef _ hk
    cases this
  | some n =>
    obtain ⟨f1, _⟩ := fold_some ef
    obtain ⟨x, hx, hn⟩ := List.mem_flatten.mp f1
    obtain ⟨a, ha, rfl⟩ := List.mem_map.mp hx
    simp only
    rw [zip_map_self, find_map]
    obtain ⟨a0, ea⟩ := find_some_of (p := fun a => ((a, v.ys.map fun (b : Int) => lst (u :: v :: r) s a b) : Int × List (Option Nat)).snd.contains (some n)) ha (by
      show (v.ys.map fun (b : Int) => lst (u :: v :: r) s a b).contains (some n) = true
      rw [List.contains_iff_mem]
      exact hn)
    rw [ea]
    simp only [Option.map_some]
    obtain ⟨_, a2, _⟩ := find_first (hs u (by simp)) ea
    have a2 : (v.ys.map fun (b : Int) => lst (u :: v :: r) s a0 b).contains (some n) = true := a2
    rw [List.contains_iff_mem] at a2
    obtain ⟨b, hb, eb⟩ := List.mem_map.mp a2
    rw [zip_map_self, find_map]
    obtain ⟨b0, eb0⟩ := find_some_of (p := fun b => ((b, lst (u :: v :: r) s a0 b) : Int × Option Nat).snd == some n) hb (by simp [eb])
    rw [eb0]
    exact ⟨_, rfl⟩
end FL

end
section
set_option Elab.async false
set_option linter.all false
set_option maxRecDepth 100000
set_option maxHeartbeats 4000000
namespace FL
open Loft (Spot as_ standing moveOf lesser)
theorem range_rising (n : Nat) : (List.range n).Pairwise (· < ·) := List.pairwise_lt_range
theorem near_rising (t : Nat) (y : Int) : (Loft.near t y).Pairwise (· < ·) := by
  unfold Loft.near
  refine List.Pairwise.filter _ ?_
  refine List.Pairwise.map _ (fun a b h => ?_) (range_rising _)
  omega
theorem near_mem {t : Nat} {y z : Int} : z ∈ Loft.near t y ↔ (y - (t : Int) ≤ z ∧ z ≤ y + (t : Int)) ∧ 0 ≤ z ∧ z ≤ 1048575 := by
  unfold Loft.near
  rw [List.mem_filter, List.mem_map]
  have hm : ∀ z : Int, ((decide (0 ≤ z) && Loft.isMeasure z) = true) ↔ (0 ≤ z ∧ z ≤ 1048575) := fun z => by
    rw [Bool.and_eq_true, decide_eq_true_iff]
    have e : Loft.isMeasure z = true ↔ z.natAbs ≤ 1048575 := by
      unfold Loft.isMeasure
      rw [decide_eq_true_iff]
      rfl
    rw [e]
    omega
  constructor
  · rintro ⟨⟨i, hi, rfl⟩, h⟩
    have hi := List.mem_range.mp hi
    have h := (hm _).mp h
    omega
  · rintro ⟨⟨h1, h2⟩, h3⟩
    refine ⟨⟨(z - y + (t : Int)).toNat, List.mem_range.mpr (by omega), by omega⟩, (hm z).mpr h3⟩
theorem spots_rising (l : Loft.Line) (t : List Nat) (g : Nat) : Rising (l.spots t g) := by
  intro u hu
  unfold Loft.Line.spots at hu
  obtain ⟨x, _, rfl⟩ := List.mem_map.mp hu
  exact near_rising _ _
theorem lspots_len (l : Loft.Line) (t : List Nat) (g : Nat) (h1 : l.ys.length = l.xs.length) (h2 : t.length = l.xs.length) : (l.spots t g).length = l.xs.length := by
  unfold Loft.Line.spots
  rw [List.length_map, List.length_zip, List.length_zip, h1, h2]
  omega
theorem fair_mono : ∀ (l l' : List Spot) (s : List Nat) (q : List Int), l.length = l'.length → (∀ (i : Nat) (u u' : Spot), l[i]? = some u → l'[i]? = some u' → u.x = u'.x ∧ ∀ z ∈ u.ys, z ∈ u'.ys) → FairRow l s q → FairRow l' s q
  | u :: v :: w :: r, u' :: v' :: w' :: r', c :: s, a :: b :: d :: q, hl, h, f => by
    have h0 := h 0 u u' rfl rfl
    have h1 := h 1 v v' rfl rfl
    have h2 := h 2 w w' rfl rfl
    obtain ⟨f1, f2, f3⟩ := f
    refine ⟨h0.2 a f1, ?_, fair_mono (v :: w :: r) (v' :: w' :: r') s (b :: d :: q) (by simpa using hl) (fun i x x' e e' => h (i + 1) x x' e e') f3⟩
    unfold ok3 at f2 ⊢
    rw [← h0.1, ← h1.1, ← h2.1]
    exact f2
  | [u, v], [u', v'], s, [a, b], hl, h, f => ⟨(h 0 u u' rfl rfl).2 a f.1, (h 1 v v' rfl rfl).2 b f.2⟩
  | [], _, _, _, _, _, f => by simp [FairRow] at f
  | [_], _, _, _, _, _, f => by simp [FairRow] at f
  | [_, _], [], _, _, hl, _, f => by simp at hl
  | [_, _], [_], _, _, hl, _, f => by simp at hl
  | [_, _], _ :: _ :: _ :: _, _, _, hl, _, f => by simp at hl
  | [_, _], [_, _], _, [], _, _, f => by simp [FairRow] at f
  | [_, _], [_, _], _, [_], _, _, f => by simp [FairRow] at f
  | [_, _], [_, _], _, _ :: _ :: _ :: _, _, _, f => by simp [FairRow] at f
  | _ :: _ :: _ :: _, [], _, _, hl, _, f => by simp at hl
  | _ :: _ :: _ :: _, [_], _, _, hl, _, f => by simp at hl
  | _ :: _ :: _ :: _, [_, _], _, _, hl, _, f => by simp at hl
  | _ :: _ :: _ :: _, _ :: _ :: _ :: _, [], _, _, _, f => by simp [FairRow] at f
  | _ :: _ :: _ :: _, _ :: _ :: _ :: _, _ :: _, [], _, _, f => by simp [FairRow] at f
  | _ :: _ :: _ :: _, _ :: _ :: _ :: _, _ :: _, [_], _, _, f => by simp [FairRow] at f
  | _ :: _ :: _ :: _, _ :: _ :: _ :: _, _ :: _, [_, _], _, _, f => by simp [FairRow] at f
theorem spots_get {l : Loft.Line} {t : List Nat} {g : Nat} {i : Nat} {u : Spot} (h : (l.spots t g)[i]? = some u) : ∃ x y k, l.xs[i]? = some x ∧ l.ys[i]? = some y ∧ t[i]? = some k ∧ u = ⟨x, y, Loft.near (min k g) y⟩ := by
  unfold Loft.Line.spots at h
  rw [List.getElem?_map] at h
  cases e : ((l.xs.zip l.ys).zip t)[i]? with
  | none => rw [e] at h; cases h
  | some z =>
    rw [e] at h
    obtain ⟨⟨x, y⟩, k⟩ := z
    obtain ⟨e1, e2⟩ := List.getElem?_zip_eq_some.mp e
    obtain ⟨e3, e4⟩ := List.getElem?_zip_eq_some.mp e1
    exact ⟨x, y, k, e3, e4, e2, (Option.some.inj h).symm⟩
theorem fair_wider {l : Loft.Line} {t : List Nat} {g g' : Nat} {s : List Nat} {q : List Int} (hg : g ≤ g') (h : FairRow (l.spots t g) s q) : FairRow (l.spots t g') s q := by
  refine fair_mono _ _ s q ?_ (fun i u u' e e' => ?_) h
  · unfold Loft.Line.spots
    rw [List.length_map, List.length_map]
  · obtain ⟨x, y, k, e1, e2, e3, rfl⟩ := spots_get e
    obtain ⟨x', y', k', f1, f2, f3, rfl⟩ := spots_get e'
    rw [e1] at f1
    rw [e2] at f2
    rw [e3] at f3
    cases f1
    cases f2
    cases f3
    refine ⟨rfl, fun z hz => ?_⟩
    have hz := near_mem.mp hz
    refine near_mem.mpr ⟨?_, hz.2⟩
    have hmin : ((min k g : Nat) : Int) ≤ ((min k g' : Nat) : Int) := by
      have : min k g ≤ min k g' := by omega
      omega
    omega
theorem lexLe_antisymm : ∀ {p q : List Int}, lexLe p q → lexLe q p → p = q
  | [], [], _, _ => rfl
  | [], _ :: _, _, h => by simp [lexLe] at h
  | _ :: _, [], h, _ => by simp [lexLe] at h
  | a :: p, b :: q, h1, h2 => by
    rcases h1 with h1 | ⟨h1, h1'⟩
    · rcases h2 with h2 | ⟨h2, _⟩
      · omega
      · omega
    · subst h1
      rcases h2 with h2 | ⟨_, h2⟩
      · omega
      · rw [lexLe_antisymm h1' h2]
theorem findSome_none {α β : Type} {f : α → Option β} : ∀ {l : List α}, (∀ a ∈ l, f a = none) → l.findSome? f = none
  | [], _ => rfl
  | a :: r, h => by
    unfold List.findSome?
    rw [h a (List.mem_cons_self ..)]
    exact findSome_none fun x hx => h x (List.mem_cons_of_mem _ hx)
theorem findSome_first {β : Type} {f : Nat → Option β} {b : β} : ∀ (n k g : Nat), g < n → (∀ i, i < g → f (k + i) = none) → f (k + g) = some b → ((List.range' k n).findSome? f) = some b
  | 0, _, _, h, _, _ => by omega
  | n + 1, k, 0, _, _, hb => by
    show (k :: List.range' (k + 1) n).findSome? f = some b
    unfold List.findSome?
    have hb : f k = some b := hb
    rw [hb]
  | n + 1, k, g + 1, hg, hn, hb => by
    show (k :: List.range' (k + 1) n).findSome? f = some b
    unfold List.findSome?
    have h0 : f k = none := hn 0 (by omega)
    rw [h0]
    refine findSome_first n (k + 1) g (by omega) (fun i hi => ?_) ?_
    · have := hn (i + 1) (by omega)
      rw [← this]
      congr 1
      omega
    · rw [← hb]
      congr 1
      omega
theorem nearest_eq {l : Loft.Line} {s t : List Nat} {g : Nat} {m : List Int} (h2 : 2 ≤ l.xs.length) (hy : l.ys.length = l.xs.length) (ht : t.length = l.xs.length) (hs : l.xs.length ≤ s.length + 2) (hg : g ≤ 16)
    (hno : ∀ g', g' < g → ∀ q, ¬ FairRow (l.spots t g') s q) (hm : FairRow (l.spots t g) s m) (hle : ∀ q, FairRow (l.spots t g) s q → mv (l.spots t g) m < mv (l.spots t g) q ∨ (mv (l.spots t g) m = mv (l.spots t g) q ∧ lexLe m q)) : l.nearest s t = some m := by
  have two : ∀ g, ∃ u v r, l.spots t g = u :: v :: r ∧ r.length ≤ s.length := fun g => by
    have e := lspots_len l t g hy ht
    match l.spots t g, e with
    | u :: v :: r, e => exact ⟨u, v, r, rfl, by simp at e; omega⟩
    | [], e => simp at e; omega
    | [_], e => simp at e; omega
  unfold Loft.Line.nearest
  rw [List.range_eq_range']
  refine findSome_first (Loft.FAR + 1) 0 g (by show g < 17; omega) (fun i hi => ?_) ?_
  · obtain ⟨u, v, r, e, hr⟩ := two i
    rw [Nat.zero_add, e, if_pos]
    refine (many_zero u v r s hr).mpr fun q hq => hno i hi q ?_
    rw [e]
    exact hq
  · obtain ⟨u, v, r, e, hr⟩ := two g
    have hs' : Rising (u :: v :: r) := by rw [← e]; exact spots_rising l t g
    rw [Nat.zero_add, e]
    rw [e] at hm hle
    rw [if_neg (fun z => (many_zero u v r s hr).mp z m hm)]
    obtain ⟨m', em⟩ := leastLine_none hr hs' hm
    obtain ⟨f1, f2⟩ := leastLine_some hr hs' em
    rw [em]
    congr 1
    have a1 := f2 m hm
    have a2 := hle m' f1
    rcases a1 with a1 | ⟨a1, b1⟩
    · rcases a2 with a2 | ⟨a2, _⟩ <;> omega
    · rcases a2 with a2 | ⟨_, b2⟩
      · omega
      · exact lexLe_antisymm b1 b2
theorem nearest_none {l : Loft.Line} {s t : List Nat} (h2 : 2 ≤ l.xs.length) (hy : l.ys.length = l.xs.length) (ht : t.length = l.xs.length) (hs : l.xs.length ≤ s.length + 2) (hno : ∀ q, ¬ FairRow (l.spots t 16) s q) : l.nearest s t = none := by
  refine findSome_none fun g hg => ?_
  have hg : g < 17 := List.mem_range.mp hg
  have e := lspots_len l t g hy ht
  match el : l.spots t g, e with
  | u :: v :: r, e =>
    rw [if_pos]
    refine (many_zero u v r s (by simp at e; omega)).mpr fun q hq => hno q ?_
    rw [← el] at hq
    exact fair_wider (by omega) hq
  | [], e => simp at e; omega
  | [_], e => simp at e; omega
theorem find_least {p : Nat → Bool} : ∀ (n k g : Nat), g < n → (∀ i, i < g → p (k + i) = false) → p (k + g) = true → ((List.range' k n).find? p) = some (k + g)
  | 0, _, _, h, _, _ => by omega
  | n + 1, k, 0, _, _, hb => by
    show (k :: List.range' (k + 1) n).find? p = some k
    unfold List.find?
    have hb : p k = true := hb
    rw [hb]
  | n + 1, k, g + 1, hg, hn, hb => by
    show (k :: List.range' (k + 1) n).find? p = some (k + (g + 1))
    unfold List.find?
    have h0 : p k = false := hn 0 (by omega)
    rw [h0]
    have ih := find_least n (k + 1) g (by omega) (fun i hi => by
      have := hn (i + 1) (by omega)
      rw [← this]
      congr 1
      omega) (by rw [← hb]; congr 1; omega)
    rw [show k + (g + 1) = k + 1 + g by omega]
    exact ih
theorem find_no {α : Type} {p : α → Bool} : ∀ {l : List α}, (∀ a ∈ l, p a = false) → l.find? p = none
  | [], _ => rfl
  | a :: r, h => by
    unfold List.find?
    rw [h a (List.mem_cons_self ..)]
    exact find_no fun x hx => h x (List.mem_cons_of_mem _ hx)
def NoFair (l : List Spot) (s : List Nat) (m : Nat) : Prop := ∀ q, ¬ FairRow (l.take m) (s.take (m - 2)) q
theorem near_self {t : Nat} {y : Int} (h0 : 0 ≤ y) (h1 : y ≤ 1048575) : y ∈ Loft.near t y := near_mem.mpr ⟨⟨by omega, by omega⟩, h0, h1⟩
theorem many_take {l : List Spot} {s : List Nat} {m : Nat} (hne : ∀ u ∈ l, u.ys ≠ []) (hl : m ≤ l.length) (hs : l.length ≤ s.length + 2) : (Loft.many (l.take m) (s.take (m - 2)) == 0) = true ↔ 2 ≤ m ∧ NoFair l s m := by
  rw [beq_iff_eq]
  match m, hl with
  | 0, _ =>
    constructor
    · intro h
      rw [List.take_zero] at h
      exact absurd h (by show (1 : Nat) ≠ 0; decide)
    · intro h
      omega
  | 1, hl =>
    match l, hl, hne with
    | u :: r, hl, hne =>
      constructor
      · intro h
        have h : u.ys.length = 0 := h
        exact absurd (List.eq_nil_of_length_eq_zero h) (hne u (by simp))
      · intro h
        omega
  | m + 2, hl =>
    match l, hl, hne with
    | u :: v :: r, hl, hne =>
      have e : (u :: v :: r).take (m + 2) = u :: v :: r.take m := rfl
      have hr : (r.take m).length ≤ (s.take (m + 2 - 2)).length := by
        rw [List.length_take, List.length_take]
        simp at hs hl
        omega
      unfold NoFair
      rw [e, many_zero u v (r.take m) _ hr]
      constructor
      · intro h
        exact ⟨by omega, h⟩
      · intro h
        exact h.2
    | [_], hl, _ => simp at hl
    | [], hl, _ => simp at hl
end FL

end
section
set_option Elab.async false
set_option linter.all false
set_option maxRecDepth 100000
set_option maxHeartbeats 4000000
namespace FL
open Loft (Spot as_ standing moveOf lesser)
inductive Kd where
  | cnt
  | gr
  | rk
def ei : Kd → Int → Int → Int
  | .cnt, a, b => a + b
  | .gr, a, b => if a < b then a else b
  | .rk, a, b => if a < b then a else b
def al : Kd → Int → Int → Int
  | .cnt, a, c => a * c
  | .gr, a, c => if c < a then a else c
  | .rk, a, c => a + c
def fo (k : Kd) (N : Int) (l : List Int) : Int := l.foldl (ei k) N
def clampN (z : Int) (n : Nat) : Nat := min z.toNat n
def pt (x0 x1 x2 b d : Int) : Int := b * (x2 - x1) - (d - b) * (x1 - x0)
def bhd (k : Kd) (N : Int) (c : Nat) (lo st : Int) (row : List Int) (p : Int) : Int :=
  if c = 0 then fo k N row
  else if c = 1 then fo k N (row.reverse.take (clampN (lo + row.length + (-p) / st) row.length))
  else if c = 2 then fo k N (row.take (clampN (p / st + 1 - lo) row.length))
  else if p % st = 0 ∧ 0 ≤ p / st - lo ∧ p / st - lo < row.length then row.getD (p / st - lo).toNat 0 else N
structure Dt where
  x : Nat → Int
  ys : Nat → List Int
  sh : Nat → Nat
  cf : Nat → Int → Int
def XX (k : Kd) (N : Int) (D : Dt) : Nat → Int → Int → Int
  | 0, a, b => al k (D.cf 0 a) (D.cf 1 b)
  | j + 1, b, d => al k (bhd k N (D.sh j) ((D.ys j).headD 0) (D.x (j + 2) - D.x (j + 1)) ((D.ys j).map fun a => XX k N D j a b) (pt (D.x j) (D.x (j + 1)) (D.x (j + 2)) b d)) (D.cf (j + 2) d)
def rowsAt (k : Kd) (N : Int) (D : Dt) (j : Nat) : List (List Int) := (D.ys (j + 1)).map fun b => (D.ys j).map fun a => XX k N D j a b
def tot (k : Kd) (N : Int) (D : Dt) (j : Nat) : Int := fo k N ((rowsAt k N D j).map (fo k N))
def upto (lo : Int) (n : Nat) : List Int := (List.range n).map fun (i : Nat) => lo + (i : Int)
theorem upto_len (lo : Int) (n : Nat) : (upto lo n).length = n := by simp [upto]
theorem upto_get {lo : Int} {n i : Nat} {x : Int} (h : (upto lo n)[i]? = some x) : i < n ∧ x = lo + (i : Int) := by
  unfold upto at h
  rw [List.getElem?_map] at h
  by_cases hi : i < n
  · rw [List.getElem?_range hi] at h
    exact ⟨hi, (Option.some.inj h).symm⟩
  · rw [List.getElem?_eq_none (by simp; omega)] at h
    cases h
theorem upto_mem {lo : Int} {n : Nat} {x : Int} : x ∈ upto lo n ↔ lo ≤ x ∧ x < lo + (n : Int) := by
  unfold upto
  rw [List.mem_map]
  constructor
  · rintro ⟨i, hi, rfl⟩
    rw [List.mem_range] at hi
    omega
  · rintro ⟨h1, h2⟩
    exact ⟨(x - lo).toNat, List.mem_range.mpr (by omega), by omega⟩
theorem upto_rising (lo : Int) (n : Nat) : (upto lo n).Pairwise (· < ·) := by
  unfold upto
  rw [List.pairwise_map]
  exact (range_rising n).imp fun h => by omega
theorem upto_head {lo : Int} {n : Nat} (h : 0 < n) : (upto lo n).headD 0 = lo := by
  obtain ⟨m, rfl⟩ : ∃ m, n = m + 1 := ⟨n - 1, by omega⟩
  simp [upto, List.range_succ_eq_map]
theorem rising_ext : ∀ {l m : List Int}, l.Pairwise (· < ·) → m.Pairwise (· < ·) → (∀ x, x ∈ l ↔ x ∈ m) → l = m
  | [], [], _, _, _ => rfl
  | [], b :: m, _, _, h => absurd ((h b).mpr (List.mem_cons_self ..)) (by simp)
  | a :: l, [], _, _, h => absurd ((h a).mp (List.mem_cons_self ..)) (by simp)
  | a :: l, b :: m, h1, h2, h => by
    rw [List.pairwise_cons] at h1 h2
    have e : a = b := by
      have ha := (h a).mp (List.mem_cons_self ..)
      have hb := (h b).mpr (List.mem_cons_self ..)
      rcases List.mem_cons.mp ha with e | ha
      · exact e
      · rcases List.mem_cons.mp hb with e | hb
        · exact e.symm
        · have := h1.1 b hb
          have := h2.1 a ha
          omega
    subst e
    congr 1
    refine rising_ext h1.2 h2.2 fun x => ⟨fun hx => ?_, fun hx => ?_⟩
    · rcases List.mem_cons.mp ((h x).mp (List.mem_cons_of_mem _ hx)) with e | z
      · have := h1.1 x hx
        omega
      · exact z
    · rcases List.mem_cons.mp ((h x).mpr (List.mem_cons_of_mem _ hx)) with e | z
      · have := h2.1 x hx
        omega
      · exact z
theorem near_upto {m : Nat} {y : Int} (h0 : 0 ≤ y) (h1 : y ≤ 1048575) : Loft.near m y = upto (max 0 (y - (m : Int))) (min 1048575 (y + (m : Int)) + 1 - max 0 (y - (m : Int))).toNat := by
  refine rising_ext (near_rising m y) (upto_rising _ _) fun x => ?_
  rw [near_mem, upto_mem]
  omega
theorem fil_take {α : Type} {ok : α → Bool} : ∀ (l : List α) (m : Nat), (∀ i x, l[i]? = some x → (ok x = true ↔ i < m)) → l.filter ok = l.take m
  | [], m, _ => by simp
  | a :: l, 0, h => by
    rw [List.take_zero, List.filter_eq_nil_iff]
    intro x hx
    obtain ⟨i, hi⟩ := List.getElem?_of_mem hx
    have := h i x hi
    simp at this
    simp [this]
  | a :: l, m + 1, h => by
    have h0 := (h 0 a rfl).mpr (by omega)
    rw [List.filter_cons_of_pos h0, List.take_succ_cons, fil_take l m fun i x hi => by
      rw [h (i + 1) x hi]
      omega]
theorem hol_iff {x0 x1 x2 a b d : Int} (h : x1 < x2) : (0 ≤ standing x0 x1 x2 a b d) ↔ -((-(pt x0 x1 x2 b d)) / (x2 - x1)) ≤ a := by
  have e : standing x0 x1 x2 a b d = a * (x2 - x1) - pt x0 x1 x2 b d := by
    unfold standing pt
    rw [Int.sub_mul b a]
    omega
  rw [e]
  have hs : 0 < x2 - x1 := by omega
  generalize x2 - x1 = s at *
  generalize pt x0 x1 x2 b d = p at *
  constructor
  · intro z
    have := (Int.le_ediv_iff_mul_le (a := -a) (b := -p) hs).mpr (by rw [Int.neg_mul]; omega)
    omega
  · intro z
    have := (Int.le_ediv_iff_mul_le (a := -a) (b := -p) hs).mp (by omega)
    rw [Int.neg_mul] at this
    omega
theorem ful_iff {x0 x1 x2 a b d : Int} (h : x1 < x2) : (standing x0 x1 x2 a b d ≤ 0) ↔ a ≤ pt x0 x1 x2 b d / (x2 - x1) := by
  have e : standing x0 x1 x2 a b d = a * (x2 - x1) - pt x0 x1 x2 b d := by
    unfold standing pt
    rw [Int.sub_mul b a]
    omega
  rw [e]
  have hs : 0 < x2 - x1 := by omega
  generalize x2 - x1 = s at *
  generalize pt x0 x1 x2 b d = p at *
  rw [Int.le_ediv_iff_mul_le hs]
  omega
theorem str_iff {x0 x1 x2 a b d : Int} (h : x1 < x2) : (standing x0 x1 x2 a b d = 0) ↔ (pt x0 x1 x2 b d % (x2 - x1) = 0 ∧ pt x0 x1 x2 b d / (x2 - x1) = a) := by
  have e : standing x0 x1 x2 a b d = a * (x2 - x1) - pt x0 x1 x2 b d := by
    unfold standing pt
    rw [Int.sub_mul b a]
    omega
  rw [e]
  have hs : 0 < x2 - x1 := by omega
  generalize x2 - x1 = s at *
  generalize pt x0 x1 x2 b d = p at *
  constructor
  · intro z
    have z : p = a * s := by omega
    subst z
    exact ⟨Int.mul_emod_left .., Int.mul_ediv_cancel _ (by omega)⟩
  · rintro ⟨h1, rfl⟩
    have := Int.mul_ediv_add_emod p s
    rw [h1, Int.mul_comm] at this
    omega
theorem bhd_eq {k : Kd} {N : Int} {c : Nat} {lo : Int} {n : Nat} {x0 x1 x2 b d : Int} (X : Int → Int) (hx : x1 < x2) (hc : c ≤ 3) :
    let F := (upto lo n).filter fun a => as_ c (standing x0 x1 x2 a b d)
    (c < 3 ∧ (bhd k N c lo (x2 - x1) ((upto lo n).map X) (pt x0 x1 x2 b d) = fo k N (F.map X) ∨ bhd k N c lo (x2 - x1) ((upto lo n).map X) (pt x0 x1 x2 b d) = fo k N (F.map X).reverse)) ∨
    (c = 3 ∧ ((F = [] ∧ bhd k N c lo (x2 - x1) ((upto lo n).map X) (pt x0 x1 x2 b d) = N) ∨ ∃ a, F = [a] ∧ bhd k N c lo (x2 - x1) ((upto lo n).map X) (pt x0 x1 x2 b d) = X a)) := by
  have hl : ((upto lo n).map X).length = n := by rw [List.length_map, upto_len]
  have h4 : c = 0 ∨ c = 1 ∨ c = 2 ∨ c = 3 := by omega
  rcases h4 with rfl | rfl | rfl | rfl <;> intro F
  · left
    refine ⟨by omega, .inl ?_⟩
    have : F = upto lo n := by
      show List.filter _ _ = _
      rw [List.filter_eq_self]
      intro a _
      rfl
    rw [this]
    rfl
  · left
    refine ⟨by omega, .inr ?_⟩
    show fo k N _ = _
    rw [hl]
    congr 1
    show _ = (F.map X).reverse
    rw [← List.map_reverse, ← List.map_reverse, ← List.map_take]
    congr 1
    show _ = List.reverse (List.filter _ _)
    rw [← List.filter_reverse]
    refine (fil_take _ _ fun i x hi => ?_).symm
    have hi' := (List.getElem?_eq_some_iff.mp hi).1
    rw [List.length_reverse, upto_len] at hi'
    rw [List.getElem?_reverse (by rw [upto_len]; exact hi'), upto_len] at hi
    obtain ⟨_, rfl⟩ := upto_get hi
    show (decide (0 ≤ standing _ _ _ _ _ _) = true) ↔ _
    rw [decide_eq_true_iff, hol_iff hx]
    unfold clampN
    generalize (-pt x0 x1 x2 b d) / (x2 - x1) = z
    omega
  · left
    refine ⟨by omega, .inl ?_⟩
    show fo k N _ = _
    rw [hl]
    congr 1
    rw [← List.map_take]
    congr 1
    refine (fil_take _ _ fun i x hi => ?_).symm
    obtain ⟨hi', rfl⟩ := upto_get hi
    show (decide (standing _ _ _ _ _ _ ≤ 0) = true) ↔ _
    rw [decide_eq_true_iff, ful_iff hx]
    unfold clampN
    generalize (pt x0 x1 x2 b d) / (x2 - x1) = z
    omega
  · right
    refine ⟨rfl, ?_⟩
    have hF : ∀ a, as_ 3 (standing x0 x1 x2 a b d) = true ↔ (pt x0 x1 x2 b d % (x2 - x1) = 0 ∧ pt x0 x1 x2 b d / (x2 - x1) = a) := fun a => by
      show (decide (standing _ _ _ _ _ _ = 0) = true) ↔ _
      rw [decide_eq_true_iff, str_iff hx]
    have e : bhd k N 3 lo (x2 - x1) ((upto lo n).map X) (pt x0 x1 x2 b d) = if pt x0 x1 x2 b d % (x2 - x1) = 0 ∧ 0 ≤ pt x0 x1 x2 b d / (x2 - x1) - lo ∧ pt x0 x1 x2 b d / (x2 - x1) - lo < (n : Int) then ((upto lo n).map X).getD (pt x0 x1 x2 b d / (x2 - x1) - lo).toNat 0 else N := by
      unfold bhd
      rw [hl]
      rfl
    rw [e]
    by_cases hh : pt x0 x1 x2 b d % (x2 - x1) = 0 ∧ 0 ≤ pt x0 x1 x2 b d / (x2 - x1) - lo ∧ pt x0 x1 x2 b d / (x2 - x1) - lo < (n : Int)
    · rw [if_pos hh]
      obtain ⟨h1, h2, h3⟩ := hh
      generalize hz : pt x0 x1 x2 b d / (x2 - x1) = z at *
      right
      refine ⟨z, ?_, ?_⟩
      · refine rising_ext ((upto_rising lo n).filter _) (by simp) fun x => ?_
        rw [List.mem_filter, hF, upto_mem, List.mem_singleton]
        constructor
        · rintro ⟨_, _, h⟩
          exact h.symm
        · rintro rfl
          exact ⟨by omega, h1, rfl⟩
      · have : (upto lo n)[(z - lo).toNat]? = some z := by
          unfold upto
          rw [List.getElem?_map, List.getElem?_range (by omega)]
          show some (lo + ((z - lo).toNat : Int)) = some z
          congr 1
          omega
        rw [List.getD_eq_getElem?_getD, List.getElem?_map, this]
        rfl
    · rw [if_neg hh]
      left
      refine ⟨?_, rfl⟩
      show List.filter _ _ = _
      rw [List.filter_eq_nil_iff]
      intro a ha hok
      rw [hF] at hok
      rw [upto_mem] at ha
      exact hh ⟨hok.1, by omega, by omega⟩
end FL

end
section
set_option Elab.async false
set_option linter.all false
set_option maxRecDepth 100000
set_option maxHeartbeats 4000000
namespace FL
open PySem PySem.Spec PyProof.Rows L2
theorem nolen_lri : typeLookup (.type "list_reverseiterator") "__len__" = pure none := by rw [typeLookup_type, builtinLookup_eq_fast]; kernel_rfl
theorem hint_lri : typeLookup (.type "list_reverseiterator") "__length_hint__" = pure (some (.builtin "list_reverseiterator.__length_hint__")) := by rw [typeLookup_type, builtinLookup_eq_fast]; kernel_rfl
section
variable {pr : Program} {wo : World} {ar : Around} {st0 : Shared}
theorem ext_lri {Zf : Result → Shared → Prop} {jt ls : Addr} {xs : Array Value} (hnd : ar.handled = none) (gl : Addr) (rv : Value) (c0 : Nat) (hjt : st0.heap.IsRevIter jt ls ((xs.size : Int) - 1)) (hls : st0.heap.IsList ls xs) (nlj : ls ≠ jt) (ngj : gl ≠ jt) (ngl : gl ≠ ls)
    (hg0 : st0.heap.get? gl = some { cls := .type "list", data := .seq #[] c0 }) (hsz : xs.size ≤ sizeLine)
    (hZ : ∀ h' tk acc' c', (∀ b o, b ≠ gl → b ≠ jt → st0.heap.get? b = some o → h'.get? b = some o) → h'.get? gl = some { cls := .type "list", dict := none, data := .seq acc' c', slots := #[] } →
      ItemsOf (fun i v => xs[xs.size - 1 - i]? = some v) acc' xs.size → Zf (.ok (.ret rv)) { st0 with heap := h', toks := tk }) :
    wpAny (model pr wo) ar.in1 (Builtin.List.listExtendWith (.ref gl) (.ref jt) rv)
      (fun fin st0' => match fin with | .done f => Zf (.ok f) st0' | .again c' => c'.quiet = true ∧ codeAny (model pr wo) ar c' Zf st0') (fun e st0' => Zf (.error e) st0') st0 := by
  have wk := (Walks.listRev (prog := pr) (w := wo) (A := ar.in1) hnd jt ls nlj xs).toS
  have hty : st0.TypeIs (.ref jt) "list_reverseiterator" := hjt.typeIs
  have hgf : gl ∉ [jt, ls] := fun z => by
    rcases List.mem_cons.mp z with z | z
    · exact ngj z
    · exact ngl (List.mem_singleton.mp z)
  have nsr : Builtin.List.listSameRef (.ref gl) (.ref jt) = false := by simp [Builtin.List.listSameRef, ngj]
  unfold Builtin.List.listExtendWith
  refine wpAny_bind (wpAny_typeOf hty ?_)
  rw [if_neg (by rw [nsr]; decide)]
  refine wpAny_bind (wpAny_pyIter_revIter hjt ?_)
  refine wpAny_bind (wpAny_holding ?_)
  unfold Builtin.List.listLengthHint
  refine wpAny_bind (wpAny_specialOf hty nolen_lri ?_)
  show wpAny _ ar.in1 (specialOf (Value.ref jt) (Str.ofString "__length_hint__") >>= _) _ _ _
  refine wpAny_bind (wpAny_specialOf hty hint_lri ?_)
  (generalize hid : ("list_reverseiterator.__length_hint__" : String) = id0; wp_delta; rw [show splitId id0 = some ("list_reverseiterator", "__length_hint__") from by subst hid; decide +kernel]; subst hid)
  refine wpAny_bind (wpAny_isInstance (b := true) hty (by rw [isSubtype_type]; kernel_rfl) ?_)
  refine wpAny_pure ?_
  rw [if_neg (by decide)]
  have stt : 0 ≤ xs.size ∧ st0.heap.IsRevIter jt ls ((xs.size : Int) - 1 - ((0 : Nat) : Int)) ∧ st0.heap.IsList ls xs := ⟨Nat.zero_le _, by simpa using hjt, hls⟩
  refine wpAny_pure ⟨plainId_quiet F.plain_extend_loop _, codeAny_extend_loopS wk hsz _ hgf _ xs.size 0 _ _ _ rfl (Nat.zero_le _) stt hg0 (ItemsOf.nil _) fun st0' acc' c' hm hg0' hacc => ?_⟩
  rw [Moved.eq_with hm]
  refine hZ st0'.heap st0'.toks acc' c' (fun b o nsr h2 e => hm.heap b o (fun z => ?_) e) hg0' hacc
  rcases List.mem_cons.mp z with z | z
  · exact nsr z
  · exact h2 (List.mem_singleton.mp z)
theorem call_list_lri {Er : Value → Shared → Prop} {Qr : Value → Shared → Prop} {jt ls : Addr} {xs : Array Value} (hnd : ar.handled = none) (hjt : st0.heap.IsRevIter jt ls ((xs.size : Int) - 1)) (hls : st0.heap.IsList ls xs) (nlj : ls ≠ jt) (hsz : xs.size ≤ sizeLine)
    (hq : ∀ h' tk acc' c', (∀ b o, b ≠ jt → st0.heap.get? b = some o → h'.get? b = some o) → h'.get? st0.heap.objs.size = some { cls := .type "list", dict := none, data := .seq acc' c', slots := #[] } →
      ItemsOf (fun i v => xs[xs.size - 1 - i]? = some v) acc' xs.size → Qr (.ref st0.heap.objs.size) { st0 with heap := h', toks := tk }) :
    wpAny (model pr wo) ar (call (.type "list") [.ref jt]) Qr Er st0 := by
  refine callType_codes (Q₁ := fun ob st1 => ob = .ref st0.heap.objs.size ∧ st1 = { st0 with heap := st0.heap.push { cls := .type "list", data := .seq #[] } }) F.called_list (F.typeCall_list_1 _) F.entry_list_init
    (code_list_new _ ⟨rfl, rfl⟩) fun ob st1 hst1 => ?_
  obtain ⟨rfl, rfl⟩ := hst1
  have hg0 : (st0.heap.push { cls := .type "list", data := .seq #[] }).get? st0.heap.objs.size = some { cls := .type "list", data := .seq #[] } := Heap.get?_push_size _ rfl
  refine ⟨⟨_, hg0, rfl⟩, F.args_list_init_2 _ _, ?_⟩
  show wpAny _ ar.in1.in1 (do let old ← Builtin.List.listItems (.ref st0.heap.objs.size); Builtin.List.listUpdate (.ref st0.heap.objs.size) (fun _ => #[]); letGo old.toList.reverse; Builtin.List.listExtendWith (.ref st0.heap.objs.size) (.ref jt) .none) _ _ _
  refine wpAny_bind ?_
  unfold Builtin.List.listItems
  refine wpAny_bind (wpAny_seqItems hg0 rfl (wpAny_pure ?_))
  show wpAny _ ar.in1.in1 (updateSeq st0.heap.objs.size (fun _ => #[]) >>= fun _ => letGo (#[] : Array Value).toList.reverse >>= fun _ => Builtin.List.listExtendWith (.ref st0.heap.objs.size) (.ref jt) .none) _ _ _
  refine wpAny_bind (wpAny_updateSeq hg0 rfl ?_)
  have hg2 := Heap.get?_update_self (Obj.mapSeq (fun _ => (#[] : Array Value))) hg0 rfl
  have kp : ∀ b o, st0.heap.get? b = some o → ((st0.heap.push { cls := .type "list", data := .seq #[] }).update st0.heap.objs.size (Obj.mapSeq (fun _ => (#[] : Array Value)))).get? b = some o :=
    fun b o e => (Heap.get?_update_other _ _ (Nat.ne_of_gt (Heap.lt_size e))).trans (Heap.get?_push_of_some _ e)
  refine wpAny_bind (wpAny_letGo ?_)
  obtain ⟨oi, ei, _⟩ := id hjt
  obtain ⟨ol, el, _⟩ := id hls
  exact ext_lri (ar := ar.in1) hnd _ .none _ (hjt.at fun o e => kp _ o e) (hls.at fun o e => kp _ o e) nlj (Nat.ne_of_gt (Heap.lt_size ei)) (Nat.ne_of_gt (Heap.lt_size el)) hg2 hsz
    fun h' tk acc' c' k hg0' ha => ⟨rfl, hq h' tk acc' c' (fun b o hb e => k b o (Nat.ne_of_lt (Heap.lt_size e)) hb (kp b o e)) hg0' ha⟩
end
theorem vals_of_rev {xs : List V} {its : List Value} (r : Vals xs its) {acc : Array Value} (h : ItemsOf (fun i v => its.toArray[its.toArray.size - 1 - i]? = some v) acc its.toArray.size) : Vals xs.reverse acc.toList := by
  have e : acc.toList = its.reverse := by
    refine List.ext_getElem? fun i => ?_
    have hl : acc.size = its.length := by rw [h.1]; simp
    by_cases hi : i < its.length
    · have ha : acc[i]? = some (acc[i]'(by omega)) := Array.getElem?_eq_getElem (by omega)
      have := h.2 i _ ha
      rw [List.getElem?_reverse hi]
      rw [Array.getElem?_toList, ha, ← this]
      simp
    · rw [List.getElem?_eq_none (by simp; omega), List.getElem?_eq_none (by simp; omega)]
  rw [e]
  clear h e
  induction r with
  | nil => exact .nil
  | cons a b ih =>
    rw [List.reverse_cons, List.reverse_cons]
    exact Vals.append ih (.cons a .nil)
theorem vals_of_get : ∀ (xs : List V) (us : List Value), xs.length = us.length → (∀ (i : Nat) x u, xs[i]? = some x → us[i]? = some u → RelV x u) → Vals xs us
  | [], [], _, _ => .nil
  | x :: xs, u :: us, hl, h => .cons (h 0 x u rfl rfl) (vals_of_get xs us (by simpa using hl) fun i y v hy hv => h (i + 1) y v (by simpa using hy) (by simpa using hv))
  | [], _ :: _, hl, _ => by simp at hl
  | _ :: _, [], hl, _ => by simp at hl
def tLRev (K : PySem.W.Frag) (ta : TA) : TE := fun σ H Q => ta σ H fun vs H1 => ∃ (a : Addr) (xs : List V), vs = [.ref a] ∧ SqL K H1 a xs ∧ ∀ l, H1 l = none → Q (.ref l) (upd H1 l (.lst xs.reverse))
section
variable {X : Cx}
theorem b_list2 : bootBuiltins "list" = some (.type "list") := by decide +kernel
theorem pe_list_rev {e : Expr} {ta : TA} {p p2 pos pos2 : Pos} (hc : X.calm = true) (hgl : Gl X "list") (hml : X.mg "list" = none) (hg : Gl X "reversed") (hm : X.mg "reversed" = none) (ha : PA X [e] ta) (hs : starEach [e] X.env = [(false, eval e X.env)] := by rfl)
    (hs2 : starEach [Expr.Call (.Name "reversed" p2) [e] [] pos2] X.env = [(false, eval (Expr.Call (.Name "reversed" p2) [e] [] pos2) X.env)] := by rfl) :
    PE X (.Call (.Name "list" p) [.Call (.Name "reversed" p2) [e] [] pos2] [] pos) (tLRev X.K ta) := by
  intro pins s σ H Q I h
  refine wpAny_Call_Name_kw (ld_blt I hgl hml b_list2 ?_)
  refine PyProof.Rows.callWith_type1 ?_ hs2 rfl
  rw [hs2]
  show wpAny _ _ (spliced ((false, eval (Expr.Call (.Name "reversed" p2) [e] [] pos2) X.env) :: backTo pos [])) _ _ s
  refine Calls.spliced_cons ?_
  refine Call_ (ld_blt I hg hm boot_reversed5 (PyProof.Rows.callWith_type1 (thn (ha pos2 pins s σ H _ I h) fun us s1 ⟨vs, H1, I1, r1, q1⟩ => ?_) hs rfl))
  obtain ⟨a, xs, e, hq, q⟩ := q1
  subst e
  cases r1 with
  | cons r rr =>
    cases rr
    cases r
    obtain ⟨its, rv, p', hz⟩ := I1.list hq
    have hl := rv.length
    refine call_reversed_list p'.isList ?_
    refine Calls.spliced_nil ?_
    have I2 : Inv X pins σ H1 { s1 with heap := s1.heap.push (revObj a ((its.toArray.size : Int) - 1)) } := I1.kept (t' := s1.toks) fun b o e => Heap.get?_push_of_some _ e
    have hlist : (s1.heap.push (revObj a ((its.toArray.size : Int) - 1))).IsList a its.toArray := p'.isList.at fun o e => Heap.get?_push_of_some _ e
    have hlt : a < s1.heap.objs.size := by
      obtain ⟨o, e, _⟩ := p'.isList
      exact Heap.lt_size e
    refine call_list_lri (st0 := { s1 with heap := s1.heap.push (revObj a ((its.toArray.size : Int) - 1)) }) (jt := s1.heap.objs.size) (ls := a) (xs := its.toArray) (I.ok.hd hc) ⟨_, Heap.get?_push_size _ rfl, rfl, rfl⟩ hlist (Nat.ne_of_lt hlt) (by rw [List.size_toArray, ← hl]; exact hz) fun h' tk acc c k eS hacc => ?_
    have rv' := vals_of_rev rv hacc
    have f0 : FpOk X pins H1 s1.heap.objs.size := I1.fpOk (Nat.le_refl _) (I1.hok.fresh (Nat.le_refl _))
    obtain ⟨f0, f1, f2, f3, f4, f5⟩ := f0
    have kk : ∀ b o, s1.heap.get? b = some o → h'.get? b = some o := fun b o e => k b o (Nat.ne_of_lt (Heap.lt_size e)) (Heap.get?_push_of_some _ e)
    refine ⟨.ref _, upd H1 _ (.lst xs.reverse), I1.laid (t' := tk) kk ?_ ?_, rfl, q _ (I2.hok.fresh (Nat.le_refl _))⟩
    · show s1.heap.objs.size ≤ (s1.heap.push _).objs.size
      simp [Heap.push]
    · exact ⟨by rw [List.length_reverse]; exact hz, acc.toList, c, rv', by simpa using eS⟩
def rLenS (K : PySem.W.Frag) : List V → Hp → VK → Prop := fun xs H Q => ∃ p ys, xs = [.ref p] ∧ (SqL K H p ys ∨ SqT K H p ys) ∧ Q (.int ys.length) H
theorem call_lenS : CallR X (.builtin "len") (rLenS X.K) := call_len_seq
def CDivB (i j : Int) : Prop := 0 < j ∧ j < 2 ^ 200
theorem op_fdivB : OpR X (binaryOp .FloorDiv) (rI CDivB fun i j => .int (i / j)) := opI fun i j _ _ _ _ _ hc q => by
  have h1 : (0 : Int) < j := hc.1
  have h2 : j < 2 ^ 200 := hc.2
  refine floordiv_int (by omega) (by rw [Int.fdiv_eq_ediv_of_nonneg i (by omega)]; exact q) (.inl (PyProof.noPylong_of_log2 ?_))
  refine Nat.lt_of_lt_of_le ((Nat.log2_lt (by omega)).mpr (show j.natAbs < 2 ^ 200 by omega)) (by decide)
def tAlt (t t' : TE) : TE := fun σ H Q => t σ H Q ∨ t' σ H Q
theorem pe_alt {e : Expr} {t t' : TE} (h : PE X e t) (h' : PE X e t') : PE X e (tAlt t t') := fun pins s σ H Q I q => q.elim (h pins s σ H Q I) (h' pins s σ H Q I)
def tLRng (ta : TA) : TE := fun σ H Q => ta σ H fun vs H1 => ∃ i j : Int, vs = [.int i, .int j] ∧ (-(2 ^ 62) ≤ i ∧ i < 2 ^ 62 ∧ -(2 ^ 62) ≤ j ∧ j < 2 ^ 62) ∧ (j - i).toNat ≤ 2 ^ 24 ∧ ∀ l, H1 l = none → Q (.ref l) (upd H1 l (.lst ((upto i (j - i).toNat).map V.int)))
theorem pe_list_range2 {a b : Expr} {ta : TA} {p p2 pos pos2 : Pos} (hc : X.calm = true) (hgl : Gl X "list") (hml : X.mg "list" = none) (hg : Gl X "range") (hm : X.mg "range" = none) (ha : PA X [a, b] ta) (hs : starEach [a, b] X.env = [(false, eval a X.env), (false, eval b X.env)] := by rfl) (hs2 : starEach [b] X.env = [(false, eval b X.env)] := by rfl)
    (hs3 : starEach [Expr.Call (.Name "range" p2) [a, b] [] pos2] X.env = [(false, eval (Expr.Call (.Name "range" p2) [a, b] [] pos2) X.env)] := by rfl) :
    PE X (.Call (.Name "list" p) [.Call (.Name "range" p2) [a, b] [] pos2] [] pos) (tLRng ta) := by
  intro pins s σ H Q I h
  refine wpAny_Call_Name_kw (ld_blt I hgl hml b_list2 ?_)
  refine PyProof.Rows.callWith_type1 ?_ hs3 rfl
  rw [hs3]
  show wpAny _ _ (spliced ((false, eval (Expr.Call (.Name "range" p2) [a, b] [] pos2) X.env) :: backTo pos [])) _ _ s
  refine Calls.spliced_cons ?_
  refine Call_ (ld_blt I hg hm boot_range (PyProof.Rows.callWith_type1 (thn (ha pos2 pins s σ H _ I h) fun us s1 ⟨vs, H1, I1, r1, q1⟩ => ?_) (by rw [hs, hs2]) (by rw [hs2]; rfl)))
  obtain ⟨i, j, e, ⟨q1, q2, q3, q4⟩, q5, q⟩ := q1
  subst e
  cases r1 with
  | cons r rr =>
    cases rr with
    | cons r' rr =>
      cases rr
      obtain ⟨t, rfl⟩ := r
      obtain ⟨t', rfl⟩ := r'
      refine call_range_2 ?_
      refine Calls.spliced_nil ?_
      refine call_list_range (n := (j - i).toNat) (I.ok.hd hc) (IsRange.new ..) (small_one q1 q2 q3 q4) (by rw [rangeSize_one]; split <;> omega) q5 fun h' tk acc c k eS hacc => ?_
      have kk : ∀ b o, s1.heap.get? b = some o → h'.get? b = some o := fun b o e => k b o (Heap.get?_push_of_some _ e)
      refine ⟨.ref _, upd H1 _ (.lst ((upto i (j - i).toNat).map V.int)), I1.laid (t' := tk) kk ?_ ?_, rfl, q _ ?_⟩
      · simp [Heap.push]
      · refine ⟨by rw [List.length_map, upto_len, sizeLine_eq]; omega, acc.toList, c, ?_, by simpa using eS⟩
        have hl : acc.size = (j - i).toNat := hacc.1
        refine vals_of_get _ _ (by rw [List.length_map, upto_len, Array.length_toList, hl]) fun n x u hx hu => ?_
        obtain ⟨z, hz, rfl⟩ := get_int hx
        obtain ⟨hn, rfl⟩ := upto_get hz
        obtain ⟨tk, rfl⟩ := hacc.2 n u (by simpa using hu)
        exact ⟨tk, by rw [Int.mul_one]⟩
      · exact I1.hok.fresh (by simp [Heap.push])
end
theorem lc_enum {K : PySem.W.Frag} {a : Addr} {xs : List V} {g : TG} {tt : TT} {te : TE} {vs : List Nat} {σ : L2.St} {H1 : Hp} {D : Addr} {Qd : Hp → Prop} (Pv : Nat → Hp → Prop) (h0 : Pv 0 (upd H1 D (.lst []))) (hl : ∀ i H, i ≤ xs.length → Pv i H → SqL K H a xs)
    (hs : ∀ i x H T, xs[i]? = some x → Pv i H → H T = none → g (.ref T) (wipe σ vs) (upd H T (.tup [.int (i : Nat), x])) fun σ2 H2 => wipe σ2 vs = wipe σ vs ∧ tt σ2 H2 fun b H3 =>
      if b = true then te σ2 H3 fun y H4 => ∃ acc, H4 D = some (.lst acc) ∧ acc.length < sizeLine ∧ Pv (i + 1) (upd H4 D (.lst (acc ++ [y]))) else Pv (i + 1) H3) (hd : ∀ H, Pv xs.length H → Qd H) :
    ∃ W : Nat → Nat → Hp → Prop, (∃ m, W 0 m (upd H1 D (.lst []))) ∧ ∀ i m H, W i m H →
      ((Ite K a).stop i H ∧ Qd H) ∨ ((Ite K a).go i H ∧ ∃ Nx : Hp → Prop, (∀ H', Nx H' → ∃ m', m' < m ∧ W (i + 1) m' H') ∧ ∀ x H', (Ite K a).yld i H x H' → g x (wipe σ vs) H' fun σ2 H2 => wipe σ2 vs = wipe σ vs ∧ tt σ2 H2 fun b H3 =>
        if b = true then te σ2 H3 fun y H4 => ∃ acc, H4 D = some (.lst acc) ∧ acc.length < sizeLine ∧ Nx (upd H4 D (.lst (acc ++ [y]))) else Nx H3) := by
  refine ⟨fun i m H => m = xs.length - i ∧ i ≤ xs.length ∧ Pv i H, ⟨xs.length, by simp, Nat.zero_le _, h0⟩, ?_⟩
  rintro i m H ⟨rfl, hi, p⟩
  have q := hl i H hi p
  by_cases hlt : i < xs.length
  · refine .inr ⟨⟨xs, xs[i], q, by simp [hlt]⟩, Pv (i + 1), fun H' p' => ⟨xs.length - (i + 1), by omega, rfl, hlt, p'⟩, fun v H' y => ?_⟩
    obtain ⟨T, x, e1, hT, e2, y⟩ := y
    subst e1 e2
    exact hs i x _ T (y xs q) p hT
  · have e : i = xs.length := by omega
    subst e
    exact .inl ⟨⟨xs, q, Nat.le_refl _⟩, hd H p⟩
theorem lc_zip {K : PySem.W.Frag} {a b : Addr} {xs ys : List V} {g : TG} {tt : TT} {te : TE} {vs : List Nat} {σ : L2.St} {H1 : Hp} {D : Addr} {Qd : Hp → Prop} (hlen : xs.length = ys.length) (Pv : Nat → Hp → Prop) (h0 : Pv 0 (upd H1 D (.lst []))) (hl : ∀ i H, i ≤ xs.length → Pv i H → SqL K H a xs ∧ SqL K H b ys)
    (hs : ∀ i x y H T, xs[i]? = some x → ys[i]? = some y → Pv i H → H T = none → g (.ref T) (wipe σ vs) (upd H T (.tup [x, y])) fun σ2 H2 => wipe σ2 vs = wipe σ vs ∧ tt σ2 H2 fun b H3 =>
      if b = true then te σ2 H3 fun y H4 => ∃ acc, H4 D = some (.lst acc) ∧ acc.length < sizeLine ∧ Pv (i + 1) (upd H4 D (.lst (acc ++ [y]))) else Pv (i + 1) H3) (hd : ∀ H, Pv xs.length H → Qd H) :
    ∃ W : Nat → Nat → Hp → Prop, (∃ m, W 0 m (upd H1 D (.lst []))) ∧ ∀ i m H, W i m H →
      ((Itz K a b).stop i H ∧ Qd H) ∨ ((Itz K a b).go i H ∧ ∃ Nx : Hp → Prop, (∀ H', Nx H' → ∃ m', m' < m ∧ W (i + 1) m' H') ∧ ∀ x H', (Itz K a b).yld i H x H' → g x (wipe σ vs) H' fun σ2 H2 => wipe σ2 vs = wipe σ vs ∧ tt σ2 H2 fun b H3 =>
        if b = true then te σ2 H3 fun y H4 => ∃ acc, H4 D = some (.lst acc) ∧ acc.length < sizeLine ∧ Nx (upd H4 D (.lst (acc ++ [y]))) else Nx H3) := by
  refine ⟨fun i m H => m = xs.length - i ∧ i ≤ xs.length ∧ Pv i H, ⟨xs.length, by simp, Nat.zero_le _, h0⟩, ?_⟩
  rintro i m H ⟨rfl, hi, p⟩
  obtain ⟨q, q'⟩ := hl i H hi p
  by_cases hlt : i < xs.length
  · have hlt' : i < ys.length := by omega
    refine .inr ⟨⟨xs, ys, xs[i], ys[i], q, q', by simp [hlt], by simp [hlt']⟩, Pv (i + 1), fun H' p' => ⟨xs.length - (i + 1), by omega, rfl, hlt, p'⟩, fun v H' y => ?_⟩
    obtain ⟨T, x, y', e1, hT, e2, y1, y2⟩ := y
    subst e1 e2
    exact hs i x y' _ T (y1 xs q) (y2 ys q') p hT
  · have e : i = xs.length := by omega
    subst e
    exact .inl ⟨⟨xs, ys, q, q', .inl (Nat.le_refl _)⟩, hd H p⟩
def LL (K : PySem.W.Frag) (H : Hp) (a : Addr) (ls : List (List Int)) : Prop := ∃ as : List Addr, SqL K H a (as.map V.ref) ∧ as.length = ls.length ∧ ∀ (i : Nat) b l, as[i]? = some b → ls[i]? = some l → SqL K H b (l.map V.int)
theorem LL.same {K : PySem.W.Frag} {H H' : Hp} {a : Addr} {ls : List (List Int)} (h : LL K H a ls) (s : Same H H') : LL K H' a ls := by
  obtain ⟨as, h1, h2, h3⟩ := h
  exact ⟨as, s.seq h1, h2, fun i b l e1 e2 => s.seq (h3 i b l e1 e2)⟩
def NewLL (K : PySem.W.Frag) (H : Hp) (ls : List (List Int)) (Q : VK) : Prop := ∀ (H' : Hp) (r : Addr), Same H H' → H r = none → LL K H' r ls → Q (.ref r) H'
def LInv (H1 : Hp) (D : Addr) (ls : List (List Int)) (i : Nat) (H' : Hp) : Prop := Same H1 H' ∧ ∃ as : List Addr, H' D = some (.lst (as.map V.ref)) ∧ as.length = i ∧ ∀ (j : Nat) b, as[j]? = some b → b ≠ D ∧ ∃ l, ls[j]? = some l ∧ H' b = some (.lst (l.map V.int))
theorem LInv.start {H1 : Hp} {D : Addr} {ls : List (List Int)} (hD : H1 D = none) : LInv H1 D ls 0 (upd H1 D (.lst [])) := ⟨(Same.refl H1).new hD, [], upd_same, rfl, fun j b h => by simp at h⟩
theorem LInv.step {H1 H' H'' : Hp} {D b : Addr} {ls : List (List Int)} {i : Nat} {l : List Int} (h : LInv H1 D ls i H') (hD : H1 D = none) (hl : ls[i]? = some l) (s : Same H' H'') (nb : H' b = none) (eb : H'' b = some (.lst (l.map V.int))) (hz : i < sizeLine) :
    ∃ acc, H'' D = some (.lst acc) ∧ acc.length < sizeLine ∧ LInv H1 D ls (i + 1) (upd H'' D (.lst (acc ++ [.ref b]))) := by
  obtain ⟨s1, as, e1, e2, e3⟩ := h
  have nbD : b ≠ D := fun z => by rw [z, e1] at nb; cases nb
  refine ⟨_, s _ _ e1, by rw [List.length_map, e2]; exact hz, (s1.trans s).upd hD, as ++ [b], by rw [upd_same, List.map_append]; rfl, by simp [e2], fun j c hj => ?_⟩
  by_cases hjl : j < as.length
  · rw [List.getElem?_append_left hjl] at hj
    obtain ⟨n, l', a1, a2⟩ := e3 j c hj
    exact ⟨n, l', a1, by rw [upd_ne n]; exact s _ _ a2⟩
  · rw [List.getElem?_append_right (by omega)] at hj
    have hj0 : j = as.length := by
      have := (List.getElem?_eq_some_iff.mp hj).1
      simp at this
      omega
    subst hj0
    simp at hj
    subst hj
    exact ⟨nbD, l, by rw [e2]; exact hl, by rw [upd_ne nbD]; exact eb⟩
theorem LInv.done {K : PySem.W.Frag} {H1 H' : Hp} {D : Addr} {ls : List (List Int)} (h : LInv H1 D ls ls.length H') : Same H1 H' ∧ LL K H' D ls := by
  obtain ⟨s1, as, e1, e2, e3⟩ := h
  refine ⟨s1, as, SqL.of e1, e2, fun i b l h1 h2 => ?_⟩
  obtain ⟨_, l', a1, a2⟩ := e3 i b h1
  rw [h2] at a1
  rw [Option.some.inj a1]
  exact SqL.of a2
def IInv (H1 : Hp) (D : Addr) (l : List Int) (i : Nat) (H' : Hp) : Prop := Same H1 H' ∧ H' D = some (.lst ((l.take i).map V.int))
theorem IInv.start {H1 : Hp} {D : Addr} {l : List Int} (hD : H1 D = none) : IInv H1 D l 0 (upd H1 D (.lst [])) := ⟨(Same.refl H1).new hD, upd_same⟩
theorem IInv.step {H1 H' H'' : Hp} {D : Addr} {l : List Int} {i : Nat} {z : Int} (h : IInv H1 D l i H') (hD : H1 D = none) (hl : l[i]? = some z) (s : Same H' H'') (hz : i < sizeLine) :
    ∃ acc, H'' D = some (.lst acc) ∧ acc.length < sizeLine ∧ IInv H1 D l (i + 1) (upd H'' D (.lst (acc ++ [.int z]))) := by
  obtain ⟨s1, e⟩ := h
  refine ⟨_, s _ _ e, ?_, (s1.trans s).upd hD, ?_⟩
  · rw [List.length_map, List.length_take]
    exact Nat.lt_of_le_of_lt (Nat.min_le_left _ _) hz
  · rw [upd_same, List.take_add_one, hl, List.map_append]
    rfl
theorem IInv.done {H1 H' : Hp} {D : Addr} {l : List Int} {n : Nat} (h : IInv H1 D l n H') (hn : l.length ≤ n) : Same H1 H' ∧ H' D = some (.lst (l.map V.int)) := by
  obtain ⟨s1, e⟩ := h
  rw [List.take_of_length_le hn] at e
  exact ⟨s1, e⟩
end FL

end
section
set_option Elab.async false
set_option linter.all false
set_option maxRecDepth 100000
set_option maxHeartbeats 4000000
namespace FL
open PySem PySem.Spec PyProof.Rows L2
variable {P : Program} {w : World} {K : PySem.W.Frag} {mg : Str → Option Value} {base : Heap} {t : Adr}
theorem drop_get {α : Type} : ∀ {l : List α} {i : Nat} {z : α}, l[i]? = some z → l.drop i = z :: l.drop (i + 1)
  | [], i, z, h => by simp at h
  | a :: r, 0, z, h => by
    have e : a = z := Option.some.inj h
    subst e
    rfl
  | a :: r, i + 1, z, h => drop_get (l := r) (i := i) h
def fnr : Int → List Int → Nat → Option Nat
  | _, [], _ => none
  | fl, z :: r, i => if fl ≤ z ∧ z ≤ 1048575 then fnr (z + 1) r (i + 1) else some i
def sp_first_not_rising (K : PySem.W.Frag) : Sp := fun vs H Q _ => ∃ (a : Addr) (ns : List Int) (least : Int), vs = [.ref a, .int least] ∧ SqL K H a (ns.map V.int) ∧ ∀ H' : Hp, Same H H' → Q (optV (fnr least ns 0)) H'
theorem ok_first_not_rising (T : Txt K mg t) : FnOk P w K mg base CX0 1 t.f_first_not_rising t.d_first_not_rising ["numbers", "least"] (sp_first_not_rising K) := by
  refine T.fn_first_not_rising.ok sc_first_not_rising (fun vs H Q E h => ?_) (fun cdv A outer s H vs Q E hr h => ?_)
  · obtain ⟨a, ns, l, rfl, _⟩ := h
    rfl
  · obtain ⟨a, ns, l, rfl, hS, k⟩ := h
    refine ⟨_, (pss_cons (ps_set (i := 2) sc_first_not_rising.nd rfl (Or.inl rfl) (pv 1))
      (pss_cons (ps_for PassesOwn.never rfl (pi_enum rfl T.n_enumerate (pa_cons (pv 0) pa_nil)) (pg_tup rfl (pgs_cons (pg_name (i := 3) sc_first_not_rising.nd rfl (Or.inl rfl)) (pgs_cons (pg_name (i := 4) sc_first_not_rising.nd rfl (Or.inl rfl)) pgs_nil))) (pss_cons (ps_if (pt_not (pt_chain op_le op_le (pv 2) (pv 4) (pe_gint rfl T.g_GREATEST))) (pss_one (ps_ret (pv 3))) pss_nil)
      (pss_one (ps_set (i := 2) sc_first_not_rising.nd rfl (Or.inl rfl) (pe_op op_add (pv 4) pe_int)))))
      (pss_one (ps_ret pe_non)))), ?_⟩
    refine ⟨_, rfl, _, rfl, a, _, rfl, hS, ?_⟩
    refine for_enum (K := K) (a := a) (xs := ns.map V.int) (fun i σ H' => ∃ fl vi vn, σ = [some (.ref a), some (.int l), some (.int fl), vi, vn] ∧ Same H H' ∧ fnr l ns 0 = fnr fl (ns.drop i) i) ⟨l, none, none, rfl, Same.refl H, rfl⟩ (fun i σ H' _ ⟨_, _, _, _, s1, _⟩ => s1.seq hS) ?_ ?_
    · rintro i y σ H' Tp hi ⟨fl, vi, vn, rfl, s1, e⟩ hT
      obtain ⟨z, hz, rfl⟩ := get_int hi
      rw [drop_get hz] at e
      refine ⟨Tp, _, rfl, SqT.of upd_same, rfl, _, _, rfl, _, _, rfl, rfl, ?_⟩
      refine ⟨_, rfl, _, rfl, _, _, rfl, rfl, _, rfl, ite2 (fun c1 => ⟨_, _, rfl, rfl, _, rfl, ite2 (fun c2 => ?_) (fun c2 => ?_)⟩) (fun c1 => ⟨_, rfl, iteT ?_⟩)⟩
      · have k' := k _ (s1.new (o := .tup [.int (i : Nat), .int z]) hT)
        rw [e, fnr, if_neg (by simp at c1 c2; omega)] at k'
        exact ⟨_, rfl, k'⟩
      · refine ⟨_, rfl, _, _, rfl, rfl, _, _, _, rfl, s1.new hT, ?_⟩
        rw [e, fnr, if_pos (by simp at c1 c2; omega)]
      · have k' := k _ (s1.new (o := .tup [.int (i : Nat), .int z]) hT)
        rw [e, fnr, if_neg (by simp at c1; omega)] at k'
        exact ⟨_, rfl, k'⟩
    · rintro σ H' ⟨fl, vi, vn, rfl, s1, e⟩
      rw [List.length_map, List.drop_length] at e
      have k' := k H' s1
      rw [e] at k'
      exact k'
def fnb : List Int → Nat → Option Nat
  | [], _ => none
  | z :: r, i => if 0 ≤ z ∧ z ≤ 1048575 then fnb r (i + 1) else some i
def fnbM (m : Int) : List Int → Nat → Option Nat
  | [], _ => none
  | z :: r, i => if 0 ≤ z ∧ z ≤ m then fnbM m r (i + 1) else some i
theorem fnbM_eq : ∀ (l : List Int) (i : Nat), fnbM 1048575 l i = fnb l i
  | [], _ => rfl
  | z :: r, i => by
    unfold fnbM fnb
    rw [fnbM_eq r]
theorem fnbM_none {m : Int} : ∀ {l : List Int} {i : Nat}, fnbM m l i = none ↔ ∀ y ∈ l, 0 ≤ y ∧ y ≤ m
  | [], _ => by simp [fnbM]
  | z :: r, i => by
    unfold fnbM
    by_cases h : 0 ≤ z ∧ z ≤ m
    · rw [if_pos h, fnbM_none]
      simp [h]
    · rw [if_neg h]
      simp [h]
def sp_first_beyond (K : PySem.W.Frag) : Sp := fun vs H Q _ => ∃ (a : Addr) (ns : List Int) (m : Int), vs = [.ref a, .int m] ∧ SqL K H a (ns.map V.int) ∧ ∀ H' : Hp, Same H H' → Q (optV (fnbM m ns 0)) H'
theorem ok_first_beyond (T : Txt K mg t) : FnOk P w K mg base CX0 1 t.f_first_beyond t.d_first_beyond ["numbers", "most"] (sp_first_beyond K) := by
  refine T.fn_first_beyond.ok sc_first_beyond (fun vs H Q E h => ?_) (fun cdv A outer s H vs Q E hr h => ?_)
  · obtain ⟨a, ns, m, rfl, _⟩ := h
    rfl
  · obtain ⟨a, ns, m, rfl, hS, k⟩ := h
    refine ⟨_, (pss_cons (ps_for PassesOwn.never rfl (pi_enum rfl T.n_enumerate (pa_cons (pv 0) pa_nil)) (pg_tup rfl (pgs_cons (pg_name (i := 2) sc_first_beyond.nd rfl (Or.inl rfl)) (pgs_cons (pg_name (i := 3) sc_first_beyond.nd rfl (Or.inl rfl)) pgs_nil))) (pss_one (ps_if (pt_not (pt_chain op_le op_le pe_int (pv 3) (pv 1))) (pss_one (ps_ret (pv 2))) pss_nil)))
      (pss_one (ps_ret pe_non))), ?_⟩
    refine ⟨_, rfl, a, _, rfl, hS, ?_⟩
    refine for_enum (K := K) (a := a) (xs := ns.map V.int) (fun i σ H' => ∃ vi vn, σ = [some (.ref a), some (.int m), vi, vn] ∧ Same H H' ∧ fnbM m ns 0 = fnbM m (ns.drop i) i) ⟨none, none, rfl, Same.refl H, rfl⟩ (fun i σ H' _ ⟨_, _, _, s1, _⟩ => s1.seq hS) ?_ ?_
    · rintro i y σ H' Tp hi ⟨vi, vn, rfl, s1, e⟩ hT
      obtain ⟨z, hz, rfl⟩ := get_int hi
      rw [drop_get hz] at e
      refine ⟨Tp, _, rfl, SqT.of upd_same, rfl, _, _, rfl, _, _, rfl, rfl, ?_⟩
      refine ⟨_, rfl, _, _, rfl, rfl, _, rfl, ite2 (fun c1 => ⟨_, rfl, _, _, rfl, rfl, _, rfl, ite2 (fun c2 => ?_) (fun c2 => ?_)⟩) (fun c1 => ⟨_, rfl, iteT ?_⟩)⟩
      · have k' := k _ (s1.new (o := .tup [.int (i : Nat), .int z]) hT)
        rw [e, fnbM, if_neg (by simp at c1 c2; omega)] at k'
        exact ⟨_, rfl, k'⟩
      · refine ⟨_, _, rfl, s1.new hT, ?_⟩
        rw [e, fnbM, if_pos (by simp at c1 c2; omega)]
      · have k' := k _ (s1.new (o := .tup [.int (i : Nat), .int z]) hT)
        rw [e, fnbM, if_neg (by simp at c1; omega)] at k'
        exact ⟨_, rfl, k'⟩
    · rintro σ H' ⟨vi, vn, rfl, s1, e⟩
      rw [List.length_map, List.drop_length] at e
      have k' := k H' s1
      rw [e] at k'
      exact k'
def fos (x z y : Nat) : Option (Int × Int) :=
  if x < 2 ∨ 24 < x then some (2, 0) else if z < 2 ∨ 16 < z then some (2, 1) else if y ≠ x * z then some (1, (y : Int)) else none
def NewInts (H : Hp) (l : List Int) (Q : VK) : Prop := ∀ (H' : Hp) (r : Addr), Same H H' → H r = none → H' r = some (.lst (l.map V.int)) → Q (.ref r) H'
def sp_fault_of_sizes (K : PySem.W.Frag) : Sp := fun vs H Q _ => ∃ (a b c : Addr) (xs zs ys : List Int), vs = [.ref a, .ref b, .ref c] ∧ SqL K H a (xs.map V.int) ∧ SqL K H b (zs.map V.int) ∧ SqL K H c (ys.map V.int) ∧
  match fos xs.length zs.length ys.length with
  | none => ∀ H' : Hp, Same H H' → Q .non H'
  | some u => NewInts H [u.1, u.2] Q
theorem ok_fault_of_sizes (T : Txt K mg t) : FnOk P w K mg base CX0 1 t.f_fault_of_sizes t.d_fault_of_sizes ["places", "heights", "half_breadths"] (sp_fault_of_sizes K) := by
  refine T.fn_fault_of_sizes.ok sc_fault_of_sizes (fun vs H Q E h => ?_) (fun cdv A outer s H vs Q E hr h => ?_)
  · obtain ⟨a, b, c, xs, zs, ys, rfl, _⟩ := h
    rfl
  · obtain ⟨a, b, c, xs, zs, ys, rfl, hA, hB, hC, k⟩ := h
    refine ⟨_, (pss_cons (ps_if (pt_not (pt_chain op_le op_le (pe_gint rfl T.g_FEWEST) (pe_callB call_lenS rfl T.n_len PySem.boot_len (pa_cons (pv 0) pa_nil)) (pe_gint rfl T.g_MOST_STATIONS))) (pss_one (ps_ret (pe_lst (pa_cons (pe_gint rfl T.g_WRONG_SIZE) (pa_cons pe_int pa_nil))))) pss_nil)
      (pss_cons (ps_if (pt_not (pt_chain op_le op_le (pe_gint rfl T.g_FEWEST) (pe_callB call_lenS rfl T.n_len PySem.boot_len (pa_cons (pv 1) pa_nil)) (pe_gint rfl T.g_MOST_LEVELS))) (pss_one (ps_ret (pe_lst (pa_cons (pe_gint rfl T.g_WRONG_SIZE) (pa_cons pe_int pa_nil))))) pss_nil)
      (pss_cons (ps_if (pt_cmpR op_ne (pe_callB call_lenS rfl T.n_len PySem.boot_len (pa_cons (pv 2) pa_nil)) (pe_op op_mul (pe_callB call_lenS rfl T.n_len PySem.boot_len (pa_cons (pv 0) pa_nil)) (pe_callB call_lenS rfl T.n_len PySem.boot_len (pa_cons (pv 1) pa_nil))) (nomark _)) (pss_one (ps_ret (pe_lst (pa_cons (pe_gint rfl T.g_WRONG_COUNT) (pa_cons (pe_callB call_lenS rfl T.n_len PySem.boot_len (pa_cons (pv 2) pa_nil)) pa_nil))))) pss_nil)
      (pss_one (ps_ret pe_non))))), ?_⟩
    have lx : (xs.map V.int).length = xs.length := List.length_map _
    have lz : (zs.map V.int).length = zs.length := List.length_map _
    have ly : (ys.map V.int).length = ys.length := List.length_map _
    have bad1 : (xs.length < 2 ∨ 24 < xs.length) → NewInts H [2, 0] Q := fun c => by rw [fos, if_pos c] at k; exact k
    have bad2 : ¬ (xs.length < 2 ∨ 24 < xs.length) → (zs.length < 2 ∨ 16 < zs.length) → NewInts H [2, 1] Q := fun c c2 => by rw [fos, if_neg c, if_pos c2] at k; exact k
    have bad3 : ¬ (xs.length < 2 ∨ 24 < xs.length) → ¬ (zs.length < 2 ∨ 16 < zs.length) → ys.length ≠ xs.length * zs.length → NewInts H [1, (ys.length : Int)] Q := fun c c2 c3 => by rw [fos, if_neg c, if_neg c2, if_pos c3] at k; exact k
    have good : ¬ (xs.length < 2 ∨ 24 < xs.length) → ¬ (zs.length < 2 ∨ 16 < zs.length) → ys.length = xs.length * zs.length → ∀ H' : Hp, Same H H' → Q .non H' := fun c c2 c3 => by rw [fos, if_neg c, if_neg c2, if_neg (fun z => z c3)] at k; exact k
    refine ⟨_, rfl, _, _, rfl, .inl hA, _, _, rfl, rfl, _, rfl, ite2 (fun c1 => ⟨_, _, rfl, rfl, _, rfl, ite2 (fun c2 => ?_) (fun c2 => ?_)⟩) (fun c1 => ⟨_, rfl, iteT ?_⟩)⟩
    all_goals simp only [lx] at *
    · refine ⟨(by show 2 ≤ sizeLine; decide), fun r hr' => ?_⟩
      exact bad1 (by simp at c1 c2; omega) _ r ((Same.refl H).new hr') hr' upd_same
    · have n1 : ¬ (xs.length < 2 ∨ 24 < xs.length) := by simp at c1 c2; omega
      refine ⟨_, rfl, _, _, rfl, .inl hB, _, _, rfl, rfl, _, rfl, ite2 (fun c3 => ⟨_, _, rfl, rfl, _, rfl, ite2 (fun c4 => ?_) (fun c4 => ?_)⟩) (fun c3 => ⟨_, rfl, iteT ?_⟩)⟩
      all_goals simp only [lz] at *
      · refine ⟨(by show 2 ≤ sizeLine; decide), fun r hr' => ?_⟩
        exact bad2 n1 (by simp at c3 c4; omega) _ r ((Same.refl H).new hr') hr' upd_same
      · have n2 : ¬ (zs.length < 2 ∨ 16 < zs.length) := by simp at c3 c4; omega
        refine ⟨_, rfl, _, _, rfl, .inl hC, _, rfl, _, _, rfl, .inl hA, _, rfl, _, _, rfl, .inl hB, _, _, rfl, rfl, .inl ⟨by simp only [List.length_map]; omega, by simp only [List.length_map]; omega⟩, rfl, _, rfl, ite2 (fun c5 => ?_) (fun c5 => ?_)⟩
        · refine ⟨_, rfl, _, _, rfl, .inl hC, (by show 2 ≤ sizeLine; decide), fun r hr' => ?_⟩
          have n3 : ys.length ≠ xs.length * zs.length := fun e => by
            simp only [List.length_map, e, Int.natCast_mul] at c5
            simp at c5
          exact bad3 n1 n2 n3 _ r ((Same.refl H).new hr') hr' (by rw [upd_same, List.length_map]; rfl)
        · have n3 : ys.length = xs.length * zs.length := by
            simp only [List.length_map] at c5
            simp at c5
            have e : (ys.length : Int) = ((xs.length * zs.length : Nat) : Int) := by rw [Int.natCast_mul]; exact c5
            exact Int.ofNat.inj e
          exact good n1 n2 n3 H (Same.refl H)
      · refine ⟨(by show 2 ≤ sizeLine; decide), fun r hr' => ?_⟩
        exact bad2 n1 (by simp at c3; omega) _ r ((Same.refl H).new hr') hr' upd_same
    · refine ⟨(by show 2 ≤ sizeLine; decide), fun r hr' => ?_⟩
      exact bad1 (by simp at c1; omega) _ r ((Same.refl H).new hr') hr' upd_same
end FL

end
section
set_option Elab.async false
set_option linter.all false
set_option maxRecDepth 100000
set_option maxHeartbeats 4000000
namespace FL
open PySem PySem.Spec PyProof.Rows L2
variable {P : Program} {w : World} {K : PySem.W.Frag} {mg : Str → Option Value} {base : Heap} {t : Adr}
def verd (xs zs ys : List Int) : Int × Int :=
  match fos xs.length zs.length ys.length with
  | some u => u
  | none => match fnr 0 xs 0 with
    | some i => (3, (i : Int))
    | none => match fnr (-1048575) zs 0 with
      | some i => (4, (i : Int))
      | none => match fnb ys 0 with
        | some i => (5, (i : Int))
        | none => (0, 0)
def sp_verdict_on (K : PySem.W.Frag) : Sp := fun vs H Q _ => ∃ (a b c : Addr) (xs zs ys : List Int), vs = [.ref a, .ref b, .ref c] ∧ SqL K H a (xs.map V.int) ∧ SqL K H b (zs.map V.int) ∧ SqL K H c (ys.map V.int) ∧ NewInts H [(verd xs zs ys).1, (verd xs zs ys).2] Q
theorem NewInts.mono {H H1 : Hp} {l : List Int} {Q : VK} (h : NewInts H l Q) (s : Same H H1) : NewInts H1 l Q := fun H' r s' hr e => h H' r (s.trans s') (s.free hr) e
theorem NewInts.lst2 {H : Hp} {p q : Int} {Q : VK} (h : NewInts H [p, q] Q) : 2 ≤ sizeLine ∧ ∀ r, H r = none → Q (.ref r) (upd H r (.lst [.int p, .int q])) := ⟨by decide, fun r hr => h _ r ((Same.refl H).new hr) hr upd_same⟩
theorem ok_verdict_on (T : Txt K mg t) : FnOk P w K mg base CX0 2 t.f_verdict_on t.d_verdict_on ["places", "heights", "half_breadths"] (sp_verdict_on K) := by
  refine T.fn_verdict_on.ok sc_verdict_on (fun vs H Q E h => ?_) (fun cdv A outer s H vs Q E hr h => ?_)
  · obtain ⟨a, b, c, xs, zs, ys, rfl, _⟩ := h
    rfl
  · obtain ⟨a, b, c, xs, zs, ys, rfl, hA, hB, hC, k⟩ := h
    refine ⟨_, (pss_cons (ps_set (i := 3) sc_verdict_on.nd rfl (Or.inl rfl) (pe_call (ok_fault_of_sizes T) hr rfl T.m_fault_of_sizes T.fn_fault_of_sizes.kp T.b_fault_of_sizes .nil pass0 (pa_cons (pv 0) (pa_cons (pv 1) (pa_cons (pv 2) pa_nil)))))
      (pss_cons (ps_if (pt_cmp (pc_notN (pv 3))) (pss_one (ps_ret (pv 3))) pss_nil)
      (pss_cons (ps_set (i := 4) sc_verdict_on.nd rfl (Or.inl rfl) (pe_call (ok_first_not_rising T) hr rfl T.m_first_not_rising T.fn_first_not_rising.kp T.b_first_not_rising .nil pass0 (pa_cons (pv 0) (pa_cons pe_int pa_nil))))
      (pss_cons (ps_if (pt_cmp (pc_notN (pv 4))) (pss_one (ps_ret (pe_lst (pa_cons (pe_gint rfl T.g_WRONG_PLACE) (pa_cons (pv 4) pa_nil))))) pss_nil)
      (pss_cons (ps_set (i := 5) sc_verdict_on.nd rfl (Or.inl rfl) (pe_call (ok_first_not_rising T) hr rfl T.m_first_not_rising T.fn_first_not_rising.kp T.b_first_not_rising .nil pass0 (pa_cons (pv 1) (pa_cons (pe_un un_neg (pe_gint rfl T.g_GREATEST)) pa_nil))))
      (pss_cons (ps_if (pt_cmp (pc_notN (pv 5))) (pss_one (ps_ret (pe_lst (pa_cons (pe_gint rfl T.g_WRONG_HEIGHT) (pa_cons (pv 5) pa_nil))))) pss_nil)
      (pss_cons (ps_set (i := 6) sc_verdict_on.nd rfl (Or.inl rfl) (pe_call (ok_first_beyond T) hr rfl T.m_first_beyond T.fn_first_beyond.kp T.b_first_beyond .nil pass0 (pa_cons (pv 2) (pa_cons (pe_gint rfl T.g_GREATEST) pa_nil))))
      (pss_cons (ps_if (pt_cmp (pc_notN (pv 6))) (pss_one (ps_ret (pe_lst (pa_cons (pe_gint rfl T.g_WRONG_BREADTH) (pa_cons (pv 6) pa_nil))))) pss_nil)
      (pss_one (ps_ret (pe_lst (pa_cons (pe_gint rfl T.g_TAKEN) (pa_cons pe_int pa_nil))))))))))))), ?_⟩
    refine ⟨_, rfl, _, rfl, _, rfl, a, b, c, xs, zs, ys, rfl, hA, hB, hC, ?_⟩
    cases e : fos xs.length zs.length ys.length with
    | some u =>
      unfold verd at k
      rw [e] at k
      intro H' r s' hn hr'
      exact ⟨_, rfl, _, rfl, iteT ⟨_, rfl, k H' r s' hn hr'⟩⟩
    | none =>
      intro H1 s1
      refine ⟨_, rfl, _, rfl, iteF ?_⟩
      refine ⟨_, rfl, a, xs, 0, rfl, s1.seq hA, fun H2 s2 => ?_⟩
      have s12 := s1.trans s2
      cases e2 : fnr 0 xs 0 with
      | some i =>
        unfold verd at k
        rw [e] at k
        simp only [e2] at k
        exact ⟨_, rfl, _, rfl, iteT ⟨_, rfl, (k.mono s12).lst2⟩⟩
      | none =>
        refine ⟨_, rfl, _, rfl, iteF ?_⟩
        refine ⟨_, rfl, _, rfl, b, zs, (-1048575), rfl, s12.seq hB, fun H3 s3 => ?_⟩
        have s13 := s12.trans s3
        cases e3 : fnr (-1048575) zs 0 with
        | some i =>
          unfold verd at k
          rw [e] at k
          simp only [e2, e3] at k
          exact ⟨_, rfl, _, rfl, iteT ⟨_, rfl, (k.mono s13).lst2⟩⟩
        | none =>
          refine ⟨_, rfl, _, rfl, iteF ?_⟩
          refine ⟨_, rfl, c, ys, 1048575, rfl, s13.seq hC, fun H4 s4 => ?_⟩
          rw [fnbM_eq]
          have s14 := s13.trans s4
          cases e4 : fnb ys 0 with
          | some i =>
            unfold verd at k
            rw [e] at k
            simp only [e2, e3, e4] at k
            exact ⟨_, rfl, _, rfl, iteT ⟨_, rfl, (k.mono s14).lst2⟩⟩
          | none =>
            unfold verd at k
            rw [e] at k
            simp only [e2, e3, e4] at k
            exact ⟨_, rfl, _, rfl, iteF (k.mono s14).lst2⟩
end FL

end
section
set_option Elab.async false
set_option linter.all false
set_option maxRecDepth 100000
set_option maxHeartbeats 4000000
namespace FL
open PySem PySem.Spec PyProof.Rows L2
variable {P : Program} {w : World} {K : PySem.W.Frag} {mg : Str → Option Value} {base : Heap} {t : Adr}
def tf (pa ha ba : Addr) : List (Str × V) := [("places", .ref pa), ("heights", .ref ha), ("half_breadths", .ref ba)]
theorem tf_pl (pa ha ba : Addr) : (tf pa ha ba).lookup ("places" : Str) = some (V.ref pa) := by rfl
theorem tf_he (pa ha ba : Addr) : (tf pa ha ba).lookup ("heights" : Str) = some (V.ref ha) := by rfl
theorem tf_hb (pa ha ba : Addr) : (tf pa ha ba).lookup ("half_breadths" : Str) = some (V.ref ba) := by rfl
structure TabAt (C : Addr) (H : Hp) (p : Addr) (xs zs ys : List Int) (ba : Addr) : Prop where
  ex : ∃ dx pa ha, H p = some (.ins C dx (tf pa ha ba)) ∧ H pa = some (.lst (xs.map V.int)) ∧ H ha = some (.lst (zs.map V.int)) ∧ pa ≠ ba ∧ ha ≠ ba
  hb : H ba = some (.lst (ys.map V.int))
theorem TabAt.same {C : Addr} {H H' : Hp} {p : Addr} {xs zs ys : List Int} {ba : Addr} (h : TabAt C H p xs zs ys ba) (s : Same H H') : TabAt C H' p xs zs ys ba := by
  obtain ⟨⟨dx, pa, ha, h1, h2, h3, n1, n2⟩, h4⟩ := h
  exact ⟨⟨dx, pa, ha, s _ _ h1, s _ _ h2, s _ _ h3, n1, n2⟩, s _ _ h4⟩
theorem ne_sym {α : Sort _} {a b : α} (h : a ≠ b) : b ≠ a := fun e => h e.symm
def sp_Table___init__ (K : PySem.W.Frag) (C : Addr) : Sp := fun vs H Q _ => ∃ (p dx a b c : Addr) (xs zs ys : List Int), vs = [.ref p, .ref a, .ref b, .ref c] ∧ H p = some (.ins C dx []) ∧ SqL K H a (xs.map V.int) ∧ SqL K H b (zs.map V.int) ∧ SqL K H c (ys.map V.int) ∧
  ∀ (H' : Hp) (ba : Addr), TabAt C H' p xs zs ys ba → (∃ dx pa ha, H' p = some (.ins C dx (tf pa ha ba)) ∧ H pa = none ∧ H ha = none ∧ H ba = none) → (∀ b o, H b = some o → b ≠ p → H' b = some o) → Q .non H'
theorem upd_keep {H H' : Hp} {p q : Addr} {o : HO} (k : ∀ b u, H b = some u → b ≠ p → H' b = some u) (hq : H' q = none) : ∀ b u, H b = some u → b ≠ p → upd H' q o b = some u := fun b u e n => by
  have e' := k b u e n
  rw [upd_ne (ne_of_none e' hq)]
  exact e'
theorem upd_keep2 {H H' : Hp} {p : Addr} {o : HO} (k : ∀ b u, H b = some u → b ≠ p → H' b = some u) : ∀ b u, H b = some u → b ≠ p → upd H' p o b = some u := fun b u e n => by
  rw [upd_ne n]
  exact k b u e n
theorem SqL.keep {K : PySem.W.Frag} {H H' : Hp} {p a : Addr} {xs : List V} {C dx : Addr} {fs : List (Str × V)} (hp : H p = some (.ins C dx fs)) (k : ∀ b u, H b = some u → b ≠ p → H' b = some u) (h : SqL K H a xs) : SqL K H' a xs := by
  rcases h with (h | ⟨o, h⟩) | h
  · exact .inl (.inl (k _ _ h (ne_of h hp (by intro z; cases z))))
  · exact .inl (.inr ⟨o, k _ _ h (ne_of h hp (by intro z; cases z))⟩)
  · exact .inr h
theorem ok_Table___init__ (T : Txt K mg t) : FnOk P w K mg base CX0 1 t.f_Table___init__ t.d_Table___init__ ["self", "places", "heights", "half_breadths"] (sp_Table___init__ K t.c_Table) := by
  refine T.fn_Table___init__.ok sc_Table___init__ (fun vs H Q E h => ?_) (fun cdv A outer s H vs Q E hr h => ?_)
  · obtain ⟨p, dx, a, b, c, xs, zs, ys, rfl, _⟩ := h
    rfl
  · obtain ⟨p, dx, a, b, c, xs, zs, ys, rfl, hp, hA, hB, hC, k⟩ := h
    refine ⟨_, (pss_cons (ps_fld (pv 0) (pe_callTy call_list_of rfl T.n_list b_list (pa_cons (pv 1) pa_nil)) rfl)
      (pss_cons (ps_fld (pv 0) (pe_callTy call_list_of rfl T.n_list b_list (pa_cons (pv 2) pa_nil)) rfl)
      (pss_one (ps_fld (pv 0) (pe_callTy call_list_of rfl T.n_list b_list (pa_cons (pv 3) pa_nil)) rfl)))), ?_⟩
    refine ⟨_, rfl, _, _, rfl, .inl hA, fun pa na => ⟨_, rfl, p, t.c_Table, dx, _, rfl, (by rw [upd_ne (ne_of_none hp na)]; exact hp), T.cl_Table, T.na_Table_places, (by show 0 < 1000; decide), ?_⟩⟩
    have k0 : ∀ b u, H b = some u → b ≠ p → H b = some u := fun _ _ e _ => e
    have npa : pa ≠ p := ne_sym (ne_of_none hp na)
    generalize hH1 : upd (upd H pa (.lst (xs.map V.int))) p (.ins t.c_Table dx (putF "places" (.ref pa) [])) = H1
    have k1 : ∀ b u, H b = some u → b ≠ p → H1 b = some u := by rw [← hH1]; exact upd_keep2 (upd_keep k0 na)
    have p1 : H1 p = some (.ins t.c_Table dx (putF "places" (.ref pa) [])) := by rw [← hH1]; exact upd_same
    have a1 : H1 pa = some (.lst (xs.map V.int)) := by rw [← hH1, upd_ne npa]; exact upd_same
    refine ⟨_, rfl, _, _, rfl, .inl (SqL.keep hp k1 hB), fun ha nb => ⟨_, rfl, p, t.c_Table, dx, _, rfl, (by rw [upd_ne (ne_of_none p1 nb)]; exact p1), T.cl_Table, T.na_Table_heights, (by show 1 < 1000; decide), ?_⟩⟩
    have nhp : ha ≠ p := ne_sym (ne_of_none p1 nb)
    have nha : pa ≠ ha := ne_of_none a1 nb
    generalize hH2 : upd (upd H1 ha (.lst (zs.map V.int))) p (.ins t.c_Table dx (putF "heights" (.ref ha) (putF "places" (.ref pa) []))) = H2
    have k2 : ∀ b u, H b = some u → b ≠ p → H2 b = some u := by rw [← hH2]; exact upd_keep2 (upd_keep k1 nb)
    have p2 : H2 p = some (.ins t.c_Table dx (putF "heights" (.ref ha) (putF "places" (.ref pa) []))) := by rw [← hH2]; exact upd_same
    have a2 : H2 pa = some (.lst (xs.map V.int)) := by rw [← hH2, upd_ne npa, upd_ne nha]; exact a1
    have b2 : H2 ha = some (.lst (zs.map V.int)) := by rw [← hH2, upd_ne nhp]; exact upd_same
    refine ⟨_, rfl, _, _, rfl, .inl (SqL.keep hp k2 hC), fun ba nc => ⟨_, rfl, p, t.c_Table, dx, _, rfl, (by rw [upd_ne (ne_of_none p2 nc)]; exact p2), T.cl_Table, T.na_Table_half_breadths, (by show 2 < 1000; decide), ?_⟩⟩
    have nbp : ba ≠ p := ne_sym (ne_of_none p2 nc)
    have nba : pa ≠ ba := ne_of_none a2 nc
    have nbh : ha ≠ ba := ne_of_none b2 nc
    have fr : ∀ {b : Addr} {H'' : Hp}, (∀ b u, H b = some u → b ≠ p → H'' b = some u) → H'' b = none → b ≠ p → H b = none := fun {b H''} k h n => by
      cases e : H b with
      | none => rfl
      | some o => rw [k b o e n] at h; cases h
    refine k _ ba ⟨⟨dx, pa, ha, upd_same, ?_, ?_, nba, nbh⟩, ?_⟩ ⟨dx, pa, ha, upd_same, na, fr k1 nb nhp, fr k2 nc nbp⟩ (upd_keep2 (upd_keep k2 nc))
    · rw [upd_ne npa, upd_ne nba]; exact a2
    · rw [upd_ne nhp, upd_ne nbh]; exact b2
    · rw [upd_ne nbp]; exact upd_same
def sp_Table_line_count (C : Addr) : Sp := fun vs H Q _ => ∃ (p : Addr) (way : Int) (xs zs ys : List Int) (ba : Addr), vs = [.ref p, .int way] ∧ TabAt C H p xs zs ys ba ∧ Q (.int (if way = 0 then (zs.length : Int) else (xs.length : Int))) H
theorem ok_Table_line_count (T : Txt K mg t) : FnOk P w K mg base CX0 1 t.f_Table_line_count t.d_Table_line_count ["self", "way"] (sp_Table_line_count t.c_Table) := by
  refine T.fn_Table_line_count.ok sc_Table_line_count (fun vs H Q E h => ?_) (fun cdv A outer s H vs Q E hr h => ?_)
  · obtain ⟨p, way, xs, zs, ys, ba, rfl, _⟩ := h
    rfl
  · obtain ⟨p, way, xs, zs, ys, ba, rfl, ⟨⟨dx, pa, ha, h1, h2, h3, n1, n2⟩, h4⟩, k⟩ := h
    refine ⟨_, (pss_one (ps_ret (pe_ifExp (pt_cmpR op_eq (pv 1) pe_int (nomark _)) (pe_callB call_lenS rfl T.n_len PySem.boot_len (pa_cons (pe_fld (pv 0) rfl) pa_nil)) (pe_callB call_lenS rfl T.n_len PySem.boot_len (pa_cons (pe_fld (pv 0) rfl) pa_nil))))), ?_⟩
    refine ⟨_, rfl, rfl, _, rfl, ite2 (fun c => ?_) (fun c => ?_)⟩
    · have c' : way = 0 := by simpa using c
      rw [if_pos c'] at k
      refine ⟨_, rfl, p, _, dx, _, _, rfl, h1, T.cl_Table, T.na_Table_heights, tf_he _ _ _, _, _, rfl, .inl (SqL.of h3), ?_⟩
      rw [List.length_map]
      exact k
    · have c' : ¬ way = 0 := by simpa using c
      rw [if_neg c'] at k
      refine ⟨_, rfl, p, _, dx, _, _, rfl, h1, T.cl_Table, T.na_Table_places, tf_pl _ _ _, _, _, rfl, .inl (SqL.of h2), ?_⟩
      rw [List.length_map]
      exact k
def sp_Table_nail_xs (C : Addr) : Sp := fun vs H Q _ => ∃ (p : Addr) (way : Int) (xs zs ys : List Int) (ba : Addr), vs = [.ref p, .int way] ∧ TabAt C H p xs zs ys ba ∧ NewInts H (if way = 0 then xs else zs) Q
theorem ok_Table_nail_xs (T : Txt K mg t) : FnOk P w K mg base CX0 1 t.f_Table_nail_xs t.d_Table_nail_xs ["self", "way"] (sp_Table_nail_xs t.c_Table) := by
  refine T.fn_Table_nail_xs.ok sc_Table_nail_xs (fun vs H Q E h => ?_) (fun cdv A outer s H vs Q E hr h => ?_)
  · obtain ⟨p, way, xs, zs, ys, ba, rfl, _⟩ := h
    rfl
  · obtain ⟨p, way, xs, zs, ys, ba, rfl, ⟨⟨dx, pa, ha, h1, h2, h3, n1, n2⟩, h4⟩, k⟩ := h
    refine ⟨_, (pss_one (ps_ret (pe_ifExp (pt_cmpR op_eq (pv 1) pe_int (nomark _)) (pe_callTy call_list_of rfl T.n_list b_list (pa_cons (pe_fld (pv 0) rfl) pa_nil)) (pe_callTy call_list_of rfl T.n_list b_list (pa_cons (pe_fld (pv 0) rfl) pa_nil))))), ?_⟩
    refine ⟨_, rfl, rfl, _, rfl, ite2 (fun c => ?_) (fun c => ?_)⟩
    · have c' : way = 0 := by simpa using c
      rw [if_pos c'] at k
      exact ⟨_, rfl, p, _, dx, _, _, rfl, h1, T.cl_Table, T.na_Table_places, tf_pl _ _ _, _, _, rfl, .inl (SqL.of h2), fun l hl => k _ l ((Same.refl H).new hl) hl upd_same⟩
    · have c' : ¬ way = 0 := by simpa using c
      rw [if_neg c'] at k
      exact ⟨_, rfl, p, _, dx, _, _, rfl, h1, T.cl_Table, T.na_Table_heights, tf_he _ _ _, _, _, rfl, .inl (SqL.of h3), fun l hl => k _ l ((Same.refl H).new hl) hl upd_same⟩
def spotsL (way k : Int) (n m : Nat) : List Int := if way = 0 then (List.range n).map (fun (i : Nat) => k * n + i) else (List.range m).map (fun (j : Nat) => j * n + k)
theorem range_take {α : Type} (f : Nat → α) (n i : Nat) (h : i < n) : ((List.range n).map f).take (i + 1) = ((List.range n).map f).take i ++ [f i] := by
  rw [List.take_add_one]
  congr 1
  rw [List.getElem?_map, List.getElem?_range h]
  rfl
def sp_Table_spots (C : Addr) : Sp := fun vs H Q _ => ∃ (p : Addr) (way k : Int) (xs zs ys : List Int) (ba : Addr), vs = [.ref p, .int way, .int k] ∧ TabAt C H p xs zs ys ba ∧ xs.length ≤ 24 ∧ zs.length ≤ 16 ∧ NewInts H (spotsL way k xs.length zs.length) Q
theorem ok_Table_spots (T : Txt K mg t) : FnOk P w K mg base CX0 1 t.f_Table_spots t.d_Table_spots ["self", "way", "k"] (sp_Table_spots t.c_Table) := by
  refine T.fn_Table_spots.ok sc_Table_spots (fun vs H Q E h => ?_) (fun cdv A outer s H vs Q E hr h => ?_)
  · obtain ⟨p, way, k, xs, zs, ys, ba, rfl, _⟩ := h
    rfl
  · obtain ⟨p, way, k, xs, zs, ys, ba, rfl, ⟨⟨dx, pa, ha, h1, h2, h3, n1, n2⟩, h4⟩, lx, lz, q⟩ := h
    refine ⟨_, (pss_cons (ps_set (i := 3) sc_Table_spots.nd rfl (Or.inr rfl) (pe_callB call_lenS rfl T.n_len PySem.boot_len (pa_cons (pe_fld (pv 0) rfl) pa_nil)))
      (pss_cons (ps_if (pt_cmpR op_eq (pv 1) pe_int (nomark _)) (pss_one (ps_ret (pe_lc rfl sc_Table_spots.nd (pi_range1 rfl T.n_range (pa_cons (pv 3) pa_nil)) (own := [("station", 4)]) (blkOk_by (by rfl)) (fun _ _ _ _ _ => (pg_name (i := 4) sc_Table_spots.nd rfl (Or.inl rfl))) (fun _ _ _ _ _ => pts_nil) (fun _ _ _ _ _ => (pe_op op_add (pe_op op_mul (pv 2) (pv 3)) (pv 4)))))) pss_nil)
      (pss_one (ps_ret (pe_lc rfl sc_Table_spots.nd (pi_range1 rfl T.n_range (pa_cons (pe_callB call_lenS rfl T.n_len PySem.boot_len (pa_cons (pe_fld (pv 0) rfl) pa_nil)) pa_nil)) (own := [("level", 5)]) (blkOk_by (by rfl)) (fun _ _ _ _ _ => (pg_name (i := 5) sc_Table_spots.nd rfl (Or.inl rfl))) (fun _ _ _ _ _ => pts_nil) (fun _ _ _ _ _ => (pe_op op_add (pe_op op_mul (pv 5) (pv 3)) (pv 2)))))))), ?_⟩
    refine ⟨_, rfl, p, _, dx, _, _, rfl, h1, T.cl_Table, T.na_Table_places, tf_pl _ _ _, _, _, rfl, .inl (SqL.of h2), ?_⟩
    rw [List.length_map]
    refine ⟨_, rfl, rfl, _, rfl, ite2 (fun c => ?_) (fun c => ?_)⟩
    · have c' : way = 0 := by simpa using c
      have es : spotsL way k xs.length zs.length = (List.range xs.length).map (fun (i : Nat) => k * (xs.length : Int) + i) := if_pos c'
      rw [es] at q
      refine ⟨_, rfl, _, rfl, by omega, by omega, fun D hD => ?_⟩
      refine lc_range (n := xs.length) (fun i H' => Same H H' ∧ H' D = some (.lst ((((List.range xs.length).map (fun (i : Nat) => k * (xs.length : Int) + i)).take i).map V.int))) ⟨(Same.refl H).new hD, upd_same⟩ ?_ ?_
      · rintro i H' hi ⟨s1, e1⟩
        refine ⟨rfl, _, rfl, _, rfl, _, _, rfl, rfl, .inr ⟨by omega, by omega⟩, _, rfl, _, _, rfl, rfl, _, e1, ?_, s1.upd hD, ?_⟩
        · rw [List.length_map, List.length_take, List.length_map, List.length_range]
          exact Nat.lt_of_le_of_lt (Nat.min_le_right _ _) (small1000 (by omega))
        · rw [upd_same, range_take _ _ _ hi, List.map_append]
          rw [Int.zero_add]
          rfl
      · rintro H' ⟨s1, e1⟩
        refine q H' D s1 hD ?_
        rw [e1, List.take_of_length_le (by simp)]
    · have c' : ¬ way = 0 := by simpa using c
      have es : spotsL way k xs.length zs.length = (List.range zs.length).map (fun (j : Nat) => (j : Int) * (xs.length : Int) + k) := if_neg c'
      rw [es] at q
      refine ⟨_, rfl, p, _, dx, _, _, rfl, h1, T.cl_Table, T.na_Table_heights, tf_he _ _ _, _, _, rfl, .inl (SqL.of h3), _, rfl, by rw [List.length_map]; omega, by rw [List.length_map]; omega, fun D hD => ?_⟩
      rw [List.length_map]
      refine lc_range (n := zs.length) (fun i H' => Same H H' ∧ H' D = some (.lst ((((List.range zs.length).map (fun (j : Nat) => (j : Int) * (xs.length : Int) + k)).take i).map V.int))) ⟨(Same.refl H).new hD, upd_same⟩ ?_ ?_
      · rintro i H' hi ⟨s1, e1⟩
        refine ⟨rfl, _, rfl, _, rfl, _, _, rfl, rfl, .inr ⟨by omega, by omega⟩, _, rfl, _, _, rfl, rfl, _, e1, ?_, s1.upd hD, ?_⟩
        · rw [List.length_map, List.length_take, List.length_map, List.length_range]
          exact Nat.lt_of_le_of_lt (Nat.min_le_right _ _) (small1000 (by omega))
        · rw [upd_same, range_take _ _ _ hi, List.map_append]
          rw [Int.zero_add]
          rfl
      · rintro H' ⟨s1, e1⟩
        refine q H' D s1 hD ?_
        rw [e1, List.take_of_length_le (by simp)]
end FL

end
section
set_option Elab.async false
set_option linter.all false
set_option maxRecDepth 100000
set_option maxHeartbeats 4000000
namespace FL
open PySem PySem.Spec PyProof.Rows L2
variable {P : Program} {w : World} {K : PySem.W.Frag} {mg : Str → Option Value} {base : Heap} {t : Adr}
theorem take_snoc {α : Type} {l : List α} {i : Nat} {x : α} (h : l[i]? = some x) : l.take (i + 1) = l.take i ++ [x] := by
  rw [List.take_add_one, h]
  rfl
theorem lt_of_get {α : Type} {l : List α} {i : Nat} {x : α} (h : l[i]? = some x) : i < l.length := (List.getElem?_eq_some_iff.mp h).1
theorem len_ints {l : List Int} {i : Nat} (h : l.length ≤ 1000) : ((l.take i).map V.int).length < sizeLine := by
  rw [List.length_map, List.length_take]
  exact Nat.lt_of_le_of_lt (Nat.min_le_right _ _) (small1000 h)
def atL (ys : List Int) (s : Int) : Int := ys.getD s.toNat 0
theorem atL_get {ys : List Int} {s : Int} (h0 : 0 ≤ s) (h1 : s < ys.length) : atI (ys.map V.int) s = some (.int (atL ys s)) := by
  obtain ⟨j, rfl⟩ := Int.eq_ofNat_of_zero_le h0
  have hj : j < ys.length := by omega
  refine atI_nat (get_map ?_)
  unfold atL
  rw [Int.toNat_natCast, List.getD_eq_getElem?_getD, List.getElem?_eq_getElem hj]
  rfl
theorem spots_len (way k : Int) (n m : Nat) : (spotsL way k n m).length ≤ n + m := by
  unfold spotsL
  split <;> simp
def InSpots (way k : Int) (n m l : Nat) : Prop := ∀ s ∈ spotsL way k n m, 0 ≤ s ∧ s < (l : Int)
def sp_Table_nail_ys (C : Addr) : Sp := fun vs H Q _ => ∃ (p : Addr) (way k : Int) (xs zs ys : List Int) (ba : Addr), vs = [.ref p, .int way, .int k] ∧ TabAt C H p xs zs ys ba ∧ xs.length ≤ 24 ∧ zs.length ≤ 16 ∧ InSpots way k xs.length zs.length ys.length ∧
  NewInts H ((spotsL way k xs.length zs.length).map (atL ys)) Q
theorem ok_Table_nail_ys (T : Txt K mg t) : FnOk P w K mg base CX0 2 t.f_Table_nail_ys t.d_Table_nail_ys ["self", "way", "k"] (sp_Table_nail_ys t.c_Table) := by
  refine T.fn_Table_nail_ys.ok sc_Table_nail_ys (fun vs H Q E h => ?_) (fun cdv A outer s H vs Q E hr h => ?_)
  · obtain ⟨p, way, k, xs, zs, ys, ba, rfl, _⟩ := h
    rfl
  · obtain ⟨p, way, k, xs, zs, ys, ba, rfl, tb, lx, lz, ins, q⟩ := h
    obtain ⟨⟨dx, pa, ha, h1, h2, h3, n1, n2⟩, h4⟩ := id tb
    refine ⟨_, (pss_one (ps_ret (pe_lc rfl sc_Table_nail_ys.nd (pi_list (pe_meth (pv 0) T.cl_Table T.mt_Table_spots (ok_Table_spots T) hr T.b_Table_spots .nil pass0 (pa_cons (pv 1) (pa_cons (pv 2) pa_nil)))) (own := [("spot", 3)]) (te := (tOp (rIxL K) (tFld K _ "half_breadths") _)) (blkOk_by (by rfl)) (fun _ _ _ _ _ => (pg_name (i := 3) sc_Table_nail_ys.nd rfl (Or.inl rfl))) (fun _ _ _ _ _ => pts_nil) (fun _ _ _ _ _ => (pe_ix ix_list (pe_fld (pv 0) rfl) (pv 3) (fun _ _ => rfl)))))), ?_⟩
    refine ⟨_, rfl, p, dx, _, rfl, h1, rfl, _, rfl, _, rfl, p, way, k, xs, zs, ys, ba, rfl, tb, lx, lz, fun H1 r s1 nr e1 => ⟨r, rfl, ⟨_, SqL.of e1⟩, fun D hD => ?_⟩⟩
    have sl := spots_len way k xs.length zs.length
    refine lc_list (K := K) (a := r) (xs := (spotsL way k xs.length zs.length).map V.int) (fun i H' => Same H1 H' ∧ H' D = some (.lst ((((spotsL way k xs.length zs.length).map (atL ys)).take i).map V.int))) ⟨(Same.refl H1).new hD, upd_same⟩
      (fun i H' _ ⟨s2, _⟩ => SqL.of (s2 _ _ e1)) ?_ ?_
    · rintro i x H' hi ⟨s2, e2⟩
      obtain ⟨z, hz, rfl⟩ := get_int hi
      obtain ⟨z0, z1⟩ := ins z (List.mem_of_getElem? hz)
      have s12 := s1.trans s2
      refine ⟨rfl, _, rfl, p, _, dx, _, _, rfl, s12 _ _ h1, T.cl_Table, T.na_Table_half_breadths, tf_hb _ _ _, _, rfl, _, _, _, _, rfl, rfl, SqL.of (s12 _ _ h4), atL_get z0 z1, _, e2, len_ints (by rw [List.length_map]; omega), s2.upd hD, ?_⟩
      rw [upd_same, take_snoc (x := atL ys z) (by rw [List.getElem?_map, hz]; rfl), List.map_append]
      rfl
    · rintro H' ⟨s2, e2⟩
      refine q H' D (s1.trans s2) (s1.free hD) ?_
      rw [e2, List.take_of_length_le (by simp)]
def putL (ys : List Int) : List (Int × Int) → List Int
  | [] => ys
  | u :: r => putL (ys.set u.1.toNat u.2) r
theorem putL_snoc : ∀ (l : List (Int × Int)) (ys : List Int) (u : Int × Int), putL ys (l ++ [u]) = (putL ys l).set u.1.toNat u.2
  | [], _, _ => rfl
  | v :: l, ys, u => by
    show putL (ys.set v.1.toNat v.2) (l ++ [u]) = _
    rw [putL_snoc l]
    rfl
theorem putL_len : ∀ (l : List (Int × Int)) (ys : List Int), (putL ys l).length = ys.length
  | [], _ => rfl
  | v :: l, ys => by
    show (putL (ys.set v.1.toNat v.2) l).length = _
    rw [putL_len l, List.length_set]
def SameBut (ba : Addr) (H H' : Hp) : Prop := ∀ b o, H b = some o → b ≠ ba → H' b = some o
theorem map_set (ys : List Int) (j : Nat) (v : Int) : (ys.map V.int).set j (.int v) = (ys.set j v).map V.int := by
  rw [List.map_set]
theorem zip_get {α β : Type} {l : List α} {r : List β} {i : Nat} {x : α} {y : β} (h : l[i]? = some x) (h' : r[i]? = some y) : (l.zip r)[i]? = some (x, y) := by
  rw [List.getElem?_zip_eq_some]
  exact ⟨h, h'⟩
theorem ixN_nat {n j : Nat} (h : j < n) : ixN n (j : Int) = some j := by
  unfold ixN
  rw [if_pos (by omega), if_pos (by omega), Int.toNat_natCast]
def sp_Table_put_ys (K : PySem.W.Frag) (C : Addr) : Sp := fun vs H Q _ => ∃ (p c : Addr) (way k : Int) (xs zs ys us : List Int) (ba : Addr), vs = [.ref p, .int way, .int k, .ref c] ∧ TabAt C H p xs zs ys ba ∧ SqL K H c (us.map V.int) ∧ c ≠ ba ∧ xs.length ≤ 24 ∧ zs.length ≤ 16 ∧
  InSpots way k xs.length zs.length ys.length ∧ (spotsL way k xs.length zs.length).length = us.length ∧
  ∀ H' : Hp, TabAt C H' p xs zs (putL ys ((spotsL way k xs.length zs.length).zip us)) ba → SameBut ba H H' → Q .non H'
theorem SqL.but {K : PySem.W.Frag} {H H' : Hp} {c ba : Addr} {xs : List V} (s : SameBut ba H H') (hc : c ≠ ba) (h : SqL K H c xs) : SqL K H' c xs := by
  rcases h with (h | ⟨o, h⟩) | h
  · exact .inl (.inl (s _ _ h hc))
  · exact .inl (.inr ⟨o, s _ _ h hc⟩)
  · exact .inr h
theorem ok_Table_put_ys (T : Txt K mg t) : FnOk P w K mg base CX0 2 t.f_Table_put_ys t.d_Table_put_ys ["self", "way", "k", "ys"] (sp_Table_put_ys K t.c_Table) := by
  refine T.fn_Table_put_ys.ok sc_Table_put_ys (fun vs H Q E h => ?_) (fun cdv A outer s H vs Q E hr h => ?_)
  · obtain ⟨p, c, way, k, xs, zs, ys, us, ba, rfl, _⟩ := h
    rfl
  · obtain ⟨p, c, way, k, xs, zs, ys, us, ba, rfl, tb, hC, ncb, lx, lz, ins, el, q⟩ := h
    obtain ⟨⟨dx, pa, ha, h1, h2, h3, n1, n2⟩, h4⟩ := id tb
    refine ⟨_, (pss_one (ps_for PassesOwn.never rfl (pi_zip rfl T.n_zip (pa_cons (pe_meth (pv 0) T.cl_Table T.mt_Table_spots (ok_Table_spots T) hr T.b_Table_spots .nil pass0 (pa_cons (pv 1) (pa_cons (pv 2) pa_nil))) (pa_cons (pv 3) pa_nil))) (pg_tup rfl (pgs_cons (pg_name (i := 4) sc_Table_put_ys.nd rfl (Or.inl rfl)) (pgs_cons (pg_name (i := 5) sc_Table_put_ys.nd rfl (Or.inl rfl)) pgs_nil))) (pss_one (ps_asg (pv 5) (pg_sub (pe_fld (pv 0) rfl) (pv 4) set_list))))), ?_⟩
    refine ⟨_, rfl, p, dx, _, rfl, h1, rfl, _, rfl, _, rfl, p, way, k, xs, zs, ys, ba, rfl, tb, lx, lz, fun H1 r s1 nr e1 => ⟨_, rfl, r, c, _, _, rfl, SqL.of e1, s1.seq hC, ?_⟩⟩
    have npb : p ≠ ba := ne_of h1 h4 (by intro z; cases z)
    have nrb : r ≠ ba := ne_sym (ne_of_none h4 nr)
    refine for_zip (K := K) (a := r) (b := c) (xs := (spotsL way k xs.length zs.length).map V.int) (ys := us.map V.int) (by simpa using el)
      (fun i σ H' => ∃ v4 v5, σ = [some (.ref p), some (.int way), some (.int k), some (.ref c), v4, v5] ∧ SameBut ba H1 H' ∧ H' ba = some (.lst ((putL ys (((spotsL way k xs.length zs.length).zip us).take i)).map V.int)))
      ⟨none, none, rfl, fun b o e _ => e, s1 _ _ h4⟩ (fun i σ H' _ ⟨_, _, _, s2, _⟩ => ⟨SqL.of (s2 _ _ e1 nrb), SqL.but s2 ncb (s1.seq hC)⟩) ?_ ?_
    · rintro i x y σ H' Tp hi hj ⟨v4, v5, rfl, s2, e2⟩ hT
      obtain ⟨z, hz, rfl⟩ := get_int hi
      obtain ⟨u, hu, rfl⟩ := get_int hj
      obtain ⟨z0, z1⟩ := ins z (List.mem_of_getElem? hz)
      obtain ⟨j, rfl⟩ := Int.eq_ofNat_of_zero_le z0
      have hj : j < ys.length := by omega
      have nTb : ba ≠ Tp := ne_of_none e2 hT
      have hp' : H' p = some (.ins t.c_Table dx (tf pa ha ba)) := s2 _ _ (s1 _ _ h1) npb
      refine ⟨Tp, _, rfl, SqT.of upd_same, rfl, _, _, rfl, _, _, rfl, rfl, ?_⟩
      refine ⟨_, rfl, _, rfl, p, _, dx, _, _, rfl, (by rw [upd_ne (ne_of_none hp' hT)]; exact hp'), T.cl_Table, T.na_Table_half_breadths, tf_hb _ _ _, _, rfl, ba, _, _, j, rfl, rfl, (by rw [upd_ne nTb]; exact e2), ixN_nat (by rw [List.length_map, putL_len]; exact hj), _, _, rfl, ?_, ?_⟩
      · intro b o e n
        have e' := s2 b o e n
        rw [upd_ne n, upd_ne (ne_of_none e' hT)]
        exact e'
      · rw [upd_same, map_set, take_snoc (zip_get hz hu), putL_snoc]
        rfl
    · rintro σ H' ⟨v4, v5, rfl, s2, e2⟩
      have sb : SameBut ba H H' := fun b o e n => s2 b o (s1 b o e) n
      refine q H' ⟨⟨dx, pa, ha, sb _ _ h1 npb, sb _ _ h2 n1, sb _ _ h3 n2, n1, n2⟩, ?_⟩ sb
      rw [e2, List.take_of_length_le (by rw [List.length_zip, List.length_map]; exact Nat.min_le_left _ _)]
theorem st_get : ∀ (i : Nat) (xs ys : List Int) {x x1 x2 y y1 y2 : Int}, xs[i]? = some x → xs[i + 1]? = some x1 → xs[i + 2]? = some x2 → ys[i]? = some y → ys[i + 1]? = some y1 → ys[i + 2]? = some y2 →
    (Loft.standings xs ys)[i]? = some (Loft.standing x x1 x2 y y1 y2)
  | 0, a :: b :: c :: r, a' :: b' :: c' :: s, x, x1, x2, y, y1, y2, h1, h2, h3, h4, h5, h6 => by
    simp at h1 h2 h3 h4 h5 h6
    subst h1 h2 h3 h4 h5 h6
    rfl
  | i + 1, a :: b :: c :: r, a' :: b' :: c' :: s, x, x1, x2, y, y1, y2, h1, h2, h3, h4, h5, h6 => by
    have ih := st_get i (b :: c :: r) (b' :: c' :: s) (x := x) (x1 := x1) (x2 := x2) (y := y) (y1 := y1) (y2 := y2) (by simpa using h1) (by simpa using h2) (by simpa using h3) (by simpa using h4) (by simpa using h5) (by simpa using h6)
    show (_ :: Loft.standings (b :: c :: r) (b' :: c' :: s))[i + 1]? = _
    rw [List.getElem?_cons_succ]
    exact ih
  | i, [], _, _, _, _, _, _, _, h1, _, _, _, _, _ => by simp at h1
  | 0, [_], _, _, _, _, _, _, _, _, h2, _, _, _, _ => by simp at h2
  | i + 1, [_], _, _, _, _, _, _, _, h1, _, _, _, _, _ => by simp at h1
  | 0, [_, _], _, _, _, _, _, _, _, _, _, h3, _, _, _ => by simp at h3
  | i + 1, [_, _], _, _, _, _, _, _, _, _, h2, _, _, _, _ => by simp at h2
  | i, _ :: _ :: _ :: _, [], _, _, _, _, _, _, _, _, _, h4, _, _ => by simp at h4
  | 0, _ :: _ :: _ :: _, [_], _, _, _, _, _, _, _, _, _, _, h5, _ => by simp at h5
  | i + 1, _ :: _ :: _ :: _, [_], _, _, _, _, _, _, _, _, _, h4, _, _ => by simp at h4
  | 0, _ :: _ :: _ :: _, [_, _], _, _, _, _, _, _, _, _, _, _, _, h6 => by simp at h6
  | i + 1, _ :: _ :: _ :: _, [_, _], _, _, _, _, _, _, _, _, _, _, h5, _ => by simp at h5
theorem st_len : ∀ (xs ys : List Int), xs.length = ys.length → (Loft.standings xs ys).length = xs.length - 2
  | [], _, _ => rfl
  | [_], _, _ => rfl
  | [_, _], _, _ => rfl
  | _ :: _ :: _ :: _, [], h => by simp at h
  | _ :: _ :: _ :: _, [_], h => by simp at h
  | _ :: _ :: _ :: _, [_, _], h => by simp at h
  | a :: b :: c :: r, a' :: b' :: c' :: s, h => by
    have ih := st_len (b :: c :: r) (b' :: c' :: s) (by simpa using h)
    show (_ :: Loft.standings (b :: c :: r) (b' :: c' :: s)).length = _
    rw [List.length_cons, ih]
    simp
def sp_stands_of (K : PySem.W.Frag) : Sp := fun vs H Q _ => ∃ (a b : Addr) (xs ys : List Int), vs = [.ref a, .ref b] ∧ SqL K H a (xs.map V.int) ∧ SqL K H b (ys.map V.int) ∧ xs.length = ys.length ∧ 2 ≤ xs.length ∧ xs.length ≤ 24 ∧ (∀ y ∈ ys, 0 ≤ y ∧ y ≤ 1048575) ∧
  NewInts H ((Loft.standings xs ys).map LoftFairSeed.standCode) Q
theorem get_lt {l : List Int} {i : Nat} (h : i < l.length) : ∃ z, l[i]? = some z := ⟨l[i], List.getElem?_eq_getElem h⟩
theorem at_nat {l : List Int} {z : Int} {j : Nat} {v : Int} (e : z = (j : Int)) (h : l[j]? = some v) : atI (l.map V.int) z = some (.int v) := at_of e (get_map h)
theorem ok_stands_of (T : Txt K mg t) : FnOk P w K mg base CX0 1 t.f_stands_of t.d_stands_of ["xs", "ys"] (sp_stands_of K) := by
  refine T.fn_stands_of.ok sc_stands_of (fun vs H Q E h => ?_) (fun cdv A outer s H vs Q E hr h => ?_)
  · obtain ⟨a, b, xs, ys, rfl, _⟩ := h
    rfl
  · obtain ⟨a, b, xs, ys, rfl, hA, hB, el, l2, l24, bd, q⟩ := h
    refine ⟨_, (pss_cons (ps_set (i := 2) sc_stands_of.nd rfl (Or.inl rfl) (pe_lst pa_nil))
      (pss_cons (ps_for PassesOwn.never rfl (pi_range2 rfl T.n_range (pa_cons pe_int (pa_cons (pe_op op_sub (pe_callB call_lenS rfl T.n_len PySem.boot_len (pa_cons (pv 0) pa_nil)) pe_int) pa_nil))) (pg_name (i := 3) sc_stands_of.nd rfl (Or.inl rfl)) (pss_cons (ps_set (i := 4) sc_stands_of.nd rfl (Or.inl rfl) (pe_op op_sub (pe_ix ix_list (pv 0) (pv 3) (fun _ _ => rfl)) (pe_ix ix_list (pv 0) (pe_op op_sub (pv 3) pe_int) (fun _ _ => rfl))))
      (pss_cons (ps_set (i := 5) sc_stands_of.nd rfl (Or.inl rfl) (pe_op op_sub (pe_ix ix_list (pv 0) (pe_op op_add (pv 3) pe_int) (fun _ _ => rfl)) (pe_ix ix_list (pv 0) (pv 3) (fun _ _ => rfl))))
      (pss_cons (ps_set (i := 6) sc_stands_of.nd rfl (Or.inl rfl) (pe_op op_sub (pe_op op_mul (pe_op op_sub (pe_ix ix_list (pv 1) (pe_op op_add (pv 3) pe_int) (fun _ _ => rfl)) (pe_ix ix_list (pv 1) (pv 3) (fun _ _ => rfl))) (pv 4)) (pe_op op_mul (pe_op op_sub (pe_ix ix_list (pv 1) (pv 3) (fun _ _ => rfl)) (pe_ix ix_list (pv 1) (pe_op op_sub (pv 3) pe_int) (fun _ _ => rfl))) (pv 5))))
      (pss_one (ps_if (pt_cmpR op_gt (pv 6) pe_int (nomark _)) (pss_one (ps_expr (pe_bm PySem.F.plainAttrs_list PySem.F.slot_list_append PySem.F.type_list_append mt_append (pv 2) (pa_cons (pe_gint rfl T.g_HOLLOW) pa_nil)))) (pss_one (ps_if (pt_cmpR op_lt (pv 6) pe_int (nomark _)) (pss_one (ps_expr (pe_bm PySem.F.plainAttrs_list PySem.F.slot_list_append PySem.F.type_list_append mt_append (pv 2) (pa_cons (pe_gint rfl T.g_FULL) pa_nil)))) (pss_one (ps_expr (pe_bm PySem.F.plainAttrs_list PySem.F.slot_list_append PySem.F.type_list_append mt_append (pv 2) (pa_cons (pe_gint rfl T.g_STRAIGHT) pa_nil))))))))))))
      (pss_one (ps_ret (pv 2))))), ?_⟩
    refine ⟨(by show 0 ≤ sizeLine; decide), fun f hf => ?_⟩
    have s0 : Same H (upd H f (.lst [])) := (Same.refl H).new hf
    refine ⟨_, rfl, _, _, rfl, .inl (s0.seq hA), _, _, rfl, rfl, _, _, rfl, ⟨by decide, by decide, by rw [List.length_map]; omega, by rw [List.length_map]; omega⟩, ?_⟩
    rw [List.length_map]
    have hn : ((xs.length : Int) - 1 - 1).toNat = xs.length - 2 := by omega
    rw [hn]
    refine for_range (n := xs.length - 2) (fun i σ H' => ∃ v3 v4 v5 v6, σ = [some (.ref a), some (.ref b), some (.ref f), v3, v4, v5, v6] ∧ Same H H' ∧ H' f = some (.lst ((((Loft.standings xs ys).map LoftFairSeed.standCode).take i).map V.int)))
      ⟨none, none, none, none, rfl, s0, upd_same⟩ ?_ ?_
    · rintro i σ H' hi ⟨v3, v4, v5, v6, rfl, s1, e1⟩
      obtain ⟨x, hx⟩ := get_lt (l := xs) (i := i) (by omega)
      obtain ⟨x1, hx1⟩ := get_lt (l := xs) (i := i + 1) (by omega)
      obtain ⟨x2, hx2⟩ := get_lt (l := xs) (i := i + 2) (by omega)
      obtain ⟨y, hy⟩ := get_lt (l := ys) (i := i) (by omega)
      obtain ⟨y1, hy1⟩ := get_lt (l := ys) (i := i + 1) (by omega)
      obtain ⟨y2, hy2⟩ := get_lt (l := ys) (i := i + 2) (by omega)
      have b0 := bd y (List.mem_of_getElem? hy)
      have b1 := bd y1 (List.mem_of_getElem? hy1)
      have b2 := bd y2 (List.mem_of_getElem? hy2)
      have hg := st_get i xs ys hx hx1 hx2 hy hy1 hy2
      have sA := s1.seq hA
      have sB := s1.seq hB
      refine ⟨_, rfl, _, rfl, _, _, _, _, rfl, rfl, sA, at_nat (j := i + 1) (by omega) hx1, _, rfl, _, rfl, _, _, rfl, rfl, _, _, _, _, rfl, rfl, sA, at_nat (j := i) (by omega) hx, _, _, rfl, rfl, ?_⟩
      refine ⟨_, rfl, _, rfl, _, _, rfl, rfl, _, _, _, _, rfl, rfl, sA, at_nat (j := i + 2) (by omega) hx2, _, rfl, _, rfl, _, _, _, _, rfl, rfl, sA, at_nat (j := i + 1) (by omega) hx1, _, _, rfl, rfl, ?_⟩
      refine ⟨_, rfl, _, rfl, _, _, rfl, rfl, _, _, _, _, rfl, rfl, sB, at_nat (j := i + 2) (by omega) hy2, _, rfl, _, rfl, _, _, _, _, rfl, rfl, sB, at_nat (j := i + 1) (by omega) hy1, _, _, rfl, rfl, _, rfl, _, _, rfl, rfl, .inl ⟨by omega, by omega⟩, ?_⟩
      refine ⟨_, rfl, _, rfl, _, _, _, _, rfl, rfl, sB, at_nat (j := i + 1) (by omega) hy1, _, rfl, _, rfl, _, _, rfl, rfl, _, _, _, _, rfl, rfl, sB, at_nat (j := i) (by omega) hy, _, _, rfl, rfl, _, rfl, _, _, rfl, rfl, .inl ⟨by omega, by omega⟩, _, _, rfl, rfl, ?_⟩
      have fin : ∀ c : Int, LoftFairSeed.standCode (Loft.standing x x1 x2 y y1 y2) = c → ∃ w3 w4 w5 w6, ([some (.ref a), some (.ref b), some (.ref f), some (.int (1 + (i : Int))), some (.int (x1 - x)), some (.int (x2 - x1)), some (.int ((y2 - y1) * (x1 - x) - (y1 - y) * (x2 - x1)))] : L2.St) = [some (.ref a), some (.ref b), some (.ref f), w3, w4, w5, w6] ∧ Same H (upd H' f (.lst ((((Loft.standings xs ys).map LoftFairSeed.standCode).take i).map V.int ++ [.int c]))) ∧
          (upd H' f (.lst ((((Loft.standings xs ys).map LoftFairSeed.standCode).take i).map V.int ++ [.int c]))) f = some (.lst ((((Loft.standings xs ys).map LoftFairSeed.standCode).take (i + 1)).map V.int)) := fun c hc => by
        refine ⟨_, _, _, _, rfl, s1.upd hf, ?_⟩
        rw [upd_same, take_snoc (x := c) (by rw [List.getElem?_map, hg, ← hc]; rfl), List.map_append]
        rfl
      have hl : ((((Loft.standings xs ys).map LoftFairSeed.standCode).take i).map V.int).length < sizeLine := len_ints (by rw [List.length_map, st_len _ _ el]; omega)
      have hst : Loft.standing x x1 x2 y y1 y2 = (y2 - y1) * (x1 - x) - (y1 - y) * (x2 - x1) := rfl
      refine ⟨_, rfl, _, _, rfl, rfl, _, rfl, ite2 (fun c => ?_) (fun c => ?_)⟩
      · refine ⟨_, rfl, .inl ⟨rfl, _, SqL.of e1⟩, f, _, _, rfl, rfl, e1, hl, fin 1 ?_⟩
        have c' : 0 < (y2 - y1) * (x1 - x) - (y1 - y) * (x2 - x1) := of_decide_eq_true c
        unfold LoftFairSeed.standCode
        rw [hst, if_neg (by omega), if_pos c']
      · have c' : ¬ 0 < (y2 - y1) * (x1 - x) - (y1 - y) * (x2 - x1) := fun z => c (decide_eq_true z)
        refine ⟨_, rfl, _, _, rfl, rfl, _, rfl, ite2 (fun d => ?_) (fun d => ?_)⟩
        · refine ⟨_, rfl, .inl ⟨rfl, _, SqL.of e1⟩, f, _, _, rfl, rfl, e1, hl, fin 2 ?_⟩
          have d' : (y2 - y1) * (x1 - x) - (y1 - y) * (x2 - x1) < 0 := of_decide_eq_true d
          unfold LoftFairSeed.standCode
          rw [hst, if_neg (by omega), if_neg c']
        · have d' : ¬ (y2 - y1) * (x1 - x) - (y1 - y) * (x2 - x1) < 0 := fun z => d (decide_eq_true z)
          refine ⟨_, rfl, .inl ⟨rfl, _, SqL.of e1⟩, f, _, _, rfl, rfl, e1, hl, fin 3 ?_⟩
          unfold LoftFairSeed.standCode
          rw [hst, if_pos (by omega)]
    · rintro σ H' ⟨v3, v4, v5, v6, rfl, s1, e1⟩
      refine ⟨_, rfl, q H' f s1 hf ?_⟩
      rw [e1, List.take_of_length_le (by rw [List.length_map, st_len _ _ el]; exact Nat.le_refl _)]
end FL

end
section
set_option Elab.async false
set_option linter.all false
set_option maxRecDepth 100000
set_option maxHeartbeats 4000000
namespace FL
open PySem PySem.Spec PyProof.Rows L2
variable {P : Program} {w : World} {K : PySem.W.Frag} {mg : Str → Option Value} {base : Heap} {t : Adr}
def rf (l : Addr) (i : Int) : List (Str × V) := [("numbers", .ref l), ("at", .int i)]
theorem rf_nu (l : Addr) (i : Int) : (rf l i).lookup ("numbers" : Str) = some (V.ref l) := by rfl
theorem rf_at (l : Addr) (i : Int) : (rf l i).lookup ("at" : Str) = some (V.int i) := by rfl
theorem rf_put (l : Addr) (i j : Int) : putF "at" (.int j) (rf l i) = rf l j := by rfl
def ReadAt (C : Addr) (H : Hp) (r l : Addr) (i : Int) : Prop := ∃ dx, H r = some (.ins C dx (rf l i))
theorem SameBut.refl (a : Addr) (H : Hp) : SameBut a H H := fun _ _ e _ => e
theorem SameBut.trans {a : Addr} {H H1 H2 : Hp} (s : SameBut a H H1) (s' : SameBut a H1 H2) : SameBut a H H2 := fun b o e n => s' b o (s b o e n) n
theorem SameBut.upd {a : Addr} {H H1 : Hp} (o : HO) (s : SameBut a H H1) : SameBut a H (L2.upd H1 a o) := fun b u e n => by
  rw [upd_ne n]
  exact s b u e n
theorem SameBut.new {a p : Addr} {H H1 : Hp} {o : HO} (s : SameBut a H H1) (hp : H1 p = none) : SameBut a H (L2.upd H1 p o) := fun b u e n => by
  have e' := s b u e n
  rw [upd_ne (ne_of_none e' hp)]
  exact e'
theorem SameBut.free {a p : Addr} {H H1 : Hp} (s : SameBut a H H1) (hp : H1 p = none) (n : p ≠ a) : H p = none := by
  cases e : H p with
  | none => rfl
  | some o => rw [s p o e n] at hp; cases hp
theorem Same.but {H H1 : Hp} (s : Same H H1) (a : Addr) : SameBut a H H1 := fun b o e _ => s b o e
theorem SqL.ins {K : PySem.W.Frag} {H H' : Hp} {p a C dx : Addr} {fs : List (Str × V)} {xs : List V} (hp : H p = some (.ins C dx fs)) (s : SameBut p H H') (h : SqL K H a xs) : SqL K H' a xs := SqL.keep hp s h
def sp_Reader___init__ (C : Addr) : Sp := fun vs H Q _ => ∃ (p dx l : Addr), vs = [.ref p, .ref l] ∧ H p = some (.ins C dx []) ∧ ∀ H' : Hp, ReadAt C H' p l 0 → SameBut p H H' → Q .non H'
theorem ok_Reader___init__ (T : Txt K mg t) : FnOk P w K mg base CX0 1 t.f_Reader___init__ t.d_Reader___init__ ["self", "numbers"] (sp_Reader___init__ t.c_Reader) := by
  refine T.fn_Reader___init__.ok sc_Reader___init__ (fun vs H Q E h => ?_) (fun cdv A outer s H vs Q E hr h => ?_)
  · obtain ⟨p, dx, l, rfl, _⟩ := h
    rfl
  · obtain ⟨p, dx, l, rfl, hp, k⟩ := h
    refine ⟨_, (pss_cons (ps_fld (pv 0) (pv 1) rfl)
      (pss_one (ps_fld (pv 0) pe_int rfl))), ?_⟩
    refine ⟨_, rfl, _, rfl, p, _, dx, _, rfl, hp, T.cl_Reader, T.na_Reader_numbers, (by show 0 < 1000; decide), ?_⟩
    refine ⟨_, rfl, p, _, dx, _, rfl, upd_same, T.cl_Reader, T.na_Reader_at, (by show 1 < 1000; decide), ?_⟩
    exact k _ ⟨dx, upd_same⟩ (((SameBut.refl p H).upd _).upd _)
def sp_Reader_has_more (K : PySem.W.Frag) (C : Addr) : Sp := fun vs H Q _ => ∃ (p l : Addr) (i : Int) (ns : List Int), vs = [.ref p] ∧ ReadAt C H p l i ∧ SqL K H l (ns.map V.int) ∧ Q (.bl (decide (i < (ns.length : Int)))) H
theorem ok_Reader_has_more (T : Txt K mg t) : FnOk P w K mg base CX0 1 t.f_Reader_has_more t.d_Reader_has_more ["self"] (sp_Reader_has_more K t.c_Reader) := by
  refine T.fn_Reader_has_more.ok sc_Reader_has_more (fun vs H Q E h => ?_) (fun cdv A outer s H vs Q E hr h => ?_)
  · obtain ⟨p, l, i, ns, rfl, _⟩ := h
    rfl
  · obtain ⟨p, l, i, ns, rfl, ⟨dx, h1⟩, hS, k⟩ := h
    refine ⟨_, (pss_one (ps_ret (pe_cmpR op_lt (pe_fld (pv 0) rfl) (pe_callB call_lenS rfl T.n_len PySem.boot_len (pa_cons (pe_fld (pv 0) rfl) pa_nil)) (nomark _)))), ?_⟩
    refine ⟨_, rfl, p, _, dx, _, _, rfl, h1, T.cl_Reader, T.na_Reader_at, rf_at _ _, _, rfl, p, _, dx, _, _, rfl, h1, T.cl_Reader, T.na_Reader_numbers, rf_nu _ _, _, _, rfl, .inl hS, _, _, rfl, rfl, ?_⟩
    rw [List.length_map]
    exact k
def sp_Reader_take_number (K : PySem.W.Frag) (C : Addr) : Sp := fun vs H Q _ => ∃ (p l : Addr) (i : Nat) (ns : List Int) (z : Int), vs = [.ref p] ∧ ReadAt C H p l i ∧ SqL K H l (ns.map V.int) ∧ ns[i]? = some z ∧
  ∀ H' : Hp, ReadAt C H' p l ((i + 1 : Nat) : Int) → SameBut p H H' → Q (.int z) H'
theorem ok_Reader_take_number (T : Txt K mg t) : FnOk P w K mg base CX0 1 t.f_Reader_take_number t.d_Reader_take_number ["self"] (sp_Reader_take_number K t.c_Reader) := by
  refine T.fn_Reader_take_number.ok sc_Reader_take_number (fun vs H Q E h => ?_) (fun cdv A outer s H vs Q E hr h => ?_)
  · obtain ⟨p, l, i, ns, z, rfl, _⟩ := h
    rfl
  · obtain ⟨p, l, i, ns, z, rfl, ⟨dx, h1⟩, hS, hz, k⟩ := h
    refine ⟨_, (pss_cons (ps_set (i := 1) sc_Reader_take_number.nd rfl (Or.inl rfl) (pe_ix ix_list (pe_fld (pv 0) rfl) (pe_fld (pv 0) rfl) (fun _ _ => rfl)))
      (pss_cons (ps_fld (pv 0) (pe_op op_add (pe_fld (pv 0) rfl) pe_int) rfl)
      (pss_one (ps_ret (pv 1))))), ?_⟩
    refine ⟨_, rfl, p, _, dx, _, _, rfl, h1, T.cl_Reader, T.na_Reader_numbers, rf_nu _ _, _, rfl, p, _, dx, _, _, rfl, h1, T.cl_Reader, T.na_Reader_at, rf_at _ _, _, _, _, _, rfl, rfl, hS, at_nat rfl hz, ?_⟩
    refine ⟨_, rfl, p, _, dx, _, _, rfl, h1, T.cl_Reader, T.na_Reader_at, rf_at _ _, _, _, rfl, rfl, _, rfl, p, _, dx, _, rfl, h1, T.cl_Reader, T.na_Reader_at, (by show 2 < 1000; decide), ?_⟩
    exact ⟨_, rfl, k _ ⟨dx, Eq.trans upd_same (congrArg (fun q => some (HO.ins t.c_Reader dx q)) (rf_put l i _))⟩ ((SameBut.refl p H).upd _)⟩
theorem cut_nat {xs : List V} {a b : Nat} (h : a ≤ b) (hb : b ≤ xs.length) : cutV xs (some (a : Int)) (some (b : Int)) = (xs.drop a).take (b - a) := by
  unfold cutV
  rw [HT.sIx_nat, HT.sIx_nat, Nat.min_eq_left hb, Nat.min_eq_left (by omega)]
def sp_Reader_take_row (K : PySem.W.Frag) (C : Addr) : Sp := fun vs H Q _ => ∃ (p l : Addr) (i m : Nat) (ns : List Int), vs = [.ref p] ∧ ReadAt C H p l i ∧ SqL K H l (ns.map V.int) ∧ ns[i]? = some (m : Int) ∧ i + 1 + m ≤ ns.length ∧
  ∀ (H' : Hp) (r : Addr), ReadAt C H' p l ((i + 1 + m : Nat) : Int) → SameBut p H H' → H r = none → H' r = some (.lst (((ns.drop (i + 1)).take m).map V.int)) → Q (.ref r) H'
theorem ok_Reader_take_row (T : Txt K mg t) : FnOk P w K mg base CX0 2 t.f_Reader_take_row t.d_Reader_take_row ["self"] (sp_Reader_take_row K t.c_Reader) := by
  refine T.fn_Reader_take_row.ok sc_Reader_take_row (fun vs H Q E h => ?_) (fun cdv A outer s H vs Q E hr h => ?_)
  · obtain ⟨p, l, i, m, ns, rfl, _⟩ := h
    rfl
  · obtain ⟨p, l, i, m, ns, rfl, ⟨dx, h1⟩, hS, hz, hm, k⟩ := h
    refine ⟨_, (pss_cons (ps_set (i := 1) sc_Reader_take_row.nd rfl (Or.inl rfl) (pe_meth0 (pv 0) T.cl_Reader T.mt_Reader_take_number (ok_Reader_take_number T) hr T.b_Reader_take_number .nil pass0))
      (pss_cons (ps_set (i := 2) sc_Reader_take_row.nd rfl (Or.inl rfl) (pe_fld (pv 0) rfl))
      (pss_cons (ps_fld (pv 0) (pe_op op_add (pv 2) (pv 1)) rfl)
      (pss_one (ps_ret (pe_slice sl_list (pe_fld (pv 0) rfl) (po_some (pv 2)) (po_some (pe_fld (pv 0) rfl)))))))), ?_⟩
    refine ⟨_, rfl, p, dx, _, rfl, h1, rfl, p, l, i, ns, _, rfl, ⟨dx, h1⟩, hS, hz, fun H1 ⟨dx1, r1⟩ s1 => ?_⟩
    refine ⟨_, rfl, p, _, dx1, _, _, rfl, r1, T.cl_Reader, T.na_Reader_at, rf_at _ _, ?_⟩
    refine ⟨_, rfl, _, rfl, _, _, rfl, rfl, _, rfl, p, _, dx1, _, rfl, r1, T.cl_Reader, T.na_Reader_at, (by show 2 < 1000; decide), ?_⟩
    have hp : (upd H1 p (HO.ins t.c_Reader dx1 (putF "at" (V.int (((i + 1 : Nat) : Int) + (m : Int))) (rf l ((i + 1 : Nat) : Int))))) p = some (.ins t.c_Reader dx1 (rf l (((i + 1 : Nat) : Int) + (m : Int)))) := upd_same
    have s2 : SameBut p H (upd H1 p (HO.ins t.c_Reader dx1 (putF "at" (V.int (((i + 1 : Nat) : Int) + (m : Int))) (rf l ((i + 1 : Nat) : Int))))) := s1.upd _
    generalize upd H1 p (HO.ins t.c_Reader dx1 (putF "at" (V.int (((i + 1 : Nat) : Int) + (m : Int))) (rf l ((i + 1 : Nat) : Int)))) = H2 at hp s2
    refine ⟨_, rfl, p, _, dx1, _, _, rfl, hp, T.cl_Reader, T.na_Reader_numbers, rf_nu _ _, _, rfl, _, rfl, _, rfl, p, _, dx1, _, _, rfl, hp, T.cl_Reader, T.na_Reader_at, rf_at _ _, _, rfl, _, _, rfl, SqL.ins h1 s2 hS, fun r hr' => ?_⟩
    have npr : p ≠ r := ne_of_none hp hr'
    refine k _ r ⟨dx1, ?_⟩ (s2.new hr') (s2.free hr' (ne_sym npr)) ?_
    · rw [upd_ne npr]
      exact hp
    · have e : ((i + 1 : Nat) : Int) + (m : Int) = ((i + 1 + m : Nat) : Int) := by omega
      rw [upd_same, e, cut_nat (by omega) (by rw [List.length_map]; exact hm), ← List.map_drop, ← List.map_take]
      congr 4
      omega
end FL

end
section
set_option Elab.async false
set_option linter.all false
set_option maxRecDepth 100000
set_option maxHeartbeats 4000000
namespace FL
open L2 (V)
theorem firstBad_rise (from0 : Bool) : ∀ (ns : List Int) (ab fl : Int) (k : Nat), -1048576 ≤ ab → (∀ z : Int, -1048575 ≤ z → (fl ≤ z ↔ ab < z ∧ (from0 = true → 0 ≤ z))) → (∀ z : Int, fl ≤ z → -1048575 ≤ z) →
    Loft.firstBad from0 (some ab) ns k = fnr fl ns k
  | [], _, _, _, _, _, _ => rfl
  | z :: r, ab, fl, k, hab, hfl, hlo => by
    unfold Loft.firstBad fnr
    by_cases c : fl ≤ z ∧ z ≤ 1048575
    · have c1 := hlo z c.1
      have c2 := (hfl z c1).mp c.1
      rw [if_neg, if_pos c]
      · show Loft.firstBad from0 (some z) r (k + 1) = _
        refine firstBad_rise from0 r z (z + 1) (k + 1) (by omega) (fun y hy => ⟨fun q => ⟨by omega, fun f => by have := c2.2 f; omega⟩, fun q => by omega⟩) (fun y hy => by omega)
      · rintro (q | q | q)
        · have q' : ¬ z.natAbs ≤ 1048575 := by
            intro w
            have : Loft.isMeasure z = true := decide_eq_true w
            rw [this] at q
            cases q
          omega
        · have := c2.2 q.1
          omega
        · have q' : z ≤ ab := of_decide_eq_true q
          omega
    · rw [if_pos, if_neg c]
      by_cases m : z.natAbs ≤ 1048575
      · have hz : -1048575 ≤ z := by omega
        have c' : ¬ fl ≤ z := fun q => c ⟨q, by omega⟩
        have c2 := fun q => c' ((hfl z hz).mpr q)
        by_cases d : ab < z
        · cases hf : from0 with
          | false => exact absurd ⟨d, fun q => by rw [hf] at q; cases q⟩ c2
          | true =>
            refine .inr (.inl ⟨rfl, ?_⟩)
            refine Decidable.byContradiction fun w => c2 ⟨d, fun _ => by omega⟩
        · exact .inr (.inr (decide_eq_true (by omega)))
      · exact .inl (decide_eq_false m)
theorem firstBad_br : ∀ (ns : List Int) (k : Nat), Loft.firstBad true none ns k = fnb ns k
  | [], _ => rfl
  | z :: r, k => by
    unfold Loft.firstBad fnb
    by_cases c : 0 ≤ z ∧ z ≤ 1048575
    · rw [if_neg, if_pos c]
      · show Loft.firstBad true none r (k + 1) = _
        exact firstBad_br r (k + 1)
      · rintro (q | q | q)
        · have : Loft.isMeasure z = true := decide_eq_true (by show z.natAbs ≤ 1048575; omega)
          rw [this] at q
          cases q
        · omega
        · cases q
    · rw [if_pos, if_neg c]
      by_cases m : z.natAbs ≤ 1048575
      · exact .inr (.inl ⟨rfl, by omega⟩)
      · exact .inl (decide_eq_false m)
theorem fb_places (xs : List Int) : Loft.firstBad true (some Loft.BELOW) xs 0 = fnr 0 xs 0 :=
  firstBad_rise true xs (-1048576) 0 0 (by omega) (fun z hz => ⟨fun q => ⟨by omega, fun _ => q⟩, fun q => q.2 rfl⟩) (fun z hz => by omega)
theorem fb_heights (zs : List Int) : Loft.firstBad false (some Loft.BELOW) zs 0 = fnr (-1048575) zs 0 :=
  firstBad_rise false zs (-1048576) (-1048575) 0 (by omega) (fun z hz => ⟨fun q => ⟨by omega, fun q => by cases q⟩, fun q => by omega⟩) (fun z hz => hz)
theorem fnb_all : ∀ {ns : List Int} {k : Nat}, fnb ns k = none → ∀ y ∈ ns, 0 ≤ y ∧ y ≤ 1048575
  | [], _, _, y, h => by simp at h
  | z :: r, k, e, y, h => by
    unfold fnb at e
    by_cases c : 0 ≤ z ∧ z ≤ 1048575
    · rw [if_pos c] at e
      rcases List.mem_cons.mp h with rfl | h
      · exact c
      · exact fnb_all e y h
    · rw [if_neg c] at e
      cases e
theorem fnb_none : ∀ {ns : List Int} {k : Nat}, (∀ y ∈ ns, 0 ≤ y ∧ y ≤ 1048575) → fnb ns k = none
  | [], _, _ => rfl
  | z :: r, k, h => by
    unfold fnb
    rw [if_pos (h z (List.mem_cons_self ..))]
    exact fnb_none fun y hy => h y (List.mem_cons_of_mem _ hy)
theorem fnr_all : ∀ {ns : List Int} {fl : Int} {k : Nat}, fnr fl ns k = none → ∀ y ∈ ns, fl ≤ y ∧ y ≤ 1048575
  | [], _, _, _, y, h => by simp at h
  | z :: r, fl, k, e, y, h => by
    unfold fnr at e
    by_cases c : fl ≤ z ∧ z ≤ 1048575
    · rw [if_pos c] at e
      rcases List.mem_cons.mp h with rfl | h
      · exact c
      · have := fnr_all e y h
        omega
    · rw [if_neg c] at e
      cases e
def Ris (l : List Int) : Prop := ∀ (i : Nat) (x x' : Int), l[i]? = some x → l[i + 1]? = some x' → x < x'
theorem fnr_ris : ∀ {ns : List Int} {fl : Int} {k : Nat}, fnr fl ns k = none → Ris ns
  | [], _, _, _ => fun i x x' h => by simp at h
  | z :: r, fl, k, e => by
    unfold fnr at e
    by_cases c : fl ≤ z ∧ z ≤ 1048575
    · rw [if_pos c] at e
      intro i x x' h h'
      match i, h, h' with
      | 0, h, h' =>
        have h : z = x := by simpa using h
        subst h
        have := fnr_all e x' (List.mem_of_getElem? (by simpa using h'))
        omega
      | i + 1, h, h' => exact fnr_ris e i x x' (by simpa using h) (by simpa using h')
    · rw [if_neg c] at e
      cases e
def rowsOf (ys : List Int) (n m : Nat) : List (List Int) := (List.range m).map fun (j : Nat) => (ys.drop (j * n)).take n
structure TabOk (Tb : Loft.Table) (ys : List Int) : Prop where
  n2 : 2 ≤ Tb.xs.length
  n24 : Tb.xs.length ≤ 24
  m2 : 2 ≤ Tb.zs.length
  m16 : Tb.zs.length ≤ 16
  len : ys.length = Tb.xs.length * Tb.zs.length
  eq : Tb.ys = rowsOf ys Tb.xs.length Tb.zs.length
  bd : ∀ y ∈ ys, 0 ≤ y ∧ y ≤ 1048575
  bx : ∀ x ∈ Tb.xs, 0 ≤ x ∧ x ≤ 1048575
  bz : ∀ z ∈ Tb.zs, -1048575 ≤ z ∧ z ≤ 1048575
  rx : Ris Tb.xs
  rz : Ris Tb.zs
theorem judge_verd (xs zs ys : List Int) : match Loft.judge xs zs ys with
    | .error f => verd xs zs ys = ((f.1 : Int), (f.2 : Int)) ∧ f.1 ≠ 0
    | .ok Tb => verd xs zs ys = (0, 0) ∧ Tb.xs = xs ∧ Tb.zs = zs ∧ TabOk Tb ys := by
  unfold Loft.judge verd fos
  rw [fb_places, fb_heights, firstBad_br]
  show match (if xs.length < 2 ∨ 24 < xs.length then _ else if zs.length < 2 ∨ 16 < zs.length then _ else _ : Except Loft.Fault Loft.Table) with | .error f => _ | .ok Tb => _
  by_cases c1 : xs.length < 2 ∨ 24 < xs.length
  · rw [if_pos c1, if_pos c1]
    exact ⟨rfl, by simp⟩
  · rw [if_neg c1, if_neg c1]
    by_cases c2 : zs.length < 2 ∨ 16 < zs.length
    · rw [if_pos c2, if_pos c2]
      exact ⟨rfl, by simp⟩
    · rw [if_neg c2, if_neg c2]
      by_cases c3 : ys.length ≠ xs.length * zs.length
      · rw [if_pos c3, if_pos c3]
        exact ⟨rfl, by simp⟩
      · rw [if_neg c3, if_neg c3]
        cases e1 : fnr 0 xs 0 with
        | some i => exact ⟨rfl, by simp⟩
        | none =>
          cases e2 : fnr (-1048575) zs 0 with
          | some i => exact ⟨rfl, by simp⟩
          | none =>
            cases e3 : fnb ys 0 with
            | some i => exact ⟨rfl, by simp⟩
            | none =>
              refine ⟨rfl, rfl, rfl, ?_⟩
              exact ⟨by show 2 ≤ xs.length; omega, by show xs.length ≤ 24; omega, by show 2 ≤ zs.length; omega, by show zs.length ≤ 16; omega, Decidable.not_not.mp c3, rfl, fnb_all e3, fnr_all e1, fnr_all e2, fnr_ris e1, fnr_ris e2⟩
theorem idx_lt {n m k i : Nat} (hk : k < m) (hi : i < n) : k * n + i < n * m := by
  have h1 : k * n + n ≤ m * n := by
    rw [← Nat.succ_mul]
    exact Nat.mul_le_mul_right n hk
  rw [Nat.mul_comm n m]
  omega
theorem getD_of {l : List Int} {i : Nat} {z : Int} (h : l[i]? = some z) : l.getD i 0 = z := by
  rw [List.getD_eq_getElem?_getD, h]
  rfl
theorem row_get (ys : List Int) (n j i : Nat) (hi : i < n) : ((ys.drop (j * n)).take n)[i]? = ys[j * n + i]? := by
  rw [List.getElem?_take_of_lt hi, List.getElem?_drop]
theorem spots0 {k : Nat} {n m : Nat} : spotsL 0 (k : Int) n m = (List.range n).map fun (i : Nat) => ((k * n + i : Nat) : Int) := by
  unfold spotsL
  rw [if_pos rfl]
  apply List.map_congr_left
  intro i _
  simp
theorem spots1 {k : Nat} {n m : Nat} : spotsL 1 (k : Int) n m = (List.range m).map fun (j : Nat) => ((j * n + k : Nat) : Int) := by
  unfold spotsL
  rw [if_neg (by decide)]
  apply List.map_congr_left
  intro i _
  simp
theorem in_spots0 {k n m l : Nat} (hl : l = n * m) (hk : k < m) : InSpots 0 (k : Int) n m l := by
  intro s hs
  rw [spots0] at hs
  obtain ⟨i, hi, rfl⟩ := List.mem_map.mp hs
  have := idx_lt hk (List.mem_range.mp hi)
  omega
theorem in_spots1 {k n m l : Nat} (hl : l = n * m) (hk : k < n) : InSpots 1 (k : Int) n m l := by
  intro s hs
  rw [spots1] at hs
  obtain ⟨j, hj, rfl⟩ := List.mem_map.mp hs
  have := idx_lt (List.mem_range.mp hj) hk
  omega
theorem whole0 {Tb : Loft.Table} {ys : List Int} (T : TabOk Tb ys) {k : Nat} (hk : k < Tb.zs.length) : (Tb.whole 0 k).ys = (spotsL 0 (k : Int) Tb.xs.length Tb.zs.length).map (atL ys) := by
  show Tb.ys.getD k [] = _
  rw [T.eq, spots0]
  unfold rowsOf
  rw [List.getD_eq_getElem?_getD, List.getElem?_map, List.getElem?_range hk]
  show (ys.drop (k * Tb.xs.length)).take Tb.xs.length = _
  apply List.ext_getElem?
  intro i
  by_cases hi : i < Tb.xs.length
  · rw [row_get ys _ k i hi, List.getElem?_map, List.getElem?_map, List.getElem?_range hi]
    have hlt := idx_lt hk hi
    rw [← T.len] at hlt
    show _ = some (atL ys ((k * Tb.xs.length + i : Nat) : Int))
    unfold atL
    rw [Int.toNat_natCast, List.getElem?_eq_getElem hlt, getD_of (List.getElem?_eq_getElem hlt)]
  · rw [List.getElem?_eq_none (by rw [List.length_take]; omega), List.getElem?_eq_none (by simp; omega)]
theorem whole1 {Tb : Loft.Table} {ys : List Int} (T : TabOk Tb ys) {k : Nat} (hk : k < Tb.xs.length) : (Tb.whole 1 k).ys = (spotsL 1 (k : Int) Tb.xs.length Tb.zs.length).map (atL ys) := by
  show (Tb.ys.map fun (l : List Int) => l.getD k 0) = _
  rw [T.eq, spots1]
  unfold rowsOf
  rw [List.map_map, List.map_map]
  apply List.map_congr_left
  intro j hj
  have hlt := idx_lt (List.mem_range.mp hj) hk
  rw [← T.len] at hlt
  show ((ys.drop (j * Tb.xs.length)).take Tb.xs.length).getD k 0 = atL ys ((j * Tb.xs.length + k : Nat) : Int)
  unfold atL
  rw [Int.toNat_natCast, getD_of (List.getElem?_eq_getElem hlt), List.getD_eq_getElem?_getD, row_get ys _ j k hk, List.getElem?_eq_getElem hlt]
  rfl
theorem putL_miss : ∀ (l : List (Int × Int)) (ys : List Int) (i : Nat), (∀ u ∈ l, u.1.toNat ≠ i) → (putL ys l)[i]? = ys[i]?
  | [], _, _, _ => rfl
  | u :: l, ys, i, h => by
    show (putL (ys.set u.1.toNat u.2) l)[i]? = _
    rw [putL_miss l _ i fun v hv => h v (List.mem_cons_of_mem _ hv), List.getElem?_set_ne (h u (List.mem_cons_self ..))]
theorem putL_hit : ∀ (l : List (Int × Int)) (ys : List Int) (q : Nat) (s v : Int), l[q]? = some (s, v) → s.toNat < ys.length → (l.map fun u => u.1.toNat).Nodup → (putL ys l)[s.toNat]? = some v
  | [], _, _, _, _, h, _, _ => by simp at h
  | u :: l, ys, 0, s, v, h, hl, nd => by
    have e : u = (s, v) := Option.some.inj h
    subst e
    show (putL (ys.set s.toNat v) l)[s.toNat]? = _
    obtain ⟨n1, _⟩ := List.nodup_cons.mp (show (s.toNat :: l.map fun u => u.1.toNat).Nodup from nd)
    rw [putL_miss l _ _ fun w hw e => n1 (List.mem_map.mpr ⟨w, hw, e⟩), List.getElem?_set_self hl]
  | u :: l, ys, q + 1, s, v, h, hl, nd => by
    obtain ⟨_, n2⟩ := List.nodup_cons.mp (show (u.1.toNat :: l.map fun u => u.1.toNat).Nodup from nd)
    show (putL (ys.set u.1.toNat u.2) l)[s.toNat]? = _
    exact putL_hit l _ q s v h (by rw [List.length_set]; exact hl) n2
theorem putL_mem : ∀ (l : List (Int × Int)) (ys : List Int) (y : Int), y ∈ putL ys l → y ∈ ys ∨ y ∈ l.map (·.2)
  | [], _, _, h => .inl h
  | u :: l, ys, y, h => by
    rcases putL_mem l (ys.set u.1.toNat u.2) y h with q | q
    · rcases List.mem_or_eq_of_mem_set q with q | q
      · exact .inl q
      · exact .inr (by rw [q]; exact List.mem_map.mpr ⟨u, List.mem_cons_self .., rfl⟩)
    · obtain ⟨w, hw, e⟩ := List.mem_map.mp q
      exact .inr (List.mem_map.mpr ⟨w, List.mem_cons_of_mem _ hw, e⟩)
theorem nodup_map_inj {f : Nat → Nat} (hf : ∀ a b, f a = f b → a = b) : ∀ {l : List Nat}, l.Nodup → (l.map f).Nodup
  | [], _ => List.nodup_nil
  | a :: r, h => by
    obtain ⟨h1, h2⟩ := List.nodup_cons.mp h
    refine List.nodup_cons.mpr ⟨fun m => ?_, nodup_map_inj hf h2⟩
    obtain ⟨b, hb, e⟩ := List.mem_map.mp m
    exact h1 (hf _ _ e ▸ hb)
theorem zip_fst {f : Nat → Int} {n : Nat} {us : List Int} (h : us.length = n) : (((List.range n).map f).zip us).map (fun u => u.1.toNat) = (List.range n).map fun i => (f i).toNat := by
  have e : (((List.range n).map f).zip us).map (fun u => u.1.toNat) = ((((List.range n).map f).zip us).map Prod.fst).map Int.toNat := by rw [List.map_map]; rfl
  rw [e, List.map_fst_zip (by simp [h]), List.map_map]
  rfl
theorem nd_range (n : Nat) : (List.range n).Nodup := List.nodup_range
theorem zip_at {f : Nat → Int} {n i : Nat} {us : List Int} {v : Int} (hi : i < n) (hv : us[i]? = some v) : (((List.range n).map f).zip us)[i]? = some (f i, v) :=
  zip_get (by rw [List.getElem?_map, List.getElem?_range hi]; rfl) hv
theorem with0 {Tb : Loft.Table} {ys us : List Int} (T : TabOk Tb ys) {k : Nat} (hk : k < Tb.zs.length) (hu : us.length = Tb.xs.length) (bu : ∀ y ∈ us, 0 ≤ y ∧ y ≤ 1048575) :
    TabOk (Tb.with_ 0 k us) (putL ys ((spotsL 0 (k : Int) Tb.xs.length Tb.zs.length).zip us)) := by
  have hw : Tb.with_ 0 k us = { Tb with ys := Tb.ys.set k us } := rfl
  rw [hw]
  refine ⟨T.n2, T.n24, T.m2, T.m16, by rw [putL_len]; exact T.len, ?_, fun y hy => ?_, T.bx, T.bz, T.rx, T.rz⟩
  · show Tb.ys.set k us = rowsOf _ Tb.xs.length Tb.zs.length
    rw [T.eq]
    have hn : 0 < Tb.xs.length := Nat.lt_of_lt_of_le (by decide) T.n2
    generalize hN : Tb.xs.length = n at *
    generalize hM : Tb.zs.length = m at *
    have hlen : ys.length = n * m := by rw [T.len, hN, hM]
    apply List.ext_getElem?
    intro j
    unfold rowsOf
    by_cases hj : j < m
    · rw [List.getElem?_map, List.getElem?_range hj]
      by_cases e : j = k
      · subst e
        rw [List.getElem?_set_self (by simp; exact hj)]
        show some us = some _
        congr 1
        apply List.ext_getElem?
        intro i
        by_cases hi : i < n
        · rw [row_get _ _ _ _ hi, spots0]
          obtain ⟨v, hv⟩ := get_lt (l := us) (i := i) (by omega)
          have hlt := idx_lt hj hi
          have h := putL_hit (((List.range n).map fun (i : Nat) => ((j * n + i : Nat) : Int)).zip us) ys i ((j * n + i : Nat) : Int) v (zip_at (f := fun (i : Nat) => ((j * n + i : Nat) : Int)) hi hv) (by rw [Int.toNat_natCast, hlen]; exact hlt)
            (by rw [zip_fst hu]; exact nodup_map_inj (f := fun i => (((j * n + i : Nat) : Int)).toNat) (fun a b e => by simp only [Int.toNat_natCast] at e; omega) (nd_range n))
          rw [Int.toNat_natCast] at h
          rw [h, hv]
        · rw [List.getElem?_eq_none (by omega), List.getElem?_eq_none (by rw [List.length_take]; omega)]
      · rw [List.getElem?_set_ne (fun z => e z.symm), List.getElem?_map, List.getElem?_range hj]
        show some _ = some _
        congr 1
        apply List.ext_getElem?
        intro i
        by_cases hi : i < n
        · rw [row_get _ _ _ _ hi, row_get _ _ _ _ hi, putL_miss]
          intro u hu' e2
          rw [spots0] at hu'
          obtain ⟨p1, p2⟩ := List.of_mem_zip hu'
          obtain ⟨q, hq, e3⟩ := List.mem_map.mp p1
          rw [← e3, Int.toNat_natCast] at e2
          have hq := List.mem_range.mp hq
          apply e
          have d1 : (k * n + q) / n = k := by rw [Nat.mul_comm, Nat.mul_add_div hn, Nat.div_eq_of_lt hq]; rfl
          have d2 : (j * n + i) / n = j := by rw [Nat.mul_comm, Nat.mul_add_div hn, Nat.div_eq_of_lt hi]; rfl
          rw [← d1, ← d2, e2]
        · rw [List.getElem?_eq_none (by rw [List.length_take]; omega), List.getElem?_eq_none (by rw [List.length_take]; omega)]
    · rw [List.getElem?_eq_none (by simp; omega), List.getElem?_eq_none (by simp; omega)]
  · rcases putL_mem _ _ _ hy with q | q
    · exact T.bd y q
    · obtain ⟨u, hu', e⟩ := List.mem_map.mp q
      rw [← e]
      exact bu _ (List.of_mem_zip hu').2
theorem with1 {Tb : Loft.Table} {ys us : List Int} (T : TabOk Tb ys) {k : Nat} (hk : k < Tb.xs.length) (hu : us.length = Tb.zs.length) (bu : ∀ y ∈ us, 0 ≤ y ∧ y ≤ 1048575) :
    TabOk (Tb.with_ 1 k us) (putL ys ((spotsL 1 (k : Int) Tb.xs.length Tb.zs.length).zip us)) := by
  have hw : Tb.with_ 1 k us = { Tb with ys := (Tb.ys.zip us).map fun (u : List Int × Int) => u.1.set k u.2 } := rfl
  rw [hw]
  refine ⟨T.n2, T.n24, T.m2, T.m16, by rw [putL_len]; exact T.len, ?_, fun y hy => ?_, T.bx, T.bz, T.rx, T.rz⟩
  · show ((Tb.ys.zip us).map fun (u : List Int × Int) => u.1.set k u.2) = rowsOf _ Tb.xs.length Tb.zs.length
    rw [T.eq]
    have hn : 0 < Tb.xs.length := Nat.lt_of_lt_of_le (by decide) T.n2
    generalize hN : Tb.xs.length = n at *
    generalize hM : Tb.zs.length = m at *
    have hlen : ys.length = n * m := by rw [T.len, hN, hM]
    apply List.ext_getElem?
    intro j
    unfold rowsOf
    by_cases hj : j < m
    · obtain ⟨v, hv⟩ := get_lt (l := us) (i := j) (by omega)
      rw [List.getElem?_map, zip_get (x := (ys.drop (j * n)).take n) (by rw [List.getElem?_map, List.getElem?_range hj]; rfl) hv, List.getElem?_map, List.getElem?_range hj]
      show some _ = some _
      congr 1
      show ((ys.drop (j * n)).take n).set k v = _
      apply List.ext_getElem?
      intro i
      by_cases hi : i < n
      · rw [row_get _ _ _ _ hi]
        have hlt := idx_lt hj hi
        by_cases e : i = k
        · subst e
          have h := putL_hit (((List.range m).map fun (j : Nat) => ((j * n + i : Nat) : Int)).zip us) ys j ((j * n + i : Nat) : Int) v (zip_at (f := fun (j : Nat) => ((j * n + i : Nat) : Int)) hj hv) (by rw [Int.toNat_natCast, hlen]; exact hlt)
            (by
              rw [zip_fst hu]
              refine nodup_map_inj (f := fun j => (((j * n + i : Nat) : Int)).toNat) (fun a b e => ?_) (nd_range m)
              have e' : a * n + i = b * n + i := by simpa only [Int.toNat_natCast] using e
              exact Nat.eq_of_mul_eq_mul_right hn (by omega))
          rw [Int.toNat_natCast] at h
          rw [spots1, h, List.getElem?_set_self (by rw [List.length_take, List.length_drop, hlen]; omega)]
        · rw [List.getElem?_set_ne (fun z => e z.symm), row_get _ _ _ _ hi, putL_miss]
          intro u hu' e2
          rw [spots1] at hu'
          obtain ⟨p1, p2⟩ := List.of_mem_zip hu'
          obtain ⟨q, hq, e3⟩ := List.mem_map.mp p1
          rw [← e3, Int.toNat_natCast] at e2
          apply e
          have d1 : (q * n + k) % n = k := by rw [Nat.mul_comm, Nat.mul_add_mod, Nat.mod_eq_of_lt hk]
          have d2 : (j * n + i) % n = i := by rw [Nat.mul_comm, Nat.mul_add_mod, Nat.mod_eq_of_lt hi]
          rw [← d1, ← d2, e2]
      · rw [List.getElem?_eq_none (by rw [List.length_set, List.length_take]; omega), List.getElem?_eq_none (by rw [List.length_take]; omega)]
    · rw [List.getElem?_eq_none (by simp; omega), List.getElem?_eq_none (by simp; omega)]
  · rcases putL_mem _ _ _ hy with q | q
    · exact T.bd y q
    · obtain ⟨u, hu', e⟩ := List.mem_map.mp q
      rw [← e]
      exact bu _ (List.of_mem_zip hu').2
end FL

end
section
set_option Elab.async false
set_option linter.all false
set_option maxRecDepth 100000
set_option maxHeartbeats 4000000
namespace FL
abbrev State := LoftFairSeed.State
theorem step_line (S : State) (way k : Int) : (LoftFairSeed.step S (.line way k)).2 = LoftFairSeed.ofLine S way k (false, false) [] [] (fun (_ : Loft.Table) (l : Loft.Line) => LoftFairSeed.tells l.ys) := rfl
theorem step_stands (S : State) (way k : Int) : (LoftFairSeed.step S (.stands way k)).2 = LoftFairSeed.ofLine S way k (false, false) [] [] (fun (_ : Loft.Table) (l : Loft.Line) => LoftFairSeed.tells (l.stands.map LoftFairSeed.standCode)) := rfl
theorem step_judge (S : State) (way k : Int) (h : List Int) : (LoftFairSeed.step S (.judge way k h)).2 = LoftFairSeed.ofLine S way k (true, false) h [] (fun (_ : Loft.Table) (l : Loft.Line) => LoftFairSeed.tells [match l.wrong (LoftFairSeed.nats h) with
    | some i => (i : Int)
    | none => 0]) := rfl
theorem step_least (S : State) (way k : Int) (h t : List Int) : (LoftFairSeed.step S (.least way k h t)).2 = LoftFairSeed.ofLine S way k (true, true) h t (fun (_ : Loft.Table) (l : Loft.Line) => match l.nearest (LoftFairSeed.nats h) (LoftFairSeed.nats t) with
    | some m => LoftFairSeed.tells ([(Loft.greatest (Loft.moves l.ys m) : Int), (Loft.sum (Loft.moves l.ys m) : Int)] ++ m)
    | none => LoftFairSeed.no 5) := rfl
theorem step_many (S : State) (way k : Int) (h t : List Int) : (LoftFairSeed.step S (.many way k h t)).2 = LoftFairSeed.ofLine S way k (true, true) h t (fun (_ : Loft.Table) (l : Loft.Line) => LoftFairSeed.tells [(Loft.many (l.spots (LoftFairSeed.nats t) Loft.FAR) (LoftFairSeed.nats h) : Int)]) := rfl
theorem step_none (S : State) (way k : Int) (h t : List Int) : (LoftFairSeed.step S (.none_ way k h t)).2 = LoftFairSeed.ofLine S way k (true, true) h t (fun (_ : Loft.Table) (l : Loft.Line) => LoftFairSeed.tells [match l.few (LoftFairSeed.nats h) (LoftFairSeed.nats t) with
    | some m => (m : Int)
    | none => 0]) := rfl
theorem walk_len : ∀ (l : List Loft.Spot) (s : List Nat) (a b : Int) (n : Nat), (Loft.walk l s a b n).length ≤ l.length - 2
  | u :: v :: w :: r, c :: s, a, b, n => by
    unfold Loft.walk
    simp only
    split
    · exact Nat.zero_le _
    · split
      · exact Nat.zero_le _
      · have ih := walk_len (v :: w :: r) s b
        rename_i d _
        have ih := ih d.1 (n - Loft.moveOf u a)
        simp only [List.length_cons] at ih ⊢
        omega
  | [], _, _, _, _ => by simp [Loft.walk]
  | [_], _, _, _, _ => by simp [Loft.walk]
  | [_, _], _, _, _, _ => by simp [Loft.walk]
  | _ :: _ :: _ :: _, [], _, _, _ => by simp [Loft.walk]
theorem leastLine_len {l : List Loft.Spot} {s : List Nat} {m : List Int} (h : Loft.leastLine l s = some m) : m.length ≤ l.length := by
  match l, h with
  | u :: v :: r, h =>
    unfold Loft.leastLine at h
    simp only at h
    split at h
    · cases h
    · split at h
      · cases h
      · split at h
        · cases h
        · rename_i n _ _ x _ _ y _
          have e := Option.some.inj h
          have wl := walk_len (u :: v :: r) s x.1 y.1 n
          rw [← e]
          simp only [List.length_cons] at wl ⊢
          omega
  | [], h => cases h
  | [_], h => cases h
theorem findSome_of {α β : Type} {f : α → Option β} {b : β} : ∀ {l : List α}, l.findSome? f = some b → ∃ a, a ∈ l ∧ f a = some b
  | [], h => by cases h
  | a :: r, h => by
    unfold List.findSome? at h
    cases e : f a with
    | none =>
      rw [e] at h
      obtain ⟨x, hx, ex⟩ := findSome_of h
      exact ⟨x, List.mem_cons_of_mem _ hx, ex⟩
    | some c =>
      rw [e] at h
      exact ⟨a, List.mem_cons_self .., by rw [e]; exact h⟩
theorem nearest_len {l : Loft.Line} {s t : List Nat} {m : List Int} (h : l.nearest s t = some m) : m.length ≤ l.xs.length := by
  obtain ⟨g, _, e⟩ := findSome_of h
  have e' : (if Loft.many (l.spots t g) s = 0 then none else Loft.leastLine (l.spots t g) s) = some m := e
  split at e'
  · cases e'
  · refine Nat.le_trans (leastLine_len e') ?_
    unfold Loft.Line.spots
    rw [List.length_map, List.length_zip, List.length_zip]
    omega
theorem standings_len : ∀ (xs ys : List Int), (Loft.standings xs ys).length ≤ xs.length
  | x :: x1 :: x2 :: r, y :: y1 :: y2 :: s => by
    have ih := standings_len (x1 :: x2 :: r) (y1 :: y2 :: s)
    show (_ :: Loft.standings (x1 :: x2 :: r) (y1 :: y2 :: s)).length ≤ _
    simp only [List.length_cons] at ih ⊢
    omega
  | [], _ => by simp [Loft.standings]
  | [_], _ => by simp [Loft.standings]
  | [_, _], _ => by simp [Loft.standings]
  | _ :: _ :: _ :: _, [] => by simp [Loft.standings]
  | _ :: _ :: _ :: _, [_] => by simp [Loft.standings]
  | _ :: _ :: _ :: _, [_, _] => by simp [Loft.standings]
theorem whole_len {Tb : Loft.Table} {ys : List Int} (T : TabOk Tb ys) (way k : Nat) : (Tb.whole way k).xs.length ≤ 24 ∧ (Tb.whole way k).ys.length ≤ 24 := by
  have h1 := T.n24
  have h2 := T.m16
  unfold Loft.Table.whole
  split
  · refine ⟨h1, ?_⟩
    show (Tb.ys.getD k []).length ≤ 24
    rw [List.getD_eq_getElem?_getD, T.eq]
    unfold rowsOf
    rw [List.getElem?_map]
    cases e : (List.range Tb.zs.length)[k]? with
    | none => simp
    | some j =>
      show ((ys.drop (j * Tb.xs.length)).take Tb.xs.length).length ≤ 24
      rw [List.length_take]
      omega
  · refine ⟨by show Tb.zs.length ≤ 24; omega, ?_⟩
    show (Tb.ys.map _).length ≤ 24
    rw [List.length_map, T.eq]
    unfold rowsOf
    rw [List.length_map, List.length_range]
    omega
theorem ofLine_len {S : LoftFairSeed.State} {way k : Int} {want : Bool × Bool} {h t : List Int} {f : Loft.Table → Loft.Line → LoftFairSeed.Answer} (hf : ∀ Tb, S = some Tb → ∀ w' k', (f Tb (Tb.whole w' k')).length ≤ 40) : (LoftFairSeed.ofLine S way k want h t f).length ≤ 40 := by
  cases S with
  | none => simp [LoftFairSeed.ofLine, LoftFairSeed.no]
  | some Tb =>
    unfold LoftFairSeed.ofLine
    simp only
    split
    · simp [LoftFairSeed.no]
    · split
      · simp [LoftFairSeed.no]
      · split
        · simp [LoftFairSeed.no]
        · exact hf Tb rfl _ _
theorem ans_len {S : LoftFairSeed.State} (hS : ∀ Tb, S = some Tb → ∃ ys, TabOk Tb ys) (x : LoftFairSeed.Call) : (LoftFairSeed.step S x).2.length ≤ 40 := by
  cases x with
  | make xs zs ys =>
    unfold LoftFairSeed.step
    simp only
    split <;> simp [LoftFairSeed.tells]
  | line way k =>
    rw [step_line]
    refine ofLine_len fun Tb e w' k' => ?_
    obtain ⟨ys, T⟩ := hS Tb e
    have := (whole_len T w' k').2
    show (0 :: (Tb.whole w' k').ys).length ≤ 40
    rw [List.length_cons]
    omega
  | put way k us =>
    unfold LoftFairSeed.step
    simp only
    split
    · simp [LoftFairSeed.no]
    · repeat' split
      all_goals simp [LoftFairSeed.no, LoftFairSeed.tells]
  | stands way k =>
    rw [step_stands]
    refine ofLine_len fun Tb e w' k' => ?_
    obtain ⟨ys, T⟩ := hS Tb e
    have := (whole_len T w' k').1
    have h2 := standings_len (Tb.whole w' k').xs (Tb.whole w' k').ys
    show (0 :: (Loft.standings (Tb.whole w' k').xs (Tb.whole w' k').ys).map LoftFairSeed.standCode).length ≤ 40
    rw [List.length_cons, List.length_map]
    omega
  | judge way k h =>
    rw [step_judge]
    exact ofLine_len fun Tb e w' k' => by simp [LoftFairSeed.tells]
  | least way k h m =>
    rw [step_least]
    refine ofLine_len fun Tb e w' k' => ?_
    obtain ⟨ys, T⟩ := hS Tb e
    have := (whole_len T w' k').1
    split
    · rename_i l hl
      have := nearest_len hl
      show (0 :: ([_, _] ++ l)).length ≤ 40
      simp only [List.length_cons, List.length_append, List.length_nil]
      omega
    · simp [LoftFairSeed.no]
  | many way k h m =>
    rw [step_many]
    exact ofLine_len fun Tb e w' k' => by simp [LoftFairSeed.tells]
  | none_ way k h m =>
    rw [step_none]
    exact ofLine_len fun Tb e w' k' => by simp [LoftFairSeed.tells]
end FL

end
section
set_option Elab.async false
set_option linter.all false
set_option maxRecDepth 100000
set_option maxHeartbeats 4000000
namespace FL
open PySem PySem.Spec PyProof.Rows L2
variable {P : Program} {w : World} {K : PySem.W.Frag} {mg : Str → Option Value} {base : Heap} {t : Adr}
def lf (v : V) : List (Str × V) := [("table", v)]
theorem lf_ta (v : V) : (lf v).lookup ("table" : Str) = some v := by rfl
def LoftAt (C : Addr) (H : Hp) (L : Addr) (v : V) : Prop := ∃ dx, H L = some (.ins C dx (lf v))
def OwnAt (t : Adr) (H : Hp) (p ba : Addr) (own : Addr → Prop) : Prop := own ba ∧ ∃ dx pa ha, H p = some (.ins t.c_Table dx (tf pa ha ba)) ∧ own pa ∧ own ha
def Rel (t : Adr) (H : Hp) (L : Addr) (S : State) (own : Addr → Prop) : Prop := match S with
  | none => LoftAt t.c_Loft H L .non
  | some Tb => ∃ p ys ba, LoftAt t.c_Loft H L (.ref p) ∧ TabAt t.c_Table H p Tb.xs Tb.zs ys ba ∧ TabOk Tb ys ∧ OwnAt t H p ba own
theorem OwnAt.same {H H' : Hp} {p ba : Addr} {own : Addr → Prop} (h : OwnAt t H p ba own) (s : Same H H') : OwnAt t H' p ba own := by
  obtain ⟨h0, dx, pa, ha, h1, h2⟩ := h
  exact ⟨h0, dx, pa, ha, s _ _ h1, h2⟩
theorem Rel.same {H H' : Hp} {L : Addr} {S : State} {own : Addr → Prop} (h : Rel t H L S own) (s : Same H H') : Rel t H' L S own := by
  cases S with
  | none =>
    obtain ⟨dx, h⟩ := h
    exact ⟨dx, s _ _ h⟩
  | some Tb =>
    obtain ⟨p, ys, ba, ⟨dx, h1⟩, h2, h3, h4⟩ := h
    exact ⟨p, ys, ba, ⟨dx, s _ _ h1⟩, h2.same s, h3, h4.same s⟩
def refCode (S : State) (way k : Int) (fit : Bool) : Int := match S with
  | none => -3
  | some Tb => if ¬ (way = 0 ∨ way = 1) ∨ fit = false then -1 else if ¬ (0 ≤ k ∧ k < (if way = 0 then (Tb.zs.length : Int) else (Tb.xs.length : Int))) then -4 else 0
theorem ref_zero {S : State} {way k : Int} {fit : Bool} (h : refCode S way k fit = 0) : ∃ Tb, S = some Tb ∧ fit = true ∧ ((way = 0 ∧ ∃ j : Nat, k = j ∧ j < Tb.zs.length) ∨ (way = 1 ∧ ∃ j : Nat, k = j ∧ j < Tb.xs.length)) := by
  cases S with
  | none => exact absurd (show (-3 : Int) = 0 from h) (by decide)
  | some Tb =>
    refine ⟨Tb, rfl, ?_⟩
    unfold refCode at h
    by_cases c1 : ¬ (way = 0 ∨ way = 1) ∨ fit = false
    · simp only [if_pos c1] at h
      exact absurd h (by decide)
    · simp only [if_neg c1] at h
      by_cases c2 : ¬ (0 ≤ k ∧ k < (if way = 0 then (Tb.zs.length : Int) else (Tb.xs.length : Int)))
      · simp only [if_pos c2] at h
        exact absurd h (by decide)
      · have c2 := Decidable.not_not.mp c2
        have hf : fit = true := by
          cases fit with
          | true => rfl
          | false => exact absurd (.inr rfl) c1
        have hw : way = 0 ∨ way = 1 := Decidable.not_not.mp fun z => c1 (.inl z)
        refine ⟨hf, ?_⟩
        obtain ⟨j, rfl⟩ := Int.eq_ofNat_of_zero_le c2.1
        rcases hw with rfl | rfl
        · rw [if_pos rfl] at c2
          exact .inl ⟨rfl, j, rfl, by omega⟩
        · rw [if_neg (by decide)] at c2
          exact .inr ⟨rfl, j, rfl, by omega⟩
theorem within_nat (v : Int) (n : Nat) : LoftFairSeed.within v n = true ↔ 0 ≤ v ∧ v < (n : Int) := by
  unfold LoftFairSeed.within
  rw [Bool.and_eq_true, decide_eq_true_iff, decide_eq_true_iff]
theorem within_not (v : Int) (n : Nat) : LoftFairSeed.within v n = false ↔ ¬ (0 ≤ v ∧ v < (n : Int)) := by
  rw [← within_nat]
  cases LoftFairSeed.within v n <;> simp
theorem lines_of {Tb : Loft.Table} {way : Int} (h : way = 0 ∨ way = 1) : ((Tb.lines way.toNat : Nat) : Int) = (if way = 0 then (Tb.zs.length : Int) else (Tb.xs.length : Int)) := by
  rcases h with rfl | rfl <;> rfl
theorem ref_of {Tb : Loft.Table} {way k : Int} {fit : Bool} : refCode (some Tb) way k fit = (if LoftFairSeed.within way 2 = false ∨ fit = false then -1 else if LoftFairSeed.within k (Tb.lines way.toNat) = false then -4 else 0) := by
  have e : ((2 : Nat) : Int) = 2 := rfl
  unfold refCode
  by_cases c1 : ¬ (way = 0 ∨ way = 1) ∨ fit = false
  · rw [if_pos (show LoftFairSeed.within way 2 = false ∨ fit = false from ?_)]
    · simp only [if_pos c1]
    · rcases c1 with c1 | c1
      · refine .inl ((within_not way 2).mpr fun z => c1 ?_)
        omega
      · exact .inr c1
  · rw [if_neg (show ¬ (LoftFairSeed.within way 2 = false ∨ fit = false) from ?_)]
    · simp only [if_neg c1]
      have hw : way = 0 ∨ way = 1 := Decidable.not_not.mp fun z => c1 (.inl z)
      by_cases c2 : ¬ (0 ≤ k ∧ k < (if way = 0 then (Tb.zs.length : Int) else (Tb.xs.length : Int)))
      · rw [if_pos c2, if_pos]
        rw [within_not, lines_of hw]
        exact c2
      · rw [if_neg c2, if_neg]
        rw [within_not, lines_of hw]
        exact c2
    · rintro (z | z)
      · refine c1 (.inl fun y => (within_not way 2).mp z ?_)
        rcases y with rfl | rfl <;> decide
      · exact c1 (.inr z)
theorem ofLine_ref {S : State} {way k : Int} {f : Loft.Table → Loft.Line → LoftFairSeed.Answer} (h : refCode S way k true ≠ 0) : LoftFairSeed.ofLine S way k (false, false) [] [] f = [refCode S way k true] := by
  cases S with
  | none => rfl
  | some Tb =>
    rw [ref_of] at h ⊢
    show (if LoftFairSeed.within way 2 = false ∨ true = false ∨ true = false then LoftFairSeed.no 1 else if LoftFairSeed.within k (Tb.lines way.toNat) = false then LoftFairSeed.no 4 else _) = _
    have e : (LoftFairSeed.within way 2 = false ∨ true = false ∨ true = false) ↔ (LoftFairSeed.within way 2 = false ∨ true = false) := by simp
    by_cases c1 : LoftFairSeed.within way 2 = false ∨ true = false
    · rw [if_pos c1, if_pos (e.mpr c1)]
      rfl
    · rw [if_neg c1] at h
      rw [if_neg c1, if_neg (fun z => c1 (e.mp z))]
      by_cases c2 : LoftFairSeed.within k (Tb.lines way.toNat) = false
      · rw [if_pos c2, if_pos c2]
        rfl
      · rw [if_neg c2] at h
        exact absurd rfl h
theorem ofLine_ok {Tb : Loft.Table} {way k : Int} {f : Loft.Table → Loft.Line → LoftFairSeed.Answer} (h : refCode (some Tb) way k true = 0) : LoftFairSeed.ofLine (some Tb) way k (false, false) [] [] f = f Tb (Tb.whole way.toNat k.toNat) := by
  rw [ref_of] at h
  show (if LoftFairSeed.within way 2 = false ∨ true = false ∨ true = false then LoftFairSeed.no 1 else if LoftFairSeed.within k (Tb.lines way.toNat) = false then LoftFairSeed.no 4 else if (false = true ∧ _) ∨ (false = true ∧ _) then LoftFairSeed.no 9 else _) = _
  have e : (LoftFairSeed.within way 2 = false ∨ true = false ∨ true = false) ↔ (LoftFairSeed.within way 2 = false ∨ true = false) := by simp
  by_cases c1 : LoftFairSeed.within way 2 = false ∨ true = false
  · rw [if_pos c1] at h
    cases h
  · rw [if_neg c1] at h
    rw [if_neg (fun z => c1 (e.mp z))]
    by_cases c2 : LoftFairSeed.within k (Tb.lines way.toNat) = false
    · rw [if_pos c2] at h
      cases h
    · rw [if_neg c2, if_neg (by simp)]
structure LineOk (Tb : Loft.Table) (ys : List Int) (way k : Int) : Prop where
  ys_eq : (Tb.whole way.toNat k.toNat).ys = (spotsL way k Tb.xs.length Tb.zs.length).map (atL ys)
  xs_eq : (Tb.whole way.toNat k.toNat).xs = if way = 0 then Tb.xs else Tb.zs
  ins : InSpots way k Tb.xs.length Tb.zs.length ys.length
  len : (spotsL way k Tb.xs.length Tb.zs.length).length = (if way = 0 then Tb.xs else Tb.zs).length
  l2 : 2 ≤ (if way = 0 then Tb.xs else Tb.zs).length
  l24 : (if way = 0 then Tb.xs else Tb.zs).length ≤ 24
  bx : ∀ x ∈ (if way = 0 then Tb.xs else Tb.zs), -1048575 ≤ x ∧ x ≤ 1048575
  wth : ∀ us : List Int, us.length = (if way = 0 then Tb.xs else Tb.zs).length → (∀ y ∈ us, 0 ≤ y ∧ y ≤ 1048575) → TabOk (Tb.with_ way.toNat k.toNat us) (putL ys ((spotsL way k Tb.xs.length Tb.zs.length).zip us)) ∧ (Tb.with_ way.toNat k.toNat us).xs = Tb.xs ∧ (Tb.with_ way.toNat k.toNat us).zs = Tb.zs
theorem line_ok {Tb : Loft.Table} {ys : List Int} {way k : Int} (T : TabOk Tb ys) (h : (way = 0 ∧ ∃ j : Nat, k = j ∧ j < Tb.zs.length) ∨ (way = 1 ∧ ∃ j : Nat, k = j ∧ j < Tb.xs.length)) : LineOk Tb ys way k := by
  rcases h with ⟨rfl, j, rfl, hj⟩ | ⟨rfl, j, rfl, hj⟩
  · have e : (if (0 : Int) = 0 then Tb.xs else Tb.zs) = Tb.xs := if_pos rfl
    refine ⟨whole0 T hj, by rw [e]; rfl, in_spots0 T.len hj, by rw [e, spots0]; simp, by rw [e]; exact T.n2, by rw [e]; exact T.n24, by rw [e]; exact fun x hx => by have := T.bx x hx; omega, by rw [e]; exact fun us hu bu => ⟨with0 T hj hu bu, rfl, rfl⟩⟩
  · have e : (if (1 : Int) = 0 then Tb.xs else Tb.zs) = Tb.zs := if_neg (by decide)
    refine ⟨whole1 T hj, by rw [e]; rfl, in_spots1 T.len hj, by rw [e, spots1]; simp, by rw [e]; exact T.m2, by rw [e]; exact Nat.le_trans T.m16 (by decide), by rw [e]; exact T.bz, by rw [e]; exact fun us hu bu => ⟨with1 T hj hu bu, rfl, rfl⟩⟩
theorem line_bd {Tb : Loft.Table} {ys : List Int} {way k : Int} (T : TabOk Tb ys) (h : LineOk Tb ys way k) : ∀ y ∈ (spotsL way k Tb.xs.length Tb.zs.length).map (atL ys), 0 ≤ y ∧ y ≤ 1048575 := by
  intro y hy
  obtain ⟨s, hs, rfl⟩ := List.mem_map.mp hy
  obtain ⟨h0, h1⟩ := h.ins s hs
  obtain ⟨j, rfl⟩ := Int.eq_ofNat_of_zero_le h0
  obtain ⟨v, hv⟩ := get_lt (l := ys) (i := j) (by omega)
  have e : atL ys (j : Int) = v := by
    unfold atL
    rw [Int.toNat_natCast]
    exact getD_of hv
  rw [e]
  exact T.bd v (List.mem_of_getElem? hv)
def sp_Loft___init__ (C : Addr) : Sp := fun vs H Q _ => ∃ (p dx : Addr), vs = [.ref p] ∧ H p = some (.ins C dx []) ∧ ∀ H' : Hp, LoftAt C H' p .non → SameBut p H H' → Q .non H'
theorem ok_Loft___init__ (T : Txt K mg t) : FnOk P w K mg base CX0 1 t.f_Loft___init__ t.d_Loft___init__ ["self"] (sp_Loft___init__ t.c_Loft) := by
  refine T.fn_Loft___init__.ok sc_Loft___init__ (fun vs H Q E h => ?_) (fun cdv A outer s H vs Q E hr h => ?_)
  · obtain ⟨p, dx, rfl, _⟩ := h
    rfl
  · obtain ⟨p, dx, rfl, hp, k⟩ := h
    refine ⟨_, (pss_one (ps_fld (pv 0) pe_non rfl)), ?_⟩
    refine ⟨_, rfl, p, _, dx, _, rfl, hp, T.cl_Loft, T.na_Loft_table, (by show 0 < 1000; decide), ?_⟩
    exact k _ ⟨dx, upd_same⟩ ((SameBut.refl p H).upd _)
def sp_Loft_refusal (t : Adr) : Sp := fun vs H Q _ => ∃ (L : Addr) (own : Addr → Prop) (way k : Int) (fit : Bool) (S : State), vs = [.ref L, .int way, .int k, .bl fit] ∧ Rel t H L S own ∧ ∀ H' : Hp, Same H H' → Q (.int (refCode S way k fit)) H'
theorem ok_Loft_refusal (T : Txt K mg t) : FnOk P w K mg base CX0 2 t.f_Loft_refusal t.d_Loft_refusal ["self", "way", "k", "numbers_fit"] (sp_Loft_refusal t) := by
  refine T.fn_Loft_refusal.ok sc_Loft_refusal (fun vs H Q E h => ?_) (fun cdv A outer s H vs Q E hr h => ?_)
  · obtain ⟨L, own, way, k, fit, S, rfl, _⟩ := h
    rfl
  · obtain ⟨L, own, way, k, fit, S, rfl, hR, q⟩ := h
    refine ⟨_, (pss_cons (ps_if (pt_cmp (pc_isN (pe_fld (pv 0) rfl))) (pss_one (ps_ret (pe_gint rfl T.g_NO_TABLE))) pss_nil)
      (pss_cons (ps_if ((pw_or (pt_cmpR op_notIn_seq (pv 1) (pe_tup (pa_cons pe_int (pa_cons pe_int pa_nil))) (by with_unfolding_all rfl)) (pw_or1 (pt_not (pt_val (pv 3))))).pt) (pss_one (ps_ret (pe_gint rfl T.g_WRONG_NUMBER))) pss_nil)
      (pss_cons (ps_if (pt_not (pt_chain op_le op_lt pe_int (pv 2) (pe_meth (pe_fld (pv 0) rfl) T.cl_Table T.mt_Table_line_count (ok_Table_line_count T) hr T.b_Table_line_count .nil pass0 (pa_cons (pv 1) pa_nil)))) (pss_one (ps_ret (pe_gint rfl T.g_NO_LINE))) pss_nil)
      (pss_one (ps_ret pe_int))))), ?_⟩
    cases S with
    | none =>
      obtain ⟨dx, hL⟩ := hR
      exact ⟨_, rfl, L, _, dx, _, _, rfl, hL, T.cl_Loft, T.na_Loft_table, lf_ta _, _, rfl, iteT (q H (Same.refl H))⟩
    | some Tb =>
      obtain ⟨p, ys, ba, ⟨dx, hL⟩, hT, ok, _⟩ := hR
      refine ⟨_, rfl, L, _, dx, _, _, rfl, hL, T.cl_Loft, T.na_Loft_table, lf_ta _, _, rfl, iteF ?_⟩
      refine ⟨_, rfl, (by show 2 ≤ sizeLine; decide), fun tp htp => ⟨tp, _, rfl, .inr (SqT.of upd_same), rfl, rfl, _, rfl, ?_⟩⟩
      have s1 : Same H (upd H tp (.tup [.int 0, .int 1])) := (Same.refl H).new htp
      have hin : inV (.int way) [.int 0, .int 1] = decide (way = 0 ∨ way = 1) := by
        show ((0 == way) || ((1 == way) || false)) = _
        rw [Bool.or_false, Bool.eq_iff_iff, Bool.or_eq_true, decide_eq_true_iff, beq_iff_eq, beq_iff_eq]
        constructor
        · rintro (rfl | rfl)
          · exact .inl rfl
          · exact .inr rfl
        · rintro (rfl | rfl)
          · exact .inl rfl
          · exact .inr rfl
      have e0 : refCode (some Tb) way k fit = (if ¬ (way = 0 ∨ way = 1) ∨ fit = false then -1 else if ¬ (0 ≤ k ∧ k < (if way = 0 then (Tb.zs.length : Int) else (Tb.xs.length : Int))) then -4 else 0) := rfl
      have bad : (¬ (way = 0 ∨ way = 1) ∨ fit = false) → Q (.int (-1)) (upd H tp (.tup [.int 0, .int 1])) := fun c => by
        have q' := q _ s1
        rw [e0, if_pos c] at q'
        exact q'
      rw [hin]
      refine ite2 (fun c => ?_) (fun c => ?_)
      · have c' : ¬ (way = 0 ∨ way = 1) := by simpa using c
        exact iteT (bad (.inl c'))
      · have c' : way = 0 ∨ way = 1 := by
          simp at c
          omega
        refine ⟨_, rfl, _, rfl, ?_⟩
        cases fit with
        | false => exact iteT (bad (.inr rfl))
        | true =>
          refine iteF ?_
          have n1 : ¬ (¬ (way = 0 ∨ way = 1) ∨ true = false) := fun z => z.elim (fun z => z c') (fun z => by cases z)
          refine ⟨_, rfl, _, _, rfl, rfl, _, rfl, ite2 (fun c1 => ?_) (fun c1 => ⟨_, rfl, iteT ?_⟩)⟩
          · obtain ⟨⟨dxT, pa, ha, h1, h2, h3, m1, m2⟩, h4⟩ := id (hT.same s1)
            refine ⟨_, rfl, L, _, dx, _, _, rfl, s1 _ _ hL, T.cl_Loft, T.na_Loft_table, lf_ta _, p, dxT, _, rfl, h1, rfl, _, rfl, p, way, Tb.xs, Tb.zs, ys, ba, rfl, hT.same s1, _, _, rfl, rfl, _, rfl, ite2 (fun c2 => ?_) (fun c2 => ?_)⟩
            · have q' := q _ s1
              rw [e0, if_neg n1, if_pos (fun z => by simp at c2; omega)] at q'
              exact q'
            · have q' := q _ s1
              rw [e0, if_neg n1, if_neg (fun z => z (by simp at c1 c2; exact ⟨c1, c2⟩))] at q'
              exact q'
          · have q' := q _ s1
            rw [e0, if_neg n1, if_pos (fun z => c1 (by simpa using z.1))] at q'
            exact q'
end FL

end
section
set_option Elab.async false
set_option linter.all false
set_option maxRecDepth 100000
set_option maxHeartbeats 4000000
namespace FL
open PySem PySem.Spec PyProof.Rows L2
variable {P : Program} {w : World} {K : PySem.W.Frag} {mg : Str → Option Value} {base : Heap} {t : Adr}
theorem Rel.at {H : Hp} {L : Addr} {S : State} {own : Addr → Prop} (h : Rel t H L S own) : ∃ dx v, H L = some (.ins t.c_Loft dx (lf v)) := by
  cases S with
  | none =>
    obtain ⟨dx, h⟩ := h
    exact ⟨dx, _, h⟩
  | some Tb =>
    obtain ⟨p, ys, ba, ⟨dx, h1⟩, h2, h3, _⟩ := h
    exact ⟨dx, _, h1⟩
theorem NewInts.lst1 {H : Hp} {p : Int} {Q : VK} (h : NewInts H [p] Q) : 1 ≤ sizeLine ∧ ∀ r, H r = none → Q (.ref r) (upd H r (.lst [.int p])) := ⟨by decide, fun r hr => h _ r ((Same.refl H).new hr) hr upd_same⟩
def sp_Loft_line (t : Adr) : Sp := fun vs H Q _ => ∃ (L : Addr) (own : Addr → Prop) (way k : Int) (S : State), vs = [.ref L, .int way, .int k] ∧ Rel t H L S own ∧ NewInts H (LoftFairSeed.step S (.line way k)).2 Q
theorem ok_Loft_line (T : Txt K mg t) : FnOk P w K mg base CX0 3 t.f_Loft_line t.d_Loft_line ["self", "way", "k"] (sp_Loft_line t) := by
  refine T.fn_Loft_line.ok sc_Loft_line (fun vs H Q E h => ?_) (fun cdv A outer s H vs Q E hr h => ?_)
  · obtain ⟨L, own, way, k, S, rfl, _⟩ := h
    rfl
  · obtain ⟨L, own, way, k, S, rfl, hR, q⟩ := h
    obtain ⟨dx, v, hL⟩ := hR.at
    refine ⟨_, (pss_cons (ps_set (i := 3) sc_Loft_line.nd rfl (Or.inl rfl) (pe_meth (pv 0) T.cl_Loft T.mt_Loft_refusal (ok_Loft_refusal T) hr T.b_Loft_refusal .nil pass0 (pa_cons (pv 1) (pa_cons (pv 2) (pa_cons pe_bl pa_nil)))))
      (pss_cons (ps_if (pt_cmpR op_ne (pv 3) pe_int (nomark _)) (pss_one (ps_ret (pe_lst (pa_cons (pv 3) pa_nil)))) pss_nil)
      (pss_one (ps_ret (pe_op op_cat (pe_lst (pa_cons pe_int pa_nil)) (pe_meth (pe_fld (pv 0) rfl) T.cl_Table T.mt_Table_nail_ys (ok_Table_nail_ys T) hr T.b_Table_nail_ys .nil pass0 (pa_cons (pv 1) (pa_cons (pv 2) pa_nil)))))))), ?_⟩
    refine ⟨_, rfl, L, dx, _, rfl, hL, rfl, _, rfl, _, rfl, L, own, way, k, true, S, rfl, hR, fun H1 s1 => ?_⟩
    refine ⟨_, rfl, rfl, _, rfl, ite2 (fun c => ?_) (fun c => ?_)⟩
    · have c' : refCode S way k true ≠ 0 := by simpa using c
      have e : (LoftFairSeed.step S (.line way k)).2 = [refCode S way k true] := (step_line S way k).trans (ofLine_ref c')
      rw [e] at q
      exact ⟨_, rfl, (q.mono s1).lst1⟩
    · have c' : refCode S way k true = 0 := by simpa using c
      obtain ⟨Tb, rfl, _, hw⟩ := ref_zero c'
      obtain ⟨p, ys, ba, ⟨dx2, hL2⟩, hT, ok, _⟩ := hR
      have lo := line_ok ok hw
      have e : (LoftFairSeed.step (some Tb) (.line way k)).2 = 0 :: (spotsL way k Tb.xs.length Tb.zs.length).map (atL ys) := by
        rw [step_line, ofLine_ok c', lo.ys_eq]
        rfl
      rw [e] at q
      refine ⟨(by show 1 ≤ sizeLine; decide), fun r0 n0 => ?_⟩
      have s2 : Same H (upd H1 r0 (.lst [.int 0])) := s1.new n0
      obtain ⟨⟨dxT, pa, ha, h1, h2, h3, m1, m2⟩, h4⟩ := id (hT.same s2)
      refine ⟨_, rfl, L, _, dx2, _, _, rfl, s2 _ _ hL2, T.cl_Loft, T.na_Loft_table, lf_ta _, p, dxT, _, rfl, h1, rfl, _, rfl, _, rfl, p, way, k, Tb.xs, Tb.zs, ys, ba, rfl, hT.same s2, ok.n24, ok.m16, lo.ins, fun H3 r3 s3 n3 e3 => ?_⟩
      refine ⟨r0, r3, _, _, rfl, rfl, s3 _ _ upd_same, e3, ?_, fun r4 n4 => ?_⟩
      · rw [List.length_map, List.length_map, lo.len]
        have := lo.l24
        exact Nat.le_of_lt (small1000 (by simp; omega))
      · exact q _ r4 ((s2.trans s3).new n4) ((s2.trans s3).free n4) upd_same
def sp_Loft_stands (t : Adr) : Sp := fun vs H Q _ => ∃ (L : Addr) (own : Addr → Prop) (way k : Int) (S : State), vs = [.ref L, .int way, .int k] ∧ Rel t H L S own ∧ NewInts H (LoftFairSeed.step S (.stands way k)).2 Q
theorem ok_Loft_stands (T : Txt K mg t) : FnOk P w K mg base CX0 3 t.f_Loft_stands t.d_Loft_stands ["self", "way", "k"] (sp_Loft_stands t) := by
  refine T.fn_Loft_stands.ok sc_Loft_stands (fun vs H Q E h => ?_) (fun cdv A outer s H vs Q E hr h => ?_)
  · obtain ⟨L, own, way, k, S, rfl, _⟩ := h
    rfl
  · obtain ⟨L, own, way, k, S, rfl, hR, q⟩ := h
    obtain ⟨dx, v, hL⟩ := hR.at
    refine ⟨_, (pss_cons (ps_set (i := 3) sc_Loft_stands.nd rfl (Or.inl rfl) (pe_meth (pv 0) T.cl_Loft T.mt_Loft_refusal (ok_Loft_refusal T) hr T.b_Loft_refusal .nil pass0 (pa_cons (pv 1) (pa_cons (pv 2) (pa_cons pe_bl pa_nil)))))
      (pss_cons (ps_if (pt_cmpR op_ne (pv 3) pe_int (nomark _)) (pss_one (ps_ret (pe_lst (pa_cons (pv 3) pa_nil)))) pss_nil)
      (pss_one (ps_ret (pe_op op_cat (pe_lst (pa_cons pe_int pa_nil)) (pe_call (ok_stands_of T) (hr.mono (by decide : 1 ≤ 2)) rfl T.m_stands_of T.fn_stands_of.kp T.b_stands_of .nil pass0 (pa_cons (pe_meth (pe_fld (pv 0) rfl) T.cl_Table T.mt_Table_nail_xs (ok_Table_nail_xs T) (hr.mono (by decide : 1 ≤ 2)) T.b_Table_nail_xs .nil pass0 (pa_cons (pv 1) pa_nil)) (pa_cons (pe_meth (pe_fld (pv 0) rfl) T.cl_Table T.mt_Table_nail_ys (ok_Table_nail_ys T) hr T.b_Table_nail_ys .nil pass0 (pa_cons (pv 1) (pa_cons (pv 2) pa_nil))) pa_nil)))))))), ?_⟩
    refine ⟨_, rfl, L, dx, _, rfl, hL, rfl, _, rfl, _, rfl, L, own, way, k, true, S, rfl, hR, fun H1 s1 => ?_⟩
    refine ⟨_, rfl, rfl, _, rfl, ite2 (fun c => ?_) (fun c => ?_)⟩
    · have c' : refCode S way k true ≠ 0 := by simpa using c
      have e : (LoftFairSeed.step S (.stands way k)).2 = [refCode S way k true] := (step_stands S way k).trans (ofLine_ref c')
      rw [e] at q
      exact ⟨_, rfl, (q.mono s1).lst1⟩
    · have c' : refCode S way k true = 0 := by simpa using c
      obtain ⟨Tb, rfl, _, hw⟩ := ref_zero c'
      obtain ⟨p, ys, ba, ⟨dx2, hL2⟩, hT, ok, _⟩ := hR
      have lo := line_ok ok hw
      have e : (LoftFairSeed.step (some Tb) (.stands way k)).2 = 0 :: (Loft.standings (if way = 0 then Tb.xs else Tb.zs) ((spotsL way k Tb.xs.length Tb.zs.length).map (atL ys))).map LoftFairSeed.standCode := by
        rw [step_stands, ofLine_ok c']
        unfold Loft.Line.stands
        rw [lo.ys_eq, lo.xs_eq]
        rfl
      rw [e] at q
      refine ⟨(by show 1 ≤ sizeLine; decide), fun r0 n0 => ?_⟩
      have s2 : Same H (upd H1 r0 (.lst [.int 0])) := s1.new n0
      obtain ⟨⟨dxT, pa, ha, h1, h2, h3, m1, m2⟩, h4⟩ := id (hT.same s2)
      refine ⟨_, rfl, L, _, dx2, _, _, rfl, s2 _ _ hL2, T.cl_Loft, T.na_Loft_table, lf_ta _, p, dxT, _, rfl, h1, rfl, _, rfl, p, way, Tb.xs, Tb.zs, ys, ba, rfl, hT.same s2, fun H3 r3 s3 n3 e3 => ?_⟩
      refine ⟨_, rfl, L, _, dx2, _, _, rfl, s3 _ _ (s2 _ _ hL2), T.cl_Loft, T.na_Loft_table, lf_ta _, p, dxT, _, rfl, s3 _ _ h1, rfl, _, rfl, _, rfl, p, way, k, Tb.xs, Tb.zs, ys, ba, rfl, (hT.same s2).same s3, ok.n24, ok.m16, lo.ins, fun H4 r4 s4 n4 e4 => ?_⟩
      have ell : (if way = 0 then Tb.xs else Tb.zs).length = ((spotsL way k Tb.xs.length Tb.zs.length).map (atL ys)).length := by rw [List.length_map, lo.len]
      refine ⟨r3, r4, _, _, rfl, SqL.of (s4 _ _ e3), SqL.of e4, ell, lo.l2, lo.l24, line_bd ok lo, fun H5 r5 s5 n5 e5 => ?_⟩
      refine ⟨r0, r5, _, _, rfl, rfl, s5 _ _ (s4 _ _ (s3 _ _ upd_same)), e5, ?_, fun r6 n6 => ?_⟩
      · rw [List.length_map, List.length_map, st_len _ _ ell]
        have := lo.l24
        exact Nat.le_of_lt (small1000 (by simp; omega))
      · have s6 := ((s2.trans s3).trans s4).trans s5
        exact q _ r6 (s6.new n6) (s6.free n6) upd_same
theorem put_spec {Tb : Loft.Table} {way k : Int} {us : List Int} : LoftFairSeed.step (some Tb) (.put way k us) =
    (if refCode (some Tb) way k (decide (fnb us 0 = none)) ≠ 0 then (some Tb, [refCode (some Tb) way k (decide (fnb us 0 = none))]) else if us.length ≠ (Tb.whole way.toNat k.toNat).xs.length then (some Tb, [-9]) else (some (Tb.with_ way.toNat k.toNat us), [0])) := by
  show (if LoftFairSeed.within way 2 = false ∨ (us.all fun (y : Int) => decide (0 ≤ y) && Loft.isMeasure y) = false then (some Tb, LoftFairSeed.no 1) else if LoftFairSeed.within k (Tb.lines way.toNat) = false then (some Tb, LoftFairSeed.no 4) else _) = _
  have e : (us.all fun (y : Int) => decide (0 ≤ y) && Loft.isMeasure y) = decide (fnb us 0 = none) := by
    rw [Bool.eq_iff_iff, List.all_eq_true, decide_eq_true_iff]
    constructor
    · intro h
      refine fnb_none fun y hy => ?_
      have q := Bool.and_eq_true_iff.mp (h y hy)
      have q1 := of_decide_eq_true q.1
      have q2 : y.natAbs ≤ 1048575 := of_decide_eq_true q.2
      omega
    · intro h y hy
      have q := fnb_all h y hy
      refine Bool.and_eq_true_iff.mpr ⟨decide_eq_true q.1, decide_eq_true ?_⟩
      show y.natAbs ≤ 1048575
      omega
  rw [e, ref_of]
  by_cases c1 : LoftFairSeed.within way 2 = false ∨ decide (fnb us 0 = none) = false
  · rw [if_pos c1, if_pos c1, if_pos (by decide)]
    rfl
  · rw [if_neg c1, if_neg c1]
    by_cases c2 : LoftFairSeed.within k (Tb.lines way.toNat) = false
    · rw [if_pos c2, if_pos c2, if_pos (by decide)]
      rfl
    · rw [if_neg c2, if_neg c2, if_neg (show ¬ ((0 : Int) ≠ 0) from fun n => n rfl)]
      rfl
theorem optV_non (o : Option Nat) : decide (optV o = .non) = decide (o = none) := by
  cases o with
  | none => rfl
  | some i => rfl
def Done (t : Adr) (H : Hp) (L : Addr) (own : Addr → Prop) (S' : State) (l : List Int) (Q : VK) : Prop := ∀ (H' : Hp) (r : Addr) (own' : Addr → Prop), Rel t H' L S' own' → (∀ b, own' b → own b ∨ H b = none) → (∀ b o, H b = some o → b ≠ L → ¬ own b → H' b = some o) → H r = none → H' r = some (.lst (l.map V.int)) → Q (.ref r) H'
theorem Done.same {H : Hp} {L : Addr} {own : Addr → Prop} {S : State} {l : List Int} {Q : VK} (hR : Rel t H L S own) (h : Done t H L own S l Q) : NewInts H l Q := fun H' r s n e => h H' r own (hR.same s) (fun _ z => .inl z) (fun b o e _ _ => s b o e) n e
def sp_Loft_put (K : PySem.W.Frag) (t : Adr) : Sp := fun vs H Q _ => ∃ (L c : Addr) (own : Addr → Prop) (way k : Int) (us : List Int) (S : State), vs = [.ref L, .int way, .int k, .ref c] ∧ Rel t H L S own ∧ SqL K H c (us.map V.int) ∧ ¬ own c ∧ us.length ≤ 17000 ∧
  Done t H L own (LoftFairSeed.step S (.put way k us)).1 (LoftFairSeed.step S (.put way k us)).2 Q
theorem ok_Loft_put (T : Txt K mg t) : FnOk P w K mg base CX0 3 t.f_Loft_put t.d_Loft_put ["self", "way", "k", "ys"] (sp_Loft_put K t) := by
  refine T.fn_Loft_put.ok sc_Loft_put (fun vs H Q E h => ?_) (fun cdv A outer s H vs Q E hr h => ?_)
  · obtain ⟨L, c, own, way, k, us, S, rfl, _⟩ := h
    rfl
  · obtain ⟨L, c, own, way, k, us, S, rfl, hR, hC, hcb, hul, q⟩ := h
    obtain ⟨dx, v, hL⟩ := hR.at
    refine ⟨_, (pss_cons (ps_set (i := 4) sc_Loft_put.nd rfl (Or.inl rfl) (pe_meth (pv 0) T.cl_Loft T.mt_Loft_refusal (ok_Loft_refusal T) hr T.b_Loft_refusal .nil pass0 (pa_cons (pv 1) (pa_cons (pv 2) (pa_cons (pe_cmp (pc_isN (pe_call (ok_first_beyond T) (hr.mono (by decide : 1 ≤ 2)) rfl T.m_first_beyond T.fn_first_beyond.kp T.b_first_beyond .nil pass0 (pa_cons (pv 3) (pa_cons (pe_gint rfl T.g_GREATEST) pa_nil))))) pa_nil)))))
      (pss_cons (ps_if (pt_cmpR op_ne (pv 4) pe_int (nomark _)) (pss_one (ps_ret (pe_lst (pa_cons (pv 4) pa_nil)))) pss_nil)
      (pss_cons (ps_if (pt_cmpR op_ne (pe_callB call_lenS rfl T.n_len PySem.boot_len (pa_cons (pv 3) pa_nil)) (pe_callB call_lenS rfl T.n_len PySem.boot_len (pa_cons (pe_meth (pe_fld (pv 0) rfl) T.cl_Table T.mt_Table_nail_xs (ok_Table_nail_xs T) (hr.mono (by decide : 1 ≤ 2)) T.b_Table_nail_xs .nil pass0 (pa_cons (pv 1) pa_nil)) pa_nil)) (nomark _)) (pss_one (ps_ret (pe_lst (pa_cons (pe_gint rfl T.g_WRONG_LENGTH) pa_nil)))) pss_nil)
      (pss_cons (ps_expr (pe_meth (pe_fld (pv 0) rfl) T.cl_Table T.mt_Table_put_ys (ok_Table_put_ys T) hr T.b_Table_put_ys .nil pass0 (pa_cons (pv 1) (pa_cons (pv 2) (pa_cons (pv 3) pa_nil)))))
      (pss_one (ps_ret (pe_lst (pa_cons pe_int pa_nil)))))))), ?_⟩
    refine ⟨_, rfl, L, dx, _, rfl, hL, rfl, _, rfl, _, rfl, _, rfl, c, us, 1048575, rfl, hC, fun H0 s0 => ?_⟩
    rw [fnbM_eq]
    refine ⟨L, own, way, k, decide (fnb us 0 = none), S, by rw [optV_non]; rfl, hR.same s0, fun H1 s1 => ?_⟩
    have s01 := s0.trans s1
    refine ⟨_, rfl, rfl, _, rfl, ite2 (fun z => ?_) (fun z => ?_)⟩
    · have z' : refCode S way k (decide (fnb us 0 = none)) ≠ 0 := by simpa using z
      have e : LoftFairSeed.step S (.put way k us) = (S, [refCode S way k (decide (fnb us 0 = none))]) := by
        cases S with
        | none => rfl
        | some Tb => rw [put_spec, if_pos z']
      rw [e] at q
      exact ⟨_, rfl, ((Done.same hR q).mono s01).lst1⟩
    · have z' : refCode S way k (decide (fnb us 0 = none)) = 0 := by simpa using z
      obtain ⟨Tb, rfl, hfit, hw⟩ := ref_zero z'
      have hfit := of_decide_eq_true hfit
      obtain ⟨p, ys, ba, ⟨dx2, hL2⟩, hT, ok, ob, oT⟩ := id hR
      have lo := line_ok ok hw
      have ncb : c ≠ ba := fun z => hcb (by rw [z]; exact ob)
      obtain ⟨⟨dxT, pa, ha, h1, h2, h3, m1, m2⟩, h4⟩ := id (hT.same s01)
      refine ⟨_, rfl, _, _, rfl, .inl (s01.seq hC), _, rfl, L, _, dx2, _, _, rfl, s01 _ _ hL2, T.cl_Loft, T.na_Loft_table, lf_ta _, p, dxT, _, rfl, h1, rfl, _, rfl, p, way, Tb.xs, Tb.zs, ys, ba, rfl, hT.same s01, fun H3 r3 s3 n3 e3 => ?_⟩
      have s03 := s01.trans s3
      refine ⟨_, _, rfl, .inl (SqL.of e3), rfl, _, rfl, ?_⟩
      rw [List.length_map, List.length_map]
      refine ite2 (fun y => ?_) (fun y => ?_)
      · have y' : us.length ≠ (if way = 0 then Tb.xs else Tb.zs).length := by
          intro e
          rw [e] at y
          simp at y
        have e : LoftFairSeed.step (some Tb) (.put way k us) = (some Tb, [-9]) := by
          rw [put_spec, if_neg (fun n => n z'), lo.xs_eq, if_pos y']
        rw [e] at q
        exact ((Done.same hR q).mono s03).lst1
      · have y' : us.length = (if way = 0 then Tb.xs else Tb.zs).length := by
          refine Decidable.byContradiction fun n => y ?_
          simp
          omega
        have e : LoftFairSeed.step (some Tb) (.put way k us) = (some (Tb.with_ way.toNat k.toNat us), [0]) := by
          rw [put_spec, if_neg (fun n => n z'), lo.xs_eq, if_neg (fun n => n y')]
        rw [e] at q
        obtain ⟨w1, w2, w3⟩ := lo.wth us y' (fnb_all hfit)
        refine ⟨_, rfl, L, _, dx2, _, _, rfl, s03 _ _ hL2, T.cl_Loft, T.na_Loft_table, lf_ta _, p, dxT, _, rfl, s3 _ _ h1, rfl, _, rfl, _, rfl, _, rfl, p, c, way, k, Tb.xs, Tb.zs, ys, us, ba, rfl, hT.same s03, s03.seq hC, ncb, ok.n24, ok.m16, lo.ins, by rw [lo.len, y'], fun H4 t4 s4 => ?_⟩
        refine ⟨(by show 1 ≤ sizeLine; decide), fun r nr => ?_⟩
        have nLb : L ≠ ba := ne_of hL2 hT.hb (by intro z; cases z)
        have sf : ∀ b o, H b = some o → b ≠ L → ¬ own b → (upd H4 r (.lst [.int 0])) b = some o := fun b o e1 _ e3 => by
          have e4 := s4 b o (s03 b o e1) (fun z => e3 (by rw [z]; exact ob))
          rw [upd_ne (ne_of_none e4 nr)]
          exact e4
        have hr0 : H r = none := by
          cases er : H r with
          | none => rfl
          | some o =>
            by_cases hb : r = ba
            · rw [hb, t4.hb] at nr
              cases nr
            · rw [s4 r o (s03 r o er) hb] at nr
              cases nr
        refine q _ r own ?_ (fun _ z => .inl z) sf hr0 upd_same
        have s5 : Same H4 (upd H4 r (.lst [.int 0])) := (Same.refl H4).new nr
        obtain ⟨dxo, pao, hao, o1, o2, o3⟩ := oT
        have npb : p ≠ ba := ne_of o1 hT.hb (by intro z; cases z)
        refine ⟨p, _, ba, ⟨dx2, s5 _ _ (s4 _ _ (s03 _ _ hL2) nLb)⟩, ?_, w1, ob, dxo, pao, hao, s5 _ _ (s4 _ _ (s03 _ _ o1) npb), o2, o3⟩
        rw [w2, w3]
        exact t4.same s5
def sp_Loft_make (K : PySem.W.Frag) (t : Adr) : Sp := fun vs H Q _ => ∃ (L a b c : Addr) (own : Addr → Prop) (xs zs ys : List Int) (S : State), vs = [.ref L, .ref a, .ref b, .ref c] ∧ Rel t H L S own ∧ SqL K H a (xs.map V.int) ∧ SqL K H b (zs.map V.int) ∧ SqL K H c (ys.map V.int) ∧
  Done t H L own (LoftFairSeed.step S (.make xs zs ys)).1 (LoftFairSeed.step S (.make xs zs ys)).2 Q
theorem make_spec {S : State} {xs zs ys : List Int} : LoftFairSeed.step S (.make xs zs ys) = (match Loft.judge xs zs ys with | .error f => S | .ok T => some T, [0, (verd xs zs ys).1, (verd xs zs ys).2]) := by
  have h := judge_verd xs zs ys
  show (match Loft.judge xs zs ys with
    | .error f => (S, LoftFairSeed.tells [(f.1 : Int), (f.2 : Int)])
    | .ok T => (some T, LoftFairSeed.tells [0, 0])) = _
  cases e : Loft.judge xs zs ys with
  | error f =>
    rw [e] at h
    obtain ⟨h, _⟩ := (show _ ∧ _ from h)
    rw [h]
    rfl
  | ok Tb =>
    rw [e] at h
    obtain ⟨h, _⟩ := (show _ ∧ _ from h)
    rw [h]
    rfl
theorem ok_Loft_make (T : Txt K mg t) : FnOk P w K mg base CX0 3 t.f_Loft_make t.d_Loft_make ["self", "places", "heights", "half_breadths"] (sp_Loft_make K t) := by
  refine T.fn_Loft_make.ok sc_Loft_make (fun vs H Q E h => ?_) (fun cdv A outer s H vs Q E hr h => ?_)
  · obtain ⟨L, a, b, c, own, xs, zs, ys, S, rfl, _⟩ := h
    rfl
  · obtain ⟨L, a, b, c, own, xs, zs, ys, S, rfl, hR, hA, hB, hC, q⟩ := h
    obtain ⟨dx, v, hL⟩ := hR.at
    refine ⟨_, (pss_cons (ps_set (i := 4) sc_Loft_make.nd rfl (Or.inl rfl) (pe_call (ok_verdict_on T) hr rfl T.m_verdict_on T.fn_verdict_on.kp T.b_verdict_on .nil pass0 (pa_cons (pv 1) (pa_cons (pv 2) (pa_cons (pv 3) pa_nil)))))
      (pss_cons (ps_if (pt_cmpR (op_eqD (hu64_of hr)) (pv 4) (pe_lst (pa_cons pe_int (pa_cons pe_int pa_nil))) (nomark _)) (pss_one (ps_fld (pv 0) (pe_make T.mk_Table (ok_Table___init__ T) hr rfl T.m_Table T.b_Table___init__ .nil pass0 (pa_cons (pv 1) (pa_cons (pv 2) (pa_cons (pv 3) pa_nil)))) rfl)) pss_nil)
      (pss_one (ps_ret (pe_op op_cat (pe_lst (pa_cons pe_int pa_nil)) (pv 4)))))), ?_⟩
    refine ⟨_, rfl, _, rfl, _, rfl, a, b, c, xs, zs, ys, rfl, hA, hB, hC, fun H1 rv s1 nv ev => ?_⟩
    refine ⟨_, rfl, (by show 2 ≤ sizeLine; decide), fun r0 n0 => ?_⟩
    have s2 : Same H1 (upd H1 r0 (.lst [.int 0, .int 0])) := (Same.refl H1).new n0
    have s02 := s1.trans s2
    refine ⟨.list [.int (verd xs zs ys).1, .int (verd xs zs ys).2], .list [.int 0, .int 0], .lst (SqL.of (s2 _ _ ev)) (.cons (.int _) (.cons (.int _) .nil)), .lst (SqL.of upd_same) (.cons (.int _) (.cons (.int _) .nil)), rfl, rfl, _, rfl, ?_⟩
    have eq0 : PyData.eqv (.list [.int (verd xs zs ys).1, .int (verd xs zs ys).2]) (.list [.int 0, .int 0]) = ((verd xs zs ys).1 == 0 && ((verd xs zs ys).2 == 0 && true)) := by
      simp [PyData.eqv, PyData.eqvAll]
    rw [eq0]
    have jv := judge_verd xs zs ys
    rw [make_spec] at q
    cases ej : Loft.judge xs zs ys with
    | error f =>
      rw [ej] at jv q
      obtain ⟨j1, j2⟩ := (show verd xs zs ys = ((f.1 : Int), (f.2 : Int)) ∧ f.1 ≠ 0 from jv)
      have hne : ((verd xs zs ys).1 == 0) = false := by
        rw [j1]
        simp
        exact j2
      rw [hne]
      refine iteF ⟨(by show 1 ≤ sizeLine; decide), fun r3 n3 => ⟨_, rfl, r3, rv, _, [.int (verd xs zs ys).1, .int (verd xs zs ys).2], rfl, rfl, upd_same, ?_, (by show 1 + 2 ≤ sizeLine; decide), fun r4 n4 => ?_⟩⟩
      · rw [upd_ne (ne_of_none (s2 _ _ ev) n3)]
        exact s2 _ _ ev
      · have s3 : Same H (upd (upd H1 r0 (.lst [.int 0, .int 0])) r3 (.lst [.int 0])) := s02.new n3
        exact (Done.same hR q) _ r4 (s3.new n4) (s3.free n4) upd_same
    | ok Tb =>
      rw [ej] at jv q
      obtain ⟨j1, jx, jz, ok⟩ := (show verd xs zs ys = (0, 0) ∧ Tb.xs = xs ∧ Tb.zs = zs ∧ TabOk Tb ys from jv)
      rw [j1] at q ev ⊢
      refine iteT ?_
      refine ⟨_, rfl, _, rfl, _, rfl, fun x dx' nx ndx ne => ?_⟩
      generalize hH2 : upd H1 r0 (.lst [.int 0, .int 0]) = H2 at *
      have s03 : Same H2 (upd (upd H2 dx' (.own x)) x (.ins t.c_Table dx' [])) := fun b o e => by
        rw [upd_ne (ne_of_none e nx), upd_ne (ne_of_none e ndx)]
        exact e
      have sh := s02.trans s03
      refine ⟨x, dx', a, b, c, xs, zs, ys, rfl, upd_same, sh.seq hA, sh.seq hB, sh.seq hC, fun H4 ba' tb4 ⟨dxn, pan, han, o1, f1, f2, f3⟩ k4 => ⟨rfl, ?_⟩⟩
      have s4 : Same H2 H4 := fun b o e => k4 b o (s03 b o e) (ne_of_none e nx)
      have s04 := s02.trans s4
      have hL4 : H4 L = some (.ins t.c_Loft dx (lf v)) := s04 _ _ hL
      refine ⟨_, rfl, L, _, dx, _, rfl, hL4, T.cl_Loft, T.na_Loft_table, (by show 1 < 1000; decide), ?_⟩
      have s5 : SameBut L H (upd H4 L (.ins t.c_Loft dx (putF "table" (.ref x) (lf v)))) := (Same.but s04 L).upd _
      have nLx : L ≠ x := fun e => by
        have : H2 L = _ := s02 _ _ hL
        rw [e, nx] at this
        cases this
      have hL5 : (upd H4 L (.ins t.c_Loft dx (putF "table" (.ref x) (lf v)))) L = some (.ins t.c_Loft dx (lf (.ref x))) := upd_same
      have nbL : ba' ≠ L := fun e => by
        have h := tb4.hb
        rw [e, hL4] at h
        cases h
      have tb5 : TabAt t.c_Table (upd H4 L (.ins t.c_Loft dx (putF "table" (.ref x) (lf v)))) x xs zs ys ba' := by
        obtain ⟨⟨dxT, pa, ha, h1, h2, h3, m1, m2⟩, h4⟩ := tb4
        have np : ∀ {b : Addr} {l : List V}, H4 b = some (.lst l) → b ≠ L := fun e z => by
          rw [z, hL4] at e
          cases e
        exact ⟨⟨dxT, pa, ha, by rw [upd_ne (ne_sym nLx)]; exact h1, by rw [upd_ne (np h2)]; exact h2, by rw [upd_ne (np h3)]; exact h3, m1, m2⟩, by rw [upd_ne nbL]; exact h4⟩
      have o5 : (upd H4 L (.ins t.c_Loft dx (putF "table" (.ref x) (lf v)))) x = some (.ins t.c_Table dxn (tf pan han ba')) := by
        rw [upd_ne (ne_sym nLx)]
        exact o1
      have ev5 : (upd H4 L (.ins t.c_Loft dx (putF "table" (.ref x) (lf v)))) rv = some (.lst ([(0 : Int), 0].map V.int)) := by
        have e4 := s4 _ _ (s2 _ _ ev)
        rw [upd_ne (fun z => by rw [z, hL4] at e4; cases e4)]
        exact e4
      generalize upd H4 L (.ins t.c_Loft dx (putF "table" (.ref x) (lf v))) = H5 at *
      refine ⟨(by show 1 ≤ sizeLine; decide), fun r3 n3 => ⟨_, rfl, r3, rv, _, [.int 0, .int 0], rfl, rfl, upd_same, ?_, (by show 1 + 2 ≤ sizeLine; decide), fun r4 n4 => ?_⟩⟩
      · rw [upd_ne (ne_of_none ev5 n3)]
        exact ev5
      · have s6 : Same H5 (upd H5 r3 (.lst [.int 0])) := (Same.refl H5).new n3
        have s7 : Same H5 (upd (upd H5 r3 (.lst [.int 0])) r4 (.lst ([.int 0] ++ [(0 : Int), 0].map V.int))) := s6.new n4
        have n5 := s6.free n4
        have hr4 : H r4 = none := s5.free n5 (fun z => by rw [z, hL5] at n5; cases n5)
        refine q _ r4 (fun b => H b = none) ?_ (fun _ z => .inr z) (fun b o e n _ => s7 b o (s5 b o e n)) hr4 upd_same
        refine ⟨x, ys, ba', ⟨dx, s7 _ _ hL5⟩, ?_, ok, sh.free f3, dxn, pan, han, s7 _ _ o5, sh.free f1, sh.free f2⟩
        rw [jx, jz]
        exact tb5.same s7
end FL

end
section
set_option Elab.async false
set_option linter.all false
set_option maxRecDepth 100000
set_option maxHeartbeats 4000000
namespace FL
open LoftFairSeed (Call)
def RowAt (ns : List Int) (i : Nat) (us : List Int) (i' : Nat) : Prop := ∃ m : Nat, ns[i]? = some (m : Int) ∧ i + 1 + m ≤ ns.length ∧ us = (ns.drop (i + 1)).take m ∧ i' = i + 1 + m
def CallAt (ns : List Int) (i : Nat) (x : Call) (i' : Nat) : Prop := match x with
  | .make xs zs ys => ns[i]? = some 1 ∧ ∃ i1 i2, RowAt ns (i + 1) xs i1 ∧ RowAt ns i1 zs i2 ∧ RowAt ns i2 ys i'
  | .line way k => ns[i]? = some 2 ∧ ns[i + 1]? = some way ∧ ns[i + 2]? = some k ∧ i' = i + 3
  | .put way k us => ns[i]? = some 3 ∧ ns[i + 1]? = some way ∧ ns[i + 2]? = some k ∧ RowAt ns (i + 3) us i'
  | .stands way k => ns[i]? = some 4 ∧ ns[i + 1]? = some way ∧ ns[i + 2]? = some k ∧ i' = i + 3
  | .judge way k h => ns[i]? = some 5 ∧ ns[i + 1]? = some way ∧ ns[i + 2]? = some k ∧ RowAt ns (i + 3) h i'
  | .least way k h m => ns[i]? = some 6 ∧ ns[i + 1]? = some way ∧ ns[i + 2]? = some k ∧ ∃ i1, RowAt ns (i + 3) h i1 ∧ RowAt ns i1 m i'
  | .many way k h m => ns[i]? = some 7 ∧ ns[i + 1]? = some way ∧ ns[i + 2]? = some k ∧ ∃ i1, RowAt ns (i + 3) h i1 ∧ RowAt ns i1 m i'
  | .none_ way k h m => ns[i]? = some 8 ∧ ns[i + 1]? = some way ∧ ns[i + 2]? = some k ∧ ∃ i1, RowAt ns (i + 3) h i1 ∧ RowAt ns i1 m i'
theorem get_drop {ns : List Int} {i : Nat} {z : Int} {r : List Int} (h : ns.drop i = z :: r) : ns[i]? = some z ∧ ns.drop (i + 1) = r ∧ i < ns.length := by
  have h1 : (ns.drop i)[0]? = some z := by rw [h]; rfl
  rw [List.getElem?_drop, Nat.add_zero] at h1
  have h2 : (ns.drop i).drop 1 = r := by rw [h]; rfl
  rw [List.drop_drop] at h2
  exact ⟨h1, h2, lt_of_get h1⟩
theorem row_at {ns : List Int} {i : Nat} {us rest : List Int} (h : PyFlat.row (ns.drop i) = some (us, rest)) : ∃ i', RowAt ns i us i' ∧ rest = ns.drop i' ∧ i < i' := by
  cases e : ns.drop i with
  | nil => rw [e] at h; cases h
  | cons n r =>
    rw [e] at h
    obtain ⟨e1, e2, e3⟩ := get_drop e
    have h' : (if 0 ≤ n ∧ n.toNat ≤ r.length then some (r.take n.toNat, r.drop n.toNat) else none) = some (us, rest) := h
    by_cases c : 0 ≤ n ∧ n.toNat ≤ r.length
    · rw [if_pos c] at h'
      obtain ⟨q1, q2⟩ := Prod.mk.inj (Option.some.inj h')
      have hr : r.length = ns.length - (i + 1) := by rw [← e2, List.length_drop]
      refine ⟨i + 1 + n.toNat, ⟨n.toNat, ?_, by omega, by rw [e2]; exact q1.symm, rfl⟩, ?_, by omega⟩
      · rw [e1]
        congr 1
        omega
      · rw [← q2, ← e2, List.drop_drop]
    · rw [if_neg c] at h'
      cases h'
theorem rows0 {l : List Int} {xs : List (List Int)} {rest : List Int} (h : PyFlat.rows 0 l = some (xs, rest)) : xs = [] ∧ rest = l := by
  obtain ⟨e1, e2⟩ := Prod.mk.inj (Option.some.inj (show some (([] : List (List Int)), l) = some (xs, rest) from h))
  exact ⟨e1.symm, e2.symm⟩
theorem rows_succ {n : Nat} {l : List Int} {xs : List (List Int)} {rest : List Int} (h : PyFlat.rows (n + 1) l = some (xs, rest)) : ∃ x s xs', PyFlat.row l = some (x, s) ∧ PyFlat.rows n s = some (xs', rest) ∧ xs = x :: xs' := by
  have h' : (match PyFlat.row l with
    | none => none
    | some (x, s) => match PyFlat.rows n s with
      | none => none
      | some (xs, t) => some (x :: xs, t)) = some (xs, rest) := h
  cases e : PyFlat.row l with
  | none => rw [e] at h'; cases h'
  | some q =>
    obtain ⟨x, s⟩ := q
    rw [e] at h'
    have h2 : (match PyFlat.rows n s with
      | none => none
      | some (xs, t) => some (x :: xs, t)) = some (xs, rest) := h'
    cases e2 : PyFlat.rows n s with
    | none => rw [e2] at h2; cases h2
    | some q2 =>
      obtain ⟨xs', t⟩ := q2
      rw [e2] at h2
      obtain ⟨q1, q3⟩ := Prod.mk.inj (Option.some.inj (show some (x :: xs', t) = some (xs, rest) from h2))
      exact ⟨x, s, xs', rfl, by rw [e2, q3], q1.symm⟩
theorem call_inv {l : List Int} {p : Int} {r : List Int} {c : List (List Int)} {rest : List Int} (h : PyFlat.call PyWqlftc.shape (p :: r) = some (c, rest)) : ∃ n k xs, PyWqlftc.shape p = some (n, k) ∧ ¬ r.length < n ∧ PyFlat.rows k (r.drop n) = some (xs, rest) ∧ c = (p :: r.take n) :: xs := by
  have h' : (match PyWqlftc.shape p with
    | none => none
    | some (n, k) => if r.length < n then none else match PyFlat.rows k (r.drop n) with
      | none => none
      | some (xs, t) => some ((p :: r.take n) :: xs, t)) = some (c, rest) := h
  cases e : PyWqlftc.shape p with
  | none => rw [e] at h'; cases h'
  | some q =>
    obtain ⟨n, k⟩ := q
    rw [e] at h'
    have h2 : (if r.length < n then none else match PyFlat.rows k (r.drop n) with
      | none => none
      | some (xs, t) => some ((p :: r.take n) :: xs, t)) = some (c, rest) := h'
    by_cases c1 : r.length < n
    · rw [if_pos c1] at h2; cases h2
    · rw [if_neg c1] at h2
      cases e2 : PyFlat.rows k (r.drop n) with
      | none => rw [e2] at h2; cases h2
      | some q2 =>
        obtain ⟨xs, t⟩ := q2
        rw [e2] at h2
        obtain ⟨q1, q3⟩ := Prod.mk.inj (Option.some.inj (show some ((p :: r.take n) :: xs, t) = some (c, rest) from h2))
        exact ⟨n, k, xs, rfl, c1, by rw [e2, q3], q1.symm⟩
theorem shape_cases {p : Int} {n k : Nat} (h : PyWqlftc.shape p = some (n, k)) : (p = 1 ∧ n = 0 ∧ k = 3) ∨ (p = 2 ∧ n = 2 ∧ k = 0) ∨ (p = 3 ∧ n = 2 ∧ k = 1) ∨ (p = 4 ∧ n = 2 ∧ k = 0) ∨ (p = 5 ∧ n = 2 ∧ k = 1) ∨ (p = 6 ∧ n = 2 ∧ k = 2) ∨ (p = 7 ∧ n = 2 ∧ k = 2) ∨ (p = 8 ∧ n = 2 ∧ k = 2) := by
  unfold PyWqlftc.shape at h
  repeat' split at h
  all_goals first
    | (have h' := Option.some.inj h; injection h' with a b; omega)
    | cases h
theorem drop2 {ns : List Int} {i : Nat} {p : Int} {r : List Int} (h : ns.drop i = p :: r) (hl : ¬ r.length < 2) : ∃ a b, r.take 2 = [a, b] ∧ ns[i + 1]? = some a ∧ ns[i + 2]? = some b ∧ r.drop 2 = ns.drop (i + 3) := by
  obtain ⟨_, e2, _⟩ := get_drop h
  match r, hl with
  | a :: b :: r', _ =>
    obtain ⟨f1, f2, _⟩ := get_drop e2
    obtain ⟨g1, g2, _⟩ := get_drop f2
    exact ⟨a, b, rfl, f1, g1, g2.symm⟩
  | [], hl => exact absurd (by decide) hl
  | [_], hl => exact absurd (by simp) hl
theorem call_at {ns : List Int} {i : Nat} {c : List (List Int)} {rest : List Int} (h : PyFlat.call PyWqlftc.shape (ns.drop i) = some (c, rest)) : ∃ x i', FairNeutral.callOf (PyWqlftc.whole c) = some x ∧ CallAt ns i x i' ∧ rest = ns.drop i' ∧ i < i' := by
  cases e : ns.drop i with
  | nil => rw [e] at h; cases h
  | cons p r =>
    rw [e] at h
    obtain ⟨n, k, xs, h1, h2, h3, rfl⟩ := call_inv (l := r) h
    obtain ⟨e1, e2, e3⟩ := get_drop e
    rcases shape_cases h1 with ⟨rfl, rfl, rfl⟩ | ⟨rfl, rfl, rfl⟩ | ⟨rfl, rfl, rfl⟩ | ⟨rfl, rfl, rfl⟩ | ⟨rfl, rfl, rfl⟩ | ⟨rfl, rfl, rfl⟩ | ⟨rfl, rfl, rfl⟩ | ⟨rfl, rfl, rfl⟩
    · obtain ⟨x, s, xs1, a1, a2, rfl⟩ := rows_succ h3
      obtain ⟨y, s2, xs2, b1, b2, rfl⟩ := rows_succ a2
      obtain ⟨z, s3, xs3, c1, c2, rfl⟩ := rows_succ b2
      obtain ⟨rfl, rfl⟩ := rows0 c2
      have a1' : PyFlat.row (ns.drop (i + 1)) = some (x, s) := by rw [e2]; exact a1
      obtain ⟨i1, r1, rfl, l1⟩ := row_at a1'
      obtain ⟨i2, r2, rfl, l2⟩ := row_at b1
      obtain ⟨i3, r3, rfl, l3⟩ := row_at c1
      exact ⟨.make x y z, i3, rfl, ⟨e1, i1, i2, r1, r2, r3⟩, rfl, by omega⟩
    · obtain ⟨a, b, t2, f1, f2, d2⟩ := drop2 e h2
      obtain ⟨rfl, rfl⟩ := rows0 h3
      rw [t2]
      exact ⟨.line a b, i + 3, rfl, ⟨e1, f1, f2, rfl⟩, d2, by omega⟩
    · obtain ⟨a, b, t2, f1, f2, d2⟩ := drop2 e h2
      obtain ⟨x, s, xs1, a1, a2, rfl⟩ := rows_succ h3
      obtain ⟨rfl, rfl⟩ := rows0 a2
      rw [d2] at a1
      obtain ⟨i1, r1, rfl, l1⟩ := row_at a1
      rw [t2]
      exact ⟨.put a b x, i1, rfl, ⟨e1, f1, f2, r1⟩, rfl, by omega⟩
    · obtain ⟨a, b, t2, f1, f2, d2⟩ := drop2 e h2
      obtain ⟨rfl, rfl⟩ := rows0 h3
      rw [t2]
      exact ⟨.stands a b, i + 3, rfl, ⟨e1, f1, f2, rfl⟩, d2, by omega⟩
    · obtain ⟨a, b, t2, f1, f2, d2⟩ := drop2 e h2
      obtain ⟨x, s, xs1, a1, a2, rfl⟩ := rows_succ h3
      obtain ⟨rfl, rfl⟩ := rows0 a2
      rw [d2] at a1
      obtain ⟨i1, r1, rfl, l1⟩ := row_at a1
      rw [t2]
      exact ⟨.judge a b x, i1, rfl, ⟨e1, f1, f2, r1⟩, rfl, by omega⟩
    · obtain ⟨a, b, t2, f1, f2, d2⟩ := drop2 e h2
      obtain ⟨x, s, xs1, a1, a2, rfl⟩ := rows_succ h3
      obtain ⟨y, s2, xs2, b1, b2, rfl⟩ := rows_succ a2
      obtain ⟨rfl, rfl⟩ := rows0 b2
      rw [d2] at a1
      obtain ⟨i1, r1, rfl, l1⟩ := row_at a1
      obtain ⟨i2, r2, rfl, l2⟩ := row_at b1
      rw [t2]
      exact ⟨.least a b x y, i2, rfl, ⟨e1, f1, f2, i1, r1, r2⟩, rfl, by omega⟩
    · obtain ⟨a, b, t2, f1, f2, d2⟩ := drop2 e h2
      obtain ⟨x, s, xs1, a1, a2, rfl⟩ := rows_succ h3
      obtain ⟨y, s2, xs2, b1, b2, rfl⟩ := rows_succ a2
      obtain ⟨rfl, rfl⟩ := rows0 b2
      rw [d2] at a1
      obtain ⟨i1, r1, rfl, l1⟩ := row_at a1
      obtain ⟨i2, r2, rfl, l2⟩ := row_at b1
      rw [t2]
      exact ⟨.many a b x y, i2, rfl, ⟨e1, f1, f2, i1, r1, r2⟩, rfl, by omega⟩
    · obtain ⟨a, b, t2, f1, f2, d2⟩ := drop2 e h2
      obtain ⟨x, s, xs1, a1, a2, rfl⟩ := rows_succ h3
      obtain ⟨y, s2, xs2, b1, b2, rfl⟩ := rows_succ a2
      obtain ⟨rfl, rfl⟩ := rows0 b2
      rw [d2] at a1
      obtain ⟨i1, r1, rfl, l1⟩ := row_at a1
      obtain ⟨i2, r2, rfl, l2⟩ := row_at b1
      rw [t2]
      exact ⟨.none_ a b x y, i2, rfl, ⟨e1, f1, f2, i1, r1, r2⟩, rfl, by omega⟩
inductive RunAt (ns : List Int) : Nat → LoftFairSeed.State → List Int → Prop
  | done {i : Nat} {S : LoftFairSeed.State} : ns.length ≤ i → RunAt ns i S []
  | call {i i' : Nat} {S : LoftFairSeed.State} {x : Call} {out : List Int} : i < i' → CallAt ns i x i' → RunAt ns i' (LoftFairSeed.step S x).1 out → RunAt ns i S (((LoftFairSeed.step S x).2.length : Int) :: (LoftFairSeed.step S x).2 ++ out)
theorem calls_inv {f : Nat} {p : Int} {r : List Int} {cs : List (List (List Int))} (h : PyFlat.calls PyWqlftc.shape (f + 1) (p :: r) = some cs) : ∃ c t cs', PyFlat.call PyWqlftc.shape (p :: r) = some (c, t) ∧ PyFlat.calls PyWqlftc.shape f t = some cs' ∧ cs = c :: cs' := by
  have h' : (match PyFlat.call PyWqlftc.shape (p :: r) with
    | none => none
    | some (c, t) => match PyFlat.calls PyWqlftc.shape f t with
      | none => none
      | some cs => some (c :: cs)) = some cs := h
  cases e : PyFlat.call PyWqlftc.shape (p :: r) with
  | none => rw [e] at h'; cases h'
  | some q =>
    obtain ⟨c, t⟩ := q
    rw [e] at h'
    have h2 : (match PyFlat.calls PyWqlftc.shape f t with
      | none => none
      | some cs => some (c :: cs)) = some cs := h'
    cases e2 : PyFlat.calls PyWqlftc.shape f t with
    | none => rw [e2] at h2; cases h2
    | some cs' =>
      rw [e2] at h2
      exact ⟨c, t, cs', rfl, e2, (Option.some.inj (show some (c :: cs') = some cs from h2)).symm⟩
theorem run_at (ns : List Int) : ∀ (f i : Nat) (S : LoftFairSeed.State) (cs : List (List (List Int))), PyFlat.calls PyWqlftc.shape f (ns.drop i) = some cs → RunAt ns i S (PyFlat.told (PyFlat.played FairNeutral.step S (cs.map PyWqlftc.whole)))
  | f, i, S, cs, h => by
    cases e : ns.drop i with
    | nil =>
      rw [e] at h
      have ec : cs = [] := by
        cases f <;> exact (Option.some.inj (show some [] = some cs from h)).symm
      subst ec
      refine RunAt.done ?_
      have := congrArg List.length e
      simp at this
      omega
    | cons p r =>
      rw [e] at h
      match f, h with
      | 0, h => cases h
      | f + 1, h =>
        obtain ⟨c, tl, cs', h1, h2, rfl⟩ := calls_inv h
        rw [← e] at h1
        obtain ⟨x, i', hx, hc, rfl, hi⟩ := call_at h1
        have es : FairNeutral.step S (PyWqlftc.whole c) = LoftFairSeed.step S x := by
          unfold FairNeutral.step
          rw [hx]
        have ih := run_at ns f i' (LoftFairSeed.step S x).1 cs' h2
        have eo : PyFlat.told (PyFlat.played FairNeutral.step S ((c :: cs').map PyWqlftc.whole)) = ((LoftFairSeed.step S x).2.length : Int) :: (LoftFairSeed.step S x).2 ++ PyFlat.told (PyFlat.played FairNeutral.step (LoftFairSeed.step S x).1 (cs'.map PyWqlftc.whole)) := by
          show PyFlat.told ((FairNeutral.step S (PyWqlftc.whole c)).2 :: PyFlat.played FairNeutral.step (FairNeutral.step S (PyWqlftc.whole c)).1 (cs'.map PyWqlftc.whole)) = _
          rw [es]
          rfl
        rw [eo]
        exact RunAt.call hi hc ih
theorem run_of {ns : List Int} (h : PyWqlftc.answers_asked ns = true) : RunAt ns 0 LoftFairSeed.start (PyWqlftc.answers ns) := by
  unfold PyWqlftc.answers_asked at h
  unfold PyWqlftc.answers
  have hc : PyWqlftc.calls ns = match PyFlat.calls PyWqlftc.shape ns.length ns with
    | none => none
    | some cs => some (cs.map PyWqlftc.whole) := rfl
  cases e : PyFlat.calls PyWqlftc.shape ns.length ns with
  | none =>
    rw [hc, e] at h
    cases h
  | some cs =>
    rw [hc, e]
    exact run_at ns ns.length 0 LoftFairSeed.start cs e
end FL

end
section
set_option Elab.async false
set_option linter.all false
set_option maxRecDepth 100000
set_option maxHeartbeats 4000000
namespace FL
open PySem PySem.Spec PyProof.Rows L2
variable {P : Program} {w : World} {K : PySem.W.Frag} {mg : Str → Option Value} {base : Heap} {t : Adr}
def Fz (K : PySem.W.Frag) (H : Hp) (l : Addr) (xs : List V) : Prop := (∃ o, H l = some (.frz o (.lst xs))) ∨
  ∃ (o : Obj) (its : Array Value) (n : Nat), K.lookup l = some o ∧ o.cls = .type "list" ∧ o.dict = none ∧ o.data = .seq its n ∧ its.size ≤ sizeLine ∧ Vals xs its.toList
theorem Fz.seq {H : Hp} {l : Addr} {xs : List V} (h : Fz K H l xs) : SqL K H l xs := by
  rcases h with ⟨o, h⟩ | h
  · exact .inl (.inr ⟨o, h⟩)
  · exact .inr h
def Live (H : Hp) (a : Addr) : Prop := ∀ o u, H a ≠ some (.frz o u)
theorem Fz.keep {H H' : Hp} {l : Addr} {xs : List V} (h : Fz K H l xs) (k : ∀ o u, H l = some (.frz o u) → H' l = some (.frz o u)) : Fz K H' l xs := by
  rcases h with ⟨o, h⟩ | h
  · exact .inl ⟨o, k _ _ h⟩
  · exact .inr h
theorem Fz.same {H H' : Hp} {l : Addr} {xs : List V} (h : Fz K H l xs) (s : Same H H') : Fz K H' l xs := h.keep fun _ _ e => s _ _ e
theorem live_ins {H : Hp} {a C dx : Addr} {fs : List (Str × V)} (h : H a = some (.ins C dx fs)) : Live H a := fun o u e => by
  rw [h] at e
  cases e
theorem live_lst {H : Hp} {a : Addr} {xs : List V} (h : H a = some (.lst xs)) : Live H a := fun o u e => by
  rw [h] at e
  cases e
theorem Fz.but {H H' : Hp} {l a : Addr} {xs : List V} (h : Fz K H l xs) (s : SameBut a H H') (v : Live H a) : Fz K H' l xs := h.keep fun o u e => s _ _ e fun z => v o u (by rw [← z]; exact e)
theorem rf_ne_lf (l : Addr) (i : Int) (v : V) : rf l i ≠ lf v := by
  intro e
  have := congrArg List.length e
  simp [rf, lf] at this
theorem rf_ne_tf (l pa ha ba : Addr) (i : Int) : rf l i ≠ tf pa ha ba := by
  intro e
  have := congrArg List.length e
  simp [rf, tf] at this
theorem Rel.ne {H : Hp} {L R l : Addr} {S : State} {own : Addr → Prop} {i : Int} (h : Rel t H L S own) (r : ReadAt t.c_Reader H R l i) : R ≠ L := by
  obtain ⟨dr, r⟩ := r
  obtain ⟨dx, v, hL⟩ := h.at
  exact ne_of r hL (fun z => by injection z with _ _ z; exact rf_ne_lf _ _ _ z)
theorem Rel.reader {H H' : Hp} {L R l : Addr} {S : State} {own : Addr → Prop} {i : Int} (h : Rel t H L S own) (r : ReadAt t.c_Reader H R l i) (s : SameBut R H H') : Rel t H' L S own := by
  have n1 := h.ne r
  obtain ⟨dr, r⟩ := r
  have nl : ∀ {b : Addr} {xs : List V}, H b = some (.lst xs) → b ≠ R := fun e => ne_of e r (by intro z; cases z)
  have nt : ∀ {p pa ha ba dx : Addr}, H p = some (.ins t.c_Table dx (tf pa ha ba)) → p ≠ R := fun e => ne_of e r (fun z => by injection z with _ _ z; exact rf_ne_tf _ _ _ _ _ z.symm)
  cases S with
  | none =>
    obtain ⟨dx, h⟩ := h
    exact ⟨dx, s _ _ h (ne_sym n1)⟩
  | some Tb =>
    obtain ⟨p, ys, ba, ⟨dx, h1⟩, ⟨⟨dxT, pa, ha, t1, t2, t3, m1, m2⟩, t4⟩, h3, ob, dxo, pao, hao, o1, o2, o3⟩ := h
    exact ⟨p, ys, ba, ⟨dx, s _ _ h1 (ne_sym n1)⟩, ⟨⟨dxT, pa, ha, s _ _ t1 (nt t1), s _ _ t2 (nl t2), s _ _ t3 (nl t3), m1, m2⟩, s _ _ t4 (nl t4)⟩, h3, ob, dxo, pao, hao, s _ _ o1 (nt o1), o2, o3⟩
def NextOk (t : Adr) (H : Hp) (L : Addr) (own : Addr → Prop) (R l : Addr) (i' : Nat) (S' : State) (ans : List Int) (Q : VK) : Prop := ∀ (H' : Hp) (r : Addr) (own' : Addr → Prop), Rel t H' L S' own' → ReadAt t.c_Reader H' R l (i' : Int) → (∀ b, own' b → own b ∨ H b = none) →
  (∀ b o, H b = some o → b ≠ L → ¬ own b → b ≠ R → H' b = some o) → H r = none → H' r = some (.lst (ans.map V.int)) → Q (.ref r) H'
theorem SameBut.ns {a p : Addr} {H H' : Hp} {o : HO} (s : SameBut a H H') (e : H p = some o) (h' : H' p = none) : p = a := Decidable.byContradiction fun n => by
  rw [s p o e n] at h'
  cases h'
theorem NextOk.done {H H1 : Hp} {L : Addr} {own : Addr → Prop} {R l : Addr} {i i' : Nat} {S S' : State} {ans : List Int} {Q : VK} (h : NextOk t H L own R l i' S' ans Q) (hR : Rel t H L S own) (nR : ¬ own R) (r0 : ReadAt t.c_Reader H R l (i : Int)) (s : SameBut R H H1) (r1 : ReadAt t.c_Reader H1 R l (i' : Int)) : Done t H1 L own S' ans Q := by
  intro H' r own' q1 q2 q3 q4 q5
  have hR1 := hR.reader r0 s
  have n1 := hR1.ne r1
  obtain ⟨dr, r1⟩ := r1
  have nn : ∀ b, H1 b = none → H b = none := fun b z => by
    cases e : H b with
    | none => rfl
    | some o =>
      have y := s.ns e z
      rw [y, r1] at z
      cases z
  exact h H' r own' q1 ⟨dr, q3 _ _ r1 n1 nR⟩ (fun b z => (q2 b z).elim .inl fun y => .inr (nn b y)) (fun b o e b1 b2 b3 => q3 b o (s b o e b3) b1 b2) (nn r q4) q5
def sp_answer_make (K : PySem.W.Frag) (t : Adr) : Sp := fun vs H Q _ => ∃ (L R l : Addr) (own : Addr → Prop) (i i1 i2 i3 : Nat) (ns xs zs ys : List Int) (S : State), vs = [.ref L, .ref R] ∧ Rel t H L S own ∧ ¬ own R ∧ ReadAt t.c_Reader H R l (i : Int) ∧ Fz K H l (ns.map V.int) ∧
  RowAt ns i xs i1 ∧ RowAt ns i1 zs i2 ∧ RowAt ns i2 ys i3 ∧ NextOk t H L own R l i3 (LoftFairSeed.step S (.make xs zs ys)).1 (LoftFairSeed.step S (.make xs zs ys)).2 Q
theorem ok_answer_make (T : Txt K mg t) : FnOk P w K mg base CX0 4 t.f_answer_make t.d_answer_make ["loft", "reader"] (sp_answer_make K t) := by
  refine T.fn_answer_make.ok sc_answer_make (fun vs H Q E h => ?_) (fun cdv A outer s H vs Q E hr h => ?_)
  · obtain ⟨L, R, l, own, i, i1, i2, i3, ns, xs, zs, ys, S, rfl, _⟩ := h
    rfl
  · obtain ⟨L, R, l, own, i, i1, i2, i3, ns, xs, zs, ys, S, rfl, hR, nR, r0, fz, w1, w2, w3, q⟩ := h
    refine ⟨_, (pss_cons (ps_set (i := 2) sc_answer_make.nd rfl (Or.inl rfl) (pe_meth0 (pv 1) T.cl_Reader T.mt_Reader_take_row (ok_Reader_take_row T) (hr.mono (by decide : 2 ≤ 3)) T.b_Reader_take_row .nil pass0))
      (pss_cons (ps_set (i := 3) sc_answer_make.nd rfl (Or.inl rfl) (pe_meth0 (pv 1) T.cl_Reader T.mt_Reader_take_row (ok_Reader_take_row T) (hr.mono (by decide : 2 ≤ 3)) T.b_Reader_take_row .nil pass0))
      (pss_cons (ps_set (i := 4) sc_answer_make.nd rfl (Or.inl rfl) (pe_meth0 (pv 1) T.cl_Reader T.mt_Reader_take_row (ok_Reader_take_row T) (hr.mono (by decide : 2 ≤ 3)) T.b_Reader_take_row .nil pass0))
      (pss_one (ps_ret (pe_meth (pv 0) T.cl_Loft T.mt_Loft_make (ok_Loft_make T) hr T.b_Loft_make .nil pass0 (pa_cons (pv 2) (pa_cons (pv 3) (pa_cons (pv 4) pa_nil))))))))), ?_⟩
    obtain ⟨m1, a1, b1, rfl, rfl⟩ := w1
    obtain ⟨m2, a2, b2, rfl, rfl⟩ := w2
    obtain ⟨m3, a3, b3, rfl, rfl⟩ := w3
    obtain ⟨d0, e0⟩ := id r0
    have lv0 := live_ins e0
    refine ⟨_, rfl, R, d0, _, rfl, e0, rfl, R, l, i, m1, ns, rfl, r0, fz.seq, a1, b1, fun H1 p1 r1 s1 n1 c1 => ?_⟩
    have fz1 := fz.but s1 lv0
    obtain ⟨d1, e1⟩ := id r1
    refine ⟨_, rfl, R, d1, _, rfl, e1, rfl, R, l, _, m2, ns, rfl, r1, fz1.seq, a2, b2, fun H2 p2 r2 s2 n2 c2 => ?_⟩
    have fz2 := fz1.but s2 (live_ins e1)
    obtain ⟨d2, e2⟩ := id r2
    refine ⟨_, rfl, R, d2, _, rfl, e2, rfl, R, l, _, m3, ns, rfl, r2, fz2.seq, a3, b3, fun H3 p3 r3 s3 n3 c3 => ?_⟩
    obtain ⟨d3, e3⟩ := id r3
    have s03 : SameBut R H H3 := (s1.trans s2).trans s3
    have hR3 := hR.reader r0 s03
    obtain ⟨dx, v, hL3⟩ := hR3.at
    have k1 : p1 ≠ R := ne_of c1 e1 (by intro z; cases z)
    have k2 : p2 ≠ R := ne_of c2 e2 (by intro z; cases z)
    refine ⟨_, rfl, L, dx, _, rfl, hL3, rfl, _, rfl, _, rfl, _, rfl, L, p1, p2, p3, own, _, _, _, S, rfl, hR3, SqL.of (s3 _ _ (s2 _ _ c1 k1) k1), SqL.of (s3 _ _ c2 k2), SqL.of c3, q.done hR nR r0 s03 r3⟩
end FL

end
section
set_option Elab.async false
set_option linter.all false
set_option maxRecDepth 100000
set_option maxHeartbeats 4000000
namespace FL
open Loft (Spot as_ standing moveOf lesser)
def sm (l : List Int) (f : Int → Int) : Int := (l.map f).sum
theorem sm_nil (f : Int → Int) : sm [] f = 0 := rfl
theorem sm_cons (a : Int) (l : List Int) (f : Int → Int) : sm (a :: l) f = f a + sm l f := by simp [sm]
theorem sm_congr {f g : Int → Int} : ∀ {l : List Int}, (∀ a ∈ l, f a = g a) → sm l f = sm l g
  | [], _ => rfl
  | a :: l, h => by rw [sm_cons, sm_cons, h a (List.mem_cons_self ..), sm_congr fun b hb => h b (List.mem_cons_of_mem _ hb)]
theorem sm_add (f g : Int → Int) : ∀ l : List Int, sm l (fun a => f a + g a) = sm l f + sm l g
  | [] => rfl
  | a :: l => by rw [sm_cons, sm_cons, sm_cons, sm_add f g l]; omega
theorem sm_zero : ∀ l : List Int, sm l (fun _ => 0) = 0
  | [] => rfl
  | a :: l => by rw [sm_cons, sm_zero l]; rfl
theorem sm_mul (c : Int) (f : Int → Int) : ∀ l : List Int, sm l (fun a => c * f a) = c * sm l f
  | [] => by rw [sm_nil, sm_nil, Int.mul_zero]
  | a :: l => by rw [sm_cons, sm_cons, sm_mul c f l, Int.mul_add]
theorem sm_mulr (c : Int) (f : Int → Int) (l : List Int) : sm l (fun a => f a * c) = sm l f * c := by
  rw [Int.mul_comm, ← sm_mul]
  exact sm_congr fun a _ => Int.mul_comm ..
theorem sm_comm (f : Int → Int → Int) (m : List Int) : ∀ l : List Int, sm l (fun a => sm m fun b => f a b) = sm m fun b => sm l fun a => f a b
  | [] => by
    rw [sm_nil]
    exact (sm_zero m).symm
  | a :: l => by
    rw [sm_cons, sm_comm f m l, ← sm_add]
    exact sm_congr fun b _ => (sm_cons a l (fun a => f a b)).symm
theorem sm_filter (ok : Int → Bool) (f : Int → Int) : ∀ l : List Int, ((l.filter ok).map f).sum = sm l fun a => if ok a = true then f a else 0
  | [] => rfl
  | a :: l => by
    rw [sm_cons, List.filter_cons]
    split
    · rw [List.map_cons, List.sum_cons, sm_filter ok f l]
    · rw [sm_filter ok f l, Int.zero_add]
theorem fo_cnt : ∀ (l : List Int) (N : Int), fo .cnt N l = N + l.sum
  | [], N => by simp [fo]
  | a :: l, N => by
    show fo .cnt (N + a) l = _
    rw [fo_cnt l, List.sum_cons]
    omega
theorem cast_sum : ∀ l : List Nat, ((Loft.sum l : Nat) : Int) = (l.map fun (n : Nat) => (n : Int)).sum
  | [] => rfl
  | a :: l => by
    show ((a + Loft.sum l : Nat) : Int) = _
    rw [Int.natCast_add, cast_sum l, List.map_cons, List.sum_cons]
theorem cast_sm (l : List Int) (f : Int → Nat) : ((Loft.sum (l.map f) : Nat) : Int) = sm l fun a => (f a : Int) := by
  rw [cast_sum, List.map_map]
  rfl
theorem bhd_cnt {c : Nat} {lo : Int} {n : Nat} {x0 x1 x2 b d : Int} (X : Int → Int) (hx : x1 < x2) (hc : c ≤ 3) :
    bhd .cnt 0 c lo (x2 - x1) ((upto lo n).map X) (pt x0 x1 x2 b d) = sm (upto lo n) fun a => if as_ c (standing x0 x1 x2 a b d) = true then X a else 0 := by
  rw [← sm_filter]
  rcases bhd_eq (k := .cnt) (N := 0) (c := c) (lo := lo) (n := n) (x0 := x0) (x1 := x1) (x2 := x2) (b := b) (d := d) X hx hc with ⟨_, e | e⟩ | ⟨_, ⟨e1, e⟩ | ⟨a, e1, e⟩⟩
  · rw [e, fo_cnt, Int.zero_add]
  · rw [e, fo_cnt, Int.zero_add, List.sum_reverse]
  · rw [e, e1]
    rfl
  · rw [e, e1]
    simp
structure Fits (D : Dt) (l : List Spot) (s : List Nat) : Prop where
  sp : ∀ i u, l[i]? = some u → u.x = D.x i ∧ u.ys = D.ys i
  sh : ∀ i c, s[i]? = some c → c = D.sh i ∧ c ≤ 3
  up : ∀ i, i < l.length → ∃ lo n, 0 < n ∧ D.ys i = upto lo n
  ris : ∀ i, i + 1 < l.length → D.x i < D.x (i + 1)
  len : l.length ≤ s.length + 2
theorem drop_two {α : Type} {l : List α} {j : Nat} (h : j + 2 ≤ l.length) : ∃ u v, l[j]? = some u ∧ l[j + 1]? = some v ∧ l.drop j = u :: v :: l.drop (j + 2) := by
  refine ⟨l[j], l[j + 1], by simp, by simp, ?_⟩
  rw [List.drop_eq_getElem_cons (by omega), List.drop_eq_getElem_cons (by omega)]
theorem drop_one {α : Type} {l : List α} {j : Nat} (h : j + 1 ≤ l.length) : ∃ u, l[j]? = some u ∧ l.drop j = u :: l.drop (j + 1) := by
  refine ⟨l[j], by simp, ?_⟩
  rw [List.drop_eq_getElem_cons (by omega)]
theorem cnt_const {D : Dt} {l : List Spot} {s : List Nat} (F : Fits D l s) (h1 : ∀ i y, D.cf i y = 1) : ∀ j, j + 2 ≤ l.length →
    (sm (D.ys (j + 1)) fun b => sm (D.ys j) fun a => XX .cnt 0 D j a b * (cnt (l.drop j) (s.drop j) a b : Int)) = (Loft.many l s : Int)
  | 0, hj => by
    obtain ⟨u, v, e1, e2, e⟩ := drop_two hj
    rw [List.drop_zero] at e
    rw [List.drop_zero, List.drop_zero, e, many_eq _ _ _ _ (by rw [List.length_drop]; have := F.len; omega), cast_sm, ← (F.sp 0 u e1).2]
    show _ = sm u.ys fun a => ((Loft.sum (v.ys.map fun b => cnt (u :: v :: l.drop (0 + 2)) s a b) : Nat) : Int)
    rw [sm_comm, ← (F.sp 1 v e2).2]
    refine sm_congr fun a _ => ?_
    rw [cast_sm]
    refine sm_congr fun b _ => ?_
    show al .cnt (D.cf 0 a) (D.cf 1 b) * _ = _
    rw [h1, h1]
    show 1 * 1 * _ = _
    rw [Int.one_mul, Int.one_mul]
  | j + 1, hj => by
    rw [← cnt_const F h1 j (by omega)]
    obtain ⟨u, v, e1, e2, e⟩ := drop_two (l := l) (j := j) (by omega)
    obtain ⟨w, e3, e'⟩ := drop_one (l := l) (j := j + 2) (by omega)
    obtain ⟨c, ec, es⟩ := drop_one (l := s) (j := j) (by have := F.len; omega)
    rw [e'] at e
    have e4 : l.drop (j + 1) = v :: w :: l.drop (j + 2 + 1) := by
      rw [← List.tail_drop, e]
      rfl
    rw [e, es, e4]
    obtain ⟨hu, hu'⟩ := F.sp _ _ e1
    obtain ⟨hv, hv'⟩ := F.sp _ _ e2
    obtain ⟨hw, hw'⟩ := F.sp _ _ e3
    obtain ⟨hc, hc3⟩ := F.sh _ _ ec
    obtain ⟨lo, n, hn, eu⟩ := F.up j (by omega)
    have hr := F.ris (j + 1) (by omega)
    rw [sm_comm]
    refine sm_congr fun b _ => ?_
    have L : ∀ a ∈ D.ys j, XX .cnt 0 D j a b * ((cnt (u :: v :: w :: l.drop (j + 2 + 1)) (c :: s.drop (j + 1)) a b : Nat) : Int) = sm (D.ys (j + 2)) fun d => XX .cnt 0 D j a b * (if ok3 c u v w a b d = true then ((cnt (v :: w :: l.drop (j + 2 + 1)) (s.drop (j + 1)) b d : Nat) : Int) else 0) := fun a _ => by
      rw [sm_mul]
      congr 1
      show ((Loft.sum (w.ys.map fun (d : Int) => if ok3 c u v w a b d = true then cnt (v :: w :: l.drop (j + 2 + 1)) (s.drop (j + 1)) b d else 0) : Nat) : Int) = _
      rw [cast_sm, hw']
      refine sm_congr fun d _ => ?_
      split <;> rfl
    rw [sm_congr L, sm_comm]
    refine sm_congr fun d _ => ?_
    have e5 : XX .cnt 0 D (j + 1) b d = sm (D.ys j) fun a => if as_ c (standing (D.x j) (D.x (j + 1)) (D.x (j + 2)) a b d) = true then XX .cnt 0 D j a b else 0 := by
      show al .cnt (bhd .cnt 0 (D.sh j) ((D.ys j).headD 0) (D.x (j + 2) - D.x (j + 1)) ((D.ys j).map fun a => XX .cnt 0 D j a b) _) (D.cf (j + 2) d) = _
      rw [h1]
      show bhd .cnt 0 (D.sh j) ((D.ys j).headD 0) (D.x (j + 2) - D.x (j + 1)) ((D.ys j).map fun a => XX .cnt 0 D j a b) _ * 1 = _
      rw [Int.mul_one, eu, upto_head hn, ← hc]
      exact bhd_cnt (fun a => XX .cnt 0 D j a b) hr hc3
    rw [e5, ← sm_mulr]
    refine sm_congr fun a _ => ?_
    unfold ok3
    rw [hu, hv, hw]
    split
    · rfl
    · rw [Int.zero_mul, Int.mul_zero]
theorem tot_cnt (D : Dt) (j : Nat) : tot .cnt 0 D j = sm (D.ys (j + 1)) fun b => sm (D.ys j) fun a => XX .cnt 0 D j a b := by
  unfold tot rowsAt
  rw [fo_cnt, Int.zero_add, List.map_map]
  show sm _ _ = _
  refine sm_congr fun b _ => ?_
  show fo .cnt 0 _ = _
  rw [fo_cnt, Int.zero_add]
  rfl
theorem tot_many {D : Dt} {l : List Spot} {s : List Nat} (F : Fits D l s) (h1 : ∀ i y, D.cf i y = 1) {j : Nat} (hj : l.length = j + 2) : tot .cnt 0 D j = (Loft.many l s : Int) := by
  rw [← cnt_const F h1 j (by omega), tot_cnt]
  obtain ⟨u, v, e1, e2, e⟩ := drop_two (l := l) (j := j) (by omega)
  rw [e, List.drop_eq_nil_of_le (by omega : l.length ≤ j + 2)]
  refine sm_congr fun b _ => sm_congr fun a _ => ?_
  show _ = _ * ((1 : Nat) : Int)
  rw [Int.natCast_one, Int.mul_one]
def RepM (N : Int) (S : Int → Prop) (v : Int) : Prop := (∀ x, S x → v ≤ x ∨ N ≤ x) ∧ (v < N → S v)
theorem fo_min {k : Kd} (hk : k ≠ .cnt) : ∀ (l : List Int) (N : Int), fo k N l ≤ N ∧ (∀ x ∈ l, fo k N l ≤ x) ∧ (fo k N l = N ∨ fo k N l ∈ l)
  | [], N => ⟨Int.le_refl _, by simp, .inl rfl⟩
  | a :: l, N => by
    have e : ei k N a = if N < a then N else a := by
      match k, hk with
      | .gr, _ => rfl
      | .rk, _ => rfl
    obtain ⟨i1, i2, i3⟩ := fo_min hk l (ei k N a)
    have e' : fo k N (a :: l) = fo k (ei k N a) l := rfl
    rw [e']
    by_cases h : N < a
    · rw [e, if_pos h] at *
      refine ⟨i1, fun x hx => ?_, ?_⟩
      · rcases List.mem_cons.mp hx with rfl | hx
        · omega
        · exact i2 x hx
      · rcases i3 with i3 | i3
        · exact .inl i3
        · exact .inr (List.mem_cons_of_mem _ i3)
    · rw [e, if_neg h] at *
      refine ⟨by omega, fun x hx => ?_, ?_⟩
      · rcases List.mem_cons.mp hx with rfl | hx
        · exact i1
        · exact i2 x hx
      · rcases i3 with i3 | i3
        · exact .inr (by rw [i3]; exact List.mem_cons_self ..)
        · exact .inr (List.mem_cons_of_mem _ i3)
theorem rep_fo {k : Kd} (hk : k ≠ .cnt) {N : Int} {A : List Int} {X : Int → Int} {S : Int → Int → Prop} (h : ∀ a ∈ A, RepM N (S a) (X a)) {m : List Int} (hm : ∀ x, x ∈ m ↔ x ∈ A.map X) :
    RepM N (fun x => ∃ a ∈ A, S a x) (fo k N m) := by
  obtain ⟨f1, f2, f3⟩ := fo_min hk m N
  constructor
  · rintro x ⟨a, ha, hs⟩
    have := f2 (X a) ((hm _).mpr (List.mem_map_of_mem ha))
    rcases (h a ha).1 x hs with z | z <;> omega
  · intro hl
    rcases f3 with z | z
    · omega
    · obtain ⟨a, ha, e⟩ := List.mem_map.mp ((hm _).mp z)
      refine ⟨a, ha, ?_⟩
      rw [← e]
      exact (h a ha).2 (by omega)
theorem rep_bhd {k : Kd} (hk : k ≠ .cnt) {N : Int} {c : Nat} {lo : Int} {n : Nat} {x0 x1 x2 b d : Int} {X : Int → Int} {S : Int → Int → Prop} (hx : x1 < x2) (hc : c ≤ 3) (h : ∀ a ∈ upto lo n, RepM N (S a) (X a)) :
    RepM N (fun x => ∃ a ∈ upto lo n, as_ c (standing x0 x1 x2 a b d) = true ∧ S a x) (bhd k N c lo (x2 - x1) ((upto lo n).map X) (pt x0 x1 x2 b d)) := by
  have hF : ∀ a, a ∈ ((upto lo n).filter fun a => as_ c (standing x0 x1 x2 a b d)) ↔ a ∈ upto lo n ∧ as_ c (standing x0 x1 x2 a b d) = true := fun a => List.mem_filter
  have h' : ∀ a ∈ ((upto lo n).filter fun a => as_ c (standing x0 x1 x2 a b d)), RepM N (S a) (X a) := fun a ha => h a ((hF a).mp ha).1
  have key : ∀ v, RepM N (fun x => ∃ a ∈ ((upto lo n).filter fun a => as_ c (standing x0 x1 x2 a b d)), S a x) v → RepM N (fun x => ∃ a ∈ upto lo n, as_ c (standing x0 x1 x2 a b d) = true ∧ S a x) v := fun v r =>
    ⟨fun x ⟨a, m, o, z⟩ => r.1 x ⟨a, (hF a).mpr ⟨m, o⟩, z⟩, fun hl => let ⟨a, m, z⟩ := r.2 hl; ⟨a, ((hF a).mp m).1, ((hF a).mp m).2, z⟩⟩
  refine key _ ?_
  rcases bhd_eq (k := k) (N := N) (c := c) (lo := lo) (n := n) (x0 := x0) (x1 := x1) (x2 := x2) (b := b) (d := d) X hx hc with ⟨_, e | e⟩ | ⟨_, ⟨e1, e⟩ | ⟨a, e1, e⟩⟩
  · rw [e]
    exact rep_fo hk h' fun x => Iff.rfl
  · rw [e]
    exact rep_fo hk h' fun x => List.mem_reverse
  · rw [e, e1]
    exact ⟨fun x ⟨_, m, _⟩ => by simp at m, fun z => by omega⟩
  · rw [e, e1]
    have ra := h' a (by rw [e1]; exact List.mem_singleton.mpr rfl)
    exact ⟨fun x ⟨a', m, z⟩ => by rw [List.mem_singleton.mp m] at z; exact ra.1 x z, fun hl => ⟨a, List.mem_singleton.mpr rfl, ra.2 hl⟩⟩
def CostOk : Kd → Int → Int → Prop
  | .cnt, _, _ => False
  | .gr, N, c => c < N
  | .rk, _, c => 0 ≤ c
theorem rep_al {k : Kd} {N c : Int} {S : Int → Prop} {v : Int} (hc : CostOk k N c) (h : RepM N S v) : RepM N (fun x => ∃ y, S y ∧ x = al k y c) (al k v c) := by
  match k, hc with
  | .gr, hc =>
    have hc : c < N := hc
    constructor
    · rintro x ⟨y, hy, rfl⟩
      show (if c < v then v else c) ≤ (if c < y then y else c) ∨ N ≤ (if c < y then y else c)
      rcases h.1 y hy with z | z <;> (repeat' split) <;> omega
    · intro hl
      have hl : (if c < v then v else c) < N := hl
      have : v < N := by split at hl <;> omega
      exact ⟨v, h.2 this, rfl⟩
  | .rk, hc =>
    have hc : 0 ≤ c := hc
    constructor
    · rintro x ⟨y, hy, rfl⟩
      show v + c ≤ y + c ∨ N ≤ y + c
      rcases h.1 y hy with z | z <;> omega
    · intro hl
      have hl : v + c < N := hl
      exact ⟨v, h.2 (by omega), rfl⟩
def Sg (k : Kd) (D : Dt) : Nat → Int → Int → Int → Prop
  | 0, a, b, x => x = al k (D.cf 0 a) (D.cf 1 b)
  | j + 1, b, d, x => ∃ y, (∃ a ∈ D.ys j, as_ (D.sh j) (standing (D.x j) (D.x (j + 1)) (D.x (j + 2)) a b d) = true ∧ Sg k D j a b y) ∧ x = al k y (D.cf (j + 2) d)
def fv (k : Kd) (D : Dt) : Nat → List Int → Int → Int
  | _, [], y => y
  | i, d :: q, y => fv k D (i + 1) q (al k y (D.cf i d))
def val (k : Kd) (D : Dt) : List Int → Int
  | a :: b :: q => fv k D 2 q (al k (D.cf 0 a) (D.cf 1 b))
  | _ => 0
theorem XX_rep {k : Kd} (hk : k ≠ .cnt) {N : Int} {D : Dt} {l : List Spot} {s : List Nat} (F : Fits D l s) (hc : ∀ i, i < l.length → ∀ d ∈ D.ys i, CostOk k N (D.cf i d)) : ∀ j, j + 2 ≤ l.length → ∀ a ∈ D.ys j, ∀ b ∈ D.ys (j + 1), RepM N (Sg k D j a b) (XX k N D j a b)
  | 0, _, a, _, b, _ => ⟨fun x hx => .inl (by rw [show x = _ from hx]; exact Int.le_refl _), fun _ => rfl⟩
  | j + 1, hj, b, hb, d, hd => by
    obtain ⟨lo, n, hn, eu⟩ := F.up j (by omega)
    obtain ⟨c, ec, _⟩ := drop_one (l := s) (j := j) (by have := F.len; omega)
    obtain ⟨hc', hc3⟩ := F.sh _ _ ec
    have ih : ∀ a ∈ upto lo n, RepM N (Sg k D j a b) (XX k N D j a b) := fun a ha => XX_rep hk F hc j (by omega) a (by rw [eu]; exact ha) b hb
    have r := rep_bhd hk (x0 := D.x j) (b := b) (d := d) (c := c) (F.ris (j + 1) (by omega)) hc3 ih
    have r2 := rep_al (hc (j + 2) (by omega) d hd) r
    have e : XX k N D (j + 1) b d = al k (bhd k N c lo (D.x (j + 2) - D.x (j + 1)) ((upto lo n).map fun a => XX k N D j a b) (pt (D.x j) (D.x (j + 1)) (D.x (j + 2)) b d)) (D.cf (j + 2) d) := by
      show al k (bhd k N (D.sh j) ((D.ys j).headD 0) _ _ _) _ = _
      rw [eu, upto_head hn, ← hc']
    rw [e]
    have e2 : Sg k D (j + 1) b d = fun x => ∃ y, (∃ a ∈ upto lo n, as_ c (standing (D.x j) (D.x (j + 1)) (D.x (j + 2)) a b d) = true ∧ Sg k D j a b y) ∧ x = al k y (D.cf (j + 2) d) := by
      funext x
      show (∃ y, (∃ a ∈ D.ys j, _) ∧ _) = _
      rw [eu, ← hc']
    rw [e2]
    exact r2
theorem sg_const {k : Kd} {D : Dt} {l : List Spot} {s : List Nat} (F : Fits D l s) {x : Int} : ∀ j, j + 2 ≤ l.length →
    ((∃ a b q, FairRow (l.drop j) (s.drop j) (a :: b :: q) ∧ ∃ y, Sg k D j a b y ∧ x = fv k D (j + 2) q y) ↔ ∃ q, FairRow l s q ∧ x = val k D q)
  | 0, hj => by
    rw [List.drop_zero, List.drop_zero]
    constructor
    · rintro ⟨a, b, q, h, y, rfl, e⟩
      exact ⟨_, h, e⟩
    · rintro ⟨q, h, e⟩
      obtain ⟨u, v, r, a, b, p, _, rfl, _⟩ := fair_in _ _ _ h
      exact ⟨a, b, p, h, _, rfl, e⟩
  | j + 1, hj => by
    rw [← sg_const F j (by omega)]
    obtain ⟨u, v, e1, e2, e⟩ := drop_two (l := l) (j := j) (by omega)
    obtain ⟨w, e3, e'⟩ := drop_one (l := l) (j := j + 2) (by omega)
    obtain ⟨c, ec, es⟩ := drop_one (l := s) (j := j) (by have := F.len; omega)
    rw [e'] at e
    have e4 : l.drop (j + 1) = v :: w :: l.drop (j + 2 + 1) := by
      rw [← List.tail_drop, e]
      rfl
    rw [e, es, e4]
    obtain ⟨hu, hu'⟩ := F.sp _ _ e1
    obtain ⟨hv, hv'⟩ := F.sp _ _ e2
    obtain ⟨hw, hw'⟩ := F.sp _ _ e3
    obtain ⟨hc, hc3⟩ := F.sh _ _ ec
    have ok : ∀ a b d, ok3 c u v w a b d = as_ (D.sh j) (standing (D.x j) (D.x (j + 1)) (D.x (j + 2)) a b d) := fun a b d => by
      unfold ok3
      rw [hu, hv, hw, hc]
    constructor
    · rintro ⟨b, d, q, h, x', ⟨y, ⟨a, ha, ho, hs⟩, rfl⟩, rfl⟩
      exact ⟨a, b, d :: q, fair_cons.mpr ⟨d, q, rfl, by rw [hu']; exact ha, by rw [ok]; exact ho, h⟩, y, hs, rfl⟩
    · rintro ⟨a, b, p, h, y, hs, ex⟩
      obtain ⟨d, q, rfl, ha, ho, h'⟩ := fair_cons.mp h
      exact ⟨b, d, q, h', _, ⟨y, ⟨a, by rw [← hu']; exact ha, by rw [← ok]; exact ho, hs⟩, rfl⟩, ex⟩
theorem tot_min {k : Kd} (hk : k ≠ .cnt) {N : Int} {D : Dt} {l : List Spot} {s : List Nat} (F : Fits D l s) (hc : ∀ i, i < l.length → ∀ d ∈ D.ys i, CostOk k N (D.cf i d)) {j : Nat} (hj : l.length = j + 2) :
    tot k N D j ≤ N ∧ (∀ q, FairRow l s q → tot k N D j ≤ val k D q ∨ N ≤ val k D q) ∧ (tot k N D j < N → ∃ q, FairRow l s q ∧ val k D q = tot k N D j) := by
  have r1 : ∀ b ∈ D.ys (j + 1), RepM N (fun x => ∃ a ∈ D.ys j, Sg k D j a b x) (fo k N ((D.ys j).map fun a => XX k N D j a b)) := fun b hb =>
    rep_fo hk (fun a ha => XX_rep hk F hc j (by omega) a ha b hb) fun x => Iff.rfl
  have r2 : RepM N (fun x => ∃ b ∈ D.ys (j + 1), ∃ a ∈ D.ys j, Sg k D j a b x) (tot k N D j) := rep_fo hk r1 fun x => by
    unfold rowsAt
    rw [List.map_map]
    rfl
  obtain ⟨u, v, e1, e2, e⟩ := drop_two (l := l) (j := j) (by omega)
  rw [List.drop_eq_nil_of_le (by omega : l.length ≤ j + 2)] at e
  obtain ⟨hu, hu'⟩ := F.sp _ _ e1
  obtain ⟨hv, hv'⟩ := F.sp _ _ e2
  have sets : ∀ x, (∃ b ∈ D.ys (j + 1), ∃ a ∈ D.ys j, Sg k D j a b x) ↔ ∃ q, FairRow l s q ∧ x = val k D q := fun x => by
    rw [← sg_const F j (by omega), e]
    constructor
    · rintro ⟨b, hb, a, ha, h⟩
      exact ⟨a, b, [], ⟨by rw [hu']; exact ha, by rw [hv']; exact hb⟩, x, h, rfl⟩
    · rintro ⟨a, b, q, h, y, hs, rfl⟩
      match q, h with
      | [], h => exact ⟨b, by rw [← hv']; exact h.2, a, by rw [← hu']; exact h.1, hs⟩
  refine ⟨(fo_min hk _ _).1, fun q hq => r2.1 _ ((sets _).mpr ⟨q, hq, rfl⟩), fun hl => ?_⟩
  obtain ⟨q, hq, e⟩ := (sets _).mp (r2.2 hl)
  exact ⟨q, hq, e.symm⟩
end FL

end
section
set_option Elab.async false
set_option linter.all false
set_option maxRecDepth 100000
set_option maxHeartbeats 4000000
namespace FL
open Loft (Spot as_ standing moveOf lesser)
def loOf (y m : Int) : Int := max 0 (y - m)
def chOf (y m : Int) : List Int := upto (loOf y m) (min 1048575 (y + m) + 1 - loOf y m).toNat
def chs (ys ms : List Int) : List (List Int) := (ys.zip ms).map fun (u : Int × Int) => chOf u.1 u.2
def dOf (xs : List Int) (ch : List (List Int)) (sh : List Int) (cf : Nat → Int → Int) : Dt := ⟨fun i => xs.getD i 0, fun i => ch.getD i [], fun i => (sh.getD i 0).toNat, cf⟩
theorem zip_some {α β : Type} {l : List α} {r : List β} {i : Nat} {x : α} {y : β} (h : l[i]? = some x) (h' : r[i]? = some y) : (l.zip r)[i]? = some (x, y) := by
  rw [List.getElem?_zip_eq_some]
  exact ⟨h, h'⟩
theorem zip_none {α β : Type} {l : List α} {r : List β} {i : Nat} (h : l[i]? = none ∨ r[i]? = none) : (l.zip r)[i]? = none := by
  rw [List.getElem?_eq_none_iff, List.getElem?_eq_none_iff] at h
  rw [List.getElem?_eq_none_iff, List.length_zip]
  omega
theorem chs_len {ys ms : List Int} (h : ms.length = ys.length) : (chs ys ms).length = ys.length := by
  unfold chs
  rw [List.length_map, List.length_zip]
  omega
theorem chs_get {ys ms : List Int} {i : Nat} {y m : Int} (h1 : ys[i]? = some y) (h2 : ms[i]? = some m) : (chs ys ms)[i]? = some (chOf y m) := by
  unfold chs
  rw [List.getElem?_map, zip_some h1 h2]
  rfl
theorem gtD_of {α : Type} {l : List α} {i : Nat} {x d : α} (h : l[i]? = some x) : l.getD i d = x := by
  rw [List.getD_eq_getElem?_getD, h]
  rfl
structure LnOk (l : Loft.Line) (sh ms : List Int) : Prop where
  two : 2 ≤ l.xs.length
  most : l.xs.length ≤ 24
  ly : l.ys.length = l.xs.length
  lm : ms.length = l.xs.length
  ls : sh.length + 2 = l.xs.length
  ris : ∀ (i : Nat) (x x' : Int), l.xs[i]? = some x → l.xs[i + 1]? = some x' → x < x'
  yb : ∀ y ∈ l.ys, 0 ≤ y ∧ y ≤ 1048575
  mb : ∀ m ∈ ms, 0 ≤ m ∧ m ≤ 16
  sb : ∀ c ∈ sh, 0 ≤ c ∧ c ≤ 3
def nt (l : List Int) : List Nat := l.map Int.toNat
def mins (ms : List Int) (g : Int) : List Int := ms.map fun m => if g < m then g else m
theorem chOf_near {y m : Int} (hy : 0 ≤ y ∧ y ≤ 1048575) (hm : 0 ≤ m) : chOf y m = Loft.near m.toNat y := by
  rw [near_upto hy.1 hy.2]
  unfold chOf loOf
  rw [Int.toNat_of_nonneg hm]
theorem mins_ok {l : Loft.Line} {sh ms : List Int} (O : LnOk l sh ms) {g : Int} (hg : 0 ≤ g) : LnOk l sh (mins ms g) :=
  { O with
    lm := by unfold mins; rw [List.length_map]; exact O.lm
    mb := fun m hm => by
      unfold mins at hm
      obtain ⟨k, hk, rfl⟩ := List.mem_map.mp hm
      have := O.mb k hk
      split <;> omega }
theorem spots_mins {l : Loft.Line} {sh ms : List Int} (O : LnOk l sh ms) {g : Nat} : l.spots (nt (mins ms g)) 16 = l.spots (nt ms) (min g 16) := by
  unfold Loft.Line.spots nt mins
  refine List.ext_getElem? fun i => ?_
  rw [List.getElem?_map, List.getElem?_map]
  cases e : (l.xs.zip l.ys)[i]? with
  | none =>
    rw [zip_none (.inl e), zip_none (.inl e)]
    rfl
  | some p =>
    cases em : ms[i]? with
    | none =>
      rw [zip_none (.inr (by rw [List.getElem?_map, List.getElem?_map, em]; rfl)), zip_none (.inr (by rw [List.getElem?_map, em]; rfl))]
      rfl
    | some m =>
      rw [zip_some (y := (if (g : Int) < m then (g : Int) else m).toNat) e (by rw [List.getElem?_map, List.getElem?_map, em]; rfl),
        zip_some (y := m.toNat) e (by rw [List.getElem?_map, em]; rfl)]
      have := O.mb m (List.mem_of_getElem? em)
      show some (Spot.mk _ _ _) = some (Spot.mk _ _ _)
      have e2 : min (if (g : Int) < m then (g : Int) else m).toNat 16 = min m.toNat (min g 16) := by
        split <;> omega
      rw [e2]
theorem spot_at {l : Loft.Line} {sh ms : List Int} (O : LnOk l sh ms) {i : Nat} {u : Spot} (h : (l.spots (nt ms) 16)[i]? = some u) : ∃ x y m, l.xs[i]? = some x ∧ l.ys[i]? = some y ∧ ms[i]? = some m ∧ u = ⟨x, y, chOf y m⟩ := by
  obtain ⟨x, y, k, h1, h2, h3, rfl⟩ := spots_get h
  unfold nt at h3
  rw [List.getElem?_map] at h3
  cases em : ms[i]? with
  | none => rw [em] at h3; cases h3
  | some m =>
    rw [em] at h3
    have h3 : m.toNat = k := Option.some.inj h3
    have hm := O.mb m (List.mem_of_getElem? em)
    refine ⟨x, y, m, h1, h2, rfl, ?_⟩
    rw [chOf_near (O.yb y (List.mem_of_getElem? h2)) hm.1, h3, Nat.min_eq_left (by omega)]
theorem fits {l : Loft.Line} {sh ms : List Int} (O : LnOk l sh ms) (cf : Nat → Int → Int) : Fits (dOf l.xs (chs l.ys ms) sh cf) (l.spots (nt ms) 16) (nt sh) where
  sp := fun i u h => by
    obtain ⟨x, y, m, h1, h2, h3, rfl⟩ := spot_at O h
    exact ⟨(gtD_of h1).symm, (gtD_of (chs_get h2 h3)).symm⟩
  sh := fun i c h => by
    unfold nt at h
    rw [List.getElem?_map] at h
    cases e : sh[i]? with
    | none => rw [e] at h; cases h
    | some z =>
      rw [e] at h
      have h : z.toNat = c := Option.some.inj h
      have := O.sb z (List.mem_of_getElem? e)
      refine ⟨?_, by omega⟩
      show c = (sh.getD i 0).toNat
      rw [gtD_of e, h]
  up := fun i hi => by
    have hl := lspots_len l (nt ms) 16 O.ly (by unfold nt; rw [List.length_map]; exact O.lm)
    rw [hl] at hi
    have h2 : l.ys[i]? = some (l.ys[i]'(by rw [O.ly]; exact hi)) := by simp
    have h3 : ms[i]? = some (ms[i]'(by rw [O.lm]; exact hi)) := by simp
    have hy := O.yb _ (List.mem_of_getElem? h2)
    have hm := O.mb _ (List.mem_of_getElem? h3)
    refine ⟨loOf (l.ys[i]'(by rw [O.ly]; exact hi)) (ms[i]'(by rw [O.lm]; exact hi)), _, ?_, gtD_of (chs_get h2 h3)⟩
    unfold loOf
    omega
  ris := fun i hi => by
    have hl := lspots_len l (nt ms) 16 O.ly (by unfold nt; rw [List.length_map]; exact O.lm)
    rw [hl] at hi
    have h1 : l.xs[i]? = some (l.xs[i]'(by omega)) := by simp
    have h2 : l.xs[i + 1]? = some (l.xs[i + 1]) := by simp
    show l.xs.getD i 0 < l.xs.getD (i + 1) 0
    rw [gtD_of h1, gtD_of h2]
    exact O.ris i _ _ h1 h2
  len := by
    rw [lspots_len l (nt ms) 16 O.ly (by unfold nt; rw [List.length_map]; exact O.lm)]
    unfold nt
    rw [List.length_map]
    have := O.ls
    omega
theorem Fits.take {D : Dt} {l : List Spot} {s : List Nat} (F : Fits D l s) (m : Nat) (h2 : 2 ≤ m) : Fits D (l.take m) (s.take (m - 2)) where
  sp := fun i u h => F.sp i u (by
    rw [List.getElem?_take] at h
    split at h
    · exact h
    · cases h)
  sh := fun i c h => F.sh i c (by
    rw [List.getElem?_take] at h
    split at h
    · exact h
    · cases h)
  up := fun i hi => F.up i (by rw [List.length_take] at hi; omega)
  ris := fun i hi => F.ris i (by rw [List.length_take] at hi; omega)
  len := by
    rw [List.length_take, List.length_take]
    have := F.len
    omega
def cGr (ys : List Int) (i : Nat) (y : Int) : Int := ((y - ys.getD i 0).natAbs : Int)
theorem fv_gr (D : Dt) (z : Int) : ∀ (q : List Int) (i : Nat) (y : Int), fv .gr D i q y ≤ z ↔ y ≤ z ∧ ∀ (j : Nat) d, q[j]? = some d → D.cf (i + j) d ≤ z
  | [], i, y => by
    show y ≤ z ↔ _
    exact ⟨fun h => ⟨h, fun j d h => by simp at h⟩, fun h => h.1⟩
  | d :: q, i, y => by
    show fv .gr D (i + 1) q (if D.cf i d < y then y else D.cf i d) ≤ z ↔ _
    rw [fv_gr D z q]
    constructor
    · rintro ⟨h1, h2⟩
      refine ⟨by split at h1 <;> omega, fun j e h => ?_⟩
      match j, h with
      | 0, h =>
        have h : d = e := by simpa using h
        subst h
        show D.cf i d ≤ z
        split at h1 <;> omega
      | j + 1, h =>
        have := h2 j e (by simpa using h)
        rw [show i + (j + 1) = i + 1 + j by omega]
        exact this
    · rintro ⟨h1, h2⟩
      have h0 : D.cf i d ≤ z := h2 0 d rfl
      refine ⟨by split <;> omega, fun j e h => ?_⟩
      have := h2 (j + 1) e (by simpa using h)
      rw [show i + 1 + j = i + (j + 1) by omega]
      exact this
theorem val_gr (D : Dt) (z : Int) {a b : Int} {q : List Int} : val .gr D (a :: b :: q) ≤ z ↔ ∀ (j : Nat) d, (a :: b :: q)[j]? = some d → D.cf j d ≤ z := by
  show fv .gr D 2 q (if D.cf 1 b < D.cf 0 a then D.cf 0 a else D.cf 1 b) ≤ z ↔ _
  rw [fv_gr]
  constructor
  · rintro ⟨h1, h2⟩ j d h
    match j, h with
    | 0, h =>
      have h : a = d := by simpa using h
      subst h
      split at h1 <;> omega
    | 1, h =>
      have h : b = d := by simpa using h
      subst h
      split at h1 <;> omega
    | j + 2, h =>
      have := h2 j d (by simpa using h)
      rw [Nat.add_comm]
      exact this
  · intro h
    have h0 := h 0 a rfl
    have h1 := h 1 b rfl
    refine ⟨by split <;> omega, fun j d e => ?_⟩
    have := h (j + 2) d (by simpa using e)
    rw [Nat.add_comm]
    exact this
theorem fair_get : ∀ (l : List Spot) (s : List Nat) (q : List Int), FairRow l s q → q.length = l.length ∧ ∀ (i : Nat) u d, l[i]? = some u → q[i]? = some d → d ∈ u.ys
  | u :: v :: w :: r, c :: s, a :: b :: d :: q, h => by
    obtain ⟨e, ih⟩ := fair_get _ _ _ h.2.2
    refine ⟨by simp at e ⊢; exact e, fun i u' x hu hx => ?_⟩
    match i, hu, hx with
    | 0, hu, hx =>
      have e1 : u = u' := by simpa using hu
      have e2 : a = x := by simpa using hx
      subst e1 e2
      exact h.1
    | i + 1, hu, hx => exact ih i u' x (by simpa using hu) (by simpa using hx)
  | [u, v], _, [a, b], h => by
    refine ⟨rfl, fun i u' x hu hx => ?_⟩
    match i, hu, hx with
    | 0, hu, hx =>
      have e1 : u = u' := by simpa using hu
      have e2 : a = x := by simpa using hx
      subst e1 e2
      exact h.1
    | 1, hu, hx =>
      have e1 : v = u' := by simpa using hu
      have e2 : b = x := by simpa using hx
      subst e1 e2
      exact h.2
    | i + 2, hu, hx => simp at hu
  | [], _, _, h => by simp [FairRow] at h
  | [_], _, _, h => by simp [FairRow] at h
  | [_, _], _, [], h => by simp [FairRow] at h
  | [_, _], _, [_], h => by simp [FairRow] at h
  | [_, _], _, _ :: _ :: _ :: _, h => by simp [FairRow] at h
  | _ :: _ :: _ :: _, [], _, h => by simp [FairRow] at h
  | _ :: _ :: _ :: _, _ :: _, [], h => by simp [FairRow] at h
  | _ :: _ :: _ :: _, _ :: _, [_], h => by simp [FairRow] at h
  | _ :: _ :: _ :: _, _ :: _, [_, _], h => by simp [FairRow] at h
theorem fair_other : ∀ (l l' : List Spot) (s : List Nat) (q : List Int), l.length = l'.length → (∀ (i : Nat) (u u' : Spot), l[i]? = some u → l'[i]? = some u' → u.x = u'.x) → (∀ (i : Nat) (u' : Spot) d, l'[i]? = some u' → q[i]? = some d → d ∈ u'.ys) → FairRow l s q → FairRow l' s q
  | u :: v :: w :: r, u' :: v' :: w' :: r', c :: s, a :: b :: d :: q, hl, hx, hq, h => by
    refine ⟨hq 0 u' a rfl rfl, ?_, fair_other (v :: w :: r) (v' :: w' :: r') s (b :: d :: q) (by simpa using hl) (fun i => by simpa using hx (i + 1)) (fun i => by simpa using hq (i + 1)) h.2.2⟩
    have := h.2.1
    unfold ok3 at this ⊢
    rw [← hx 0 u u' rfl rfl, ← hx 1 v v' rfl rfl, ← hx 2 w w' rfl rfl]
    exact this
  | [u, v], [u', v'], _, [a, b], _, _, hq, _ => ⟨hq 0 u' a rfl rfl, hq 1 v' b rfl rfl⟩
  | [], _, _, _, _, _, _, h => by simp [FairRow] at h
  | [_], _, _, _, _, _, _, h => by simp [FairRow] at h
  | [_, _], _, _, [], _, _, _, h => by simp [FairRow] at h
  | [_, _], _, _, [_], _, _, _, h => by simp [FairRow] at h
  | [_, _], _, _, _ :: _ :: _ :: _, _, _, _, h => by simp [FairRow] at h
  | _ :: _ :: _ :: _, _, [], _, _, _, _, h => by simp [FairRow] at h
  | _ :: _ :: _ :: _, _, _ :: _, [], _, _, _, h => by simp [FairRow] at h
  | _ :: _ :: _ :: _, _, _ :: _, [_], _, _, _, h => by simp [FairRow] at h
  | _ :: _ :: _ :: _, _, _ :: _, [_, _], _, _, _, h => by simp [FairRow] at h
  | [_, _], [], _, [_, _], hl, _, _, _ => by simp at hl
  | [_, _], [_], _, [_, _], hl, _, _, _ => by simp at hl
  | [_, _], _ :: _ :: _ :: _, _, [_, _], hl, _, _, _ => by simp at hl
  | _ :: _ :: _ :: _, [], _ :: _, _ :: _ :: _ :: _, hl, _, _, _ => by simp at hl
  | _ :: _ :: _ :: _, [_], _ :: _, _ :: _ :: _ :: _, hl, _, _, _ => by simp at hl
  | _ :: _ :: _ :: _, [_, _], _ :: _, _ :: _ :: _ :: _, hl, _, _, _ => by simp at hl
theorem fair_within {l : Loft.Line} {sh ms : List Int} (O : LnOk l sh ms) {g : Nat} {q : List Int} {s : List Nat} (hg : g ≤ 16) :
    FairRow (l.spots (nt ms) g) s q ↔ FairRow (l.spots (nt ms) 16) s q ∧ ∀ (j : Nat) d, q[j]? = some d → cGr l.ys j d ≤ (g : Int) := by
  have lt : (nt ms).length = l.xs.length := by unfold nt; rw [List.length_map]; exact O.lm
  have lg := lspots_len l (nt ms) g O.ly lt
  have l16 := lspots_len l (nt ms) 16 O.ly lt
  constructor
  · intro h
    refine ⟨fair_wider hg h, fun j d hd => ?_⟩
    obtain ⟨e, hm⟩ := fair_get _ _ _ h
    have hj : j < (l.spots (nt ms) g).length := by
      rw [← e]
      exact (List.getElem?_eq_some_iff.mp hd).1
    have hu : (l.spots (nt ms) g)[j]? = some (l.spots (nt ms) g)[j] := by simp
    have := hm j _ d hu hd
    obtain ⟨x, y, k, h1, h2, h3, eu⟩ := spots_get hu
    rw [eu, near_mem] at this
    unfold cGr
    rw [gtD_of h2]
    omega
  · rintro ⟨h, hm⟩
    obtain ⟨e, hm'⟩ := fair_get _ _ _ h
    refine fair_other _ _ _ _ (by rw [lg, l16]) (fun i u u' h1 h2 => ?_) (fun i u' d hu hd => ?_) h
    · obtain ⟨x, y, k, a1, a2, a3, rfl⟩ := spots_get h1
      obtain ⟨x', y', k', b1, b2, b3, rfl⟩ := spots_get h2
      rw [a1] at b1
      exact Option.some.inj b1
    · obtain ⟨x', y', k', b1, b2, b3, rfl⟩ := spots_get hu
      have hi : i < (l.spots (nt ms) 16).length := by
        rw [← e]
        exact (List.getElem?_eq_some_iff.mp hd).1
      have hu : (l.spots (nt ms) 16)[i]? = some (l.spots (nt ms) 16)[i] := by simp
      have a := hm' i _ d hu hd
      obtain ⟨x, y, k, h1, h2, h3, eu⟩ := spots_get hu
      rw [eu, near_mem] at a
      have c := hm i d hd
      unfold cGr at c
      rw [gtD_of h2] at c
      rw [h2] at b2
      rw [h3] at b3
      have b2 := Option.some.inj b2
      have b3 := Option.some.inj b3
      subst b2 b3
      show d ∈ Loft.near (min k g) y
      rw [near_mem]
      omega
end FL

end
section
set_option Elab.async false
set_option linter.all false
set_option maxRecDepth 100000
set_option maxHeartbeats 4000000
namespace FL
open Loft (Spot as_ standing moveOf lesser)
def hor : Int → List Int → Int
  | m, [] => m
  | m, d :: r => hor (m * 33 + d) r
def Dig (l : List Int) : Prop := ∀ d ∈ l, 0 ≤ d ∧ d < 33
theorem pow33 (n : Nat) : (0 : Int) < 33 ^ n := Int.pow_pos (by decide)
theorem hor_eq : ∀ (l : List Int) (m : Int), hor m l = m * 33 ^ l.length + hor 0 l
  | [], m => by
    show m = m * 33 ^ 0 + 0
    rw [Int.pow_zero]
    omega
  | d :: r, m => by
    show hor (m * 33 + d) r = m * 33 ^ (r.length + 1) + hor (0 * 33 + d) r
    rw [hor_eq r (m * 33 + d), hor_eq r (0 * 33 + d), Int.pow_succ, Int.add_mul, Int.zero_mul, Int.zero_add, Int.mul_assoc, Int.mul_comm 33]
    omega
theorem hor_bd : ∀ (l : List Int), Dig l → 0 ≤ hor 0 l ∧ hor 0 l < 33 ^ l.length
  | [], _ => by
    show (0 : Int) ≤ 0 ∧ (0 : Int) < 33 ^ 0
    rw [Int.pow_zero]
    omega
  | d :: r, h => by
    show 0 ≤ hor (0 * 33 + d) r ∧ hor (0 * 33 + d) r < 33 ^ (r.length + 1)
    obtain ⟨h1, h2⟩ := hor_bd r fun x hx => h x (List.mem_cons_of_mem _ hx)
    obtain ⟨h3, h4⟩ := h d (List.mem_cons_self ..)
    rw [hor_eq, Int.zero_mul, Int.zero_add, Int.pow_succ]
    have hp := pow33 r.length
    generalize (33 : Int) ^ r.length = p at *
    have a := Int.mul_nonneg h3 (Int.le_of_lt hp)
    have b := Int.mul_le_mul_of_nonneg_right (by omega : d ≤ 32) (Int.le_of_lt hp)
    omega
theorem hor_lex : ∀ (l l' : List Int) (m m' : Int), l.length = l'.length → Dig l → Dig l' → hor m l ≤ hor m' l' → m < m' ∨ (m = m' ∧ lexLe l l')
  | [], [], m, m', _, _, _, h => by
    have h : m ≤ m' := h
    rcases Int.lt_or_eq_of_le h with z | z
    · exact .inl z
    · exact .inr ⟨z, lexLe_refl _⟩
  | d :: r, d' :: r', m, m', hl, h1, h2, h => by
    have ih := hor_lex r r' (m * 33 + d) (m' * 33 + d') (by simpa using hl) (fun x hx => h1 x (List.mem_cons_of_mem _ hx)) (fun x hx => h2 x (List.mem_cons_of_mem _ hx)) h
    have a1 := h1 d (List.mem_cons_self ..)
    have a2 := h2 d' (List.mem_cons_self ..)
    rcases ih with z | ⟨z, y⟩
    · rcases Int.lt_trichotomy m m' with c | c | c
      · exact .inl c
      · exact .inr ⟨c, .inl (by omega)⟩
      · omega
    · have : m = m' := by omega
      exact .inr ⟨this, .inr ⟨by omega, y⟩⟩
  | [], _ :: _, _, _, hl, _, _, _ => by simp at hl
  | _ :: _, [], _, _, hl, _, _, _ => by simp at hl
theorem hor_digit : ∀ (l : List Int) (m : Int) (i : Nat) (d : Int), Dig l → l[i]? = some d → hor m l / 33 ^ (l.length - 1 - i) % 33 = d
  | [], _, _, _, _, h => by simp at h
  | e :: r, m, 0, d, h, hd => by
    have hd : e = d := by simpa using hd
    subst hd
    show hor (m * 33 + e) r / 33 ^ (r.length + 1 - 1 - 0) % 33 = e
    obtain ⟨h1, h2⟩ := hor_bd r fun x hx => h x (List.mem_cons_of_mem _ hx)
    obtain ⟨h3, h4⟩ := h e (List.mem_cons_self ..)
    rw [hor_eq, show r.length + 1 - 1 - 0 = r.length by omega, Int.add_comm, Int.add_mul_ediv_right _ _ (Int.ne_of_gt (pow33 _)), Int.ediv_eq_zero_of_lt h1 h2]
    omega
  | e :: r, m, i + 1, d, h, hd => by
    have ih := hor_digit r (m * 33 + e) i d (fun x hx => h x (List.mem_cons_of_mem _ hx)) (by simpa using hd)
    show hor (m * 33 + e) r / 33 ^ (r.length + 1 - 1 - (i + 1)) % 33 = d
    rw [show r.length + 1 - 1 - (i + 1) = r.length - 1 - i by omega]
    exact ih
def cRk (n : Nat) (ys ms : List Int) (i : Nat) (y : Int) : Int := ((y - ys.getD i 0).natAbs : Int) * 33 ^ n + (y - loOf (ys.getD i 0) (ms.getD i 0)) * 33 ^ (n - 1 - i)
def nRk (n : Nat) : Int := (n * 16 + 1) * 33 ^ n
def digs (ys ms : List Int) : Nat → List Int → List Int
  | _, [] => []
  | i, y :: q => (y - loOf (ys.getD i 0) (ms.getD i 0)) :: digs ys ms (i + 1) q
def mvI (ys : List Int) : Nat → List Int → Int
  | _, [] => 0
  | i, y :: q => ((y - ys.getD i 0).natAbs : Int) + mvI ys (i + 1) q
theorem digs_len (ys ms : List Int) : ∀ (q : List Int) (i : Nat), (digs ys ms i q).length = q.length
  | [], _ => rfl
  | y :: q, i => by
    show (digs ys ms (i + 1) q).length + 1 = q.length + 1
    rw [digs_len ys ms q]
theorem digs_get (ys ms : List Int) : ∀ (q : List Int) (i j : Nat) {y : Int}, q[j]? = some y → (digs ys ms i q)[j]? = some (y - loOf (ys.getD (i + j) 0) (ms.getD (i + j) 0))
  | [], _, _, _, h => by simp at h
  | z :: q, i, 0, y, h => by
    have h : z = y := by simpa using h
    subst h
    rfl
  | z :: q, i, j + 1, y, h => by
    show (digs ys ms (i + 1) q)[j]? = _
    rw [digs_get ys ms q (i + 1) j (by simpa using h), show i + 1 + j = i + (j + 1) by omega]
theorem fv_rk {D : Dt} {n : Nat} {ys ms : List Int} (hD : ∀ i y, D.cf i y = cRk n ys ms i y) : ∀ (q : List Int) (i : Nat) (y : Int), i + q.length = n → fv .rk D i q y = y + mvI ys i q * 33 ^ n + hor 0 (digs ys ms i q)
  | [], i, y, _ => by
    show y = y + 0 * 33 ^ n + 0
    rw [Int.zero_mul]
    omega
  | d :: q, i, y, h => by
    have h : i + (q.length + 1) = n := h
    show fv .rk D (i + 1) q (y + D.cf i d) = y + (((d - ys.getD i 0).natAbs : Int) + mvI ys (i + 1) q) * 33 ^ n + hor (0 * 33 + (d - loOf (ys.getD i 0) (ms.getD i 0))) (digs ys ms (i + 1) q)
    rw [fv_rk hD q (i + 1) _ (by omega), hD, hor_eq _ (0 * 33 + _), digs_len, Int.add_mul, Int.zero_mul, Int.zero_add]
    unfold cRk
    rw [show n - 1 - i = q.length by omega]
    omega
theorem val_fv {k : Kd} (hk : k = .rk) (D : Dt) (a b : Int) (q : List Int) : val k D (a :: b :: q) = fv k D 0 (a :: b :: q) 0 := by
  subst hk
  show fv .rk D 2 q (D.cf 0 a + D.cf 1 b) = fv .rk D 2 q (0 + D.cf 0 a + D.cf 1 b)
  rw [Int.zero_add]
theorem val_rk {D : Dt} {n : Nat} {ys ms : List Int} (hD : ∀ i y, D.cf i y = cRk n ys ms i y) {q : List Int} (hn : q.length = n) (h2 : 2 ≤ n) : val .rk D q = hor (mvI ys 0 q) (digs ys ms 0 q) := by
  match q, hn with
  | a :: b :: q, hn =>
    rw [val_fv rfl, fv_rk hD _ 0 0 (by omega), hor_eq (digs ys ms 0 (a :: b :: q)) (mvI ys 0 (a :: b :: q)), digs_len, hn]
    omega
  | [], hn => simp at hn; omega
  | [_], hn => simp at hn; omega
theorem mvI_bd {ys : List Int} : ∀ (q : List Int) (i : Nat), (∀ (j : Nat) d, q[j]? = some d → cGr ys (i + j) d ≤ 16) → 0 ≤ mvI ys i q ∧ mvI ys i q ≤ q.length * 16
  | [], _, _ => by
    show (0 : Int) ≤ 0 ∧ (0 : Int) ≤ ((0 : Nat) : Int) * 16
    omega
  | y :: q, i, h => by
    obtain ⟨h1, h2⟩ := mvI_bd (ys := ys) q (i + 1) fun j d hd => by
      have := h (j + 1) d (by simpa using hd)
      rw [show i + 1 + j = i + (j + 1) by omega]
      exact this
    have h0 : cGr ys i y ≤ 16 := h 0 y rfl
    unfold cGr at h0
    show 0 ≤ ((y - ys.getD i 0).natAbs : Int) + mvI ys (i + 1) q ∧ ((y - ys.getD i 0).natAbs : Int) + mvI ys (i + 1) q ≤ ((q.length + 1 : Nat) : Int) * 16
    omega
theorem mv_mvI {l : Loft.Line} {t : List Nat} {g : Nat} : ∀ (q : List Int) (i : Nat), i + q.length = (l.spots t g).length → (mv ((l.spots t g).drop i) q : Int) = mvI l.ys i q
  | [], i, _ => by
    cases (l.spots t g).drop i <;> rfl
  | y :: q, i, h => by
    have h : i + (q.length + 1) = (l.spots t g).length := h
    obtain ⟨u, hu, e⟩ := drop_one (l := l.spots t g) (j := i) (by omega)
    rw [e]
    show ((moveOf u y + mv ((l.spots t g).drop (i + 1)) q : Nat) : Int) = _
    rw [Int.natCast_add, mv_mvI q (i + 1) (by omega)]
    obtain ⟨x, y', k, h1, h2, h3, rfl⟩ := spots_get hu
    show (((y - y').natAbs : Nat) : Int) + _ = ((y - l.ys.getD i 0).natAbs : Int) + _
    rw [gtD_of h2]
theorem lex_shift {ys ms : List Int} : ∀ (q q' : List Int) (i : Nat), lexLe (digs ys ms i q) (digs ys ms i q') → lexLe q q'
  | [], [], _, _ => lexLe_refl _
  | [], _ :: _, _, h => by simp [lexLe]
  | _ :: _, [], _, h => by simp [digs, lexLe] at h
  | y :: q, y' :: q', i, h => by
    rcases h with h | ⟨h1, h2⟩
    · exact .inl (by omega)
    · exact .inr ⟨by omega, lex_shift q q' (i + 1) h2⟩
theorem fair_digs {l : Loft.Line} {sh ms : List Int} (O : LnOk l sh ms) {q : List Int} {s : List Nat} (h : FairRow (l.spots (nt ms) 16) s q) : q.length = l.xs.length ∧ Dig (digs l.ys ms 0 q) ∧ (∀ (j : Nat) d, q[j]? = some d → cGr l.ys j d ≤ 16 ∧ ∃ y m, l.ys[j]? = some y ∧ ms[j]? = some m ∧ d ∈ chOf y m) := by
  obtain ⟨e, hm⟩ := fair_get _ _ _ h
  have lt : (nt ms).length = l.xs.length := by unfold nt; rw [List.length_map]; exact O.lm
  have l16 := lspots_len l (nt ms) 16 O.ly lt
  have key : ∀ (j : Nat) d, q[j]? = some d → ∃ y m, l.ys[j]? = some y ∧ ms[j]? = some m ∧ d ∈ chOf y m := fun j d hd => by
    have hi : j < (l.spots (nt ms) 16).length := by
      rw [← e]
      exact (List.getElem?_eq_some_iff.mp hd).1
    have hu : (l.spots (nt ms) 16)[j]? = some (l.spots (nt ms) 16)[j] := by simp
    have a := hm j _ d hu hd
    obtain ⟨x, y, m, h1, h2, h3, eu⟩ := spot_at O hu
    rw [eu] at a
    exact ⟨y, m, h2, h3, a⟩
  have bd : ∀ y m d : Int, 0 ≤ y ∧ y ≤ 1048575 → 0 ≤ m ∧ m ≤ 16 → d ∈ chOf y m → 0 ≤ d - loOf y m ∧ d - loOf y m < 33 ∧ (d - y).natAbs ≤ 16 := fun y m d hy hm hd => by
    unfold chOf at hd
    rw [upto_mem] at hd
    unfold loOf at *
    omega
  refine ⟨by rw [e, l16], fun d hd => ?_, fun j d hd => ⟨?_, key j d hd⟩⟩
  · obtain ⟨j, hj⟩ := List.getElem?_of_mem hd
    have hj' : j < q.length := by
      rw [← digs_len l.ys ms q 0]
      exact (List.getElem?_eq_some_iff.mp hj).1
    have hq : q[j]? = some q[j] := by simp
    rw [digs_get l.ys ms q 0 j hq] at hj
    obtain ⟨y, m, h2, h3, a⟩ := key j _ hq
    rw [Nat.zero_add, gtD_of h2, gtD_of h3] at hj
    have hj := Option.some.inj hj
    have := bd y m _ (O.yb y (List.mem_of_getElem? h2)) (O.mb m (List.mem_of_getElem? h3)) a
    omega
  · obtain ⟨y, m, h2, h3, a⟩ := key j _ hd
    have := bd y m _ (O.yb y (List.mem_of_getElem? h2)) (O.mb m (List.mem_of_getElem? h3)) a
    unfold cGr
    rw [gtD_of h2]
    omega
def GR (l : Loft.Line) (sh ms : List Int) : Int := tot .gr 17 (dOf l.xs (chs l.ys ms) sh (cGr l.ys)) (l.xs.length - 2)
def RK (l : Loft.Line) (sh ms : List Int) : Int := tot .rk (nRk l.xs.length) (dOf l.xs (chs l.ys ms) sh (cRk l.xs.length l.ys ms)) (l.xs.length - 2)
theorem in_ch {l : Loft.Line} {sh ms : List Int} (O : LnOk l sh ms) {i : Nat} (hi : i < l.xs.length) {d : Int} (hd : d ∈ (dOf l.xs (chs l.ys ms) sh (cGr l.ys)).ys i) : ∃ y m, l.ys[i]? = some y ∧ ms[i]? = some m ∧ d ∈ chOf y m ∧ (0 ≤ y ∧ y ≤ 1048575) ∧ 0 ≤ m ∧ m ≤ 16 := by
  have h2 : l.ys[i]? = some (l.ys[i]'(by rw [O.ly]; exact hi)) := by simp
  have h3 : ms[i]? = some (ms[i]'(by rw [O.lm]; exact hi)) := by simp
  have hd : d ∈ (chs l.ys ms).getD i [] := hd
  rw [gtD_of (chs_get h2 h3)] at hd
  exact ⟨_, _, h2, h3, hd, O.yb _ (List.mem_of_getElem? h2), O.mb _ (List.mem_of_getElem? h3)⟩
theorem gr_spec {l : Loft.Line} {sh ms : List Int} (O : LnOk l sh ms) :
    GR l sh ms ≤ 17 ∧ (16 < GR l sh ms → l.nearest (nt sh) (nt ms) = none) ∧ (GR l sh ms ≤ 16 → ∃ g : Nat, GR l sh ms = g ∧ g ≤ 16 ∧ (∃ q, FairRow (l.spots (nt ms) g) (nt sh) q) ∧ ∀ g', g' < g → ∀ q, ¬ FairRow (l.spots (nt ms) g') (nt sh) q) := by
  have lt : (nt ms).length = l.xs.length := by unfold nt; rw [List.length_map]; exact O.lm
  have l16 := lspots_len l (nt ms) 16 O.ly lt
  have two := O.two
  have F := fits O (cGr l.ys)
  have hc : ∀ i, i < (l.spots (nt ms) 16).length → ∀ d ∈ (dOf l.xs (chs l.ys ms) sh (cGr l.ys)).ys i, CostOk .gr 17 ((dOf l.xs (chs l.ys ms) sh (cGr l.ys)).cf i d) := fun i hi d hd => by
    obtain ⟨y, m, h2, h3, hd, hy, hm⟩ := in_ch O (by omega) hd
    unfold chOf loOf at hd
    rw [upto_mem] at hd
    show cGr l.ys i d < 17
    unfold cGr
    rw [gtD_of h2]
    omega
  obtain ⟨t1, t2, t3⟩ := tot_min (k := .gr) (by intro z; cases z) F hc (j := l.xs.length - 2) (by omega)
  have le : ∀ (q : List Int) (z : Int), FairRow (l.spots (nt ms) 16) (nt sh) q → (val .gr (dOf l.xs (chs l.ys ms) sh (cGr l.ys)) q ≤ z ↔ ∀ (j : Nat) d, q[j]? = some d → cGr l.ys j d ≤ z) := fun q z hq => by
    obtain ⟨_, _, _, a, b, p, _, rfl, _⟩ := fair_in _ _ _ hq
    exact val_gr _ z
  refine ⟨t1, fun h => ?_, fun h => ?_⟩
  · refine nearest_none two O.ly lt (by unfold nt; rw [List.length_map]; have := O.ls; omega) fun q hq => ?_
    have a := (le q 16 hq).mpr fun j d hd => ((fair_digs O hq).2.2 j d hd).1
    have b : GR l sh ms ≤ _ ∨ _ := t2 q hq
    omega
  · obtain ⟨q, hq, e⟩ := t3 (by show GR l sh ms < 17; omega)
    have e : val .gr (dOf l.xs (chs l.ys ms) sh (cGr l.ys)) q = GR l sh ms := e
    have nn : 0 ≤ GR l sh ms := by
      obtain ⟨_, _, _, a, b, p, _, rfl, _⟩ := fair_in _ _ _ hq
      have := (le _ _ hq).mp (Int.le_of_eq e) 0 a rfl
      unfold cGr at this
      omega
    refine ⟨(GR l sh ms).toNat, by omega, by omega, ⟨q, (fair_within O (by omega)).mpr ⟨hq, fun j d hd => ?_⟩⟩, fun g' hg q' hq' => ?_⟩
    · rw [Int.toNat_of_nonneg nn]
      exact (le q _ hq).mp (Int.le_of_eq e) j d hd
    · obtain ⟨f, b⟩ := (fair_within O (by omega)).mp hq'
      have a := (le q' g' f).mpr b
      have c : GR l sh ms ≤ _ ∨ _ := t2 q' f
      omega
def decode (ch : List (List Int)) (n : Nat) (r : Int) : List Int := (List.range ch.length).map fun i => (ch.getD i []).getD (r / 33 ^ (n - 1 - i) % 33).toNat 0
theorem rk_spec {l : Loft.Line} {sh ms : List Int} (O : LnOk l sh ms) (hex : ∃ q, FairRow (l.spots (nt ms) 16) (nt sh) q) :
    ∃ q, FairRow (l.spots (nt ms) 16) (nt sh) q ∧ decode (chs l.ys ms) l.xs.length (RK l sh ms) = q ∧ (∀ i c, i < l.xs.length → (chs l.ys ms)[i]? = some c → (RK l sh ms / 33 ^ (l.xs.length - 1 - i) % 33).toNat < c.length) ∧
      ∀ q', FairRow (l.spots (nt ms) 16) (nt sh) q' → mv (l.spots (nt ms) 16) q < mv (l.spots (nt ms) 16) q' ∨ (mv (l.spots (nt ms) 16) q = mv (l.spots (nt ms) 16) q' ∧ lexLe q q') := by
  have lt : (nt ms).length = l.xs.length := by unfold nt; rw [List.length_map]; exact O.lm
  have l16 := lspots_len l (nt ms) 16 O.ly lt
  have two := O.two
  have F := fits O (cRk l.xs.length l.ys ms)
  have hc : ∀ i, i < (l.spots (nt ms) 16).length → ∀ d ∈ (dOf l.xs (chs l.ys ms) sh (cRk l.xs.length l.ys ms)).ys i, CostOk .rk (nRk l.xs.length) ((dOf l.xs (chs l.ys ms) sh (cRk l.xs.length l.ys ms)).cf i d) := fun i hi d hd => by
    obtain ⟨y, m, h2, h3, hd, hy, hm⟩ := in_ch O (by omega) hd
    unfold chOf at hd
    rw [upto_mem] at hd
    show 0 ≤ cRk l.xs.length l.ys ms i d
    unfold cRk
    rw [gtD_of h2, gtD_of h3]
    have a := Int.mul_nonneg (show (0 : Int) ≤ ((d - y).natAbs : Int) by omega) (Int.le_of_lt (pow33 l.xs.length))
    have b := Int.mul_nonneg (show (0 : Int) ≤ d - loOf y m by omega) (Int.le_of_lt (pow33 (l.xs.length - 1 - i)))
    omega
  obtain ⟨t1, t2, t3⟩ := tot_min (k := .rk) (by intro z; cases z) F hc (j := l.xs.length - 2) (by omega)
  have vq : ∀ q, FairRow (l.spots (nt ms) 16) (nt sh) q → val .rk (dOf l.xs (chs l.ys ms) sh (cRk l.xs.length l.ys ms)) q = hor (mvI l.ys 0 q) (digs l.ys ms 0 q) := fun q hq => val_rk (fun _ _ => rfl) (fair_digs O hq).1 two
  have small : ∀ q, FairRow (l.spots (nt ms) 16) (nt sh) q → hor (mvI l.ys 0 q) (digs l.ys ms 0 q) < nRk l.xs.length := fun q hq => by
    obtain ⟨f1, f2, f3⟩ := fair_digs O hq
    obtain ⟨m1, m2⟩ := mvI_bd (ys := l.ys) q 0 fun j d hd => by rw [Nat.zero_add]; exact (f3 j d hd).1
    obtain ⟨d1, d2⟩ := hor_bd _ f2
    rw [hor_eq]
    rw [digs_len, f1] at *
    unfold nRk
    have hp := pow33 l.xs.length
    generalize (33 : Int) ^ l.xs.length = p at *
    have := Int.mul_le_mul_of_nonneg_right m2 (Int.le_of_lt hp)
    rw [Int.add_mul]
    omega
  obtain ⟨q0, hq0⟩ := hex
  have lt0 : RK l sh ms < nRk l.xs.length := by
    have a := t2 q0 hq0
    have b := small q0 hq0
    rw [vq q0 hq0] at a
    show tot _ _ _ _ < _
    omega
  obtain ⟨q, hq, e⟩ := t3 lt0
  have e : _ = RK l sh ms := e
  rw [vq q hq] at e
  obtain ⟨f1, f2, f3⟩ := fair_digs O hq
  have dec : ∀ (i : Nat) d, q[i]? = some d → ∃ y m, l.ys[i]? = some y ∧ ms[i]? = some m ∧ (chs l.ys ms)[i]? = some (chOf y m) ∧ (RK l sh ms / 33 ^ (l.xs.length - 1 - i) % 33).toNat < (chOf y m).length ∧ (chOf y m).getD (RK l sh ms / 33 ^ (l.xs.length - 1 - i) % 33).toNat 0 = d := fun i d hd => by
    obtain ⟨_, y, m, h2, h3, hin⟩ := f3 i d hd
    refine ⟨y, m, h2, h3, chs_get h2 h3, ?_⟩
    have dg := hor_digit _ (mvI l.ys 0 q) i _ f2 (digs_get l.ys ms q 0 i hd)
    rw [e, digs_len, f1, Nat.zero_add, gtD_of h2, gtD_of h3] at dg
    rw [dg]
    unfold chOf at hin ⊢
    rw [upto_mem] at hin
    refine ⟨by rw [upto_len]; omega, ?_⟩
    have : (upto (loOf y m) (min 1048575 (y + m) + 1 - loOf y m).toNat)[(d - loOf y m).toNat]? = some d := by
      unfold upto
      rw [List.getElem?_map, List.getElem?_range (by omega)]
      show some (loOf y m + ((d - loOf y m).toNat : Int)) = some d
      congr 1
      omega
    exact gtD_of this
  refine ⟨q, hq, ?_, fun i c hi hc => ?_, fun q' hq' => ?_⟩
  · refine List.ext_getElem? fun i => ?_
    have lc : (chs l.ys ms).length = l.xs.length := by rw [chs_len (by rw [O.lm, O.ly]), O.ly]
    unfold decode
    rw [List.getElem?_map]
    by_cases hi : i < l.xs.length
    · have hd : q[i]? = some (q[i]'(by omega)) := by simp
      obtain ⟨y, m, h2, h3, h4, h5, h6⟩ := dec i _ hd
      rw [List.getElem?_range (by omega), hd]
      show some (((chs l.ys ms).getD i []).getD _ 0) = _
      rw [gtD_of h4, h6]
    · rw [List.getElem?_eq_none (by rw [List.length_range]; omega), List.getElem?_eq_none (by omega)]
      rfl
  · have hd : q[i]? = some (q[i]'(by omega)) := by simp
    obtain ⟨y, m, h2, h3, h4, h5, h6⟩ := dec i _ hd
    rw [h4] at hc
    rw [← Option.some.inj hc]
    exact h5
  · obtain ⟨g1, g2, g3⟩ := fair_digs O hq'
    have a : RK l sh ms ≤ _ ∨ _ := t2 q' hq'
    have b := small q' hq'
    rw [vq q' hq', ← e] at a
    have c := hor_lex _ _ _ _ (by rw [digs_len, digs_len, f1, g1]) f2 g2 (by omega : hor (mvI l.ys 0 q) (digs l.ys ms 0 q) ≤ hor (mvI l.ys 0 q') (digs l.ys ms 0 q'))
    have m1 := mv_mvI (l := l) (t := nt ms) (g := 16) q 0 (by omega)
    have m2 := mv_mvI (l := l) (t := nt ms) (g := 16) q' 0 (by omega)
    rw [List.drop_zero] at m1 m2
    rcases c with c | ⟨c, d⟩
    · exact .inl (by omega)
    · exact .inr ⟨by omega, lex_shift _ _ _ d⟩
end FL

end
section
set_option Elab.async false
set_option linter.all false
set_option maxRecDepth 100000
set_option maxHeartbeats 4000000
namespace FL
open Loft (Spot as_ standing moveOf lesser)
def absI (z : Int) : Int := if z < 0 then -z else z
theorem absI_eq (z : Int) : absI z = (z.natAbs : Int) := by
  unfold absI
  split <;> omega
def oneC (_ : Nat) (_ : Int) : Int := 1
theorem many_spec {l : Loft.Line} {sh ms : List Int} (O : LnOk l sh ms) : tot .cnt 0 (dOf l.xs (chs l.ys ms) sh oneC) (l.xs.length - 2) = (Loft.many (l.spots (nt ms) 16) (nt sh) : Int) := by
  have lt : (nt ms).length = l.xs.length := by unfold nt; rw [List.length_map]; exact O.lm
  have l16 := lspots_len l (nt ms) 16 O.ly lt
  have two := O.two
  exact tot_many (fits O oneC) (fun _ _ => rfl) (by omega)
theorem many_part {l : Loft.Line} {sh ms : List Int} (O : LnOk l sh ms) {j : Nat} (hj : j + 2 ≤ l.xs.length) : tot .cnt 0 (dOf l.xs (chs l.ys ms) sh oneC) j = (Loft.many ((l.spots (nt ms) 16).take (j + 2)) ((nt sh).take (j + 2 - 2)) : Int) := by
  have lt : (nt ms).length = l.xs.length := by unfold nt; rw [List.length_map]; exact O.lm
  have l16 := lspots_len l (nt ms) 16 O.ly lt
  have F := (fits O oneC).take (j + 2) (by omega)
  exact tot_many F (fun _ _ => rfl) (by rw [List.length_take]; omega)
theorem ch_ne {l : Loft.Line} {sh ms : List Int} (O : LnOk l sh ms) : ∀ u ∈ l.spots (nt ms) 16, u.ys ≠ [] := fun u hu => by
  obtain ⟨i, hi⟩ := List.getElem?_of_mem hu
  obtain ⟨x, y, k, h1, h2, h3, rfl⟩ := spots_get hi
  have := near_self (t := min k 16) (O.yb y (List.mem_of_getElem? h2)).1 (O.yb y (List.mem_of_getElem? h2)).2
  intro z
  have z : Loft.near (min k 16) y = [] := z
  rw [z] at this
  simp at this
theorem few_low {l : Loft.Line} {sh ms : List Int} (O : LnOk l sh ms) {m : Nat} (hm : m ≤ 2) : (Loft.many ((l.spots (nt ms) 16).take m) ((nt sh).take (m - 2)) == 0) = false := by
  have lt : (nt ms).length = l.xs.length := by unfold nt; rw [List.length_map]; exact O.lm
  have l16 := lspots_len l (nt ms) 16 O.ly lt
  have two := O.two
  have ls := O.ls
  rw [Bool.eq_false_iff]
  intro z
  rw [many_take (ch_ne O) (by omega) (by rw [l16]; unfold nt; rw [List.length_map]; omega)] at z
  obtain ⟨h2, h⟩ := z
  have e : m = 2 := by omega
  subst e
  obtain ⟨u, v, e1, e2, e⟩ := drop_two (l := l.spots (nt ms) 16) (j := 0) (by omega)
  rw [List.drop_zero] at e
  have hu := ch_ne O u (List.mem_of_getElem? e1)
  have hv := ch_ne O v (List.mem_of_getElem? e2)
  match eu : u.ys, ev : v.ys, hu, hv with
  | a :: _, b :: _, _, _ =>
    refine h [a, b] ?_
    rw [e]
    show a ∈ u.ys ∧ b ∈ v.ys
    rw [eu, ev]
    exact ⟨List.mem_cons_self .., List.mem_cons_self ..⟩
theorem few_some {l : Loft.Line} {sh ms : List Int} (O : LnOk l sh ms) {j : Nat} (h1 : 1 ≤ j) (hj : j + 2 ≤ l.xs.length) (hb : ∀ i, 1 ≤ i → i < j → tot .cnt 0 (dOf l.xs (chs l.ys ms) sh oneC) i ≠ 0) (h0 : tot .cnt 0 (dOf l.xs (chs l.ys ms) sh oneC) j = 0) : l.few (nt sh) (nt ms) = some (j + 2) := by
  unfold Loft.Line.few
  rw [List.range_eq_range']
  have := find_least (p := fun (m : Nat) => Loft.many ((l.spots (nt ms) Loft.FAR).take m) ((nt sh).take (m - 2)) == 0) (l.xs.length + 1) 0 (j + 2) (by omega) (fun i hi => ?_) ?_
  · rw [this, Nat.zero_add]
  · rw [Nat.zero_add]
    by_cases h : i ≤ 2
    · exact few_low O h
    · show (Loft.many ((l.spots (nt ms) 16).take i) ((nt sh).take (i - 2)) == 0) = false
      have a := hb (i - 2) (by omega) (by omega)
      rw [many_part O (by omega), show i - 2 + 2 = i by omega] at a
      rw [beq_eq_false_iff_ne]
      omega
  · rw [Nat.zero_add]
    show (Loft.many ((l.spots (nt ms) 16).take (j + 2)) ((nt sh).take (j + 2 - 2)) == 0) = true
    rw [many_part O hj] at h0
    rw [beq_iff_eq]
    omega
theorem few_none {l : Loft.Line} {sh ms : List Int} (O : LnOk l sh ms) (hb : ∀ i, 1 ≤ i → i + 2 ≤ l.xs.length → tot .cnt 0 (dOf l.xs (chs l.ys ms) sh oneC) i ≠ 0) : l.few (nt sh) (nt ms) = none := by
  refine find_no fun i hi => ?_
  have hi := List.mem_range.mp hi
  by_cases h : i ≤ 2
  · exact few_low O h
  · show (Loft.many ((l.spots (nt ms) 16).take i) ((nt sh).take (i - 2)) == 0) = false
    have a := hb (i - 2) (by omega) (by omega)
    rw [many_part O (by omega), show i - 2 + 2 = i by omega] at a
    rw [beq_eq_false_iff_ne]
    omega
theorem greatest_le {z : Nat} : ∀ (l : List Nat) (a : Nat), (l.foldl max a ≤ z ↔ a ≤ z ∧ ∀ x ∈ l, x ≤ z)
  | [], a => by simp
  | b :: l, a => by
    show l.foldl max (max a b) ≤ z ↔ _
    rw [greatest_le l (max a b)]
    constructor
    · rintro ⟨h1, h2⟩
      refine ⟨by omega, fun x hx => ?_⟩
      rcases List.mem_cons.mp hx with rfl | hx
      · omega
      · exact h2 x hx
    · rintro ⟨h1, h2⟩
      have := h2 b (List.mem_cons_self ..)
      exact ⟨by omega, fun x hx => h2 x (List.mem_cons_of_mem _ hx)⟩
theorem sum_moves : ∀ (ys q : List Int), (Loft.sum (Loft.moves ys q) : Int) = ((q.zip ys).map fun (u : Int × Int) => absI (u.1 - u.2)).sum
  | [], q => by
    rw [List.zip_nil_right]
    rfl
  | _ :: _, [] => rfl
  | y :: ys, a :: q => by
    show (((y - a).natAbs + Loft.sum (Loft.moves ys q) : Nat) : Int) = _
    rw [Int.natCast_add, sum_moves ys q, List.zip_cons_cons, List.map_cons, List.sum_cons, absI_eq]
    show _ = ((a - y).natAbs : Int) + _
    omega
theorem least_some {l : Loft.Line} {sh ms : List Int} (O : LnOk l sh ms) (h : GR l sh ms ≤ 16) : 0 ≤ GR l sh ms ∧
    ∃ q, decode (chs l.ys (mins ms (GR l sh ms))) l.xs.length (RK l sh (mins ms (GR l sh ms))) = q ∧ (∀ i c, i < l.xs.length → (chs l.ys (mins ms (GR l sh ms)))[i]? = some c → (RK l sh (mins ms (GR l sh ms)) / 33 ^ (l.xs.length - 1 - i) % 33).toNat < c.length) ∧ q.length = l.xs.length ∧
      l.nearest (nt sh) (nt ms) = some q ∧ (Loft.greatest (Loft.moves l.ys q) : Int) = GR l sh ms ∧ (Loft.sum (Loft.moves l.ys q) : Int) = ((q.zip l.ys).map fun (u : Int × Int) => absI (u.1 - u.2)).sum := by
  obtain ⟨g, eg, hg, hex, hno⟩ := (gr_spec O).2.2 h
  have lt : (nt ms).length = l.xs.length := by unfold nt; rw [List.length_map]; exact O.lm
  refine ⟨by omega, ?_⟩
  rw [eg]
  have O' := mins_ok O (g := (g : Int)) (by omega)
  have es : l.spots (nt (mins ms g)) 16 = l.spots (nt ms) g := by rw [spots_mins O, Nat.min_eq_left hg]
  obtain ⟨q, hq, dq, ix, le⟩ := rk_spec O' (by rw [es]; exact hex)
  rw [es] at hq le
  have near := nearest_eq O.two O.ly lt (by unfold nt; rw [List.length_map]; have := O.ls; omega) hg hno hq le
  have hq16 := (fair_within O hg).mp hq
  have lq := (fair_digs O hq16.1).1
  refine ⟨q, dq, ix, lq, near, ?_, sum_moves _ _⟩
  have mem : ∀ (z : Nat), ((∀ x ∈ Loft.moves l.ys q, x ≤ z) ↔ ∀ (j : Nat) d, q[j]? = some d → cGr l.ys j d ≤ (z : Int)) := fun z => by
    constructor
    · intro hx j d hd
      have hj : j < l.ys.length := by
        rw [O.ly, ← lq]
        exact (List.getElem?_eq_some_iff.mp hd).1
      have hy : l.ys[j]? = some l.ys[j] := by simp
      have := hx (l.ys[j] - d).natAbs (List.mem_map.mpr ⟨(l.ys[j], d), List.mem_of_getElem? (zip_some hy hd), rfl⟩)
      unfold cGr
      rw [gtD_of hy]
      omega
    · intro hx x hm
      obtain ⟨⟨y, d⟩, hm2, rfl⟩ := List.mem_map.mp hm
      obtain ⟨j, hj⟩ := List.getElem?_of_mem hm2
      rw [List.getElem?_zip_eq_some] at hj
      have := hx j d hj.2
      unfold cGr at this
      rw [gtD_of hj.1] at this
      show (y - d).natAbs ≤ z
      omega
  have g1 : Loft.greatest (Loft.moves l.ys q) ≤ g := (greatest_le _ 0).mpr ⟨by omega, (mem g).mpr hq16.2⟩
  have g2 : ¬ Loft.greatest (Loft.moves l.ys q) < g := fun z => by
    refine hno _ z q ((fair_within O (by omega)).mpr ⟨hq16.1, (mem _).mp ?_⟩)
    exact ((greatest_le (Loft.moves l.ys q) 0).mp (Nat.le_refl _)).2
  omega
end FL

end
section
set_option Elab.async false
set_option linter.all false
set_option maxRecDepth 100000
set_option maxHeartbeats 4000000
namespace FL
open PySem PySem.Spec PyProof.Rows L2
variable {P : Program} {w : World} {K : PySem.W.Frag} {mg : Str → Option Value} {base : Heap} {t : Adr}
def sp_choices_of : Sp := fun vs H Q _ => ∃ (y m : Int), vs = [.int y, .int m] ∧ (0 ≤ y ∧ y ≤ 1048575) ∧ (0 ≤ m ∧ m ≤ 16) ∧ NewInts H (chOf y m) Q
theorem ok_choices_of (T : Txt K mg t) : FnOk P w K mg base CX0 1 t.f_choices_of t.d_choices_of ["y", "move"] sp_choices_of := by
  refine T.fn_choices_of.ok sc_choices_of (fun vs H Q E h => ?_) (fun cdv A outer s H vs Q E hr h => ?_)
  · obtain ⟨y, m, rfl, _⟩ := h
    rfl
  · obtain ⟨y, m, rfl, hy, hm, q⟩ := h
    refine ⟨_, (pss_one (ps_ret (pe_list_range2 rfl rfl T.n_list rfl T.n_range (pa_cons (pe_callB (call_max2 rfl) rfl T.n_max boot_max (pa_cons pe_int (pa_cons (pe_op op_sub (pv 0) (pv 1)) pa_nil))) (pa_cons (pe_op op_add (pe_callB (call_min2 rfl) rfl T.n_min boot_min (pa_cons (pe_gint rfl T.g_GREATEST) (pa_cons (pe_op op_add (pv 0) (pv 1)) pa_nil))) pe_int) pa_nil))))), ?_⟩
    have e1 : (if y - m > 0 then y - m else 0) = max 0 (y - m) := by split <;> omega
    have e2 : (if y + m < 1048575 then y + m else 1048575) = min 1048575 (y + m) := by split <;> omega
    refine ⟨_, rfl, _, rfl, _, _, rfl, rfl, _, _, rfl, _, rfl, _, rfl, _, _, rfl, rfl, _, _, rfl, _, _, rfl, rfl, _, _, rfl, ?_, ?_, fun l hl => ?_⟩
    · rw [e1, e2]
      refine ⟨?_, ?_, ?_, ?_⟩ <;> omega
    · rw [e1, e2]
      omega
    · rw [e1, e2]
      exact q _ l ((Same.refl H).new hl) hl upd_same
def rmf (xa ya sa ma ca : Addr) : List (Str × V) := [("xs", .ref xa), ("ys", .ref ya), ("shape", .ref sa), ("moves", .ref ma), ("choices", .ref ca)]
def RoomAt (K : PySem.W.Frag) (C : Addr) (H : Hp) (p : Addr) (xs ys sh ms : List Int) : Prop := ∃ dx xa ya sa ma ca, H p = some (.ins C dx (rmf xa ya sa ma ca)) ∧ SqL K H xa (xs.map V.int) ∧ SqL K H ya (ys.map V.int) ∧ SqL K H sa (sh.map V.int) ∧ SqL K H ma (ms.map V.int) ∧ LL K H ca (chs ys ms)
theorem RoomAt.same {C : Addr} {H H' : Hp} {p : Addr} {xs ys sh ms : List Int} (h : RoomAt K C H p xs ys sh ms) (s : Same H H') : RoomAt K C H' p xs ys sh ms := by
  obtain ⟨dx, xa, ya, sa, ma, ca, h0, h1, h2, h3, h4, h5⟩ := h
  exact ⟨dx, xa, ya, sa, ma, ca, s _ _ h0, s.seq h1, s.seq h2, s.seq h3, s.seq h4, h5.same s⟩
theorem LL.keep {H H' : Hp} {p a : Addr} {ls : List (List Int)} {C dx : Addr} {fs : List (Str × V)} (hp : H p = some (.ins C dx fs)) (k : ∀ b u, H b = some u → b ≠ p → H' b = some u) (h : LL K H a ls) : LL K H' a ls := by
  obtain ⟨as, h1, h2, h3⟩ := h
  exact ⟨as, SqL.keep hp k h1, h2, fun i b l e1 e2 => SqL.keep hp k (h3 i b l e1 e2)⟩
theorem keep_trans {H H1 H2 : Hp} {p : Addr} (a : ∀ b u, H b = some u → b ≠ p → H1 b = some u) (c : ∀ b u, H1 b = some u → b ≠ p → H2 b = some u) : ∀ b u, H b = some u → b ≠ p → H2 b = some u := fun b u e n => c b u (a b u e n) n
theorem keep_refl (H : Hp) (p : Addr) : ∀ b u, H b = some u → b ≠ p → H b = some u := fun _ _ e _ => e
theorem keep_same {H H1 H2 : Hp} {p : Addr} (a : ∀ b u, H b = some u → b ≠ p → H1 b = some u) (s : Same H1 H2) : ∀ b u, H b = some u → b ≠ p → H2 b = some u := fun b u e n => s b u (a b u e n)
def Bds (ys ms : List Int) : Prop := ms.length = ys.length ∧ ys.length ≤ 24 ∧ (∀ y ∈ ys, 0 ≤ y ∧ y ≤ 1048575) ∧ ∀ m ∈ ms, 0 ≤ m ∧ m ≤ 16
def sp_Room___init__ (K : PySem.W.Frag) (C : Addr) : Sp := fun vs H Q _ => ∃ (p dx xa ya sa ma : Addr) (xs ys sh ms : List Int), vs = [.ref p, .ref xa, .ref ya, .ref sa, .ref ma] ∧ H p = some (.ins C dx []) ∧ SqL K H xa (xs.map V.int) ∧ SqL K H ya (ys.map V.int) ∧ SqL K H sa (sh.map V.int) ∧ SqL K H ma (ms.map V.int) ∧ Bds ys ms ∧
  ∀ H' : Hp, RoomAt K C H' p xs ys sh ms → (∀ b o, H b = some o → b ≠ p → H' b = some o) → Q .non H'
theorem small24 {i n : Nat} (h : i < n) (h2 : n ≤ 1000) : i < sizeLine := small1000 (by omega)
theorem ok_Room___init__ (T : Txt K mg t) : FnOk P w K mg base CX0 2 t.f_Room___init__ t.d_Room___init__ ["self", "xs", "ys", "shape", "moves"] (sp_Room___init__ K t.c_Room) := by
  refine T.fn_Room___init__.ok sc_Room___init__ (fun vs H Q E h => ?_) (fun cdv A outer s H vs Q E hr h => ?_)
  · obtain ⟨p, dx, xa, ya, sa, ma, xs, ys, sh, ms, rfl, _⟩ := h
    rfl
  · obtain ⟨p, dx, xa, ya, sa, ma, xs, ys, sh, ms, rfl, hp, hX, hY, hS, hM, ⟨bl, b24, by_, bm⟩, k⟩ := h
    refine ⟨_, (pss_cons (ps_fld (pv 0) (pv 1) rfl)
      (pss_cons (ps_fld (pv 0) (pv 2) rfl)
      (pss_cons (ps_fld (pv 0) (pv 3) rfl)
      (pss_cons (ps_fld (pv 0) (pv 4) rfl)
      (pss_one (ps_fld (pv 0) (pe_lc rfl sc_Room___init__.nd (pi_zip rfl T.n_zip (pa_cons (pv 2) (pa_cons (pv 4) pa_nil))) (own := [("y", 5), ("move", 6)]) (g := gTup K 2 (gCons (gName 5) (gCons (gName 6) gNil))) (blkOk_by (by rfl)) (fun _ _ _ _ _ => (pg_tup rfl (pgs_cons (pg_name (i := 5) sc_Room___init__.nd rfl (Or.inl rfl) (hf := Or.inr rfl)) (pgs_cons (pg_name (i := 6) sc_Room___init__.nd rfl (Or.inl rfl) (hf := Or.inr rfl)) pgs_nil)))) (fun _ _ _ _ _ => pts_nil) (fun _ _ _ _ _ => (pe_call (ok_choices_of T) hr rfl T.m_choices_of T.fn_choices_of.kp T.b_choices_of .nil pass0 (pa_cons (pv 5) (pa_cons (pv 6) pa_nil))))) rfl)))))), ?_⟩
    refine ⟨_, rfl, _, rfl, p, _, dx, _, rfl, hp, T.cl_Room, T.na_Room_xs, (by show 0 < 1000; decide), ?_⟩
    refine ⟨_, rfl, _, rfl, p, _, dx, _, rfl, upd_same, T.cl_Room, T.na_Room_ys, (by show 1 < 1000; decide), ?_⟩
    rw [upd_upd]
    refine ⟨_, rfl, _, rfl, p, _, dx, _, rfl, upd_same, T.cl_Room, T.na_Room_shape, (by show 2 < 1000; decide), ?_⟩
    rw [upd_upd]
    refine ⟨_, rfl, _, rfl, p, _, dx, _, rfl, upd_same, T.cl_Room, T.na_Room_moves, (by show 3 < 1000; decide), ?_⟩
    rw [upd_upd]
    generalize hH1 : upd H p (.ins t.c_Room dx (putF "moves" (.ref ma) (putF "shape" (.ref sa) (putF "ys" (.ref ya) (putF "xs" (.ref xa) []))))) = H1
    have k1 : ∀ b u, H b = some u → b ≠ p → H1 b = some u := by rw [← hH1]; exact upd_keep2 (keep_refl H p)
    have p1 : H1 p = some (.ins t.c_Room dx (putF "moves" (.ref ma) (putF "shape" (.ref sa) (putF "ys" (.ref ya) (putF "xs" (.ref xa) []))))) := by rw [← hH1]; exact upd_same
    have hX := SqL.keep hp k1 hX
    have hY := SqL.keep hp k1 hY
    have hS := SqL.keep hp k1 hS
    have hM := SqL.keep hp k1 hM
    refine ⟨_, rfl, _, rfl, ya, ma, _, _, rfl, hY, hM, fun D hD => ?_⟩
    have lc : (chs ys ms).length = ys.length := chs_len bl
    refine lc_zip (K := K) (a := ya) (b := ma) (xs := ys.map V.int) (ys := ms.map V.int) (by simpa using bl.symm) (LInv H1 D (chs ys ms)) (LInv.start hD) (fun i H' _ h => ⟨h.1.seq hY, h.1.seq hM⟩) ?_ ?_
    · rintro i x y H' Tp hi hj inv hT
      obtain ⟨z, hz, rfl⟩ := get_int hi
      obtain ⟨m, hm, rfl⟩ := get_int hj
      have sT : Same H' (upd H' Tp (.tup [.int z, .int m])) := (Same.refl H').new hT
      refine ⟨Tp, _, rfl, SqT.of upd_same, rfl, _, _, rfl, _, _, rfl, rfl, rfl, _, rfl, _, rfl, z, m, rfl, by_ z (List.mem_of_getElem? hz), bm m (List.mem_of_getElem? hm), fun H2 b s2 n2 e2 => ?_⟩
      exact inv.step hD (chs_get hz hm) (sT.trans s2) (sT.free n2) e2 (small24 (lt_of_get hz) (by omega))
    · intro H' inv
      rw [List.length_map, ← lc] at inv
      obtain ⟨s5, ll⟩ := inv.done (K := K)
      have p5 := s5 _ _ p1
      have k5 : ∀ b u, H' b = some u → b ≠ p → (upd H' p (.ins t.c_Room dx (rmf xa ya sa ma D))) b = some u := upd_keep2 (keep_refl H' p)
      refine ⟨_, rfl, p, _, dx, _, rfl, p5, T.cl_Room, T.na_Room_choices, (by show 4 < 1000; decide), ?_⟩
      exact k _ ⟨dx, xa, ya, sa, ma, D, upd_same, SqL.keep p5 k5 (s5.seq hX), SqL.keep p5 k5 (s5.seq hY), SqL.keep p5 k5 (s5.seq hS), SqL.keep p5 k5 (s5.seq hM), LL.keep p5 k5 ll⟩ (keep_trans (keep_same k1 s5) k5)
theorem chs_at {ys ms : List Int} {j : Nat} (h : ms.length = ys.length) (hj : j < ys.length) : ∃ y m, ys[j]? = some y ∧ ms[j]? = some m ∧ (chs ys ms)[j]? = some (chOf y m) := by
  have h1 : ys[j]? = some ys[j] := by simp
  have h2 : ms[j]? = some (ms[j]'(by omega)) := by simp
  exact ⟨_, _, h1, h2, chs_get h1 h2⟩
theorem chOf_len {y m : Int} (hm : m ≤ 16) : (chOf y m).length ≤ 33 := by
  unfold chOf loOf
  rw [upto_len]
  omega
theorem LL.at {H : Hp} {a : Addr} {ls : List (List Int)} (h : LL K H a ls) : ∃ as : List Addr, SqL K H a (as.map V.ref) ∧ ∀ (i : Nat) l, ls[i]? = some l → ∃ b, as[i]? = some b ∧ (as.map V.ref)[i]? = some (.ref b) ∧ SqL K H b (l.map V.int) := by
  obtain ⟨as, h1, h2, h3⟩ := h
  refine ⟨as, h1, fun i l hl => ?_⟩
  have hi : i < as.length := by rw [h2]; exact lt_of_get hl
  have e : as[i]? = some as[i] := by simp
  exact ⟨_, e, by rw [List.getElem?_map, e]; rfl, h3 i _ l e hl⟩
def sp_Room_moved_by (K : PySem.W.Frag) (C : Addr) : Sp := fun vs H Q _ => ∃ (p : Addr) (xs ys sh ms : List Int) (j : Nat), vs = [.ref p, .int (j : Int)] ∧ RoomAt K C H p xs ys sh ms ∧ Bds ys ms ∧ j < ys.length ∧ NewInts H (((chs ys ms).getD j []).map (cGr ys j)) Q
theorem ok_Room_moved_by (T : Txt K mg t) : FnOk P w K mg base CX0 1 t.f_Room_moved_by t.d_Room_moved_by ["self", "nail"] (sp_Room_moved_by K t.c_Room) := by
  refine T.fn_Room_moved_by.ok sc_Room_moved_by (fun vs H Q E h => ?_) (fun cdv A outer s H vs Q E hr h => ?_)
  · obtain ⟨p, xs, ys, sh, ms, j, rfl, _⟩ := h
    rfl
  · obtain ⟨p, xs, ys, sh, ms, j, rfl, hR, ⟨bl, b24, by_, bm⟩, hj, q⟩ := h
    obtain ⟨dx, xa, ya, sa, ma, ca, h0, h1, h2, h3, h4, h5⟩ := hR
    obtain ⟨y, m, ey, em, ec⟩ := chs_at bl hj
    rw [gtD_of ec] at q
    obtain ⟨as, hS, hA⟩ := h5.at
    obtain ⟨b, eb, eb', hB⟩ := hA j _ ec
    refine ⟨_, (pss_one (ps_ret (pe_lc rfl sc_Room_moved_by.nd (pi_list (pe_ix ix_list (pe_fld (pv 0) rfl) (pv 1) (fun _ _ => rfl))) (own := [("choice", 2)]) (te := (tCB _ (tCons (tOp _ _ (tOp (rIxL K) (tFld K _ "ys") _)) tNil))) (blkOk_by (by rfl)) (fun _ _ _ _ _ => (pg_name (i := 2) sc_Room_moved_by.nd rfl (Or.inl rfl))) (fun _ _ _ _ _ => pts_nil) (fun _ _ _ _ _ => (pe_callB call_abs rfl T.n_abs boot_abs (pa_cons (pe_op op_sub (pv 2) (pe_ix ix_list (pe_fld (pv 0) rfl) (pv 1) (fun _ _ => rfl))) pa_nil)))))), ?_⟩
    refine ⟨_, rfl, p, _, dx, _, _, rfl, h0, T.cl_Room, T.na_Room_choices, rfl, _, rfl, ca, _, _, _, rfl, rfl, hS, atI_nat eb', b, rfl, ⟨_, hB⟩, fun D hD => ?_⟩
    have cl := chOf_len (y := y) (bm m (List.mem_of_getElem? em)).2
    refine lc_list (K := K) (a := b) (xs := (chOf y m).map V.int) (IInv H D ((chOf y m).map (cGr ys j))) (IInv.start hD) (fun i H' _ h => h.1.seq hB) ?_ ?_
    · rintro i x H' hi inv
      obtain ⟨z, hz, rfl⟩ := get_int hi
      have s1 := inv.1
      refine ⟨rfl, _, rfl, _, rfl, p, _, dx, _, _, rfl, s1 _ _ h0, T.cl_Room, T.na_Room_ys, rfl, _, rfl, ya, _, _, _, rfl, rfl, s1.seq h2, atI_nat (get_map ey), _, _, rfl, rfl, _, rfl, ?_⟩
      refine inv.step hD (z := absI (z - y)) ?_ (Same.refl H') (small24 (lt_of_get hz) (by omega))
      rw [List.getElem?_map, hz]
      show some (cGr ys j z) = _
      unfold cGr
      rw [gtD_of ey, absI_eq]
    · intro H' inv
      rw [List.length_map] at inv
      obtain ⟨s5, e⟩ := inv.done (by rw [List.length_map]; exact Nat.le_refl _)
      exact q H' D s5 hD e
def cK (t : Adr) : Kd → Addr
  | .cnt => t.c_Counts
  | .gr => t.c_GreatestMoves
  | .rk => t.c_Ranks
theorem Txt.clK (T : Txt K mg t) : ∀ k, Cls K (cK t k)
  | .cnt => T.cl_Counts
  | .gr => T.cl_GreatestMoves
  | .rk => T.cl_Ranks
theorem Txt.naN (T : Txt K mg t) : ∀ k, NoAttr K (cK t k) "nothing"
  | .cnt => T.na_Counts_nothing
  | .gr => T.na_GreatestMoves_nothing
  | .rk => T.na_Ranks_nothing
theorem Txt.naC (T : Txt K mg t) : ∀ k, NoAttr K (cK t k) "costs"
  | .cnt => T.na_Counts_costs
  | .gr => T.na_GreatestMoves_costs
  | .rk => T.na_Ranks_costs
def tlf (N : Int) (ca : Addr) : List (Str × V) := [("nothing", .int N), ("costs", .ref ca)]
def TalAt (K : PySem.W.Frag) (t : Adr) (H : Hp) (q : Addr) (k : Kd) (N : Int) (cs : List (List Int)) : Prop := ∃ dx ca, H q = some (.ins (cK t k) dx (tlf N ca)) ∧ LL K H ca cs
theorem TalAt.same {H H' : Hp} {q : Addr} {k : Kd} {N : Int} {cs : List (List Int)} (h : TalAt K t H q k N cs) (s : Same H H') : TalAt K t H' q k N cs := by
  obtain ⟨dx, ca, h1, h2⟩ := h
  exact ⟨dx, ca, s _ _ h1, h2.same s⟩
def sp_ei (k : Kd) : Sp := fun vs H Q _ => ∃ (z : V) (a b : Int), vs = [z, .int a, .int b] ∧ Q (.int (ei k a b)) H
def sp_al (k : Kd) : Sp := fun vs H Q _ => ∃ (z : V) (a c : Int), vs = [z, .int a, .int c] ∧ (match k with | .cnt => c = 1 | _ => True) ∧ Q (.int (al k a c)) H
theorem ok_Counts_either (T : Txt K mg t) : FnOk P w K mg base CX0 1 t.f_Counts_either t.d_Counts_either ["self", "one", "other"] (sp_ei .cnt) := by
  refine T.fn_Counts_either.ok sc_Counts_either (fun vs H Q E h => ?_) (fun cdv A outer s H vs Q E hr h => ?_)
  · obtain ⟨z, a, b, rfl, _⟩ := h
    rfl
  · obtain ⟨z, a, b, rfl, q⟩ := h
    refine ⟨_, (pss_one (ps_ret (pe_op op_add (pv 1) (pv 2)))), ?_⟩
    exact ⟨_, rfl, _, rfl, _, _, rfl, rfl, q⟩
theorem ok_Counts_along (T : Txt K mg t) : FnOk P w K mg base CX0 1 t.f_Counts_along t.d_Counts_along ["self", "tally", "cost"] (sp_al .cnt) := by
  refine T.fn_Counts_along.ok sc_Counts_along (fun vs H Q E h => ?_) (fun cdv A outer s H vs Q E hr h => ?_)
  · obtain ⟨z, a, b, rfl, _⟩ := h
    rfl
  · obtain ⟨z, a, b, rfl, h1, q⟩ := h
    have h1 : b = 1 := h1
    subst h1
    refine ⟨_, (pss_one (ps_ret (pe_op op_mul (pv 1) (pv 2)))), ?_⟩
    exact ⟨_, rfl, _, rfl, _, _, rfl, rfl, .inr (by decide), q⟩
theorem ok_GreatestMoves_either (T : Txt K mg t) : FnOk P w K mg base CX0 1 t.f_GreatestMoves_either t.d_GreatestMoves_either ["self", "one", "other"] (sp_ei .gr) := by
  refine T.fn_GreatestMoves_either.ok sc_GreatestMoves_either (fun vs H Q E h => ?_) (fun cdv A outer s H vs Q E hr h => ?_)
  · obtain ⟨z, a, b, rfl, _⟩ := h
    rfl
  · obtain ⟨z, a, b, rfl, q⟩ := h
    refine ⟨_, (pss_one (ps_ret (pe_ifExp (pt_cmpR op_lt (pv 1) (pv 2) (nomark _)) (pv 1) (pv 2)))), ?_⟩
    have q : Q (.int (if a < b then a else b)) H := q
    refine ⟨_, rfl, _, rfl, _, _, rfl, rfl, _, rfl, ite2 (fun c => ?_) (fun c => ?_)⟩
    · rw [if_pos (by simpa using c)] at q
      exact ⟨_, rfl, q⟩
    · rw [if_neg (by simpa using c)] at q
      exact ⟨_, rfl, q⟩
theorem ok_GreatestMoves_along (T : Txt K mg t) : FnOk P w K mg base CX0 1 t.f_GreatestMoves_along t.d_GreatestMoves_along ["self", "tally", "cost"] (sp_al .gr) := by
  refine T.fn_GreatestMoves_along.ok sc_GreatestMoves_along (fun vs H Q E h => ?_) (fun cdv A outer s H vs Q E hr h => ?_)
  · obtain ⟨z, a, b, rfl, _⟩ := h
    rfl
  · obtain ⟨z, a, b, rfl, h1, q⟩ := h
    refine ⟨_, (pss_one (ps_ret (pe_ifExp (pt_cmpR op_gt (pv 1) (pv 2) (nomark _)) (pv 1) (pv 2)))), ?_⟩
    have q : Q (.int (if b < a then a else b)) H := q
    refine ⟨_, rfl, _, rfl, _, _, rfl, rfl, _, rfl, ite2 (fun c => ?_) (fun c => ?_)⟩
    · rw [if_pos (by simpa using c)] at q
      exact ⟨_, rfl, q⟩
    · rw [if_neg (by simpa using c)] at q
      exact ⟨_, rfl, q⟩
theorem ok_Ranks_either (T : Txt K mg t) : FnOk P w K mg base CX0 1 t.f_Ranks_either t.d_Ranks_either ["self", "one", "other"] (sp_ei .rk) := by
  refine T.fn_Ranks_either.ok sc_Ranks_either (fun vs H Q E h => ?_) (fun cdv A outer s H vs Q E hr h => ?_)
  · obtain ⟨z, a, b, rfl, _⟩ := h
    rfl
  · obtain ⟨z, a, b, rfl, q⟩ := h
    refine ⟨_, (pss_one (ps_ret (pe_ifExp (pt_cmpR op_lt (pv 1) (pv 2) (nomark _)) (pv 1) (pv 2)))), ?_⟩
    have q : Q (.int (if a < b then a else b)) H := q
    refine ⟨_, rfl, _, rfl, _, _, rfl, rfl, _, rfl, ite2 (fun c => ?_) (fun c => ?_)⟩
    · rw [if_pos (by simpa using c)] at q
      exact ⟨_, rfl, q⟩
    · rw [if_neg (by simpa using c)] at q
      exact ⟨_, rfl, q⟩
theorem ok_Ranks_along (T : Txt K mg t) : FnOk P w K mg base CX0 1 t.f_Ranks_along t.d_Ranks_along ["self", "tally", "cost"] (sp_al .rk) := by
  refine T.fn_Ranks_along.ok sc_Ranks_along (fun vs H Q E h => ?_) (fun cdv A outer s H vs Q E hr h => ?_)
  · obtain ⟨z, a, b, rfl, _⟩ := h
    rfl
  · obtain ⟨z, a, b, rfl, _, q⟩ := h
    refine ⟨_, (pss_one (ps_ret (pe_op op_add (pv 1) (pv 2)))), ?_⟩
    exact ⟨_, rfl, _, rfl, _, _, rfl, rfl, q⟩
end FL

end
section
set_option Elab.async false
set_option linter.all false
set_option maxRecDepth 100000
set_option maxHeartbeats 4000000
namespace FL
open PySem PySem.Spec PyProof.Rows L2
variable {P : Program} {w : World} {K : PySem.W.Frag} {mg : Str → Option Value} {base : Heap} {t : Adr}
theorem get_ref {as : List Addr} {i : Nat} {y : V} (h : (as.map V.ref)[i]? = some y) : ∃ b, as[i]? = some b ∧ y = .ref b := by
  rw [List.getElem?_map] at h
  cases e : as[i]? with
  | none => rw [e] at h; cases h
  | some z => rw [e] at h; exact ⟨z, rfl, (Option.some.inj h).symm⟩
theorem keep_same' {H H1 H2 : Hp} {p : Addr} (s : Same H H1) (a : ∀ b u, H1 b = some u → b ≠ p → H2 b = some u) : ∀ b u, H b = some u → b ≠ p → H2 b = some u := fun b u e n => a b u (s b u e) n
def costsOf (ch : List (List Int)) (cf : Nat → Int → Int) : List (List Int) := (List.range ch.length).map fun i => (ch.getD i []).map (cf i)
theorem costsOf_len (ch : List (List Int)) (cf : Nat → Int → Int) : (costsOf ch cf).length = ch.length := by simp [costsOf]
theorem costsOf_get {ch : List (List Int)} {cf : Nat → Int → Int} {i : Nat} {c : List Int} (h : ch[i]? = some c) : (costsOf ch cf)[i]? = some (c.map (cf i)) := by
  unfold costsOf
  rw [List.getElem?_map, List.getElem?_range (lt_of_get h)]
  show some ((ch.getD i []).map (cf i)) = _
  rw [gtD_of h]
theorem room_ne {C C' : Addr} {H : Hp} {r p dx : Addr} {xs ys sh ms : List Int} (h : RoomAt K C H r xs ys sh ms) (hp : H p = some (.ins C' dx [])) : r ≠ p := by
  obtain ⟨dx, xa, ya, sa, ma, ca, h0, _⟩ := h
  refine ne_of h0 hp fun z => ?_
  unfold rmf at z
  cases z
theorem RoomAt.keep {C C' : Addr} {H H' : Hp} {r p dx : Addr} {fs : List (Str × V)} {xs ys sh ms : List Int} (h : RoomAt K C H r xs ys sh ms) (hp : H p = some (.ins C' dx fs)) (n : r ≠ p) (k : ∀ b u, H b = some u → b ≠ p → H' b = some u) : RoomAt K C H' r xs ys sh ms := by
  obtain ⟨dx, xa, ya, sa, ma, ca, h0, h1, h2, h3, h4, h5⟩ := h
  exact ⟨dx, xa, ya, sa, ma, ca, k _ _ h0 n, SqL.keep hp k h1, SqL.keep hp k h2, SqL.keep hp k h3, SqL.keep hp k h4, LL.keep hp k h5⟩
theorem rep_ones (i : Nat) : ∀ (c : List Int), (List.replicate c.length [V.int 1]).flatten = (c.map (oneC i)).map V.int
  | [] => rfl
  | _ :: r => by
    rw [List.length_cons, List.replicate_succ, List.flatten_cons, rep_ones i r]
    rfl
def spInit (K : PySem.W.Frag) (t : Adr) (k : Kd) (N : List Int → Int) (cf : List Int → List Int → List Int → Nat → Int → Int) : Sp := fun vs H Q _ => ∃ (p dx r : Addr) (xs ys sh ms : List Int), vs = [.ref p, .ref r] ∧ H p = some (.ins (cK t k) dx []) ∧ RoomAt K t.c_Room H r xs ys sh ms ∧ Bds ys ms ∧ xs.length = ys.length ∧
  ∀ H' : Hp, TalAt K t H' p k (N xs) (costsOf (chs ys ms) (cf xs ys ms)) → (∀ b o, H b = some o → b ≠ p → H' b = some o) → Q .non H'
theorem ok_Counts___init__ (T : Txt K mg t) : FnOk P w K mg base CX0 1 t.f_Counts___init__ t.d_Counts___init__ ["self", "room"] (spInit K t .cnt (fun _ => 0) (fun _ _ _ => oneC)) := by
  refine T.fn_Counts___init__.ok sc_Counts___init__ (fun vs H Q E h => ?_) (fun cdv A outer s H vs Q E hr h => ?_)
  · obtain ⟨p, dx, r, xs, ys, sh, ms, rfl, _⟩ := h
    rfl
  · obtain ⟨p, dx, r, xs, ys, sh, ms, rfl, hp, hR, ⟨bl, b24, by_, bm⟩, lx, k⟩ := h
    have hp : H p = some (.ins t.c_Counts dx []) := hp
    refine ⟨_, (pss_cons (ps_fld (pv 0) pe_int rfl)
      (pss_one (ps_fld (pv 0) (pe_lc rfl sc_Counts___init__.nd (pi_list (pe_fld (pv 1) rfl)) (own := [("choices", 2)]) (te := (tOp _ _ (tCB (rLenS K) (tCons _ tNil)))) (blkOk_by (by rfl)) (fun _ _ _ _ _ => (pg_name (i := 2) sc_Counts___init__.nd rfl (Or.inl rfl))) (fun _ _ _ _ _ => pts_nil) (fun _ _ _ _ _ => (pe_op op_rep (pe_lst (pa_cons pe_int pa_nil)) (pe_callB call_lenS rfl T.n_len PySem.boot_len (pa_cons (pv 2) pa_nil))))) rfl))), ?_⟩
    refine ⟨_, rfl, p, _, dx, _, rfl, hp, T.cl_Counts, T.na_Counts_nothing, (by show 0 < 1000; decide), ?_⟩
    generalize hH1 : upd H p (.ins t.c_Counts dx (putF "nothing" (.int 0) [])) = H1
    have k1 : ∀ b u, H b = some u → b ≠ p → H1 b = some u := by rw [← hH1]; exact upd_keep2 (keep_refl H p)
    have p1 : H1 p = some (.ins t.c_Counts dx (putF "nothing" (.int 0) [])) := by rw [← hH1]; exact upd_same
    have hR1 := hR.keep hp (room_ne hR hp) k1
    obtain ⟨dxr, xa, ya, sa, ma, ca, h0, h1, h2, h3, h4, h5⟩ := hR1
    obtain ⟨as, hS, al, hA⟩ := h5
    have lc : (chs ys ms).length = ys.length := chs_len bl
    refine ⟨_, rfl, r, _, dxr, _, _, rfl, h0, T.cl_Room, T.na_Room_choices, rfl, ca, rfl, ⟨_, hS⟩, fun D hD => ?_⟩
    refine lc_list (K := K) (a := ca) (xs := as.map V.ref) (LInv H1 D (costsOf (chs ys ms) oneC)) (LInv.start hD) (fun i H' _ h => h.1.seq hS) ?_ ?_
    · rintro i x H' hi inv
      obtain ⟨b, hb, rfl⟩ := get_ref hi
      obtain ⟨y, m, ey, em, ec⟩ := chs_at (j := i) bl (by rw [← lc, ← al]; exact lt_of_get hb)
      have cl := chOf_len (y := y) (bm m (List.mem_of_getElem? em)).2
      have hB := inv.1.seq (hA i b _ hb ec)
      refine ⟨rfl, (by show 1 ≤ sizeLine; decide), fun r0 n0 => ⟨_, rfl, _, _, rfl, .inl (((Same.refl H').new n0).seq hB), r0, _, _, rfl, rfl, upd_same, ?_, ?_, ?_, fun D2 n2 => ?_⟩⟩
      · omega
      · rw [List.length_map]
        omega
      · rw [List.length_map, Int.toNat_natCast, List.length_singleton, Nat.one_mul]
        exact Nat.le_of_lt (small1000 (by omega))
      · have s1 : Same H' (upd H' r0 (.lst [.int 1])) := (Same.refl H').new n0
        refine inv.step hD (costsOf_get ec) (s1.new n2) (s1.free n2) ?_ (small24 (lt_of_get ey) (by omega))
        rw [upd_same, List.length_map, Int.toNat_natCast, rep_ones i]
    · intro H' inv
      rw [List.length_map, al, ← costsOf_len (chs ys ms) oneC] at inv
      obtain ⟨s5, ll⟩ := inv.done (K := K)
      have p5 := s5 _ _ p1
      have k5 : ∀ b u, H' b = some u → b ≠ p → (upd H' p (.ins t.c_Counts dx (tlf 0 D))) b = some u := upd_keep2 (keep_refl H' p)
      refine ⟨_, rfl, p, _, dx, _, rfl, p5, T.cl_Counts, T.na_Counts_costs, (by show 1 < 1000; decide), ?_⟩
      exact k _ ⟨dx, D, upd_same, LL.keep p5 k5 ll⟩ (keep_trans (keep_same k1 s5) k5)
theorem ok_GreatestMoves___init__ (T : Txt K mg t) : FnOk P w K mg base CX0 2 t.f_GreatestMoves___init__ t.d_GreatestMoves___init__ ["self", "room"] (spInit K t .gr (fun _ => 17) (fun _ ys _ => cGr ys)) := by
  refine T.fn_GreatestMoves___init__.ok sc_GreatestMoves___init__ (fun vs H Q E h => ?_) (fun cdv A outer s H vs Q E hr h => ?_)
  · obtain ⟨p, dx, r, xs, ys, sh, ms, rfl, _⟩ := h
    rfl
  · obtain ⟨p, dx, r, xs, ys, sh, ms, rfl, hp, hR, bd, lx, k⟩ := h
    have hp : H p = some (.ins t.c_GreatestMoves dx []) := hp
    obtain ⟨bl, b24, by_, bm⟩ := id bd
    refine ⟨_, (pss_cons (ps_fld (pv 0) (pe_op op_add (pe_gint rfl T.g_FARTHEST) pe_int) rfl)
      (pss_one (ps_fld (pv 0) (pe_lc rfl sc_GreatestMoves___init__.nd (pi_range1 rfl T.n_range (pa_cons (pe_callB call_lenS rfl T.n_len PySem.boot_len (pa_cons (pe_fld (pv 1) rfl) pa_nil)) pa_nil)) (own := [("nail", 2)]) (blkOk_by (by rfl)) (fun _ _ _ _ _ => (pg_name (i := 2) sc_GreatestMoves___init__.nd rfl (Or.inl rfl))) (fun _ _ _ _ _ => pts_nil) (fun _ _ _ _ _ => (pe_meth (pv 1) T.cl_Room T.mt_Room_moved_by (ok_Room_moved_by T) hr T.b_Room_moved_by .nil pass0 (pa_cons (pv 2) pa_nil)))) rfl))), ?_⟩
    refine ⟨_, _, rfl, rfl, _, rfl, p, _, dx, _, rfl, hp, T.cl_GreatestMoves, T.na_GreatestMoves_nothing, (by show 0 < 1000; decide), ?_⟩
    generalize hH1 : upd H p (.ins t.c_GreatestMoves dx (putF "nothing" (.int (16 + 1)) [])) = H1
    have k1 : ∀ b u, H b = some u → b ≠ p → H1 b = some u := by rw [← hH1]; exact upd_keep2 (keep_refl H p)
    have p1 : H1 p = some (.ins t.c_GreatestMoves dx (putF "nothing" (.int 17) [])) := by rw [← hH1]; exact upd_same
    have hR1 := hR.keep hp (room_ne hR hp) k1
    obtain ⟨dxr, xa, ya, sa, ma, ca, h0, h1, h2, h3, h4, h5⟩ := id hR1
    have lc : (chs ys ms).length = ys.length := chs_len bl
    refine ⟨_, rfl, r, _, dxr, _, _, rfl, h0, T.cl_Room, T.na_Room_xs, rfl, _, _, rfl, .inl h1, _, rfl, (by omega), (by rw [List.length_map]; omega), fun D hD => ?_⟩
    refine lc_range (LInv H1 D (costsOf (chs ys ms) (cGr ys))) (LInv.start hD) ?_ ?_
    · rintro i H' hi inv
      have hi : i < ys.length := by rw [List.length_map] at hi; omega
      obtain ⟨y, m, ey, em, ec⟩ := chs_at (j := i) bl hi
      refine ⟨rfl, _, rfl, r, dxr, _, rfl, inv.1 _ _ h0, rfl, _, rfl, r, xs, ys, sh, ms, i, (by rw [Int.zero_add]; rfl), hR1.same inv.1, bd, hi, fun H2 b s2 n2 e2 => ?_⟩
      rw [gtD_of ec] at e2
      exact inv.step hD (costsOf_get ec) s2 n2 e2 (small24 hi (by omega))
    · intro H' inv
      rw [List.length_map, Int.toNat_natCast, lx, ← lc, ← costsOf_len (chs ys ms) (cGr ys)] at inv
      obtain ⟨s5, ll⟩ := inv.done (K := K)
      have p5 := s5 _ _ p1
      have k5 : ∀ b u, H' b = some u → b ≠ p → (upd H' p (.ins t.c_GreatestMoves dx (tlf 17 D))) b = some u := upd_keep2 (keep_refl H' p)
      refine ⟨_, rfl, p, _, dx, _, rfl, p5, T.cl_GreatestMoves, T.na_GreatestMoves_costs, (by show 1 < 1000; decide), ?_⟩
      exact k _ ⟨dx, D, upd_same, LL.keep p5 k5 ll⟩ (keep_trans (keep_same k1 s5) k5)
def wtsUp (n : Nat) : List Int := (List.range n).map fun i => (33 : Int) ^ i
def wts (n : Nat) : List Int := (wtsUp n).reverse
theorem wtsUp_succ (n : Nat) : wtsUp (n + 1) = wtsUp n ++ [(33 : Int) ^ n] := by
  unfold wtsUp
  rw [List.range_succ, List.map_append]
  rfl
theorem wtsUp_len (n : Nat) : (wtsUp n).length = n := by simp [wtsUp]
theorem wts_get {n i : Nat} (h : i < n) : (wts n)[i]? = some ((33 : Int) ^ (n - 1 - i)) := by
  unfold wts
  rw [List.getElem?_reverse (by rw [wtsUp_len]; exact h), wtsUp_len]
  unfold wtsUp
  rw [List.getElem?_map, List.getElem?_range (by omega)]
  rfl
theorem atI_last {xs : List V} {v : V} (h : xs[xs.length - 1]? = some v) : atI xs (-1) = some v := by
  have := lt_of_get h
  unfold atI ixN
  rw [if_neg (by decide), if_pos (by omega)]
  show xs[((xs.length : Int) + -1).toNat]? = some v
  rw [← h]
  congr 1
  omega
def sp_digit_weights : Sp := fun vs H Q _ => ∃ (n : Nat), vs = [.int (n : Int)] ∧ 1 ≤ n ∧ n ≤ 100 ∧ NewInts H (wts n) Q
theorem ok_digit_weights (T : Txt K mg t) : FnOk P w K mg base CX0 1 t.f_digit_weights t.d_digit_weights ["count"] sp_digit_weights := by
  refine T.fn_digit_weights.ok sc_digit_weights (fun vs H Q E h => ?_) (fun cdv A outer s H vs Q E hr h => ?_)
  · obtain ⟨n, rfl, _⟩ := h
    rfl
  · obtain ⟨n, rfl, h1, h2, q⟩ := h
    refine ⟨_, (pss_cons (ps_set (i := 1) sc_digit_weights.nd rfl (Or.inl rfl) (pe_lst (pa_cons pe_int pa_nil)))
      (pss_cons (ps_while PassesOwn.never (pt_cmpR op_lt (pe_callB call_lenS rfl T.n_len PySem.boot_len (pa_cons (pv 1) pa_nil)) (pv 0) (nomark _)) (pss_one (ps_expr (pe_bm PySem.F.plainAttrs_list PySem.F.slot_list_append PySem.F.type_list_append mt_append (pv 1) (pa_cons (pe_op op_mul (pe_ix ix_list (pv 1) (pe_un un_neg pe_int) (fun _ _ => rfl)) (pe_gint rfl T.g_MOST_CHOICES)) pa_nil)))))
      (pss_one (ps_ret (pe_list_rev rfl rfl T.n_list rfl T.n_reversed (pa_cons (pv 1) pa_nil)))))), ?_⟩
    refine ⟨(by show 1 ≤ sizeLine; decide), fun r0 n0 => ?_⟩
    refine ⟨fun z σ H' => ∃ m, z = n - m ∧ σ = [some (.int (n : Int)), some (.ref r0)] ∧ Same H H' ∧ 1 ≤ m ∧ m ≤ n ∧ H' r0 = some (.lst ((wtsUp m).map V.int)), ⟨_, 1, rfl, rfl, (Same.refl H).new n0, Nat.le_refl _, h1, upd_same⟩, ?_⟩
    rintro z σ H' ⟨m, rfl, rfl, s1, m1, m2, e⟩
    refine ⟨_, rfl, _, _, rfl, .inl (SqL.of e), _, rfl, _, _, rfl, rfl, _, rfl, ite2 (fun c => ?_) (fun c => ?_)⟩
    · have c : m < n := by
        rw [List.length_map, wtsUp_len] at c
        simp at c
        omega
      have hlast : ((wtsUp m).map V.int)[((wtsUp m).map V.int).length - 1]? = some (.int ((33 : Int) ^ (m - 1))) := by
        rw [List.length_map, wtsUp_len]
        refine get_map ?_
        unfold wtsUp
        rw [List.getElem?_map, List.getElem?_range (by omega)]
        rfl
      refine ⟨fun σ' H'' => σ' = [some (.int (n : Int)), some (.ref r0)] ∧ Same H H'' ∧ H'' r0 = some (.lst ((wtsUp (m + 1)).map V.int)), fun σ' H'' ⟨a1, a2, a3⟩ => ⟨n - (m + 1), by omega, m + 1, rfl, a1, a2, by omega, c, a3⟩, ?_⟩
      refine ⟨_, rfl, .inl ⟨rfl, _, SqL.of e⟩, _, rfl, _, rfl, r0, _, _, _, rfl, rfl, SqL.of e, atI_last hlast, _, _, rfl, rfl, .inr (by decide), r0, _, _, rfl, rfl, e, ?_, ?_⟩
      · rw [List.length_map, wtsUp_len]
        exact small1000 (by omega)
      · have e3 : (wtsUp m).map V.int ++ [V.int ((33 : Int) ^ (m - 1) * 33)] = (wtsUp (m + 1)).map V.int := by
          rw [wtsUp_succ, List.map_append, ← Int.pow_succ, show (m - 1).succ = m by omega]
          rfl
        rw [e3]
        exact ⟨rfl, s1.upd n0, upd_same⟩
    · have c : m = n := by
        rw [List.length_map, wtsUp_len] at c
        simp at c
        omega
      subst c
      refine ⟨_, rfl, r0, _, rfl, SqL.of e, fun l hl => ?_⟩
      refine q _ l (s1.new hl) (s1.free hl) ?_
      rw [upd_same, ← List.map_reverse]
      rfl
def rkC (m : List Int) (sw dw : Int) : List Int := (List.range m.length).map fun i => m.getD i 0 * sw + (i : Int) * dw
theorem rkC_get {m : List Int} {sw dw z : Int} {i : Nat} (h : m[i]? = some z) : (rkC m sw dw)[i]? = some (z * sw + (i : Int) * dw) := by
  unfold rkC
  rw [List.getElem?_map, List.getElem?_range (lt_of_get h)]
  show some (m.getD i 0 * sw + (i : Int) * dw) = _
  rw [gtD_of h]
def sp_rank_costs (K : PySem.W.Frag) : Sp := fun vs H Q _ => ∃ (a : Addr) (m : List Int) (sw dw : Int), vs = [.ref a, .int sw, .int dw] ∧ SqL K H a (m.map V.int) ∧ m.length ≤ 1000 ∧ (∀ z ∈ m, 0 ≤ z ∧ z ≤ 16) ∧ NewInts H (rkC m sw dw) Q
theorem ok_rank_costs (T : Txt K mg t) : FnOk P w K mg base CX0 1 t.f_rank_costs t.d_rank_costs ["moved", "sum_weight", "digit_weight"] (sp_rank_costs K) := by
  refine T.fn_rank_costs.ok sc_rank_costs (fun vs H Q E h => ?_) (fun cdv A outer s H vs Q E hr h => ?_)
  · obtain ⟨a, m, sw, dw, rfl, _⟩ := h
    rfl
  · obtain ⟨a, m, sw, dw, rfl, hA, hl, hb, q⟩ := h
    refine ⟨_, (pss_one (ps_ret (pe_lc rfl sc_rank_costs.nd (pi_enum rfl T.n_enumerate (pa_cons (pv 0) pa_nil)) (own := [("digit", 3), ("move", 4)]) (g := gTup K 2 (gCons (gName 3) (gCons (gName 4) gNil))) (blkOk_by (by rfl)) (fun _ _ _ _ _ => (pg_tup rfl (pgs_cons (pg_name (i := 3) sc_rank_costs.nd rfl (Or.inl rfl) (hf := Or.inr rfl)) (pgs_cons (pg_name (i := 4) sc_rank_costs.nd rfl (Or.inl rfl) (hf := Or.inr rfl)) pgs_nil)))) (fun _ _ _ _ _ => pts_nil) (fun _ _ _ _ _ => (pe_op op_add (pe_op op_mul (pv 4) (pv 1)) (pe_op op_mul (pv 3) (pv 2))))))), ?_⟩
    refine ⟨_, rfl, a, _, rfl, hA, fun D hD => ?_⟩
    refine lc_enum (K := K) (a := a) (xs := m.map V.int) (IInv H D (rkC m sw dw)) (IInv.start hD) (fun i H' _ h => h.1.seq hA) ?_ ?_
    · rintro i x H' Tp hi inv hT
      obtain ⟨z, hz, rfl⟩ := get_int hi
      have bz := hb z (List.mem_of_getElem? hz)
      have il := lt_of_get hz
      refine ⟨Tp, _, rfl, SqT.of upd_same, rfl, _, _, rfl, _, _, rfl, rfl, rfl, _, rfl, _, rfl, _, _, rfl, rfl, .inl ⟨by omega, by omega⟩, _, rfl, _, rfl, _, _, rfl, rfl, .inl ⟨by omega, by omega⟩, _, _, rfl, rfl, ?_⟩
      exact inv.step hD (rkC_get hz) ((Same.refl H').new hT) (small24 il hl)
    · intro H' inv
      rw [List.length_map] at inv
      obtain ⟨s5, e⟩ := inv.done (by simp [rkC])
      exact q H' D s5 hD e
theorem rk_row {n : Nat} {ys ms : List Int} {j : Nat} {y m : Int} (ey : ys[j]? = some y) (em : ms[j]? = some m) : rkC ((chOf y m).map (cGr ys j)) (33 ^ n) (33 ^ (n - 1 - j)) = (chOf y m).map (cRk n ys ms j) := by
  refine List.ext_getElem? fun i => ?_
  by_cases hi : i < (chOf y m).length
  · have h : (chOf y m)[i]? = some (chOf y m)[i] := by simp
    obtain ⟨_, e⟩ := upto_get (show (upto _ _)[i]? = some _ from h)
    rw [rkC_get (z := cGr ys j (chOf y m)[i]) (by rw [List.getElem?_map, h]; rfl), List.getElem?_map, h]
    show _ = some (cRk n ys ms j (chOf y m)[i])
    unfold cRk cGr
    rw [gtD_of ey, gtD_of em, show (chOf y m)[i] - loOf y m = (i : Int) by rw [e]; omega]
  · rw [List.getElem?_eq_none (by simp [rkC]; omega), List.getElem?_eq_none (by simp; omega)]
theorem ok_Ranks___init__ (T : Txt K mg t) : FnOk P w K mg base CX0 2 t.f_Ranks___init__ t.d_Ranks___init__ ["self", "room"] (spInit K t .rk (fun xs => nRk xs.length) (fun xs ys ms => cRk xs.length ys ms)) := by
  refine T.fn_Ranks___init__.ok sc_Ranks___init__ (fun vs H Q E h => ?_) (fun cdv A outer s H vs Q E hr h => ?_)
  · obtain ⟨p, dx, r, xs, ys, sh, ms, rfl, _⟩ := h
    rfl
  · obtain ⟨p, dx, r, xs, ys, sh, ms, rfl, hp, hR, bd, lx, k⟩ := h
    have hp : H p = some (.ins t.c_Ranks dx []) := hp
    obtain ⟨bl, b24, by_, bm⟩ := id bd
    obtain ⟨dxr, xa, ya, sa, ma, ca, h0, h1, h2, h3, h4, h5⟩ := id hR
    have lxl : ((xs.map V.int).length : Int) = (xs.length : Int) := by rw [List.length_map]
    refine ⟨_, (pss_cons (ps_set (i := 2) sc_Ranks___init__.nd rfl (Or.inl rfl) (pe_callB call_lenS rfl T.n_len PySem.boot_len (pa_cons (pe_fld (pv 1) rfl) pa_nil)))
      (pss_cons (ps_set (i := 3) sc_Ranks___init__.nd rfl (Or.inr rfl) (pe_call (ok_digit_weights T) hr rfl T.m_digit_weights T.fn_digit_weights.kp T.b_digit_weights .nil pass0 (pa_cons (pe_op op_add (pv 2) pe_int) pa_nil)))
      (pss_cons (ps_fld (pv 0) (pe_op op_mul (pe_op op_add (pe_op op_mul (pv 2) (pe_gint rfl T.g_FARTHEST)) pe_int) (pe_ix ix_list (pv 3) pe_int (fun _ _ => rfl))) rfl)
      (pss_one (ps_fld (pv 0) (pe_lc rfl sc_Ranks___init__.nd (pi_range1 rfl T.n_range (pa_cons (pv 2) pa_nil)) (own := [("nail", 4)]) (te := (tCall _ _ _ (tCons _ (tCons (tOp (rIxL K) _ _) (tCons (tOp (rIxL K) _ _) tNil))))) (blkOk_by (by rfl)) (fun _ _ _ _ _ => (pg_name (i := 4) sc_Ranks___init__.nd rfl (Or.inl rfl))) (fun _ _ _ _ _ => pts_nil) (fun _ _ _ _ _ => (pe_call (ok_rank_costs T) hr rfl T.m_rank_costs T.fn_rank_costs.kp T.b_rank_costs .nil pass0 (pa_cons (pe_meth (pv 1) T.cl_Room T.mt_Room_moved_by (ok_Room_moved_by T) hr T.b_Room_moved_by .nil pass0 (pa_cons (pv 4) pa_nil)) (pa_cons (pe_ix ix_list (pv 3) pe_int (fun _ _ => rfl)) (pa_cons (pe_ix ix_list (pv 3) (pe_op op_add (pv 4) pe_int) (fun _ _ => rfl)) pa_nil)))))) rfl))))), ?_⟩
    refine ⟨_, rfl, r, _, dxr, _, _, rfl, h0, T.cl_Room, T.na_Room_xs, rfl, _, _, rfl, .inl h1, ?_⟩
    rw [lxl]
    refine ⟨_, rfl, _, _, rfl, rfl, xs.length + 1, rfl, by omega, by omega, fun H0 wa s0 nw ew => ?_⟩
    have w0 := wts_get (n := xs.length + 1) (i := 0) (by omega)
    have hp0 := s0 _ _ hp
    refine ⟨_, rfl, _, _, rfl, rfl, .inr (by decide), _, _, rfl, rfl, _, rfl, wa, _, _, _, rfl, rfl, SqL.of ew, atI_nat (j := 0) (get_map w0), _, _, rfl, rfl, .inl ⟨by omega, by omega⟩, _, rfl, p, _, dx, _, rfl, hp0, T.cl_Ranks, T.na_Ranks_nothing, (by show 0 < 1000; decide), ?_⟩
    have eN : ((xs.length : Int) * 16 + 1) * 33 ^ (xs.length + 1 - 1 - 0) = nRk xs.length := rfl
    dsimp only
    rw [eN]
    generalize hH1 : upd H0 p (.ins t.c_Ranks dx (putF "nothing" (.int (nRk xs.length)) [])) = H1
    have k1 : ∀ b u, H0 b = some u → b ≠ p → H1 b = some u := by rw [← hH1]; exact upd_keep2 (keep_refl H0 p)
    have p1 : H1 p = some (.ins t.c_Ranks dx (putF "nothing" (.int (nRk xs.length)) [])) := by rw [← hH1]; exact upd_same
    have nwp : wa ≠ p := ne_of ew hp0 (by intro z; cases z)
    have ew1 := k1 _ _ ew nwp
    have hR1 := (hR.same s0).keep hp0 (room_ne hR hp) k1
    obtain ⟨dxr, xa, ya, sa, ma, ca, h0, h1, h2, h3, h4, h5⟩ := id hR1
    have lc : (chs ys ms).length = ys.length := chs_len bl
    refine ⟨_, rfl, _, rfl, (by omega), (by omega), fun D hD => ?_⟩
    refine lc_range (LInv H1 D (costsOf (chs ys ms) (cRk xs.length ys ms))) (LInv.start hD) ?_ ?_
    · rintro i H' hi inv
      have hi : i < ys.length := by omega
      obtain ⟨y, m, ey, em, ec⟩ := chs_at (j := i) bl hi
      have wi := wts_get (n := xs.length + 1) (i := i + 1) (by omega)
      refine ⟨rfl, _, rfl, r, dxr, _, rfl, inv.1 _ _ h0, rfl, _, rfl, r, xs, ys, sh, ms, i, (by rw [Int.zero_add]; rfl), hR1.same inv.1, bd, hi, fun H2 b s2 n2 e2 => ?_⟩
      rw [gtD_of ec] at e2
      have ew2 := s2 _ _ (inv.1 _ _ ew1)
      refine ⟨_, rfl, wa, _, _, _, rfl, rfl, SqL.of ew2, atI_nat (j := 0) (get_map w0), _, rfl, _, rfl, _, _, rfl, rfl, wa, _, _, _, rfl, rfl, SqL.of ew2, (by rw [Int.zero_add]; exact atI_nat (j := i + 1) (get_map wi)), b, _, _, _, rfl, SqL.of e2, ?_, ?_, fun H3 b3 s3 n3 e3 => ?_⟩
      · rw [List.length_map]
        have := chOf_len (y := y) (bm m (List.mem_of_getElem? em)).2
        omega
      · intro z hz
        obtain ⟨d, hd, rfl⟩ := List.mem_map.mp hz
        have a1 := by_ y (List.mem_of_getElem? ey)
        have a2 := bm m (List.mem_of_getElem? em)
        unfold chOf loOf at hd
        rw [upto_mem] at hd
        unfold cGr
        rw [gtD_of ey]
        omega
      · have e4 : xs.length + 1 - 1 - (i + 1) = xs.length - 1 - i := by omega
        have e5 : xs.length + 1 - 1 - 0 = xs.length := by omega
        rw [e4, e5, rk_row ey em] at e3
        exact inv.step hD (costsOf_get ec) (s2.trans s3) (s2.free n3) e3 (small24 hi (by omega))
    · intro H' inv
      have inv : LInv H1 D (costsOf (chs ys ms) (cRk xs.length ys ms)) (costsOf (chs ys ms) (cRk xs.length ys ms)).length H' := by
        rw [costsOf_len, lc, ← lx]
        exact inv
      obtain ⟨s5, ll⟩ := inv.done (K := K)
      have p5 := s5 _ _ p1
      have k5 : ∀ b u, H' b = some u → b ≠ p → (upd H' p (.ins t.c_Ranks dx (tlf (nRk xs.length) D))) b = some u := upd_keep2 (keep_refl H' p)
      refine ⟨_, rfl, p, _, dx, _, rfl, p5, T.cl_Ranks, T.na_Ranks_costs, (by show 1 < 1000; decide), ?_⟩
      exact k _ ⟨dx, D, upd_same, LL.keep p5 k5 ll⟩ (keep_trans (keep_same (keep_same' s0 k1) s5) k5)
end FL

end
section
set_option Elab.async false
set_option linter.all false
set_option maxRecDepth 100000
set_option maxHeartbeats 4000000
namespace FL
open PySem PySem.Spec PyProof.Rows L2
variable {P : Program} {w : World} {K : PySem.W.Frag} {mg : Str → Option Value} {base : Heap} {t : Adr}
theorem ei_meth {i j l : Nat} {σ : L2.St} {H : Hp} {Q : VK} {q : Addr} {k : Kd} {N : Int} {cs : List (List Int)} {a b : Int} (hT : TalAt K t H q k N cs) (hq : σ[i]? = some (some (.ref q))) (ha : σ[j]? = some (some (.int a))) (hb : σ[l]? = some (some (.int b))) (h : Q (.int (ei k a b)) H) :
    tAlt (tMeth t.c_Counts "either" (sp_ei .cnt) [] E0 (tVar i) (tCons (tVar j) (tCons (tVar l) tNil))) (tAlt (tMeth t.c_GreatestMoves "either" (sp_ei .gr) [] E0 (tVar i) (tCons (tVar j) (tCons (tVar l) tNil))) (tMeth t.c_Ranks "either" (sp_ei .rk) [] E0 (tVar i) (tCons (tVar j) (tCons (tVar l) tNil)))) σ H Q := by
  obtain ⟨dx, ca, h1, _⟩ := hT
  cases k with
  | cnt => exact .inl ⟨_, hq, q, dx, _, rfl, h1, rfl, _, ha, _, hb, _, a, b, rfl, h⟩
  | gr => exact .inr (.inl ⟨_, hq, q, dx, _, rfl, h1, rfl, _, ha, _, hb, _, a, b, rfl, h⟩)
  | rk => exact .inr (.inr ⟨_, hq, q, dx, _, rfl, h1, rfl, _, ha, _, hb, _, a, b, rfl, h⟩)
def CostK (k : Kd) (c : Int) : Prop := match k with | .cnt => c = 1 | _ => True
theorem al_meth {i j l : Nat} {σ : L2.St} {H : Hp} {Q : VK} {q : Addr} {k : Kd} {N : Int} {cs : List (List Int)} {a c : Int} (hT : TalAt K t H q k N cs) (hc : CostK k c) (hq : σ[i]? = some (some (.ref q))) (ha : σ[j]? = some (some (.int a))) (hb : σ[l]? = some (some (.int c))) (h : Q (.int (al k a c)) H) :
    tAlt (tMeth t.c_Counts "along" (sp_al .cnt) [] E0 (tVar i) (tCons (tVar j) (tCons (tVar l) tNil))) (tAlt (tMeth t.c_GreatestMoves "along" (sp_al .gr) [] E0 (tVar i) (tCons (tVar j) (tCons (tVar l) tNil))) (tMeth t.c_Ranks "along" (sp_al .rk) [] E0 (tVar i) (tCons (tVar j) (tCons (tVar l) tNil)))) σ H Q := by
  obtain ⟨dx, ca, h1, _⟩ := hT
  cases k with
  | cnt => exact .inl ⟨_, hq, q, dx, _, rfl, h1, rfl, _, ha, _, hb, _, a, c, rfl, hc, h⟩
  | gr => exact .inr (.inl ⟨_, hq, q, dx, _, rfl, h1, rfl, _, ha, _, hb, _, a, c, rfl, trivial, h⟩)
  | rk => exact .inr (.inr ⟨_, hq, q, dx, _, rfl, h1, rfl, _, ha, _, hb, _, a, c, rfl, trivial, h⟩)
def gathN (k : Kd) (N : Int) (row : List Int) (n : Nat) : List Int := (List.range n).map fun i => fo k N (row.take i)
def gath (k : Kd) (N : Int) (row : List Int) : List Int := gathN k N row (row.length + 1)
theorem gathN_len (k : Kd) (N : Int) (row : List Int) (n : Nat) : (gathN k N row n).length = n := by simp [gathN]
theorem gathN_succ (k : Kd) (N : Int) (row : List Int) (n : Nat) : gathN k N row (n + 1) = gathN k N row n ++ [fo k N (row.take n)] := by
  unfold gathN
  rw [List.range_succ, List.map_append]
  rfl
theorem gath_get {k : Kd} {N : Int} {row : List Int} {i : Nat} (h : i ≤ row.length) : (gath k N row)[i]? = some (fo k N (row.take i)) := by
  unfold gath gathN
  rw [List.getElem?_map, List.getElem?_range (by omega)]
  rfl
theorem fo_snoc {k : Kd} {N : Int} {row : List Int} {i : Nat} {z : Int} (h : row[i]? = some z) : fo k N (row.take (i + 1)) = ei k (fo k N (row.take i)) z := by
  rw [take_snoc h]
  unfold fo
  rw [List.foldl_append]
  rfl
def sp_gathered (K : PySem.W.Frag) (t : Adr) : Sp := fun vs H Q _ => ∃ (q a : Addr) (k : Kd) (N : Int) (cs : List (List Int)) (row : List Int), vs = [.ref q, .ref a] ∧ TalAt K t H q k N cs ∧ SqL K H a (row.map V.int) ∧ row.length ≤ 999 ∧ NewInts H (gath k N row) Q
theorem ok_gathered (T : Txt K mg t) : FnOk P w K mg base CX0 2 t.f_gathered t.d_gathered ["tallies", "row"] (sp_gathered K t) := by
  refine T.fn_gathered.ok sc_gathered (fun vs H Q E h => ?_) (fun cdv A outer s H vs Q E hr h => ?_)
  · obtain ⟨q, a, k, N, cs, row, rfl, _⟩ := h
    rfl
  · obtain ⟨q, a, k, N, cs, row, rfl, hT, hA, hl, kq⟩ := h
    obtain ⟨dx, ca, h1, h2⟩ := id hT
    refine ⟨_, (pss_cons (ps_set (i := 2) sc_gathered.nd rfl (Or.inl rfl) (pe_fld (pv 0) rfl))
      (pss_cons (ps_set (i := 3) sc_gathered.nd rfl (Or.inl rfl) (pe_lst (pa_cons (pv 2) pa_nil)))
      (pss_cons (ps_for PassesOwn.never rfl (pi_list (pv 1)) (pg_name (i := 4) sc_gathered.nd rfl (Or.inl rfl)) (pss_cons (ps_set (i := 2) sc_gathered.nd rfl (Or.inl rfl) (pe_alt (pe_meth (pv 0) T.cl_Counts T.mt_Counts_either (ok_Counts_either T) hr T.b_Counts_either .nil pass0 (pa_cons (pv 2) (pa_cons (pv 4) pa_nil))) (pe_alt (pe_meth (pv 0) T.cl_GreatestMoves T.mt_GreatestMoves_either (ok_GreatestMoves_either T) hr T.b_GreatestMoves_either .nil pass0 (pa_cons (pv 2) (pa_cons (pv 4) pa_nil))) (pe_meth (pv 0) T.cl_Ranks T.mt_Ranks_either (ok_Ranks_either T) hr T.b_Ranks_either .nil pass0 (pa_cons (pv 2) (pa_cons (pv 4) pa_nil))))))
      (pss_one (ps_expr (pe_bm PySem.F.plainAttrs_list PySem.F.slot_list_append PySem.F.type_list_append mt_append (pv 3) (pa_cons (pv 2) pa_nil))))))
      (pss_one (ps_ret (pv 3)))))), ?_⟩
    refine ⟨_, rfl, q, _, dx, _, _, rfl, h1, T.clK k, T.naN k, rfl, ?_⟩
    refine ⟨_, rfl, (by show 1 ≤ sizeLine; decide), fun f nf => ?_⟩
    have sf : Same H (upd H f (.lst [.int N])) := (Same.refl H).new nf
    refine ⟨_, rfl, a, rfl, ⟨_, sf.seq hA⟩, ?_⟩
    refine for_list (K := K) (a := a) (xs := row.map V.int) (fun i σ H' => ∃ v4, σ = [some (.ref q), some (.ref a), some (.int (fo k N (row.take i))), some (.ref f), v4] ∧ Same H H' ∧ H' f = some (.lst ((gathN k N row (i + 1)).map V.int)))
      ⟨none, rfl, sf, upd_same⟩ (fun i σ H' _ ⟨_, _, s1, _⟩ => s1.seq hA) ?_ ?_
    · rintro i x σ H' hi ⟨v4, rfl, s1, e⟩
      obtain ⟨z, hz, rfl⟩ := get_int hi
      refine ei_meth (q := q) (k := k) (N := N) (cs := cs) (a := fo k N (row.take i)) (b := z) (hT.same s1) rfl rfl rfl ?_
      refine ⟨_, rfl, .inl ⟨rfl, _, SqL.of e⟩, _, rfl, f, _, _, rfl, rfl, e, ?_, ?_⟩
      · rw [List.length_map, gathN_len]
        have := lt_of_get hz
        exact small1000 (by omega)
      · refine ⟨some (.int z), ?_, s1.upd nf, ?_⟩
        · rw [fo_snoc hz]
          rfl
        · rw [upd_same, gathN_succ k N row (i + 1), fo_snoc hz, List.map_append]
          rfl
    · rintro σ H' ⟨v4, rfl, s1, e⟩
      rw [List.length_map] at e
      exact ⟨_, rfl, kq H' f s1 nf e⟩
theorem gath_last {k : Kd} {N : Int} {row : List Int} : atI ((gath k N row).map V.int) (-1) = some (.int (fo k N row)) := by
  refine atI_last ?_
  have hl : (gath k N row).length = row.length + 1 := gathN_len ..
  rw [List.length_map, hl, show row.length + 1 - 1 = row.length by omega]
  have := gath_get (k := k) (N := N) (row := row) (Nat.le_refl _)
  rw [List.take_length] at this
  exact get_map this
def sp_total (K : PySem.W.Frag) (t : Adr) : Sp := fun vs H Q _ => ∃ (q a : Addr) (k : Kd) (N : Int) (cs ls : List (List Int)), vs = [.ref q, .ref a] ∧ TalAt K t H q k N cs ∧ LL K H a ls ∧ ls.length ≤ 999 ∧ (∀ l ∈ ls, l.length ≤ 999) ∧ ∀ H' : Hp, Same H H' → Q (.int (fo k N (ls.map (fo k N)))) H'
theorem ok_total (T : Txt K mg t) : FnOk P w K mg base CX0 3 t.f_total t.d_total ["tallies", "rows"] (sp_total K t) := by
  refine T.fn_total.ok sc_total (fun vs H Q E h => ?_) (fun cdv A outer s H vs Q E hr h => ?_)
  · obtain ⟨q, a, k, N, cs, ls, rfl, _⟩ := h
    rfl
  · obtain ⟨q, a, k, N, cs, ls, rfl, hT, hA, hl, hll, kq⟩ := h
    obtain ⟨as, hS, el, hB⟩ := hA
    refine ⟨_, (pss_one (ps_ret (pe_ix ix_list (pe_call (ok_gathered T) hr rfl T.m_gathered T.fn_gathered.kp T.b_gathered .nil pass0 (pa_cons (pv 0) (pa_cons (pe_lc rfl sc_total.nd (pi_list (pv 1)) (own := [("row", 2)]) (te := (tOp (rIxL K) _ _)) (blkOk_by (by rfl)) (fun _ _ _ _ _ => (pg_name (i := 2) sc_total.nd rfl (Or.inl rfl))) (fun _ _ _ _ _ => pts_nil) (fun _ _ _ _ _ => (pe_ix ix_list (pe_call (ok_gathered T) hr rfl T.m_gathered T.fn_gathered.kp T.b_gathered .nil pass0 (pa_cons (pv 0) (pa_cons (pv 2) pa_nil))) (pe_un un_neg pe_int) (fun _ _ => rfl)))) pa_nil))) (pe_un un_neg pe_int) (fun _ _ => rfl)))), ?_⟩
    refine ⟨_, rfl, _, rfl, a, rfl, ⟨_, hS⟩, fun D hD => ?_⟩
    refine lc_list (K := K) (a := a) (xs := as.map V.ref) (IInv H D (ls.map (fo k N))) (IInv.start hD) (fun i H' _ h => h.1.seq hS) ?_ ?_
    · rintro i x H' hi inv
      obtain ⟨b, hb, rfl⟩ := get_ref hi
      have hil : i < ls.length := by rw [← el]; exact lt_of_get hb
      have ei : ls[i]? = some ls[i] := by simp
      refine ⟨rfl, _, rfl, _, rfl, q, b, k, N, cs, ls[i], rfl, hT.same inv.1, inv.1.seq (hB i b _ hb ei), hll _ (List.mem_of_getElem? ei), fun H2 c s2 n2 e2 => ?_⟩
      refine ⟨_, rfl, c, _, _, _, rfl, rfl, SqL.of e2, gath_last, ?_⟩
      exact inv.step hD (by rw [List.getElem?_map, ei]; rfl) s2 (small24 hil (by omega))
    · intro H' inv
      rw [List.length_map, el] at inv
      obtain ⟨s5, e⟩ := inv.done (by rw [List.length_map]; exact Nat.le_refl _)
      refine ⟨q, D, k, N, cs, _, rfl, hT.same s5, SqL.of e, by rw [List.length_map]; exact hl, fun H6 c s6 n6 e6 => ?_⟩
      exact ⟨_, rfl, c, _, _, _, rfl, rfl, SqL.of e6, gath_last, kq H6 (s5.trans s6)⟩
def sp_clamped : Sp := fun vs H Q _ => ∃ (z : Int) (n : Nat), vs = [.int z, .int (n : Int)] ∧ Q (.int ((clampN z n : Nat) : Int)) H
theorem ok_clamped (T : Txt K mg t) : FnOk P w K mg base CX0 1 t.f_clamped t.d_clamped ["number", "most"] sp_clamped := by
  refine T.fn_clamped.ok sc_clamped (fun vs H Q E h => ?_) (fun cdv A outer s H vs Q E hr h => ?_)
  · obtain ⟨z, n, rfl, _⟩ := h
    rfl
  · obtain ⟨z, n, rfl, q⟩ := h
    unfold clampN at q
    refine ⟨_, (pss_cons (ps_if (pt_cmpR op_lt (pv 0) pe_int (nomark _)) (pss_one (ps_ret pe_int)) pss_nil)
      (pss_one (ps_ret (pe_ifExp (pt_cmpR op_lt (pv 0) (pv 1) (nomark _)) (pv 0) (pv 1))))), ?_⟩
    refine ⟨_, rfl, _, _, rfl, rfl, _, rfl, ite2 (fun c => ?_) (fun c => ?_)⟩
    · have c : z < 0 := by simpa using c
      rw [show min z.toNat n = 0 by omega] at q
      exact q
    · have c : ¬ z < 0 := by simpa using c
      refine ⟨_, rfl, _, rfl, _, _, rfl, rfl, _, rfl, ite2 (fun d => ?_) (fun d => ?_)⟩
      · have d : z < n := by simpa using d
        rw [show ((min z.toNat n : Nat) : Int) = z by omega] at q
        exact ⟨_, rfl, q⟩
      · have d : ¬ z < n := by simpa using d
        rw [show ((min z.toNat n : Nat) : Int) = n by omega] at q
        exact ⟨_, rfl, q⟩
structure RO (xs ys sh ms : List Int) : Prop where
  ok : LnOk ⟨xs, ys⟩ sh ms
  bx : ∀ x ∈ xs, -1048575 ≤ x ∧ x ≤ 1048575
theorem RO.bds {xs ys sh ms : List Int} (h : RO xs ys sh ms) : Bds ys ms := ⟨by rw [h.ok.lm]; exact h.ok.ly.symm, by have := h.ok.most; have := h.ok.ly; simp at *; omega, h.ok.yb, h.ok.mb⟩
theorem RO.len {xs ys sh ms : List Int} (h : RO xs ys sh ms) : xs.length = ys.length := h.ok.ly.symm
theorem RO.x {xs ys sh ms : List Int} (h : RO xs ys sh ms) {j : Nat} (hj : j < xs.length) : ∃ x, xs[j]? = some x ∧ xs.getD j 0 = x ∧ -1048575 ≤ x ∧ x ≤ 1048575 := by
  have e : xs[j]? = some xs[j] := by simp
  exact ⟨_, e, gtD_of e, h.bx _ (List.mem_of_getElem? e)⟩
def sp_straight_points (K : PySem.W.Frag) (C : Addr) : Sp := fun vs H Q _ => ∃ (p : Addr) (xs ys sh ms : List Int) (j : Nat) (b : Int), vs = [.ref p, .int ((j + 1 : Nat) : Int), .int b] ∧ RoomAt K C H p xs ys sh ms ∧ RO xs ys sh ms ∧ j + 2 < xs.length ∧ (0 ≤ b ∧ b ≤ 1048575) ∧
  NewInts H (((chs ys ms).getD (j + 2) []).map fun d => pt (xs.getD j 0) (xs.getD (j + 1) 0) (xs.getD (j + 2) 0) b d) Q
theorem ok_straight_points (T : Txt K mg t) : FnOk P w K mg base CX0 1 t.f_straight_points t.d_straight_points ["room", "nail", "here"] (sp_straight_points K t.c_Room) := by
  refine T.fn_straight_points.ok sc_straight_points (fun vs H Q E h => ?_) (fun cdv A outer s H vs Q E hr h => ?_)
  · obtain ⟨p, xs, ys, sh, ms, j, b, rfl, _⟩ := h
    rfl
  · obtain ⟨p, xs, ys, sh, ms, j, b, rfl, hR, ro, hj, hb, q⟩ := h
    obtain ⟨dx, xa, ya, sa, ma, ca, h0, h1, h2, h3, h4, h5⟩ := id hR
    obtain ⟨bl, b24, by_, bm⟩ := ro.bds
    obtain ⟨x0, e0, d0, b0⟩ := ro.x (j := j) (by omega)
    obtain ⟨x1, e1, d1, b1⟩ := ro.x (j := j + 1) (by omega)
    obtain ⟨x2, e2, d2, b2⟩ := ro.x (j := j + 2) (by omega)
    obtain ⟨y, m, ey, em, ec⟩ := chs_at (j := j + 2) bl (by rw [← ro.len]; exact hj)
    rw [gtD_of ec, d0, d1, d2] at q
    obtain ⟨as, hS, hA⟩ := h5.at
    obtain ⟨c, eb, eb', hB⟩ := hA (j + 2) _ ec
    have i1 : atI (xs.map V.int) ((j + 1 : Nat) : Int) = some (.int x1) := atI_nat (get_map e1)
    have i0 : atI (xs.map V.int) (((j + 1 : Nat) : Int) - 1) = some (.int x0) := by
      rw [show ((j + 1 : Nat) : Int) - 1 = (j : Int) by omega]
      exact atI_nat (get_map e0)
    have i2 : atI (xs.map V.int) (((j + 1 : Nat) : Int) + 1) = some (.int x2) := by
      rw [show ((j + 1 : Nat) : Int) + 1 = ((j + 2 : Nat) : Int) by omega]
      exact atI_nat (get_map e2)
    have ic : atI (as.map V.ref) (((j + 1 : Nat) : Int) + 1) = some (.ref c) := by
      rw [show ((j + 1 : Nat) : Int) + 1 = ((j + 2 : Nat) : Int) by omega]
      exact atI_nat eb'
    refine ⟨_, (pss_cons (ps_set (i := 3) sc_straight_points.nd rfl (Or.inr rfl) (pe_op op_sub (pe_ix ix_list (pe_fld (pv 0) rfl) (pv 1) (fun _ _ => rfl)) (pe_ix ix_list (pe_fld (pv 0) rfl) (pe_op op_sub (pv 1) pe_int) (fun _ _ => rfl))))
      (pss_cons (ps_set (i := 4) sc_straight_points.nd rfl (Or.inr rfl) (pe_op op_sub (pe_ix ix_list (pe_fld (pv 0) rfl) (pe_op op_add (pv 1) pe_int) (fun _ _ => rfl)) (pe_ix ix_list (pe_fld (pv 0) rfl) (pv 1) (fun _ _ => rfl))))
      (pss_one (ps_ret (pe_lc rfl sc_straight_points.nd (pi_list (pe_ix ix_list (pe_fld (pv 0) rfl) (pe_op op_add (pv 1) pe_int) (fun _ _ => rfl))) (own := [("behind", 5)]) (blkOk_by (by rfl)) (fun _ _ _ _ _ => (pg_name (i := 5) sc_straight_points.nd rfl (Or.inl rfl))) (fun _ _ _ _ _ => pts_nil) (fun _ _ _ _ _ => (pe_op op_sub (pe_op op_mul (pv 2) (pv 4)) (pe_op op_mul (pe_op op_sub (pv 5) (pv 2)) (pv 3))))))))), ?_⟩
    refine ⟨_, rfl, p, _, dx, _, _, rfl, h0, T.cl_Room, T.na_Room_xs, rfl, _, rfl, xa, _, _, _, rfl, rfl, h1, i1, _, rfl, p, _, dx, _, _, rfl, h0, T.cl_Room, T.na_Room_xs, rfl, _, rfl, _, _, rfl, rfl, xa, _, _, _, rfl, rfl, h1, i0, _, _, rfl, rfl, ?_⟩
    refine ⟨_, rfl, p, _, dx, _, _, rfl, h0, T.cl_Room, T.na_Room_xs, rfl, _, rfl, _, _, rfl, rfl, xa, _, _, _, rfl, rfl, h1, i2, _, rfl, p, _, dx, _, _, rfl, h0, T.cl_Room, T.na_Room_xs, rfl, _, rfl, xa, _, _, _, rfl, rfl, h1, i1, _, _, rfl, rfl, ?_⟩
    refine ⟨_, rfl, p, _, dx, _, _, rfl, h0, T.cl_Room, T.na_Room_choices, rfl, _, rfl, _, _, rfl, rfl, ca, _, _, _, rfl, rfl, hS, ic, c, rfl, ⟨_, hB⟩, fun D hD => ?_⟩
    have cl := chOf_len (y := y) (bm m (List.mem_of_getElem? em)).2
    refine lc_list (K := K) (a := c) (xs := (chOf y m).map V.int) (IInv H D ((chOf y m).map fun d => pt x0 x1 x2 b d)) (IInv.start hD) (fun i H' _ h => h.1.seq hB) ?_ ?_
    · rintro i x H' hi inv
      obtain ⟨z, hz, rfl⟩ := get_int hi
      refine ⟨rfl, _, rfl, _, rfl, _, _, rfl, rfl, .inl ⟨by omega, by omega⟩, _, rfl, _, rfl, _, _, rfl, rfl, _, rfl, _, _, rfl, rfl, .inr ⟨by omega, by omega⟩, _, _, rfl, rfl, ?_⟩
      exact inv.step hD (by rw [List.getElem?_map, hz]; rfl) (Same.refl H') (small24 (lt_of_get hz) (by omega))
    · intro H' inv
      rw [List.length_map] at inv
      obtain ⟨s5, e⟩ := inv.done (by rw [List.length_map]; exact Nat.le_refl _)
      exact q H' D s5 hD e
end FL

end
section
set_option Elab.async false
set_option linter.all false
set_option maxRecDepth 100000
set_option maxHeartbeats 4000000
namespace FL
open PySem PySem.Spec PyProof.Rows L2
variable {P : Program} {w : World} {K : PySem.W.Frag} {mg : Str → Option Value} {base : Heap} {t : Adr}
theorem gath_at {k : Kd} {N : Int} {row : List Int} {z : Int} : atI ((gath k N row).map V.int) ((clampN z row.length : Nat) : Int) = some (.int (fo k N (row.take (clampN z row.length)))) := by
  refine atI_nat (get_map (gath_get ?_))
  unfold clampN
  omega
def spStr (K : PySem.W.Frag) (t : Adr) (c : Nat) : Sp := fun vs H Q _ => ∃ (q ra pa : Addr) (k : Kd) (N : Int) (cs : List (List Int)) (row ps : List Int) (lo st : Int), vs = [.ref q, .ref ra, .int lo, .ref pa, .int st] ∧ TalAt K t H q k N cs ∧ SqL K H ra (row.map V.int) ∧ SqL K H pa (ps.map V.int) ∧ row.length ≤ 999 ∧ ps.length ≤ 999 ∧ (0 < st ∧ st < 1073741824) ∧
  NewInts H (ps.map fun p => bhd k N c lo st row p) Q
theorem ok_hollow_or_straight (T : Txt K mg t) : FnOk P w K mg base CX0 3 t.f_hollow_or_straight t.d_hollow_or_straight ["tallies", "row", "lowest", "points", "step"] (spStr K t 1) := by
  refine T.fn_hollow_or_straight.ok sc_hollow_or_straight (fun vs H Q E h => ?_) (fun cdv A outer s H vs Q E hr h => ?_)
  · obtain ⟨q, ra, pa, k, N, cs, row, ps, lo, st, rfl, _⟩ := h
    rfl
  · obtain ⟨q, ra, pa, k, N, cs, row, ps, lo, st, rfl, hT, hA, hP, hl, hpl, hst, kq⟩ := h
    refine ⟨_, (pss_cons (ps_set (i := 5) sc_hollow_or_straight.nd rfl (Or.inr rfl) (pe_call (ok_gathered T) hr rfl T.m_gathered T.fn_gathered.kp T.b_gathered .nil pass0 (pa_cons (pv 0) (pa_cons (pe_list_rev rfl rfl T.n_list rfl T.n_reversed (pa_cons (pv 1) pa_nil)) pa_nil))))
      (pss_cons (ps_set (i := 6) sc_hollow_or_straight.nd rfl (Or.inr rfl) (pe_op op_add (pv 2) (pe_callB call_lenS rfl T.n_len PySem.boot_len (pa_cons (pv 1) pa_nil))))
      (pss_one (ps_ret (pe_lc rfl sc_hollow_or_straight.nd (pi_list (pv 3)) (own := [("point", 7)]) (te := (tOp (rIxL K) _ (tCall _ _ _ (tCons _ (tCons (tCB (rLenS K) (tCons _ tNil)) tNil))))) (blkOk_by (by rfl)) (fun _ _ _ _ _ => (pg_name (i := 7) sc_hollow_or_straight.nd rfl (Or.inl rfl))) (fun _ _ _ _ _ => pts_nil) (fun _ _ _ _ _ => (pe_ix ix_list (pv 5) (pe_call (ok_clamped T) (hr.mono (by decide : 1 ≤ 2)) rfl T.m_clamped T.fn_clamped.kp T.b_clamped .nil pass0 (pa_cons (pe_op op_add (pv 6) (pe_op op_fdiv (pe_un un_neg (pv 7)) (pv 4))) (pa_cons (pe_callB call_lenS rfl T.n_len PySem.boot_len (pa_cons (pv 1) pa_nil)) pa_nil))) (fun _ _ => rfl)))))))), ?_⟩
    refine ⟨_, rfl, _, rfl, ra, _, rfl, hA, fun r0 n0 => ?_⟩
    have s0 : Same H (upd H r0 (.lst (row.map V.int).reverse)) := (Same.refl H).new n0
    refine ⟨q, r0, k, N, cs, row.reverse, rfl, hT.same s0, SqL.of (by rw [upd_same, List.map_reverse]), by rw [List.length_reverse]; exact hl, fun H1 f s1 nf ef => ?_⟩
    have s01 := s0.trans s1
    refine ⟨_, rfl, _, rfl, _, _, rfl, .inl (s01.seq hA), _, _, rfl, rfl, ?_⟩
    refine ⟨_, rfl, pa, rfl, ⟨_, s01.seq hP⟩, fun D hD => ?_⟩
    refine lc_list (K := K) (a := pa) (xs := ps.map V.int) (IInv H1 D (ps.map fun p => bhd k N 1 lo st row p)) (IInv.start hD) (fun i H' _ h => h.1.seq (s01.seq hP)) ?_ ?_
    · rintro i x H' hi inv
      obtain ⟨z, hz, rfl⟩ := get_int hi
      have s3 := s01.trans inv.1
      refine ⟨rfl, _, rfl, _, rfl, _, rfl, _, rfl, _, rfl, _, _, rfl, rfl, hst, _, _, rfl, rfl, _, rfl, _, _, rfl, .inl (s3.seq hA), _, row.length, (by rw [List.length_map]; rfl), f, _, _, .int (bhd k N 1 lo st row z), rfl, rfl, SqL.of (inv.1 _ _ ef), ?_, ?_⟩
      · have := gath_at (k := k) (N := N) (row := row.reverse) (z := lo + (row.length : Int) + (-z) / st)
        rw [List.length_reverse] at this
        rw [this]
        rfl
      · exact inv.step hD (by rw [List.getElem?_map, hz]; rfl) (Same.refl H') (small24 (lt_of_get hz) (by omega))
    · intro H' inv
      rw [List.length_map] at inv
      obtain ⟨s5, e⟩ := inv.done (by rw [List.length_map]; exact Nat.le_refl _)
      exact kq H' D (s01.trans s5) (s01.free hD) e
theorem ok_full_or_straight (T : Txt K mg t) : FnOk P w K mg base CX0 3 t.f_full_or_straight t.d_full_or_straight ["tallies", "row", "lowest", "points", "step"] (spStr K t 2) := by
  refine T.fn_full_or_straight.ok sc_full_or_straight (fun vs H Q E h => ?_) (fun cdv A outer s H vs Q E hr h => ?_)
  · obtain ⟨q, ra, pa, k, N, cs, row, ps, lo, st, rfl, _⟩ := h
    rfl
  · obtain ⟨q, ra, pa, k, N, cs, row, ps, lo, st, rfl, hT, hA, hP, hl, hpl, hst, kq⟩ := h
    refine ⟨_, (pss_cons (ps_set (i := 5) sc_full_or_straight.nd rfl (Or.inr rfl) (pe_call (ok_gathered T) hr rfl T.m_gathered T.fn_gathered.kp T.b_gathered .nil pass0 (pa_cons (pv 0) (pa_cons (pv 1) pa_nil))))
      (pss_one (ps_ret (pe_lc rfl sc_full_or_straight.nd (pi_list (pv 3)) (own := [("point", 6)]) (te := (tOp (rIxL K) _ (tCall _ _ _ (tCons _ (tCons (tCB (rLenS K) (tCons _ tNil)) tNil))))) (blkOk_by (by rfl)) (fun _ _ _ _ _ => (pg_name (i := 6) sc_full_or_straight.nd rfl (Or.inl rfl))) (fun _ _ _ _ _ => pts_nil) (fun _ _ _ _ _ => (pe_ix ix_list (pv 5) (pe_call (ok_clamped T) (hr.mono (by decide : 1 ≤ 2)) rfl T.m_clamped T.fn_clamped.kp T.b_clamped .nil pass0 (pa_cons (pe_op op_sub (pe_op op_add (pe_op op_fdiv (pv 6) (pv 4)) pe_int) (pv 2)) (pa_cons (pe_callB call_lenS rfl T.n_len PySem.boot_len (pa_cons (pv 1) pa_nil)) pa_nil))) (fun _ _ => rfl))))))), ?_⟩
    refine ⟨_, rfl, _, rfl, q, ra, k, N, cs, row, rfl, hT, hA, hl, fun H1 f s01 nf ef => ?_⟩
    refine ⟨_, rfl, pa, rfl, ⟨_, s01.seq hP⟩, fun D hD => ?_⟩
    refine lc_list (K := K) (a := pa) (xs := ps.map V.int) (IInv H1 D (ps.map fun p => bhd k N 2 lo st row p)) (IInv.start hD) (fun i H' _ h => h.1.seq (s01.seq hP)) ?_ ?_
    · rintro i x H' hi inv
      obtain ⟨z, hz, rfl⟩ := get_int hi
      have s3 := s01.trans inv.1
      refine ⟨rfl, _, rfl, _, rfl, _, rfl, _, _, rfl, rfl, hst, _, _, rfl, rfl, _, rfl, _, _, rfl, rfl, _, rfl, _, _, rfl, .inl (s3.seq hA), _, row.length, (by rw [List.length_map]; rfl), f, _, _, _, rfl, rfl, SqL.of (inv.1 _ _ ef), gath_at, ?_⟩
      exact inv.step hD (by rw [List.getElem?_map, hz]; rfl) (Same.refl H') (small24 (lt_of_get hz) (by omega))
    · intro H' inv
      rw [List.length_map] at inv
      obtain ⟨s5, e⟩ := inv.done (by rw [List.length_map]; exact Nat.le_refl _)
      exact kq H' D (s01.trans s5) (s01.free hD) e
theorem ok_straight_alone (T : Txt K mg t) : FnOk P w K mg base CX0 1 t.f_straight_alone t.d_straight_alone ["tallies", "row", "lowest", "points", "step"] (spStr K t 3) := by
  refine T.fn_straight_alone.ok sc_straight_alone (fun vs H Q E h => ?_) (fun cdv A outer s H vs Q E hr h => ?_)
  · obtain ⟨q, ra, pa, k, N, cs, row, ps, lo, st, rfl, _⟩ := h
    rfl
  · obtain ⟨q, ra, pa, k, N, cs, row, ps, lo, st, rfl, hT, hA, hP, hl, hpl, hst, kq⟩ := h
    obtain ⟨dx, ca, h1, h2⟩ := id hT
    refine ⟨_, (pss_cons (ps_set (i := 5) sc_straight_alone.nd rfl (Or.inl rfl) (pe_lst pa_nil))
      (pss_cons (ps_for PassesOwn.never rfl (pi_list (pv 3)) (pg_name (i := 6) sc_straight_alone.nd rfl (Or.inl rfl)) (pss_cons (ps_set (i := 7) sc_straight_alone.nd rfl (Or.inl rfl) (pe_op op_sub (pe_op op_fdiv (pv 6) (pv 4)) (pv 2)))
      (pss_cons (ps_set (i := 8) sc_straight_alone.nd rfl (Or.inl rfl) (pe_and (pe_cmpR op_eq (pe_op op_mod (pv 6) (pv 4)) pe_int (nomark _)) (pe_one (pe_chain op_le op_lt pe_int (pv 7) (pe_callB call_lenS rfl T.n_len PySem.boot_len (pa_cons (pv 1) pa_nil))))))
      (pss_one (ps_expr (pe_bm PySem.F.plainAttrs_list PySem.F.slot_list_append PySem.F.type_list_append mt_append (pv 5) (pa_cons (pe_ifExp (pt_val (pv 8)) (pe_ix ix_list (pv 1) (pv 7) (fun _ _ => rfl)) (pe_fld (pv 0) rfl)) pa_nil)))))))
      (pss_one (ps_ret (pv 5))))), ?_⟩
    refine ⟨(by show 0 ≤ sizeLine; decide), fun f nf => ?_⟩
    have sf : Same H (upd H f (.lst [])) := (Same.refl H).new nf
    refine ⟨_, rfl, pa, rfl, ⟨_, sf.seq hP⟩, ?_⟩
    refine for_list (K := K) (a := pa) (xs := ps.map V.int) (fun i σ H' => ∃ v6 v7 v8, σ = [some (.ref q), some (.ref ra), some (.int lo), some (.ref pa), some (.int st), some (.ref f), v6, v7, v8] ∧ Same H H' ∧ H' f = some (.lst (((ps.map fun p => bhd k N 3 lo st row p).take i).map V.int)))
      ⟨none, none, none, rfl, sf, upd_same⟩ (fun i σ H' _ ⟨_, _, _, _, s1, _⟩ => s1.seq hP) ?_ ?_
    · rintro i x σ H' hi ⟨v6, v7, v8, rfl, s1, e⟩
      obtain ⟨z, hz, rfl⟩ := get_int hi
      have il := lt_of_get hz
      have fin : ∀ u : Int, u = bhd k N 3 lo st row z → H' f = some (.lst (((ps.map fun p => bhd k N 3 lo st row p).take i).map V.int)) ∧ (((ps.map fun p => bhd k N 3 lo st row p).take i).map V.int).length < sizeLine ∧ ∀ v6 v7 v8, ∃ v6' v7' v8', [some (V.ref q), some (.ref ra), some (.int lo), some (.ref pa), some (.int st), some (.ref f), v6, v7, v8] = [some (V.ref q), some (.ref ra), some (.int lo), some (.ref pa), some (.int st), some (.ref f), v6', v7', v8'] ∧ Same H (upd H' f (.lst ((((ps.map fun p => bhd k N 3 lo st row p).take i).map V.int) ++ [.int u]))) ∧ (upd H' f (.lst ((((ps.map fun p => bhd k N 3 lo st row p).take i).map V.int) ++ [.int u]))) f = some (.lst (((ps.map fun p => bhd k N 3 lo st row p).take (i + 1)).map V.int)) := by
        rintro u rfl
        refine ⟨e, ?_, fun v6 v7 v8 => ⟨v6, v7, v8, rfl, s1.upd nf, ?_⟩⟩
        · rw [List.length_map, List.length_take]
          exact Nat.lt_of_le_of_lt (Nat.min_le_left _ _) (small24 il (by omega))
        · rw [upd_same, take_snoc (x := bhd k N 3 lo st row z) (by rw [List.getElem?_map, hz]; rfl), List.map_append]
          rfl
      have eb : bhd k N 3 lo st row z = if z % st = 0 ∧ 0 ≤ z / st - lo ∧ z / st - lo < row.length then row.getD (z / st - lo).toNat 0 else N := rfl
      refine ⟨_, rfl, _, rfl, _, _, rfl, rfl, hst, _, rfl, _, _, rfl, rfl, ?_⟩
      have no : ¬ (z % st = 0 ∧ 0 ≤ z / st - lo ∧ z / st - lo < row.length) → N = bhd k N 3 lo st row z := fun c => by rw [eb, if_neg c]
      refine ⟨_, rfl, _, rfl, _, _, rfl, rfl, hst.1, rfl, _, rfl, ite2 (fun c1 => ?_) (fun c1 => ?_)⟩
      · have c1 : z % st = 0 := by simpa using c1
        refine ⟨_, rfl, _, _, rfl, rfl, _, rfl, ite2 (fun c2 => ?_) (fun c2 => ?_)⟩
        · have c2 : 0 ≤ z / st - lo := by simpa using c2
          refine ⟨_, rfl, _, _, rfl, .inl (s1.seq hA), _, _, rfl, rfl, ?_⟩
          refine ⟨_, rfl, .inl ⟨rfl, _, SqL.of e⟩, _, rfl, _, rfl, ite2 (fun c3 => ?_) (fun c3 => ?_)⟩
          · have c3 : z / st - lo < row.length := by
              rw [List.length_map] at c3
              simpa using c3
            obtain ⟨j, ej⟩ := Int.eq_ofNat_of_zero_le c2
            have hj : row[j]? = some (row.getD (z / st - lo).toNat 0) := by
              rw [ej, Int.toNat_natCast, List.getD_eq_getElem?_getD]
              have : row[j]? = some (row[j]'(by omega)) := by simp
              rw [this]
              rfl
            obtain ⟨g1, g2, g3⟩ := fin _ (by rw [eb, if_pos ⟨c1, c2, c3⟩])
            exact ⟨_, rfl, _, rfl, ra, _, _, _, rfl, rfl, s1.seq hA, at_nat ej hj, f, _, _, rfl, rfl, g1, g2, g3 _ _ _⟩
          · have c3 : ¬ z / st - lo < row.length := by
              rw [List.length_map] at c3
              simpa using c3
            obtain ⟨g1, g2, g3⟩ := fin N (no fun z => c3 z.2.2)
            exact ⟨_, rfl, q, _, dx, _, _, rfl, s1 _ _ h1, T.clK k, T.naN k, rfl, f, _, _, rfl, rfl, g1, g2, g3 _ _ _⟩
        · have c2 : ¬ 0 ≤ z / st - lo := by simpa using c2
          obtain ⟨g1, g2, g3⟩ := fin N (no fun z => c2 z.2.1)
          exact ⟨_, rfl, .inl ⟨rfl, _, SqL.of e⟩, _, rfl, _, rfl, iteF ⟨_, rfl, q, _, dx, _, _, rfl, s1 _ _ h1, T.clK k, T.naN k, rfl, f, _, _, rfl, rfl, g1, g2, g3 _ _ _⟩⟩
      · have c1 : ¬ z % st = 0 := by simpa using c1
        obtain ⟨g1, g2, g3⟩ := fin N (no fun z => c1 z.1)
        exact ⟨_, rfl, .inl ⟨rfl, _, SqL.of e⟩, _, rfl, _, rfl, iteF ⟨_, rfl, q, _, dx, _, _, rfl, s1 _ _ h1, T.clK k, T.naN k, rfl, f, _, _, rfl, rfl, g1, g2, g3 _ _ _⟩⟩
    · rintro σ H' ⟨v6, v7, v8, rfl, s1, e⟩
      rw [List.length_map, List.take_of_length_le (by rw [List.length_map]; exact Nat.le_refl _)] at e
      exact ⟨_, rfl, kq H' f s1 nf e⟩
def sp_tallies_behind (K : PySem.W.Frag) (t : Adr) : Sp := fun vs H Q _ => ∃ (p q ra : Addr) (xs ys sh ms : List Int) (k : Kd) (N : Int) (cs : List (List Int)) (j : Nat) (b : Int) (row : List Int), vs = [.ref p, .ref q, .int ((j + 1 : Nat) : Int), .int b, .ref ra] ∧
  RoomAt K t.c_Room H p xs ys sh ms ∧ RO xs ys sh ms ∧ TalAt K t H q k N cs ∧ SqL K H ra (row.map V.int) ∧ row.length ≤ 999 ∧ j + 2 < xs.length ∧ (0 ≤ b ∧ b ≤ 1048575) ∧
  NewInts H (((chs ys ms).getD (j + 2) []).map fun d => bhd k N (sh.getD j 0).toNat (((chs ys ms).getD j []).headD 0) (xs.getD (j + 2) 0 - xs.getD (j + 1) 0) row (pt (xs.getD j 0) (xs.getD (j + 1) 0) (xs.getD (j + 2) 0) b d)) Q
theorem rep_const (v : Int) : ∀ (c : List Int) (f : Int → Int), (∀ d ∈ c, f d = v) → (List.replicate c.length [V.int v]).flatten = (c.map f).map V.int
  | [], _, _ => rfl
  | d :: r, f, h => by
    rw [List.length_cons, List.replicate_succ, List.flatten_cons, rep_const v r f fun x hx => h x (List.mem_cons_of_mem _ hx), List.map_cons, h d (List.mem_cons_self ..)]
    rfl
theorem chOf_ne {y m : Int} (hy : 0 ≤ y ∧ y ≤ 1048575) (hm : 0 ≤ m) : ∃ r, chOf y m = loOf y m :: r := by
  unfold chOf
  have h : 0 < (min 1048575 (y + m) + 1 - loOf y m).toNat := by
    unfold loOf
    omega
  obtain ⟨n, e⟩ : ∃ n, (min 1048575 (y + m) + 1 - loOf y m).toNat = n + 1 := ⟨_, (Nat.succ_pred_eq_of_pos h).symm⟩
  rw [e]
  unfold upto
  rw [List.range_succ_eq_map]
  refine ⟨(List.map Nat.succ (List.range n)).map fun (i : Nat) => loOf y m + (i : Int), ?_⟩
  rw [List.map_cons]
  congr 1
  simp
theorem ok_tallies_behind (T : Txt K mg t) : FnOk P w K mg base CX0 4 t.f_tallies_behind t.d_tallies_behind ["room", "tallies", "nail", "here", "row"] (sp_tallies_behind K t) := by
  refine T.fn_tallies_behind.ok sc_tallies_behind (fun vs H Q E h => ?_) (fun cdv A outer s H vs Q E hr h => ?_)
  · obtain ⟨p, q, ra, xs, ys, sh, ms, k, N, cs, j, b, row, rfl, _⟩ := h
    rfl
  · obtain ⟨p, q, ra, xs, ys, sh, ms, k, N, cs, j, b, row, rfl, hR, ro, hT, hA, hl, hj, hb, kq⟩ := h
    obtain ⟨dx, xa, ya, sa, ma, ca, h0, h1, h2, h3, h4, h5⟩ := id hR
    obtain ⟨bl, b24, by_, bm⟩ := ro.bds
    have ls := ro.ok.ls
    have ls : sh.length + 2 = xs.length := ls
    have lx := ro.len
    obtain ⟨x1, e1, d1, b1⟩ := ro.x (j := j + 1) (by omega)
    obtain ⟨x2, e2, d2, b2⟩ := ro.x (j := j + 2) (by omega)
    obtain ⟨y, m, ey, em, ec⟩ := chs_at (j := j + 2) bl (by omega)
    obtain ⟨y0, m0, ey0, em0, ec0⟩ := chs_at (j := j) bl (by omega)
    obtain ⟨as, hS, hB⟩ := h5.at
    obtain ⟨c, eb, eb', hC⟩ := hB (j + 2) _ ec
    obtain ⟨c0, eb0, eb0', hC0⟩ := hB j _ ec0
    have hs : sh[j]? = some (sh[j]'(by omega)) := by simp
    have bs := ro.ok.sb _ (List.mem_of_getElem? hs)
    obtain ⟨tl, etl⟩ := chOf_ne (by_ y0 (List.mem_of_getElem? ey0)) (bm m0 (List.mem_of_getElem? em0)).1
    generalize hw : sh[j]'(by omega) = wish at hs bs
    have hx12 := ro.ok.ris (j + 1) x1 x2 e1 e2
    have iw : atI (sh.map V.int) (((j + 1 : Nat) : Int) - 1) = some (.int wish) := by
      rw [show ((j + 1 : Nat) : Int) - 1 = (j : Int) by omega]
      exact atI_nat (get_map hs)
    have ic : atI (as.map V.ref) (((j + 1 : Nat) : Int) + 1) = some (.ref c) := by
      rw [show ((j + 1 : Nat) : Int) + 1 = ((j + 2 : Nat) : Int) by omega]
      exact atI_nat eb'
    have ic0 : atI (as.map V.ref) (((j + 1 : Nat) : Int) - 1) = some (.ref c0) := by
      rw [show ((j + 1 : Nat) : Int) - 1 = (j : Int) by omega]
      exact atI_nat eb0'
    have i1 : atI (xs.map V.int) ((j + 1 : Nat) : Int) = some (.int x1) := atI_nat (get_map e1)
    have i2 : atI (xs.map V.int) (((j + 1 : Nat) : Int) + 1) = some (.int x2) := by
      rw [show ((j + 1 : Nat) : Int) + 1 = ((j + 2 : Nat) : Int) by omega]
      exact atI_nat (get_map e2)
    have cl := chOf_len (y := y) (bm m (List.mem_of_getElem? em)).2
    rw [gtD_of hs, gtD_of ec, gtD_of ec0, etl] at kq
    have kq : NewInts H ((chOf y m).map fun d => bhd k N wish.toNat (loOf y0 m0) (xs.getD (j + 2) 0 - xs.getD (j + 1) 0) row (pt (xs.getD j 0) (xs.getD (j + 1) 0) (xs.getD (j + 2) 0) b d)) Q := kq
    refine ⟨_, (pss_cons (ps_set (i := 5) sc_tallies_behind.nd rfl (Or.inl rfl) (pe_ix ix_list (pe_fld (pv 0) rfl) (pe_op op_sub (pv 2) pe_int) (fun _ _ => rfl)))
      (pss_cons (ps_if (pt_cmpR op_eq (pv 5) (pe_gint rfl T.g_ANY) (nomark _)) (pss_one (ps_ret (pe_op op_rep (pe_lst (pa_cons (pe_ix ix_list (pe_call (ok_gathered T) (hr.mono (by decide : 2 ≤ 3)) rfl T.m_gathered T.fn_gathered.kp T.b_gathered .nil pass0 (pa_cons (pv 1) (pa_cons (pv 4) pa_nil))) (pe_un un_neg pe_int) (fun _ _ => rfl)) pa_nil)) (pe_callB call_lenS rfl T.n_len PySem.boot_len (pa_cons (pe_ix ix_list (pe_fld (pv 0) rfl) (pe_op op_add (pv 2) pe_int) (fun _ _ => rfl)) pa_nil))))) pss_nil)
      (pss_cons (ps_set (i := 6) sc_tallies_behind.nd rfl (Or.inl rfl) (pe_ix ix_list (pe_ix ix_list (pe_fld (pv 0) rfl) (pe_op op_sub (pv 2) pe_int) (fun _ _ => rfl)) pe_int (fun _ _ => rfl)))
      (pss_cons (ps_set (i := 7) sc_tallies_behind.nd rfl (Or.inl rfl) (pe_call (ok_straight_points T) (hr.mono (by decide : 1 ≤ 3)) rfl T.m_straight_points T.fn_straight_points.kp T.b_straight_points .nil pass0 (pa_cons (pv 0) (pa_cons (pv 2) (pa_cons (pv 3) pa_nil)))))
      (pss_cons (ps_set (i := 8) sc_tallies_behind.nd rfl (Or.inl rfl) (pe_op op_sub (pe_ix ix_list (pe_fld (pv 0) rfl) (pe_op op_add (pv 2) pe_int) (fun _ _ => rfl)) (pe_ix ix_list (pe_fld (pv 0) rfl) (pv 2) (fun _ _ => rfl))))
      (pss_cons (ps_if (pt_cmpR op_eq (pv 5) (pe_gint rfl T.g_HOLLOW) (nomark _)) (pss_one (ps_ret (pe_call (ok_hollow_or_straight T) hr rfl T.m_hollow_or_straight T.fn_hollow_or_straight.kp T.b_hollow_or_straight .nil pass0 (pa_cons (pv 1) (pa_cons (pv 4) (pa_cons (pv 6) (pa_cons (pv 7) (pa_cons (pv 8) pa_nil)))))))) pss_nil)
      (pss_cons (ps_if (pt_cmpR op_eq (pv 5) (pe_gint rfl T.g_FULL) (nomark _)) (pss_one (ps_ret (pe_call (ok_full_or_straight T) hr rfl T.m_full_or_straight T.fn_full_or_straight.kp T.b_full_or_straight .nil pass0 (pa_cons (pv 1) (pa_cons (pv 4) (pa_cons (pv 6) (pa_cons (pv 7) (pa_cons (pv 8) pa_nil)))))))) pss_nil)
      (pss_one (ps_ret (pe_call (ok_straight_alone T) (hr.mono (by decide : 1 ≤ 3)) rfl T.m_straight_alone T.fn_straight_alone.kp T.b_straight_alone .nil pass0 (pa_cons (pv 1) (pa_cons (pv 4) (pa_cons (pv 6) (pa_cons (pv 7) (pa_cons (pv 8) pa_nil))))))))))))))), ?_⟩
    refine ⟨_, rfl, p, _, dx, _, _, rfl, h0, T.cl_Room, T.na_Room_shape, rfl, _, rfl, _, _, rfl, rfl, sa, _, _, _, rfl, rfl, h3, iw, ?_⟩
    refine ⟨_, rfl, rfl, _, rfl, ite2 (fun w0 => ?_) (fun w0 => ?_)⟩
    · have w0 : wish = 0 := by simpa using w0
      subst w0
      refine ⟨_, rfl, _, rfl, q, ra, k, N, cs, row, rfl, hT, hA, hl, fun H1 f s1 nf ef => ?_⟩
      refine ⟨_, rfl, f, _, _, _, rfl, rfl, SqL.of ef, gath_last, (by show 1 ≤ sizeLine; decide), fun r0 n0 => ?_⟩
      have s2 : Same H (upd H1 r0 (.lst [.int (fo k N row)])) := s1.new n0
      refine ⟨_, rfl, p, _, dx, _, _, rfl, s2 _ _ h0, T.cl_Room, T.na_Room_choices, rfl, _, rfl, _, _, rfl, rfl, ca, _, _, _, rfl, rfl, s2.seq hS, ic, _, _, rfl, .inl (s2.seq hC), r0, _, _, rfl, rfl, upd_same, ?_, ?_, ?_, fun D2 n2 => ?_⟩
      · omega
      · rw [List.length_map]
        omega
      · rw [List.length_map, Int.toNat_natCast, List.length_singleton, Nat.one_mul]
        exact Nat.le_of_lt (small1000 (by omega))
      · refine kq _ D2 (s2.new n2) (s2.free n2) ?_
        rw [upd_same, List.length_map, Int.toNat_natCast]
        congr 2
        exact rep_const _ _ _ fun d _ => rfl
    · have w0 : ¬ wish = 0 := by simpa using w0
      have ih : atI ((loOf y0 m0 :: tl).map V.int) 0 = some (.int (loOf y0 m0)) := atI_nat (j := 0) rfl
      rw [etl] at hC0
      refine ⟨_, rfl, p, _, dx, _, _, rfl, h0, T.cl_Room, T.na_Room_choices, rfl, _, rfl, _, _, rfl, rfl, ca, _, _, _, rfl, rfl, hS, ic0, c0, _, _, _, rfl, rfl, hC0, ih, ?_⟩
      refine ⟨_, rfl, _, rfl, _, rfl, p, xs, ys, sh, ms, j, b, rfl, hR, ro, hj, hb, fun H1 pa s1 npa epa => ?_⟩
      rw [gtD_of ec] at epa
      refine ⟨_, rfl, p, _, dx, _, _, rfl, s1 _ _ h0, T.cl_Room, T.na_Room_xs, rfl, _, rfl, _, _, rfl, rfl, xa, _, _, _, rfl, rfl, s1.seq h1, i2, _, rfl, p, _, dx, _, _, rfl, s1 _ _ h0, T.cl_Room, T.na_Room_xs, rfl, _, rfl, xa, _, _, _, rfl, rfl, s1.seq h1, i1, _, _, rfl, rfl, ?_⟩
      rw [d1, d2] at kq epa
      have st : 0 < x2 - x1 ∧ x2 - x1 < 1073741824 := ⟨by omega, by omega⟩
      have lp : ((chOf y m).map fun d => pt (xs.getD j 0) x1 x2 b d).length ≤ 999 := by
        rw [List.length_map]
        omega
      have fin : ∀ w : Nat, wish.toNat = w → NewInts H1 (((chOf y m).map fun d => pt (xs.getD j 0) x1 x2 b d).map fun p => bhd k N w (loOf y0 m0) (x2 - x1) row p) Q := fun w e => by
        subst e
        rw [List.map_map]
        exact kq.mono s1
      refine ⟨_, rfl, rfl, _, rfl, ite2 (fun w1 => ?_) (fun w1 => ?_)⟩
      · have w1 : wish = 1 := by simpa using w1
        exact ⟨_, rfl, _, rfl, _, rfl, _, rfl, _, rfl, q, ra, pa, k, N, cs, row, _, _, _, rfl, hT.same s1, s1.seq hA, SqL.of epa, hl, lp, st, fin 1 (by omega)⟩
      · have w1 : ¬ wish = 1 := by simpa using w1
        refine ⟨_, rfl, rfl, _, rfl, ite2 (fun w2 => ?_) (fun w2 => ?_)⟩
        · have w2 : wish = 2 := by simpa using w2
          exact ⟨_, rfl, _, rfl, _, rfl, _, rfl, _, rfl, q, ra, pa, k, N, cs, row, _, _, _, rfl, hT.same s1, s1.seq hA, SqL.of epa, hl, lp, st, fin 2 (by omega)⟩
        · have w2 : ¬ wish = 2 := by simpa using w2
          exact ⟨_, rfl, _, rfl, _, rfl, _, rfl, _, rfl, q, ra, pa, k, N, cs, row, _, _, _, rfl, hT.same s1, s1.seq hA, SqL.of epa, hl, lp, st, fin 3 (by omega)⟩
end FL

end
section
set_option Elab.async false
set_option linter.all false
set_option maxRecDepth 100000
set_option maxHeartbeats 4000000
namespace FL
open PySem PySem.Spec PyProof.Rows L2
variable {P : Program} {w : World} {K : PySem.W.Frag} {mg : Str → Option Value} {base : Heap} {t : Adr}
def sp_with_cost (K : PySem.W.Frag) (t : Adr) : Sp := fun vs H Q _ => ∃ (q a : Addr) (k : Kd) (N : Int) (cs : List (List Int)) (row : List Int) (c : Int), vs = [.ref q, .ref a, .int c] ∧ TalAt K t H q k N cs ∧ SqL K H a (row.map V.int) ∧ row.length ≤ 999 ∧ CostK k c ∧ NewInts H (row.map fun x => al k x c) Q
theorem ok_with_cost (T : Txt K mg t) : FnOk P w K mg base CX0 2 t.f_with_cost t.d_with_cost ["tallies", "row", "cost"] (sp_with_cost K t) := by
  refine T.fn_with_cost.ok sc_with_cost (fun vs H Q E h => ?_) (fun cdv A outer s H vs Q E hr h => ?_)
  · obtain ⟨q, a, k, N, cs, row, c, rfl, _⟩ := h
    rfl
  · obtain ⟨q, a, k, N, cs, row, c, rfl, hT, hA, hl, hc, kq⟩ := h
    refine ⟨_, (pss_one (ps_ret (pe_lc rfl sc_with_cost.nd (pi_list (pv 1)) (own := [("tally", 3)]) (blkOk_by (by rfl)) (fun _ _ _ _ _ => (pg_name (i := 3) sc_with_cost.nd rfl (Or.inl rfl))) (fun _ _ _ _ _ => pts_nil) (fun _ _ _ _ _ => (pe_alt (pe_meth (pv 0) T.cl_Counts T.mt_Counts_along (ok_Counts_along T) hr T.b_Counts_along .nil pass0 (pa_cons (pv 3) (pa_cons (pv 2) pa_nil))) (pe_alt (pe_meth (pv 0) T.cl_GreatestMoves T.mt_GreatestMoves_along (ok_GreatestMoves_along T) hr T.b_GreatestMoves_along .nil pass0 (pa_cons (pv 3) (pa_cons (pv 2) pa_nil))) (pe_meth (pv 0) T.cl_Ranks T.mt_Ranks_along (ok_Ranks_along T) hr T.b_Ranks_along .nil pass0 (pa_cons (pv 3) (pa_cons (pv 2) pa_nil))))))))), ?_⟩
    refine ⟨_, rfl, a, rfl, ⟨_, hA⟩, fun D hD => ?_⟩
    refine lc_list (K := K) (a := a) (xs := row.map V.int) (IInv H D (row.map fun x => al k x c)) (IInv.start hD) (fun i H' _ h => h.1.seq hA) ?_ ?_
    · rintro i x H' hi inv
      obtain ⟨z, hz, rfl⟩ := get_int hi
      refine ⟨rfl, al_meth (q := q) (k := k) (N := N) (cs := cs) (a := z) (c := c) (hT.same inv.1) hc rfl rfl rfl ?_⟩
      exact inv.step hD (by rw [List.getElem?_map, hz]; rfl) (Same.refl H') (small24 (lt_of_get hz) (by omega))
    · intro H' inv
      rw [List.length_map] at inv
      obtain ⟨s5, e⟩ := inv.done (by rw [List.length_map]; exact Nat.le_refl _)
      exact kq H' D s5 hD e
def sp_first_rows (K : PySem.W.Frag) (t : Adr) : Sp := fun vs H Q _ => ∃ (q : Addr) (k : Kd) (N : Int) (cs : List (List Int)) (c0 c1 : List Int), vs = [.ref q] ∧ TalAt K t H q k N cs ∧ cs[0]? = some c0 ∧ cs[1]? = some c1 ∧ c0.length ≤ 999 ∧ c1.length ≤ 999 ∧ (∀ c ∈ c1, CostK k c) ∧ NewLL K H (c1.map fun c => c0.map fun x => al k x c) Q
theorem ok_first_rows (T : Txt K mg t) : FnOk P w K mg base CX0 3 t.f_first_rows t.d_first_rows ["tallies"] (sp_first_rows K t) := by
  refine T.fn_first_rows.ok sc_first_rows (fun vs H Q E h => ?_) (fun cdv A outer s H vs Q E hr h => ?_)
  · obtain ⟨q, k, N, cs, c0, c1, rfl, _⟩ := h
    rfl
  · obtain ⟨q, k, N, cs, c0, c1, rfl, hT, e0, e1, l0, l1, hc, kq⟩ := h
    obtain ⟨dx, ca, h1, h2⟩ := id hT
    obtain ⟨as, hS, hA⟩ := h2.at
    obtain ⟨a0, ea0, ea0', hA0⟩ := hA 0 _ e0
    obtain ⟨a1, ea1, ea1', hA1⟩ := hA 1 _ e1
    refine ⟨_, (pss_one (ps_ret (pe_lc rfl sc_first_rows.nd (pi_list (pe_ix ix_list (pe_fld (pv 0) rfl) pe_int (fun _ _ => rfl))) (own := [("cost", 1)]) (te := (tCall _ _ _ (tCons _ (tCons (tOp (rIxL K) (tFld K _ "costs") _) (tCons _ tNil))))) (blkOk_by (by rfl)) (fun _ _ _ _ _ => (pg_name (i := 1) sc_first_rows.nd rfl (Or.inl rfl))) (fun _ _ _ _ _ => pts_nil) (fun _ _ _ _ _ => (pe_call (ok_with_cost T) hr rfl T.m_with_cost T.fn_with_cost.kp T.b_with_cost .nil pass0 (pa_cons (pv 0) (pa_cons (pe_ix ix_list (pe_fld (pv 0) rfl) pe_int (fun _ _ => rfl)) (pa_cons (pv 1) pa_nil)))))))), ?_⟩
    refine ⟨_, rfl, q, _, dx, _, _, rfl, h1, T.clK k, T.naC k, rfl, ca, _, _, _, rfl, rfl, hS, atI_nat (j := 1) ea1', a1, rfl, ⟨_, hA1⟩, fun D hD => ?_⟩
    refine lc_list (K := K) (a := a1) (xs := c1.map V.int) (LInv H D (c1.map fun c => c0.map fun x => al k x c)) (LInv.start hD) (fun i H' _ h => h.1.seq hA1) ?_ ?_
    · rintro i x H' hi inv
      obtain ⟨z, hz, rfl⟩ := get_int hi
      refine ⟨rfl, _, rfl, _, rfl, q, _, dx, _, _, rfl, inv.1 _ _ h1, T.clK k, T.naC k, rfl, ca, _, _, _, rfl, rfl, inv.1.seq hS, atI_nat (j := 0) ea0', _, rfl, q, a0, k, N, cs, c0, z, rfl, hT.same inv.1, inv.1.seq hA0, l0, hc z (List.mem_of_getElem? hz), fun H2 b s2 n2 e2 => ?_⟩
      exact inv.step hD (by rw [List.getElem?_map, hz]; rfl) s2 n2 e2 (small24 (lt_of_get hz) (by omega))
    · intro H' inv
      rw [List.length_map] at inv
      have inv : LInv H D (c1.map fun c => c0.map fun x => al k x c) (c1.map fun c => c0.map fun x => al k x c).length H' := by rw [List.length_map]; exact inv
      obtain ⟨s5, ll⟩ := inv.done (K := K)
      exact kq H' D s5 hD ll
def sp_nth_of_each (K : PySem.W.Frag) : Sp := fun vs H Q _ => ∃ (a : Addr) (ls : List (List Int)) (n : Nat), vs = [.ref a, .int (n : Int)] ∧ LL K H a ls ∧ ls.length ≤ 999 ∧ (∀ l ∈ ls, n < l.length) ∧ NewInts H (ls.map fun l => l.getD n 0) Q
theorem ok_nth_of_each (T : Txt K mg t) : FnOk P w K mg base CX0 1 t.f_nth_of_each t.d_nth_of_each ["columns", "index"] (sp_nth_of_each K) := by
  refine T.fn_nth_of_each.ok sc_nth_of_each (fun vs H Q E h => ?_) (fun cdv A outer s H vs Q E hr h => ?_)
  · obtain ⟨a, ls, n, rfl, _⟩ := h
    rfl
  · obtain ⟨a, ls, n, rfl, ⟨as, hS, el, hB⟩, hl, hn, kq⟩ := h
    refine ⟨_, (pss_one (ps_ret (pe_lc rfl sc_nth_of_each.nd (pi_list (pv 0)) (own := [("column", 2)]) (te := (tOp (rIxL K) _ _)) (blkOk_by (by rfl)) (fun _ _ _ _ _ => (pg_name (i := 2) sc_nth_of_each.nd rfl (Or.inl rfl))) (fun _ _ _ _ _ => pts_nil) (fun _ _ _ _ _ => (pe_ix ix_list (pv 2) (pv 1) (fun _ _ => rfl)))))), ?_⟩
    refine ⟨_, rfl, a, rfl, ⟨_, hS⟩, fun D hD => ?_⟩
    refine lc_list (K := K) (a := a) (xs := as.map V.ref) (IInv H D (ls.map fun l => l.getD n 0)) (IInv.start hD) (fun i H' _ h => h.1.seq hS) ?_ ?_
    · rintro i x H' hi inv
      obtain ⟨b, hb, rfl⟩ := get_ref hi
      have hil : i < ls.length := by rw [← el]; exact lt_of_get hb
      have ei : ls[i]? = some ls[i] := by simp
      have hnl := hn _ (List.mem_of_getElem? ei)
      have en : (ls[i])[n]? = some ((ls[i]).getD n 0) := by
        rw [List.getD_eq_getElem?_getD, List.getElem?_eq_getElem hnl]
        rfl
      refine ⟨rfl, _, rfl, _, rfl, b, _, _, _, rfl, rfl, inv.1.seq (hB i b _ hb ei), atI_nat (get_map en), ?_⟩
      exact inv.step hD (by rw [List.getElem?_map, ei]; rfl) (Same.refl H') (small24 hil (by omega))
    · intro H' inv
      rw [List.length_map, el] at inv
      obtain ⟨s5, e⟩ := inv.done (by rw [List.length_map]; exact Nat.le_refl _)
      exact kq H' D s5 hD e
theorem ys_bd {xs ys sh ms : List Int} (ro : RO xs ys sh ms) {j : Nat} (hj : j < xs.length) : ((chs ys ms).getD j []).length ≤ 33 ∧ ∀ b ∈ (chs ys ms).getD j [], 0 ≤ b ∧ b ≤ 1048575 := by
  obtain ⟨bl, b24, by_, bm⟩ := ro.bds
  obtain ⟨y, m, ey, em, ec⟩ := chs_at (j := j) bl (by rw [← ro.len]; exact hj)
  rw [gtD_of ec]
  refine ⟨chOf_len (bm m (List.mem_of_getElem? em)).2, fun b hb => ?_⟩
  have := by_ y (List.mem_of_getElem? ey)
  unfold chOf loOf at hb
  rw [upto_mem] at hb
  omega
theorem ch_get {xs ys sh ms : List Int} (ro : RO xs ys sh ms) {j : Nat} (hj : j < xs.length) : (chs ys ms)[j]? = some ((chs ys ms).getD j []) := by
  obtain ⟨bl, b24, by_, bm⟩ := ro.bds
  obtain ⟨y, m, ey, em, ec⟩ := chs_at (j := j) bl (by rw [← ro.len]; exact hj)
  rw [gtD_of ec, ec]
def sp_next_rows (K : PySem.W.Frag) (t : Adr) : Sp := fun vs H Q _ => ∃ (p q ra : Addr) (xs ys sh ms : List Int) (k : Kd) (N : Int) (cf : Nat → Int → Int) (j : Nat), vs = [.ref p, .ref q, .int ((j + 1 : Nat) : Int), .ref ra] ∧
  RoomAt K t.c_Room H p xs ys sh ms ∧ RO xs ys sh ms ∧ TalAt K t H q k N (costsOf (chs ys ms) cf) ∧ (∀ i d, CostK k (cf i d)) ∧ j + 2 < xs.length ∧ LL K H ra (rowsAt k N (dOf xs (chs ys ms) sh cf) j) ∧ NewLL K H (rowsAt k N (dOf xs (chs ys ms) sh cf) (j + 1)) Q
theorem ok_next_rows (T : Txt K mg t) : FnOk P w K mg base CX0 5 t.f_next_rows t.d_next_rows ["room", "tallies", "nail", "rows"] (sp_next_rows K t) := by
  refine T.fn_next_rows.ok sc_next_rows (fun vs H Q E h => ?_) (fun cdv A outer s H vs Q E hr h => ?_)
  · obtain ⟨p, q, ra, xs, ys, sh, ms, k, N, cf, j, rfl, _⟩ := h
    rfl
  · obtain ⟨p, q, ra, xs, ys, sh, ms, k, N, cf, j, rfl, hR, ro, hT, hc, hj, hL, kq⟩ := h
    obtain ⟨dx, xa, ya, sa, ma, ca, h0, h1, h2, h3, h4, h5⟩ := id hR
    obtain ⟨dq, co, hq1, hq2⟩ := id hT
    have c0 := ch_get ro (j := j) (by omega)
    have c1 := ch_get ro (j := j + 1) (by omega)
    have c2 := ch_get ro (j := j + 2) (by omega)
    have bd0 := ys_bd ro (j := j) (by omega)
    have bd1 := ys_bd ro (j := j + 1) (by omega)
    have bd2 := ys_bd ro (j := j + 2) (by omega)
    obtain ⟨as, hS, hA⟩ := h5.at
    obtain ⟨a1, ea1, ea1', hA1⟩ := hA (j + 1) _ c1
    obtain ⟨bs, hSb, lb, hB⟩ := hL
    obtain ⟨os, hSo, hO⟩ := hq2.at
    obtain ⟨a2, ea2, ea2', hA2⟩ := hO (j + 2) _ (costsOf_get c2)
    generalize hD0 : dOf xs (chs ys ms) sh cf = Dt at *
    have y0 : Dt.ys j = (chs ys ms).getD j [] := by rw [← hD0]; rfl
    have y1 : Dt.ys (j + 1) = (chs ys ms).getD (j + 1) [] := by rw [← hD0]; rfl
    have y2 : Dt.ys (j + 2) = (chs ys ms).getD (j + 2) [] := by rw [← hD0]; rfl
    have rl : (rowsAt k N Dt j).length = (Dt.ys (j + 1)).length := by simp [rowsAt]
    have ea1i : atI (as.map V.ref) ((j + 1 : Nat) : Int) = some (.ref a1) := atI_nat ea1'
    have ea2i : atI (os.map V.ref) (((j + 1 : Nat) : Int) + 1) = some (.ref a2) := by
      rw [show ((j + 1 : Nat) : Int) + 1 = ((j + 2 : Nat) : Int) by omega]
      exact atI_nat ea2'
    rw [← y1] at hA1
    rw [← y2] at hA2
    let col : Int → List Int := fun b => (Dt.ys (j + 2)).map fun d => bhd k N (Dt.sh j) ((Dt.ys j).headD 0) (Dt.x (j + 2) - Dt.x (j + 1)) ((Dt.ys j).map fun a => XX k N Dt j a b) (pt (Dt.x j) (Dt.x (j + 1)) (Dt.x (j + 2)) b d)
    refine ⟨_, (pss_cons (ps_set (i := 4) sc_next_rows.nd rfl (Or.inr rfl) (pe_lc rfl sc_next_rows.nd (pi_zip rfl T.n_zip (pa_cons (pe_ix ix_list (pe_fld (pv 0) rfl) (pv 2) (fun _ _ => rfl)) (pa_cons (pv 3) pa_nil))) (own := [("here", 6), ("row", 7)]) (g := gTup K 2 (gCons (gName 6) (gCons (gName 7) gNil))) (blkOk_by (by rfl)) (fun _ _ _ _ _ => (pg_tup rfl (pgs_cons (pg_name (i := 6) sc_next_rows.nd rfl (Or.inl rfl) (hf := Or.inr rfl)) (pgs_cons (pg_name (i := 7) sc_next_rows.nd rfl (Or.inl rfl) (hf := Or.inr rfl)) pgs_nil)))) (fun _ _ _ _ _ => pts_nil) (fun _ _ _ _ _ => (pe_call (ok_tallies_behind T) hr rfl T.m_tallies_behind T.fn_tallies_behind.kp T.b_tallies_behind .nil pass0 (pa_cons (pv 0) (pa_cons (pv 1) (pa_cons (pv 2) (pa_cons (pv 6) (pa_cons (pv 7) pa_nil)))))))))
      (pss_cons (ps_set (i := 5) sc_next_rows.nd rfl (Or.inl rfl) (pe_ix ix_list (pe_fld (pv 1) rfl) (pe_op op_add (pv 2) pe_int) (fun _ _ => rfl)))
      (pss_one (ps_ret (pe_lc rfl sc_next_rows.nd (pi_enum rfl T.n_enumerate (pa_cons (pv 5) pa_nil)) (own := [("index", 8), ("cost", 9)]) (g := gTup K 2 (gCons (gName 8) (gCons (gName 9) gNil))) (blkOk_by (by rfl)) (fun _ _ _ _ _ => (pg_tup rfl (pgs_cons (pg_name (i := 8) sc_next_rows.nd rfl (Or.inl rfl) (hf := Or.inr rfl)) (pgs_cons (pg_name (i := 9) sc_next_rows.nd rfl (Or.inl rfl) (hf := Or.inr rfl)) pgs_nil)))) (fun _ _ _ _ _ => pts_nil) (fun _ _ _ _ _ => (pe_call (ok_with_cost T) (hr.mono (by decide : 2 ≤ 4)) rfl T.m_with_cost T.fn_with_cost.kp T.b_with_cost .nil pass0 (pa_cons (pv 1) (pa_cons (pe_call (ok_nth_of_each T) (hr.mono (by decide : 1 ≤ 4)) rfl T.m_nth_of_each T.fn_nth_of_each.kp T.b_nth_of_each .nil pass0 (pa_cons (pv 4) (pa_cons (pv 8) pa_nil))) (pa_cons (pv 9) pa_nil)))))))))), ?_⟩
    refine ⟨_, rfl, p, _, dx, _, _, rfl, h0, T.cl_Room, T.na_Room_choices, rfl, _, rfl, ca, _, _, _, rfl, rfl, hS, ea1i, _, rfl, a1, ra, _, _, rfl, hA1, hSb, fun D hD => ?_⟩
    refine lc_zip (K := K) (a := a1) (b := ra) (xs := (Dt.ys (j + 1)).map V.int) (ys := bs.map V.ref) (by rw [List.length_map, List.length_map, lb, rl]) (LInv H D ((Dt.ys (j + 1)).map col)) (LInv.start hD) (fun i H' _ h => ⟨h.1.seq hA1, h.1.seq hSb⟩) ?_ ?_
    · rintro i x y H' Tp hi hj' inv hTp
      obtain ⟨b, hb, rfl⟩ := get_int hi
      obtain ⟨rb, hrb, rfl⟩ := get_ref hj'
      have sT : Same H' (upd H' Tp (.tup [.int b, .ref rb])) := (Same.refl H').new hTp
      have s2 := inv.1.trans sT
      have er : (rowsAt k N Dt j)[i]? = some ((Dt.ys j).map fun a => XX k N Dt j a b) := by
        unfold rowsAt
        rw [List.getElem?_map, hb]
        rfl
      have hbb := bd1.2 b (by rw [← y1]; exact List.mem_of_getElem? hb)
      refine ⟨Tp, _, rfl, SqT.of upd_same, rfl, _, _, rfl, _, _, rfl, rfl, rfl, _, rfl, _, rfl, _, rfl, _, rfl, _, rfl, p, q, rb, xs, ys, sh, ms, k, N, _, j, b, _, rfl, hR.same s2, ro, hT.same s2, s2.seq (hB i rb _ hrb er), ?_, hj, hbb, fun H3 c s3 n3 e3 => ?_⟩
      · rw [List.length_map, y0]
        omega
      · refine inv.step hD (l := col b) (by rw [List.getElem?_map, hb]; rfl) (sT.trans s3) (sT.free n3) ?_ (small24 (lt_of_get hb) (by rw [y1]; omega))
        rw [e3]
        congr 3
        show _ = (Dt.ys (j + 2)).map _
        rw [← hD0]
        rfl
    · intro H' inv
      rw [List.length_map] at inv
      have inv : LInv H D ((Dt.ys (j + 1)).map col) ((Dt.ys (j + 1)).map col).length H' := by rw [List.length_map]; exact inv
      obtain ⟨s5, ll⟩ := inv.done (K := K)
      refine ⟨_, rfl, q, _, dq, _, _, rfl, s5 _ _ hq1, T.clK k, T.naC k, rfl, _, rfl, _, _, rfl, rfl, co, _, _, _, rfl, rfl, s5.seq hSo, ea2i, ?_⟩
      refine ⟨_, rfl, a2, _, rfl, s5.seq hA2, fun D2 hD2 => ?_⟩
      refine lc_enum (K := K) (a := a2) (xs := ((Dt.ys (j + 2)).map (cf (j + 2))).map V.int) (LInv H' D2 (rowsAt k N Dt (j + 1))) (LInv.start hD2) (fun i H6 _ h => h.1.seq (s5.seq hA2)) ?_ ?_
      · rintro i x H6 Tp hi inv6 hTp
        obtain ⟨c, hcx, rfl⟩ := get_int hi
        rw [List.getElem?_map] at hcx
        cases ed : (Dt.ys (j + 2))[i]? with
        | none => rw [ed] at hcx; cases hcx
        | some d =>
          rw [ed] at hcx
          have hcx : cf (j + 2) d = c := Option.some.inj hcx
          have il := lt_of_get ed
          have sT : Same H6 (upd H6 Tp (.tup [.int (i : Nat), .int c])) := (Same.refl H6).new hTp
          have s7 := inv6.1.trans sT
          refine ⟨Tp, _, rfl, SqT.of upd_same, rfl, _, _, rfl, _, _, rfl, rfl, rfl, _, rfl, _, rfl, _, rfl, D, _, i, rfl, ll.same s7, ?_, ?_, fun H8 e s8 n8 e8 => ?_⟩
          · rw [List.length_map, y1]
            omega
          · intro l hl
            obtain ⟨b, hb, rfl⟩ := List.mem_map.mp hl
            show i < ((Dt.ys (j + 2)).map _).length
            rw [List.length_map]
            exact il
          · have s58 := (s5.trans s7).trans s8
            refine ⟨_, rfl, q, e, k, N, _, _, c, rfl, hT.same s58, SqL.of e8, ?_, by rw [← hcx]; exact hc _ _, fun H9 g s9 n9 e9 => ?_⟩
            · rw [List.length_map, List.length_map, y1]
              omega
            · have er : (rowsAt k N Dt (j + 1))[i]? = some ((Dt.ys (j + 1)).map fun b => XX k N Dt (j + 1) b d) := by
                unfold rowsAt
                rw [List.getElem?_map, ed]
                rfl
              refine inv6.step hD2 er ((sT.trans s8).trans s9) ((sT.trans s8).free n9) ?_ (small24 il (by rw [y2]; omega))
              have e11 : ((((Dt.ys (j + 1)).map col).map fun l => l.getD i 0).map fun x => al k x c) = (Dt.ys (j + 1)).map fun b => XX k N Dt (j + 1) b d := by
                rw [List.map_map, List.map_map]
                refine List.map_congr_left fun b hb => ?_
                show al k ((col b).getD i 0) c = al k (bhd k N (Dt.sh j) ((Dt.ys j).headD 0) (Dt.x (j + 2) - Dt.x (j + 1)) ((Dt.ys j).map fun a => XX k N Dt j a b) (pt (Dt.x j) (Dt.x (j + 1)) (Dt.x (j + 2)) b d)) (Dt.cf (j + 2) d)
                have e10 : (col b)[i]? = some (bhd k N (Dt.sh j) ((Dt.ys j).headD 0) (Dt.x (j + 2) - Dt.x (j + 1)) ((Dt.ys j).map fun a => XX k N Dt j a b) (pt (Dt.x j) (Dt.x (j + 1)) (Dt.x (j + 2)) b d)) := by
                  show ((Dt.ys (j + 2)).map _)[i]? = _
                  rw [List.getElem?_map, ed]
                  rfl
                rw [gtD_of e10, ← hcx]
                congr 1
                rw [← hD0]
                rfl
              rw [e9, e11]
      · intro H6 inv6
        have inv6 : LInv H' D2 (rowsAt k N Dt (j + 1)) (rowsAt k N Dt (j + 1)).length H6 := by
          rw [List.length_map, List.length_map] at inv6
          have e : (rowsAt k N Dt (j + 1)).length = (Dt.ys (j + 2)).length := by simp [rowsAt]
          rw [e]
          exact inv6
        obtain ⟨s7, ll7⟩ := inv6.done (K := K)
        exact kq H6 D2 (s5.trans s7) (s5.free hD2) ll7
end FL

end
section
set_option Elab.async false
set_option linter.all false
set_option maxRecDepth 100000
set_option maxHeartbeats 4000000
namespace FL
open PySem PySem.Spec PyProof.Rows L2
variable {P : Program} {w : World} {K : PySem.W.Frag} {mg : Str → Option Value} {base : Heap} {t : Adr}
theorem rowsZ {xs ys sh ms : List Int} {k : Kd} {N : Int} {cf : Nat → Int → Int} : ((((chs ys ms).getD 1 []).map (cf 1)).map fun c => (((chs ys ms).getD 0 []).map (cf 0)).map fun x => al k x c) = rowsAt k N (dOf xs (chs ys ms) sh cf) 0 := by
  unfold rowsAt
  rw [List.map_map]
  refine List.map_congr_left fun b _ => ?_
  show ((((chs ys ms).getD 0 []).map (cf 0)).map fun x => al k x (cf 1 b)) = _
  rw [List.map_map]
  rfl
theorem rows_len {xs ys sh ms : List Int} (ro : RO xs ys sh ms) {k : Kd} {N : Int} {cf : Nat → Int → Int} {j : Nat} (hj : j + 1 < xs.length) : (rowsAt k N (dOf xs (chs ys ms) sh cf) j).length ≤ 999 ∧ ∀ l ∈ rowsAt k N (dOf xs (chs ys ms) sh cf) j, l.length ≤ 999 := by
  have b0 := (ys_bd ro (j := j) (by omega)).1
  have b1 := (ys_bd ro (j := j + 1) (by omega)).1
  constructor
  · unfold rowsAt
    rw [List.length_map]
    show ((chs ys ms).getD (j + 1) []).length ≤ 999
    omega
  · intro l hl
    unfold rowsAt at hl
    obtain ⟨b, hb, rfl⟩ := List.mem_map.mp hl
    rw [List.length_map]
    show ((chs ys ms).getD j []).length ≤ 999
    omega
def sp_total_of_fair (K : PySem.W.Frag) (t : Adr) : Sp := fun vs H Q _ => ∃ (p q : Addr) (xs ys sh ms : List Int) (k : Kd) (N : Int) (cf : Nat → Int → Int), vs = [.ref p, .ref q] ∧
  RoomAt K t.c_Room H p xs ys sh ms ∧ RO xs ys sh ms ∧ TalAt K t H q k N (costsOf (chs ys ms) cf) ∧ (∀ i d, CostK k (cf i d)) ∧ ∀ H' : Hp, Same H H' → Q (.int (tot k N (dOf xs (chs ys ms) sh cf) (xs.length - 2))) H'
theorem ok_total_of_fair (T : Txt K mg t) : FnOk P w K mg base CX0 6 t.f_total_of_fair t.d_total_of_fair ["room", "tallies"] (sp_total_of_fair K t) := by
  refine T.fn_total_of_fair.ok sc_total_of_fair (fun vs H Q E h => ?_) (fun cdv A outer s H vs Q E hr h => ?_)
  · obtain ⟨p, q, xs, ys, sh, ms, k, N, cf, rfl, _⟩ := h
    rfl
  · obtain ⟨p, q, xs, ys, sh, ms, k, N, cf, rfl, hR, ro, hT, hc, kq⟩ := h
    obtain ⟨dx, xa, ya, sa, ma, ca, h0, h1, h2, h3, h4, h5⟩ := id hR
    have two : 2 ≤ xs.length := ro.ok.two
    have most : xs.length ≤ 24 := ro.ok.most
    have c0 := ch_get ro (j := 0) (by omega)
    have c1 := ch_get ro (j := 1) (by omega)
    have bd0 := ys_bd ro (j := 0) (by omega)
    have bd1 := ys_bd ro (j := 1) (by omega)
    refine ⟨_, (pss_cons (ps_set (i := 2) sc_total_of_fair.nd rfl (Or.inl rfl) (pe_call (ok_first_rows T) (hr.mono (by decide : 3 ≤ 5)) rfl T.m_first_rows T.fn_first_rows.kp T.b_first_rows .nil pass0 (pa_cons (pv 1) pa_nil)))
      (pss_cons (ps_for PassesOwn.never rfl (pi_range2 rfl T.n_range (pa_cons pe_int (pa_cons (pe_op op_sub (pe_callB call_lenS rfl T.n_len PySem.boot_len (pa_cons (pe_fld (pv 0) rfl) pa_nil)) pe_int) pa_nil))) (pg_name (i := 3) sc_total_of_fair.nd rfl (Or.inl rfl)) (pss_one (ps_set (i := 2) sc_total_of_fair.nd rfl (Or.inl rfl) (pe_call (ok_next_rows T) hr rfl T.m_next_rows T.fn_next_rows.kp T.b_next_rows .nil pass0 (pa_cons (pv 0) (pa_cons (pv 1) (pa_cons (pv 3) (pa_cons (pv 2) pa_nil))))))))
      (pss_one (ps_ret (pe_call (ok_total T) (hr.mono (by decide : 3 ≤ 5)) rfl T.m_total T.fn_total.kp T.b_total .nil pass0 (pa_cons (pv 1) (pa_cons (pv 2) pa_nil))))))), ?_⟩
    refine ⟨_, rfl, q, k, N, _, _, _, rfl, hT, costsOf_get c0, costsOf_get c1, by rw [List.length_map]; omega, by rw [List.length_map]; omega, fun c hcm => ?_, fun H1 r1 s1 n1 l1 => ?_⟩
    · obtain ⟨d, _, rfl⟩ := List.mem_map.mp hcm
      exact hc _ _
    rw [rowsZ (xs := xs) (sh := sh) (N := N)] at l1
    refine ⟨_, rfl, p, _, dx, _, _, rfl, s1 _ _ h0, T.cl_Room, T.na_Room_xs, rfl, _, _, rfl, .inl (s1.seq h1), _, _, rfl, rfl, _, _, rfl, ?_, ?_⟩
    · rw [List.length_map]
      refine ⟨?_, ?_, ?_, ?_⟩ <;> omega
    rw [List.length_map]
    refine for_range (fun i σ H' => ∃ r v3, σ = [some (.ref p), some (.ref q), some (.ref r), v3] ∧ Same H H' ∧ LL K H' r (rowsAt k N (dOf xs (chs ys ms) sh cf) i)) ⟨r1, none, rfl, s1, l1⟩ ?_ ?_
    · rintro i σ H' hi ⟨r, v3, rfl, s2, l2⟩
      have hi : i + 2 < xs.length := by omega
      refine ⟨_, rfl, _, rfl, _, rfl, _, rfl, p, q, r, xs, ys, sh, ms, k, N, cf, i, (by rw [show (1 : Int) + (i : Int) = ((i + 1 : Nat) : Int) by omega]; rfl), hR.same s2, ro, hT.same s2, hc, hi, l2, fun H3 r3 s3 n3 l3 => ?_⟩
      exact ⟨_, _, rfl, s2.trans s3, l3⟩
    · rintro σ H' ⟨r, v3, rfl, s2, l2⟩
      have e : ((xs.length : Int) - 1 - 1).toNat = xs.length - 2 := by omega
      rw [e] at l2
      obtain ⟨g1, g2⟩ := rows_len ro (k := k) (N := N) (cf := cf) (j := xs.length - 2) (by omega)
      exact ⟨_, rfl, _, rfl, q, r, k, N, _, _, rfl, hT.same s2, l2, g1, g2, fun H3 s3 => kq H3 (s2.trans s3)⟩
def sp_how_many_fair (K : PySem.W.Frag) (t : Adr) : Sp := fun vs H Q _ => ∃ (p : Addr) (xs ys sh ms : List Int), vs = [.ref p] ∧ RoomAt K t.c_Room H p xs ys sh ms ∧ RO xs ys sh ms ∧ ∀ H' : Hp, Same H H' → Q (.int (tot .cnt 0 (dOf xs (chs ys ms) sh oneC) (xs.length - 2))) H'
theorem made_same {H : Hp} {C x dx : Addr} (nx : H x = none) (ndx : H dx = none) : Same H (upd (upd H dx (.own x)) x (.ins C dx [])) := fun b o e => by
  rw [upd_ne (ne_of_none e nx), upd_ne (ne_of_none e ndx)]
  exact e
theorem ok_how_many_fair (T : Txt K mg t) : FnOk P w K mg base CX0 7 t.f_how_many_fair t.d_how_many_fair ["room"] (sp_how_many_fair K t) := by
  refine T.fn_how_many_fair.ok sc_how_many_fair (fun vs H Q E h => ?_) (fun cdv A outer s H vs Q E hr h => ?_)
  · obtain ⟨p, xs, ys, sh, ms, rfl, _⟩ := h
    rfl
  · obtain ⟨p, xs, ys, sh, ms, rfl, hR, ro, kq⟩ := h
    refine ⟨_, (pss_one (ps_ret (pe_call (ok_total_of_fair T) hr rfl T.m_total_of_fair T.fn_total_of_fair.kp T.b_total_of_fair .nil pass0 (pa_cons (pv 0) (pa_cons (pe_make T.mk_Counts (ok_Counts___init__ T) (hr.mono (by decide : 2 ≤ 6)) rfl T.m_Counts T.b_Counts___init__ .nil pass0 (pa_cons (pv 0) pa_nil)) pa_nil))))), ?_⟩
    refine ⟨_, rfl, _, rfl, fun x dx nx ndx ne => ⟨x, dx, p, xs, ys, sh, ms, rfl, upd_same, hR.same (made_same nx ndx), ro.bds, ro.len, fun H2 tal k2 => ⟨rfl, ?_⟩⟩⟩
    have s2 : Same H H2 := Same.made nx ndx k2
    exact ⟨p, x, xs, ys, sh, ms, .cnt, 0, oneC, rfl, hR.same s2, ro, tal, fun _ _ => rfl, fun H3 s3 => kq H3 (s2.trans s3)⟩
def NoneIs (xs ys sh ms : List Int) (v : Int) : Prop := (∃ j : Nat, 1 ≤ j ∧ j + 2 ≤ xs.length ∧ (∀ i, 1 ≤ i → i < j → tot .cnt 0 (dOf xs (chs ys ms) sh oneC) i ≠ 0) ∧ tot .cnt 0 (dOf xs (chs ys ms) sh oneC) j = 0 ∧ v = ((j + 2 : Nat) : Int)) ∨ ((∀ i, 1 ≤ i → i + 2 ≤ xs.length → tot .cnt 0 (dOf xs (chs ys ms) sh oneC) i ≠ 0) ∧ v = 0)
def sp_nails_showing_none (K : PySem.W.Frag) (t : Adr) : Sp := fun vs H Q _ => ∃ (p : Addr) (xs ys sh ms : List Int), vs = [.ref p] ∧ RoomAt K t.c_Room H p xs ys sh ms ∧ RO xs ys sh ms ∧ ∀ (H' : Hp) (v : Int), Same H H' → NoneIs xs ys sh ms v → Q (.int v) H'
theorem ok_nails_showing_none (T : Txt K mg t) : FnOk P w K mg base CX0 6 t.f_nails_showing_none t.d_nails_showing_none ["room"] (sp_nails_showing_none K t) := by
  refine T.fn_nails_showing_none.ok sc_nails_showing_none (fun vs H Q E h => ?_) (fun cdv A outer s H vs Q E hr h => ?_)
  · obtain ⟨p, xs, ys, sh, ms, rfl, _⟩ := h
    rfl
  · obtain ⟨p, xs, ys, sh, ms, rfl, hR, ro, kq⟩ := h
    obtain ⟨dx0, xa, ya, sa, ma, ca, h0, h1, h2, h3, h4, h5⟩ := id hR
    have two : 2 ≤ xs.length := ro.ok.two
    have most : xs.length ≤ 24 := ro.ok.most
    have c0 := ch_get ro (j := 0) (by omega)
    have c1 := ch_get ro (j := 1) (by omega)
    have bd0 := ys_bd ro (j := 0) (by omega)
    have bd1 := ys_bd ro (j := 1) (by omega)
    refine ⟨_, (pss_cons (ps_set (i := 1) sc_nails_showing_none.nd rfl (Or.inl rfl) (pe_make T.mk_Counts (ok_Counts___init__ T) (hr.mono (by decide : 2 ≤ 5)) rfl T.m_Counts T.b_Counts___init__ .nil pass0 (pa_cons (pv 0) pa_nil)))
      (pss_cons (ps_set (i := 2) sc_nails_showing_none.nd rfl (Or.inl rfl) (pe_call (ok_first_rows T) (hr.mono (by decide : 3 ≤ 5)) rfl T.m_first_rows T.fn_first_rows.kp T.b_first_rows .nil pass0 (pa_cons (pv 1) pa_nil)))
      (pss_cons (ps_for PassesOwn.never rfl (pi_range2 rfl T.n_range (pa_cons pe_int (pa_cons (pe_op op_sub (pe_callB call_lenS rfl T.n_len PySem.boot_len (pa_cons (pe_fld (pv 0) rfl) pa_nil)) pe_int) pa_nil))) (pg_name (i := 3) sc_nails_showing_none.nd rfl (Or.inl rfl)) (pss_cons (ps_set (i := 2) sc_nails_showing_none.nd rfl (Or.inl rfl) (pe_call (ok_next_rows T) hr rfl T.m_next_rows T.fn_next_rows.kp T.b_next_rows .nil pass0 (pa_cons (pv 0) (pa_cons (pv 1) (pa_cons (pv 3) (pa_cons (pv 2) pa_nil))))))
      (pss_one (ps_if (pt_cmpR op_eq (pe_call (ok_total T) (hr.mono (by decide : 3 ≤ 5)) rfl T.m_total T.fn_total.kp T.b_total .nil pass0 (pa_cons (pv 1) (pa_cons (pv 2) pa_nil))) pe_int (nomark _)) (pss_one (ps_ret (pe_op op_add (pv 3) pe_int))) pss_nil))))
      (pss_one (ps_ret pe_int))))), ?_⟩
    refine ⟨_, rfl, fun q dx nx ndx ne => ⟨q, dx, p, xs, ys, sh, ms, rfl, upd_same, hR.same (made_same nx ndx), ro.bds, ro.len, fun H0 hT k2 => ⟨rfl, ?_⟩⟩⟩
    have s0 : Same H H0 := Same.made nx ndx k2
    refine ⟨_, rfl, q, .cnt, 0, _, _, _, rfl, hT, costsOf_get c0, costsOf_get c1, by rw [List.length_map]; omega, by rw [List.length_map]; omega, fun c hcm => ?_, fun H1 r1 s1 n1 l1 => ?_⟩
    · obtain ⟨d, _, rfl⟩ := List.mem_map.mp hcm
      rfl
    have s01 := s0.trans s1
    rw [rowsZ (xs := xs) (sh := sh) (N := 0)] at l1
    refine ⟨_, rfl, p, _, dx0, _, _, rfl, s01 _ _ h0, T.cl_Room, T.na_Room_xs, rfl, _, _, rfl, .inl (s01.seq h1), _, _, rfl, rfl, _, _, rfl, ?_, ?_⟩
    · rw [List.length_map]
      refine ⟨?_, ?_, ?_, ?_⟩ <;> omega
    rw [List.length_map]
    refine for_range (fun i σ H' => ∃ r v3, σ = [some (.ref p), some (.ref q), some (.ref r), v3] ∧ Same H0 H' ∧ LL K H' r (rowsAt .cnt 0 (dOf xs (chs ys ms) sh oneC) i) ∧ ∀ z, 1 ≤ z → z ≤ i → tot .cnt 0 (dOf xs (chs ys ms) sh oneC) z ≠ 0) ⟨r1, none, rfl, s1, l1, fun z a b => by omega⟩ ?_ ?_
    · rintro i σ H' hi ⟨r, v3, rfl, s2, l2, hz⟩
      have hi : i + 2 < xs.length := by omega
      refine ⟨_, rfl, _, rfl, _, rfl, _, rfl, p, q, r, xs, ys, sh, ms, .cnt, 0, oneC, i, (by rw [show (1 : Int) + (i : Int) = ((i + 1 : Nat) : Int) by omega]; rfl), hR.same (s0.trans s2), ro, hT.same s2, fun _ _ => rfl, hi, l2, fun H3 r3 s3 n3 l3 => ?_⟩
      obtain ⟨g1, g2⟩ := rows_len ro (k := .cnt) (N := 0) (cf := oneC) (j := i + 1) (by omega)
      refine ⟨_, rfl, _, rfl, q, r3, .cnt, 0, _, _, rfl, (hT.same s2).same s3, l3, g1, g2, fun H4 s4 => ?_⟩
      have s24 := (s2.trans s3).trans s4
      refine ⟨rfl, _, rfl, ite2 (fun c => ?_) (fun c => ?_)⟩
      · have c : fo .cnt 0 ((rowsAt .cnt 0 (dOf xs (chs ys ms) sh oneC) (i + 1)).map (fo .cnt 0)) = 0 := by simpa using c
        have c : tot .cnt 0 (dOf xs (chs ys ms) sh oneC) (i + 1) = 0 := c
        refine ⟨_, rfl, _, _, rfl, rfl, kq H4 _ (s0.trans s24) (.inl ⟨i + 1, by omega, by omega, fun z a b => hz z a (by omega), c, by omega⟩)⟩
      · have c : ¬ fo .cnt 0 ((rowsAt .cnt 0 (dOf xs (chs ys ms) sh oneC) (i + 1)).map (fo .cnt 0)) = 0 := by simpa using c
        have c : ¬ tot .cnt 0 (dOf xs (chs ys ms) sh oneC) (i + 1) = 0 := c
        refine ⟨_, _, rfl, s24, l3.same s4, fun z a b => ?_⟩
        by_cases e : z = i + 1
        · rw [e]
          exact c
        · exact hz z a (by omega)
    · rintro σ H' ⟨r, v3, rfl, s2, l2, hz⟩
      have e : ((xs.length : Int) - 1 - 1).toNat = xs.length - 2 := by omega
      rw [e] at hz
      exact kq H' 0 (s0.trans s2) (.inr ⟨fun i a b => hz i a (by omega), rfl⟩)
def sp_choices_of_rank (K : PySem.W.Frag) (t : Adr) : Sp := fun vs H Q _ => ∃ (p : Addr) (xs ys sh ms : List Int) (r : Int), vs = [.ref p, .int r] ∧ RoomAt K t.c_Room H p xs ys sh ms ∧ RO xs ys sh ms ∧ (∀ i c, i < xs.length → (chs ys ms)[i]? = some c → (r / 33 ^ (xs.length - 1 - i) % 33).toNat < c.length) ∧ NewInts H (decode (chs ys ms) xs.length r) Q
theorem ok_choices_of_rank (T : Txt K mg t) : FnOk P w K mg base CX0 2 t.f_choices_of_rank t.d_choices_of_rank ["room", "rank"] (sp_choices_of_rank K t) := by
  refine T.fn_choices_of_rank.ok sc_choices_of_rank (fun vs H Q E h => ?_) (fun cdv A outer s H vs Q E hr h => ?_)
  · obtain ⟨p, xs, ys, sh, ms, r, rfl, _⟩ := h
    rfl
  · obtain ⟨p, xs, ys, sh, ms, r, rfl, hR, ro, hix, kq⟩ := h
    obtain ⟨dx, xa, ya, sa, ma, ca, h0, h1, h2, h3, h4, h5⟩ := id hR
    have two : 2 ≤ xs.length := ro.ok.two
    have most : xs.length ≤ 24 := ro.ok.most
    have lc : (chs ys ms).length = xs.length := by rw [chs_len ro.bds.1, ro.len]
    obtain ⟨as, hS, al, hA⟩ := h5
    have lxl : ((xs.map V.int).length : Int) = (xs.length : Int) := by rw [List.length_map]
    refine ⟨_, (pss_cons (ps_set (i := 2) sc_choices_of_rank.nd rfl (Or.inl rfl) (pe_call (ok_digit_weights T) hr rfl T.m_digit_weights T.fn_digit_weights.kp T.b_digit_weights .nil pass0 (pa_cons (pe_op op_add (pe_callB call_lenS rfl T.n_len PySem.boot_len (pa_cons (pe_fld (pv 0) rfl) pa_nil)) pe_int) pa_nil)))
      (pss_cons (ps_set (i := 3) sc_choices_of_rank.nd rfl (Or.inl rfl) (pe_lst pa_nil))
      (pss_cons (ps_for PassesOwn.never rfl (pi_enum rfl T.n_enumerate (pa_cons (pe_fld (pv 0) rfl) pa_nil)) (pg_tup rfl (pgs_cons (pg_name (i := 4) sc_choices_of_rank.nd rfl (Or.inl rfl)) (pgs_cons (pg_name (i := 5) sc_choices_of_rank.nd rfl (Or.inl rfl)) pgs_nil))) (pss_one (ps_expr (pe_bm PySem.F.plainAttrs_list PySem.F.slot_list_append PySem.F.type_list_append mt_append (pv 3) (pa_cons (pe_ix ix_list (pv 5) (pe_op op_mod (pe_op op_fdivB (pv 1) (pe_ix ix_list (pv 2) (pe_op op_add (pv 4) pe_int) (fun _ _ => rfl))) (pe_gint rfl T.g_MOST_CHOICES)) (fun _ _ => rfl)) pa_nil)))))
      (pss_one (ps_ret (pv 3)))))), ?_⟩
    refine ⟨_, rfl, p, _, dx, _, _, rfl, h0, T.cl_Room, T.na_Room_xs, rfl, _, _, rfl, .inl h1, _, _, rfl, rfl, xs.length + 1, (by rw [lxl]; rfl), by omega, by omega, fun H0 wa s0 nw ew => ?_⟩
    refine ⟨(by show 0 ≤ sizeLine; decide), fun f nf => ?_⟩
    have sf : Same H0 (upd H0 f (.lst [])) := (Same.refl H0).new nf
    have s0f := s0.trans sf
    refine ⟨_, rfl, p, _, dx, _, _, rfl, s0f _ _ h0, T.cl_Room, T.na_Room_choices, rfl, ca, _, rfl, s0f.seq hS, ?_⟩
    refine for_enum (K := K) (a := ca) (xs := as.map V.ref) (fun i σ H' => ∃ v4 v5, σ = [some (.ref p), some (.int r), some (.ref wa), some (.ref f), v4, v5] ∧ Same H0 H' ∧ H' f = some (.lst (((decode (chs ys ms) xs.length r).take i).map V.int)))
      ⟨none, none, rfl, sf, upd_same⟩ (fun i σ H' _ ⟨_, _, _, s1, _⟩ => (s0.trans s1).seq hS) ?_ ?_
    · rintro i x σ H' Tp hi ⟨v4, v5, rfl, s1, e⟩ hT
      obtain ⟨b, hb, rfl⟩ := get_ref hi
      have il : i < xs.length := by rw [← lc, ← al]; exact lt_of_get hb
      have ec := ch_get ro il
      have sT : Same H' (upd H' Tp (.tup [.int (i : Nat), .ref b])) := (Same.refl H').new hT
      have s2 := (s0.trans s1).trans sT
      have wi := wts_get (n := xs.length + 1) (i := i + 1) (by omega)
      rw [show xs.length + 1 - 1 - (i + 1) = xs.length - 1 - i by omega] at wi
      have e2 := sT _ _ e
      have wpos : (0 : Int) < 33 ^ (xs.length - 1 - i) := pow33 _
      have wlt : (33 : Int) ^ (xs.length - 1 - i) < 2 ^ 200 := by
        have a : (33 : Nat) ^ (xs.length - 1 - i) ≤ 33 ^ 24 := Nat.pow_le_pow_right (by decide) (by omega)
        have b : (33 : Nat) ^ 24 < 2 ^ 200 := by decide
        have c : ((33 ^ (xs.length - 1 - i) : Nat) : Int) < ((2 ^ 200 : Nat) : Int) := by omega
        rw [Int.natCast_pow, Int.natCast_pow] at c
        exact c
      have nn : 0 ≤ r / 33 ^ (xs.length - 1 - i) % 33 := Int.emod_nonneg _ (by decide)
      have hix' := hix i _ il ec
      obtain ⟨j, ej⟩ := Int.eq_ofNat_of_zero_le nn
      rw [ej, Int.toNat_natCast] at hix'
      have hj : ((chs ys ms).getD i [])[j]? = some (((chs ys ms).getD i []).getD j 0) := by
        rw [List.getD_eq_getElem?_getD (a := (0 : Int)), List.getElem?_eq_getElem hix']
        rfl
      have ed : (decode (chs ys ms) xs.length r)[i]? = some (((chs ys ms).getD i []).getD j 0) := by
        unfold decode
        rw [List.getElem?_map, List.getElem?_range (by omega)]
        show some (((chs ys ms).getD i []).getD (r / 33 ^ (xs.length - 1 - i) % 33).toNat 0) = _
        rw [ej, Int.toNat_natCast]
      refine ⟨Tp, _, rfl, SqT.of upd_same, rfl, _, _, rfl, _, _, rfl, rfl, ?_⟩
      refine ⟨_, rfl, .inl ⟨rfl, _, SqL.of e2⟩, _, rfl, _, rfl, _, rfl, _, rfl, _, _, rfl, rfl, wa, _, _, _, rfl, rfl, SqL.of (sT _ _ (s1 _ _ ew)), atI_nat (j := i + 1) (get_map wi), _, _, rfl, rfl, ⟨wpos, wlt⟩, _, _, rfl, rfl, (show (0 : Int) < 33 by decide), b, _, _, _, rfl, rfl, s2.seq (hA i b _ hb ec), (by rw [ej]; exact atI_nat (get_map hj)), f, _, _, rfl, rfl, e2, ?_, ?_⟩
      · rw [List.length_map, List.length_take]
        exact Nat.lt_of_le_of_lt (Nat.min_le_left _ _) (small24 il (by omega))
      · refine ⟨_, _, rfl, (s1.trans sT).upd nf, ?_⟩
        rw [upd_same, take_snoc ed, List.map_append]
        rfl
    · rintro σ H' ⟨v4, v5, rfl, s1, e⟩
      rw [List.length_map, al, List.take_of_length_le (by simp [decode])] at e
      exact ⟨_, rfl, kq H' f (s0.trans s1) (s0.free nf) e⟩
def sp_nearest (K : PySem.W.Frag) (t : Adr) : Sp := fun vs H Q _ => ∃ (p : Addr) (xs ys sh ms : List Int), vs = [.ref p] ∧ RoomAt K t.c_Room H p xs ys sh ms ∧ RO xs ys sh ms ∧ (16 < GR ⟨xs, ys⟩ sh ms → ∀ H' : Hp, Same H H' → Q .non H') ∧
  (GR ⟨xs, ys⟩ sh ms ≤ 16 → ∀ q, decode (chs ys (mins ms (GR ⟨xs, ys⟩ sh ms))) xs.length (RK ⟨xs, ys⟩ sh (mins ms (GR ⟨xs, ys⟩ sh ms))) = q → NewInts H ([GR ⟨xs, ys⟩ sh ms, ((q.zip ys).map fun (u : Int × Int) => absI (u.1 - u.2)).sum] ++ q) Q)
theorem ok_nearest (T : Txt K mg t) : FnOk P w K mg base CX0 7 t.f_nearest t.d_nearest ["room"] (sp_nearest K t) := by
  refine T.fn_nearest.ok sc_nearest (fun vs H Q E h => ?_) (fun cdv A outer s H vs Q E hr h => ?_)
  · obtain ⟨p, xs, ys, sh, ms, rfl, _⟩ := h
    rfl
  · obtain ⟨p, xs, ys, sh, ms, rfl, hR, ro, kn, kq⟩ := h
    obtain ⟨dx0, xa, ya, sa, ma, ca, h0, h1, h2, h3, h4, h5⟩ := id hR
    have most : xs.length ≤ 24 := ro.ok.most
    have ly : ys.length = xs.length := ro.ok.ly
    have lm : ms.length = xs.length := ro.ok.lm
    refine ⟨_, (pss_cons (ps_set (i := 1) sc_nearest.nd rfl (Or.inr rfl) (pe_call (ok_total_of_fair T) hr rfl T.m_total_of_fair T.fn_total_of_fair.kp T.b_total_of_fair .nil pass0 (pa_cons (pv 0) (pa_cons (pe_make T.mk_GreatestMoves (ok_GreatestMoves___init__ T) (hr.mono (by decide : 3 ≤ 6)) rfl T.m_GreatestMoves T.b_GreatestMoves___init__ .nil pass0 (pa_cons (pv 0) pa_nil)) pa_nil))))
      (pss_cons (ps_if (pt_cmpR op_gt (pv 1) (pe_gint rfl T.g_FARTHEST) (nomark _)) (pss_one (ps_ret pe_non)) pss_nil)
      (pss_cons (ps_set (i := 2) sc_nearest.nd rfl (Or.inl rfl) (pe_make T.mk_Room (ok_Room___init__ T) (hr.mono (by decide : 3 ≤ 6)) rfl T.m_Room T.b_Room___init__ .nil pass0 (pa_cons (pe_fld (pv 0) rfl) (pa_cons (pe_fld (pv 0) rfl) (pa_cons (pe_fld (pv 0) rfl) (pa_cons (pe_lc rfl sc_nearest.nd (pi_list (pe_fld (pv 0) rfl)) (own := [("move", 5)]) (blkOk_by (by rfl)) (fun _ _ _ _ _ => (pg_name (i := 5) sc_nearest.nd rfl (Or.inl rfl))) (fun _ _ _ _ _ => pts_nil) (fun _ _ _ _ _ => (pe_callB (call_min2 rfl) rfl T.n_min boot_min (pa_cons (pv 5) (pa_cons (pv 1) pa_nil))))) pa_nil))))))
      (pss_cons (ps_set (i := 3) sc_nearest.nd rfl (Or.inl rfl) (pe_call (ok_choices_of_rank T) (hr.mono (by decide : 2 ≤ 6)) rfl T.m_choices_of_rank T.fn_choices_of_rank.kp T.b_choices_of_rank .nil pass0 (pa_cons (pv 2) (pa_cons (pe_call (ok_total_of_fair T) hr rfl T.m_total_of_fair T.fn_total_of_fair.kp T.b_total_of_fair .nil pass0 (pa_cons (pv 2) (pa_cons (pe_make T.mk_Ranks (ok_Ranks___init__ T) (hr.mono (by decide : 3 ≤ 6)) rfl T.m_Ranks T.b_Ranks___init__ .nil pass0 (pa_cons (pv 2) pa_nil)) pa_nil))) pa_nil))))
      (pss_cons (ps_setLc (i := 4) rfl sc_nearest.nd rfl rfl (sw_true rfl rfl rfl (by decide +kernel)) (pi_zip rfl T.n_zip (pa_cons (pv 3) (pa_cons (pe_fld (pv 0) rfl) pa_nil))) (own := [("new", 6), ("old", 7)]) (g := gTup K 2 (gCons (gName 6) (gCons (gName 7) gNil))) (blkOk_by (by rfl)) (fun _ _ _ _ _ => (pg_tup rfl (pgs_cons (pg_name (i := 6) sc_nearest.nd rfl (Or.inl rfl) (hf := Or.inr rfl)) (pgs_cons (pg_name (i := 7) sc_nearest.nd rfl (Or.inl rfl) (hf := Or.inr rfl)) pgs_nil)))) (fun _ _ _ _ _ => pts_nil) (fun _ _ _ _ _ => (pe_callB call_abs rfl T.n_abs boot_abs (pa_cons (pe_op op_sub (pv 6) (pv 7)) pa_nil))))
      (pss_one (ps_ret (pe_op op_cat (pe_lst (pa_cons (pv 1) (pa_cons (pe_callB (cr_sum rfl) rfl T.n_sum boot_sum (pa_cons (pv 4) pa_nil)) pa_nil))) (pv 3))))))))), ?_⟩
    refine ⟨_, rfl, _, rfl, fun q dx nx ndx ne => ⟨q, dx, p, xs, ys, sh, ms, rfl, upd_same, hR.same (made_same nx ndx), ro.bds, ro.len, fun H0 hT k2 => ⟨rfl, ?_⟩⟩⟩
    have s0 : Same H H0 := Same.made nx ndx k2
    refine ⟨p, q, xs, ys, sh, ms, .gr, 17, _, rfl, hR.same s0, ro, hT, fun _ _ => trivial, fun H1 s1 => ?_⟩
    have s01 := s0.trans s1
    have eG : tot .gr 17 (dOf xs (chs ys ms) sh (cGr ys)) (xs.length - 2) = GR ⟨xs, ys⟩ sh ms := rfl
    rw [eG]
    generalize hG : GR ⟨xs, ys⟩ sh ms = G at *
    refine ⟨_, rfl, _, _, rfl, rfl, _, rfl, ite2 (fun c => ?_) (fun c => ?_)⟩
    · exact kn (by simpa using c) H1 s01
    · have c : G ≤ 16 := by
        simp at c
        exact c
      have nn : 0 ≤ G := by
        have := (least_some ro.ok (by rw [hG]; exact c)).1
        rw [hG] at this
        exact this
      obtain ⟨q', eq', ix, lq, _⟩ := (least_some ro.ok (by rw [hG]; exact c)).2
      rw [hG] at eq' ix
      refine ⟨_, rfl, p, _, dx0, _, _, rfl, s01 _ _ h0, T.cl_Room, T.na_Room_xs, rfl, _, rfl, p, _, dx0, _, _, rfl, s01 _ _ h0, T.cl_Room, T.na_Room_ys, rfl, _, rfl, p, _, dx0, _, _, rfl, s01 _ _ h0, T.cl_Room, T.na_Room_shape, rfl, _, rfl, p, _, dx0, _, _, rfl, s01 _ _ h0, T.cl_Room, T.na_Room_moves, rfl, ma, rfl, ⟨_, s01.seq h4⟩, fun D hD => ?_⟩
      refine lc_list (K := K) (a := ma) (xs := ms.map V.int) (IInv H1 D (mins ms G)) (IInv.start hD) (fun i H' _ h => h.1.seq (s01.seq h4)) ?_ ?_
      · rintro i x H' hi inv
        obtain ⟨z, hz, rfl⟩ := get_int hi
        refine ⟨rfl, _, rfl, _, rfl, _, _, rfl, ?_⟩
        refine inv.step hD ?_ (Same.refl H') (small24 (lt_of_get hz) (by omega))
        unfold mins
        rw [List.getElem?_map, hz]
        rfl
      · intro H2 inv
        rw [List.length_map] at inv
        obtain ⟨s2, e2⟩ := inv.done (by unfold mins; rw [List.length_map]; exact Nat.le_refl _)
        have s02 := s01.trans s2
        have ro' : RO xs ys sh (mins ms G) := ⟨mins_ok ro.ok nn, ro.bx⟩
        intro nr dn nnr ndn nen
        have sM := made_same (C := t.c_Room) nnr ndn
        refine ⟨nr, dn, xa, ya, sa, D, xs, ys, sh, mins ms G, rfl, upd_same, (s02.trans sM).seq h1, (s02.trans sM).seq h2, (s02.trans sM).seq h3, SqL.of (sM _ _ e2), ro'.bds, fun H3 hR3 k3 => ⟨rfl, ?_⟩⟩
        have s3 : Same H2 H3 := Same.made nnr ndn k3
        have s03 := s02.trans s3
        refine ⟨_, rfl, _, rfl, _, rfl, fun q5 dx5 nx5 ndx5 ne5 => ⟨q5, dx5, nr, xs, ys, sh, mins ms G, rfl, upd_same, hR3.same (made_same nx5 ndx5), ro'.bds, ro'.len, fun H5 hT5 k5 => ⟨rfl, ?_⟩⟩⟩
        have s5 : Same H3 H5 := Same.made nx5 ndx5 k5
        refine ⟨nr, q5, xs, ys, sh, mins ms G, .rk, _, _, rfl, hR3.same s5, ro', hT5, fun _ _ => trivial, fun H6 s6 => ?_⟩
        have eR : tot .rk (nRk xs.length) (dOf xs (chs ys (mins ms G)) sh (cRk xs.length ys (mins ms G))) (xs.length - 2) = RK ⟨xs, ys⟩ sh (mins ms G) := rfl
        have s36 := s5.trans s6
        have s06 := s03.trans s36
        refine ⟨nr, xs, ys, sh, mins ms G, _, rfl, hR3.same s36, ro', ix, fun H7 yq s7 n7 e7 => ?_⟩
        have e7 : H7 yq = some (.lst (q'.map V.int)) := by
          rw [e7]
          congr 3
        have s07 := s06.trans s7
        refine ⟨_, rfl, _, rfl, p, _, dx0, _, _, rfl, s07 _ _ h0, T.cl_Room, T.na_Room_ys, rfl, yq, ya, _, _, rfl, SqL.of e7, s07.seq h2, fun D8 hD8 => ?_⟩
        have lq : q'.length = xs.length := lq
        refine lc_zip (K := K) (a := yq) (b := ya) (xs := q'.map V.int) (ys := ys.map V.int) (by rw [List.length_map, List.length_map]; omega) (IInv H7 D8 ((q'.zip ys).map fun (u : Int × Int) => absI (u.1 - u.2))) (IInv.start hD8) (fun i H' _ h => ⟨SqL.of (h.1 _ _ e7), h.1.seq (s07.seq h2)⟩) ?_ ?_
        · rintro i x y H' Tp hi hj inv hT
          obtain ⟨z, hz, rfl⟩ := get_int hi
          obtain ⟨u, hu, rfl⟩ := get_int hj
          refine ⟨Tp, _, rfl, SqT.of upd_same, rfl, _, _, rfl, _, _, rfl, rfl, rfl, _, rfl, _, rfl, _, _, rfl, rfl, _, rfl, ?_⟩
          exact inv.step hD8 (z := absI (z - u)) (by rw [List.getElem?_map, zip_some hz hu]; rfl) ((Same.refl H').new hT) (small24 (lt_of_get hz) (by omega))
        · intro H8 inv
          rw [List.length_map] at inv
          obtain ⟨s8, e8⟩ := inv.done (by rw [List.length_map, List.length_zip]; omega)
          have s08 := s07.trans s8
          refine ⟨_, rfl, _, rfl, D8, _, rfl, SqL.of e8, (by show 2 ≤ sizeLine; decide), fun r9 n9 => ?_⟩
          have s9 := s08.new (o := .lst [.int G, .int ((q'.zip ys).map fun (u : Int × Int) => absI (u.1 - u.2)).sum]) n9
          have e9 : (upd H8 r9 (.lst [.int G, .int ((q'.zip ys).map fun (u : Int × Int) => absI (u.1 - u.2)).sum])) yq = some (.lst (q'.map V.int)) := by
            have := s8 _ _ e7
            rw [upd_ne (ne_of_none this n9)]
            exact this
          refine ⟨_, rfl, r9, yq, _, _, rfl, rfl, upd_same, e9, ?_, fun r10 n10 => ?_⟩
          · rw [List.length_map]
            exact Nat.le_of_lt (small1000 (by simp; omega))
          · refine kq c q' eq' _ r10 (s9.new n10) (s9.free n10) ?_
            rw [upd_same]
            rfl
end FL

end
section
set_option Elab.async false
set_option linter.all false
set_option maxRecDepth 100000
set_option maxHeartbeats 4000000
namespace FL
open PySem PySem.Spec PyProof.Rows L2
variable {P : Program} {w : World} {K : PySem.W.Frag} {mg : Str → Option Value} {base : Heap} {t : Adr}
def fu : List Int → List Int → Nat → Int
  | c :: s, d :: r, i => if Loft.as_ c.toNat d = true then fu s r (i + 1) else ((i + 1 : Nat) : Int)
  | _, _, _ => 0
theorem fu_eq : ∀ (s d : List Int) (i : Nat), fu s d i = match ((nt s).zip d).findIdx? fun (u : Nat × Int) => !Loft.as_ u.1 u.2 with
    | some j => ((j + i + 1 : Nat) : Int)
    | none => 0
  | [], _, _ => rfl
  | _ :: _, [], _ => rfl
  | c :: s, d :: r, i => by
    show (if Loft.as_ c.toNat d = true then fu s r (i + 1) else ((i + 1 : Nat) : Int)) = match ((c.toNat, d) :: (nt s).zip r).findIdx? fun (u : Nat × Int) => !Loft.as_ u.1 u.2 with
      | some j => ((j + i + 1 : Nat) : Int)
      | none => 0
    rw [List.findIdx?_cons]
    by_cases h : Loft.as_ c.toNat d = true
    · rw [if_pos h, fu_eq s r (i + 1)]
      simp only [h, Bool.not_true, Bool.false_eq_true, if_false]
      cases ((nt s).zip r).findIdx? fun (u : Nat × Int) => !Loft.as_ u.1 u.2 with
      | none => rfl
      | some j =>
        show ((j + (i + 1) + 1 : Nat) : Int) = ((j + 1 + i + 1 : Nat) : Int)
        congr 1
        omega
    · rw [if_neg h]
      simp only [h, Bool.not_false, if_true]
      show ((i + 1 : Nat) : Int) = ((0 + i + 1 : Nat) : Int)
      congr 1
      omega
theorem wrong_eq (l : Loft.Line) (s : List Int) : (match l.wrong (nt s) with | some i => (i : Int) | none => 0) = fu s (Loft.standings l.xs l.ys) 0 := by
  rw [fu_eq]
  unfold Loft.Line.wrong Loft.Line.stands
  cases ((nt s).zip (Loft.standings l.xs l.ys)).findIdx? fun (u : Nat × Int) => !Loft.as_ u.1 u.2 with
  | none => rfl
  | some j => rfl
theorem as_code {c d : Int} (hc : 0 ≤ c ∧ c ≤ 3) : Loft.as_ c.toNat d = true ↔ (LoftFairSeed.standCode d = 3 ∨ c = 0 ∨ c = LoftFairSeed.standCode d) := by
  have h : c = 0 ∨ c = 1 ∨ c = 2 ∨ c = 3 := by omega
  unfold LoftFairSeed.standCode
  rcases h with rfl | rfl | rfl | rfl
  · simp [Loft.as_]
  · show decide (0 ≤ d) = true ↔ _
    rw [decide_eq_true_iff]
    by_cases h0 : d = 0
    · simp [h0]
    · rw [if_neg h0]
      by_cases h1 : 0 < d
      · rw [if_pos h1]
        omega
      · rw [if_neg h1]
        omega
  · show decide (d ≤ 0) = true ↔ _
    rw [decide_eq_true_iff]
    by_cases h0 : d = 0
    · simp [h0]
    · rw [if_neg h0]
      by_cases h1 : 0 < d
      · rw [if_pos h1]
        omega
      · rw [if_neg h1]
        omega
  · show decide (d = 0) = true ↔ _
    rw [decide_eq_true_iff]
    by_cases h0 : d = 0
    · simp [h0]
    · rw [if_neg h0]
      by_cases h1 : 0 < d
      · rw [if_pos h1]
        omega
      · rw [if_neg h1]
        omega
def sp_first_unfair (K : PySem.W.Frag) : Sp := fun vs H Q _ => ∃ (a b c : Addr) (xs ys sh : List Int), vs = [.ref a, .ref b, .ref c] ∧ SqL K H a (xs.map V.int) ∧ SqL K H b (ys.map V.int) ∧ SqL K H c (sh.map V.int) ∧ xs.length = ys.length ∧ 2 ≤ xs.length ∧ xs.length ≤ 24 ∧ (∀ y ∈ ys, 0 ≤ y ∧ y ≤ 1048575) ∧ sh.length + 2 = xs.length ∧ (∀ c ∈ sh, 0 ≤ c ∧ c ≤ 3) ∧
  ∀ H' : Hp, Same H H' → Q (.int (fu sh (Loft.standings xs ys) 0)) H'
theorem drop_cons {l : List Int} {i : Nat} {z : Int} (h : l[i]? = some z) : l.drop i = z :: l.drop (i + 1) := by
  obtain ⟨u, e, d⟩ := drop_one (l := l) (j := i) (lt_of_get h)
  rw [h] at e
  rw [d, Option.some.inj e]
theorem ok_first_unfair (T : Txt K mg t) : FnOk P w K mg base CX0 2 t.f_first_unfair t.d_first_unfair ["xs", "ys", "shape"] (sp_first_unfair K) := by
  refine T.fn_first_unfair.ok sc_first_unfair (fun vs H Q E h => ?_) (fun cdv A outer s H vs Q E hr h => ?_)
  · obtain ⟨a, b, c, xs, ys, sh, rfl, _⟩ := h
    rfl
  · obtain ⟨a, b, c, xs, ys, sh, rfl, hA, hB, hC, lxy, two, most, by_, ls, bs, k⟩ := h
    refine ⟨_, (pss_cons (ps_for PassesOwn.never rfl (pi_enum rfl T.n_enumerate (pa_cons (pe_call (ok_stands_of T) hr rfl T.m_stands_of T.fn_stands_of.kp T.b_stands_of .nil pass0 (pa_cons (pv 0) (pa_cons (pv 1) pa_nil))) pa_nil)) (pg_tup rfl (pgs_cons (pg_name (i := 3) sc_first_unfair.nd rfl (Or.inl rfl)) (pgs_cons (pg_name (i := 4) sc_first_unfair.nd rfl (Or.inl rfl)) pgs_nil))) (pss_one (ps_if (PW.pt (pw_and (pt_cmpR op_ne (pv 4) (pe_gint rfl T.g_STRAIGHT) (nomark _)) (pw_and1 (pt_cmpR op_notIn_seq (pe_ix ix_list (pv 2) (pv 3) (fun _ _ => rfl)) (pe_tup (pa_cons (pe_gint rfl T.g_ANY) (pa_cons (pv 4) pa_nil))) (by with_unfolding_all rfl))))) (pss_one (ps_ret (pe_op op_add (pv 3) pe_int))) pss_nil)))
      (pss_one (ps_ret pe_int))), ?_⟩
    refine ⟨_, rfl, _, rfl, a, b, xs, ys, rfl, hA, hB, lxy, two, most, by_, fun H1 r s1 nr er => ⟨r, _, rfl, SqL.of er, ?_⟩⟩
    have sl : (Loft.standings xs ys).length = sh.length := by
      rw [st_len _ _ lxy]
      omega
    refine for_enum (K := K) (a := r) (xs := ((Loft.standings xs ys).map LoftFairSeed.standCode).map V.int) (fun i σ H' => ∃ v3 v4, σ = [some (.ref a), some (.ref b), some (.ref c), v3, v4] ∧ Same H1 H' ∧ fu sh (Loft.standings xs ys) 0 = fu (sh.drop i) ((Loft.standings xs ys).drop i) i)
      ⟨none, none, rfl, Same.refl H1, rfl⟩ (fun i σ H' _ ⟨_, _, _, s2, _⟩ => SqL.of (s2 _ _ er)) ?_ ?_
    · rintro i x σ H' Tp hi ⟨v3, v4, rfl, s2, e⟩ hT
      obtain ⟨z, hz, rfl⟩ := get_int hi
      rw [List.getElem?_map] at hz
      cases ed : (Loft.standings xs ys)[i]? with
      | none => rw [ed] at hz; cases hz
      | some d =>
        rw [ed] at hz
        have hz : LoftFairSeed.standCode d = z := Option.some.inj hz
        have il : i < sh.length := by rw [← sl]; exact lt_of_get ed
        have hc : sh[i]? = some sh[i] := by simp
        have bc := bs _ (List.mem_of_getElem? hc)
        have ac := as_code (d := d) bc
        generalize hcc : sh[i] = cc at hc bc ac
        rw [hz] at ac
        rw [drop_cons hc, drop_cons ed] at e
        have e : fu sh (Loft.standings xs ys) 0 = if Loft.as_ cc.toNat d = true then fu (sh.drop (i + 1)) ((Loft.standings xs ys).drop (i + 1)) (i + 1) else ((i + 1 : Nat) : Int) := e
        have sT : Same H' (upd H' Tp (.tup [.int (i : Nat), .int z])) := (Same.refl H').new hT
        have s02 := (s1.trans s2).trans sT
        have go : Loft.as_ cc.toNat d = true → ∀ H'' : Hp, Same H' H'' → ∀ (v3 v4 : Option V), ∃ v3' v4', [some (V.ref a), some (.ref b), some (.ref c), v3, v4] = [some (V.ref a), some (.ref b), some (.ref c), v3', v4'] ∧ Same H1 H'' ∧ fu sh (Loft.standings xs ys) 0 = fu (sh.drop (i + 1)) ((Loft.standings xs ys).drop (i + 1)) (i + 1) := fun h H'' sx v3 v4 => ⟨v3, v4, rfl, s2.trans sx, by rw [e, if_pos h]⟩
        refine ⟨Tp, _, rfl, SqT.of upd_same, rfl, _, _, rfl, _, _, rfl, rfl, ?_⟩
        refine ⟨_, rfl, rfl, _, rfl, ite2 (fun c1 => ?_) (fun c1 => iteF ?_)⟩
        · have c1 : ¬ z = 3 := by simpa using c1
          refine ⟨_, rfl, _, rfl, c, _, _, _, rfl, rfl, s02.seq hC, atI_nat (get_map hc), _, rfl, (by show 2 ≤ sizeLine; decide), fun tp htp => ⟨tp, _, rfl, .inr (SqT.of upd_same), rfl, rfl, _, rfl, ?_⟩⟩
          have sx := sT.new (o := .tup [.int 0, .int z]) htp
          have hin : inV (.int cc) [.int 0, .int z] = decide (cc = 0 ∨ cc = z) := by
            show ((0 == cc) || ((z == cc) || false)) = _
            rw [Bool.or_false, Bool.eq_iff_iff, Bool.or_eq_true, decide_eq_true_iff, beq_iff_eq, beq_iff_eq]
            constructor
            · rintro (h | h)
              · exact .inl h.symm
              · exact .inr h.symm
            · rintro (h | h)
              · exact .inl h.symm
              · exact .inr h.symm
          rw [hin]
          refine ite2 (fun c2 => ?_) (fun c2 => ?_)
          · have c2 : ¬ (cc = 0 ∨ cc = z) := by simpa using c2
            have na : ¬ Loft.as_ cc.toNat d = true := fun h => (ac.mp h).elim c1 c2
            have k' := k _ ((s1.trans s2).trans sx)
            rw [e, if_neg na] at k'
            exact ⟨_, rfl, _, _, rfl, rfl, k'⟩
          · have c2 : cc = 0 ∨ cc = z := by
              simp at c2
              omega
            exact go (ac.mpr (.inr c2)) _ sx _ _
        · have c1 : z = 3 := by simpa using c1
          exact go (ac.mpr (.inl c1)) _ sT _ _
    · rintro σ H' ⟨v3, v4, rfl, s2, e⟩
      rw [List.length_map, List.length_map, sl, List.drop_length] at e
      have k' := k H' (s1.trans s2)
      rw [e] at k'
      exact k'
def fitB (sh ms : List Int) : Bool := decide (fnbM 3 sh 0 = none) && decide (fnbM 16 ms 0 = none)
theorem all_within {n : Nat} {l : List Int} : (l.all fun (c : Int) => LoftFairSeed.within c (n + 1)) = decide (fnbM (n : Int) l 0 = none) := by
  rw [Bool.eq_iff_iff, List.all_eq_true, decide_eq_true_iff, fnbM_none]
  refine forall_congr' fun y => forall_congr' fun _ => ?_
  rw [within_nat]
  omega
theorem ofLine_gen {S : State} {way k : Int} {wn : Bool × Bool} {h m : List Int} {f : Loft.Table → Loft.Line → LoftFairSeed.Answer} :
    LoftFairSeed.ofLine S way k wn h m f = if refCode S way k (fitB h m) ≠ 0 then [refCode S way k (fitB h m)] else match S with
      | none => []
      | some Tb => if (wn.1 = true ∧ h.length + 2 ≠ (Tb.whole way.toNat k.toNat).xs.length) ∨ (wn.2 = true ∧ m.length ≠ (Tb.whole way.toNat k.toNat).xs.length) then [-9] else f Tb (Tb.whole way.toNat k.toNat) := by
  cases S with
  | none => rfl
  | some Tb =>
    rw [ref_of]
    show (if LoftFairSeed.within way 2 = false ∨ (h.all fun (c : Int) => LoftFairSeed.within c (3 + 1)) = false ∨ (m.all fun (c : Int) => LoftFairSeed.within c (16 + 1)) = false then LoftFairSeed.no 1 else if LoftFairSeed.within k (Tb.lines way.toNat) = false then LoftFairSeed.no 4 else if (wn.1 = true ∧ h.length + 2 ≠ (Tb.whole way.toNat k.toNat).xs.length) ∨ (wn.2 = true ∧ m.length ≠ (Tb.whole way.toNat k.toNat).xs.length) then LoftFairSeed.no 9 else f Tb (Tb.whole way.toNat k.toNat)) = _
    rw [all_within, all_within]
    have e : (LoftFairSeed.within way 2 = false ∨ decide (fnbM ((3 : Nat) : Int) h 0 = none) = false ∨ decide (fnbM ((16 : Nat) : Int) m 0 = none) = false) ↔ (LoftFairSeed.within way 2 = false ∨ fitB h m = false) := by
      unfold fitB
      rw [Bool.and_eq_false_iff]
      rfl
    by_cases c1 : LoftFairSeed.within way 2 = false ∨ fitB h m = false
    · rw [if_pos c1, if_pos (e.mpr c1), if_pos (by decide)]
      rfl
    · rw [if_neg c1, if_neg (fun z => c1 (e.mp z))]
      by_cases c2 : LoftFairSeed.within k (Tb.lines way.toNat) = false
      · rw [if_pos c2, if_pos c2, if_pos (by decide)]
        rfl
      · rw [if_neg c2, if_neg c2, if_neg (show ¬ ((0 : Int) ≠ 0) by decide)]
        rfl
end FL

end
section
set_option Elab.async false
set_option linter.all false
set_option maxRecDepth 100000
set_option maxHeartbeats 4000000
namespace FL
open PySem PySem.Spec PyProof.Rows L2
variable {P : Program} {w : World} {K : PySem.W.Frag} {mg : Str → Option Value} {base : Heap} {t : Adr}
theorem and_rd {t1 t2 : TE} {σ : L2.St} {H : Hp} {Q : VK} {b1 b2 : Bool} (h1 : ∀ Q' : VK, (∀ H' : Hp, Same H H' → Q' (.bl b1) H') → t1 σ H Q') (h2 : ∀ (H1 : Hp) (Q' : VK), Same H H1 → (∀ H' : Hp, Same H1 H' → Q' (.bl b2) H') → t2 σ H1 Q') (h : ∀ H' : Hp, Same H H' → Q (.bl (b1 && b2)) H') : tAndV t1 t2 σ H Q :=
  h1 _ fun H1 s1 => ⟨b1, rfl, by
    cases b1 with
    | true => exact iteT (h2 H1 _ s1 fun H2 s2 => h H2 (s1.trans s2))
    | false => exact iteF (h H1 s1)⟩
def sp_Loft_judge (K : PySem.W.Frag) (t : Adr) : Sp := fun vs H Q _ => ∃ (L c : Addr) (own : Addr → Prop) (way k : Int) (sh : List Int) (S : State), vs = [.ref L, .int way, .int k, .ref c] ∧ Rel t H L S own ∧ SqL K H c (sh.map V.int) ∧ NewInts H (LoftFairSeed.step S (.judge way k sh)).2 Q
theorem fit_sh (sh : List Int) : fitB sh [] = decide (fnbM 3 sh 0 = none) := by
  unfold fitB
  rw [show decide (fnbM 16 [] 0 = none) = true from rfl, Bool.and_true]
theorem fit_all {sh ms : List Int} (h : fitB sh ms = true) : (∀ c ∈ sh, 0 ≤ c ∧ c ≤ 3) ∧ ∀ m ∈ ms, 0 ≤ m ∧ m ≤ 16 := by
  unfold fitB at h
  rw [Bool.and_eq_true, decide_eq_true_iff, decide_eq_true_iff] at h
  exact ⟨fnbM_none.mp h.1, fnbM_none.mp h.2⟩
theorem ok_Loft_judge (T : Txt K mg t) : FnOk P w K mg base CX0 3 t.f_Loft_judge t.d_Loft_judge ["self", "way", "k", "shape"] (sp_Loft_judge K t) := by
  refine T.fn_Loft_judge.ok sc_Loft_judge (fun vs H Q E h => ?_) (fun cdv A outer s H vs Q E hr h => ?_)
  · obtain ⟨L, c, own, way, k, sh, S, rfl, _⟩ := h
    rfl
  · obtain ⟨L, c, own, way, k, sh, S, rfl, hR, hC, q⟩ := h
    obtain ⟨dx, v, hL⟩ := hR.at
    rw [step_judge, ofLine_gen, fit_sh] at q
    refine ⟨_, (pss_cons (ps_set (i := 4) sc_Loft_judge.nd rfl (Or.inl rfl) (pe_meth (pv 0) T.cl_Loft T.mt_Loft_refusal (ok_Loft_refusal T) hr T.b_Loft_refusal .nil pass0 (pa_cons (pv 1) (pa_cons (pv 2) (pa_cons (pe_cmp (pc_isN (pe_call (ok_first_beyond T) (hr.mono (by decide : 1 ≤ 2)) rfl T.m_first_beyond T.fn_first_beyond.kp T.b_first_beyond .nil pass0 (pa_cons (pv 3) (pa_cons (pe_gint rfl T.g_GREATEST_WISH) pa_nil))))) pa_nil)))))
      (pss_cons (ps_if (pt_cmpR op_ne (pv 4) pe_int (nomark _)) (pss_one (ps_ret (pe_lst (pa_cons (pv 4) pa_nil)))) pss_nil)
      (pss_cons (ps_set (i := 5) sc_Loft_judge.nd rfl (Or.inl rfl) (pe_meth (pe_fld (pv 0) rfl) T.cl_Table T.mt_Table_nail_xs (ok_Table_nail_xs T) (hr.mono (by decide : 1 ≤ 2)) T.b_Table_nail_xs .nil pass0 (pa_cons (pv 1) pa_nil)))
      (pss_cons (ps_if (pt_cmpR op_ne (pe_callB call_lenS rfl T.n_len PySem.boot_len (pa_cons (pv 3) pa_nil)) (pe_op op_sub (pe_callB call_lenS rfl T.n_len PySem.boot_len (pa_cons (pv 5) pa_nil)) pe_int) (nomark _)) (pss_one (ps_ret (pe_lst (pa_cons (pe_gint rfl T.g_WRONG_LENGTH) pa_nil)))) pss_nil)
      (pss_one (ps_ret (pe_lst (pa_cons pe_int (pa_cons (pe_call (ok_first_unfair T) hr rfl T.m_first_unfair T.fn_first_unfair.kp T.b_first_unfair .nil pass0 (pa_cons (pv 5) (pa_cons (pe_meth (pe_fld (pv 0) rfl) T.cl_Table T.mt_Table_nail_ys (ok_Table_nail_ys T) hr T.b_Table_nail_ys .nil pass0 (pa_cons (pv 1) (pa_cons (pv 2) pa_nil))) (pa_cons (pv 3) pa_nil)))) pa_nil))))))))), ?_⟩
    refine ⟨_, rfl, L, dx, _, rfl, hL, rfl, _, rfl, _, rfl, _, rfl, c, sh, 3, rfl, hC, fun H0 s0 => ?_⟩
    refine ⟨L, own, way, k, decide (fnbM 3 sh 0 = none), S, by rw [optV_non]; rfl, hR.same s0, fun H1 s1 => ?_⟩
    have s01 := s0.trans s1
    refine ⟨_, rfl, rfl, _, rfl, ite2 (fun z => ?_) (fun z => ?_)⟩
    · have z' : refCode S way k (decide (fnbM 3 sh 0 = none)) ≠ 0 := by simpa using z
      rw [if_pos z'] at q
      exact ⟨_, rfl, (q.mono s01).lst1⟩
    · have z' : refCode S way k (decide (fnbM 3 sh 0 = none)) = 0 := by simpa using z
      rw [if_neg (fun y => y z')] at q
      obtain ⟨Tb, rfl, hf, hw⟩ := ref_zero z'
      obtain ⟨p, ys, ba, ⟨dx2, hL2⟩, hT, ok, _⟩ := hR
      have lo := line_ok ok hw
      have q : NewInts H (if (true = true ∧ sh.length + 2 ≠ (Tb.whole way.toNat k.toNat).xs.length) ∨ (false = true ∧ ([] : List Int).length ≠ (Tb.whole way.toNat k.toNat).xs.length) then [-9] else [0, match (Tb.whole way.toNat k.toNat).wrong (nt sh) with | some i => (i : Int) | none => 0]) Q := q
      obtain ⟨⟨dxT, pa, ha, h1, h2, h3, m1, m2⟩, h4⟩ := id (hT.same s01)
      refine ⟨_, rfl, L, _, dx2, _, _, rfl, s01 _ _ hL2, T.cl_Loft, T.na_Loft_table, lf_ta _, p, dxT, _, rfl, h1, rfl, _, rfl, p, way, Tb.xs, Tb.zs, ys, ba, rfl, hT.same s01, fun H3 r3 s3 n3 e3 => ?_⟩
      have s03 := s01.trans s3
      rw [lo.xs_eq] at q
      refine ⟨_, rfl, _, _, rfl, .inl (s03.seq hC), _, rfl, _, _, rfl, .inl (SqL.of e3), _, _, rfl, rfl, rfl, _, rfl, ite2 (fun z2 => ?_) (fun z2 => ?_)⟩
      · have z2 : sh.length + 2 ≠ (if way = 0 then Tb.xs else Tb.zs).length := by
          rw [List.length_map, List.length_map] at z2
          simp at z2
          intro y
          omega
        rw [if_pos (.inl ⟨rfl, z2⟩)] at q
        exact (q.mono s03).lst1
      · have z2 : sh.length + 2 = (if way = 0 then Tb.xs else Tb.zs).length := by
          rw [List.length_map, List.length_map] at z2
          simp at z2
          have := lo.l2
          omega
        rw [if_neg (by rintro (⟨_, y⟩ | ⟨y, _⟩); exact y z2; cases y)] at q
        have q : NewInts H [0, fu sh (Loft.standings (Tb.whole way.toNat k.toNat).xs (Tb.whole way.toNat k.toNat).ys) 0] Q := by
          rw [← wrong_eq]
          exact q
        rw [lo.xs_eq, lo.ys_eq] at q
        refine ⟨_, rfl, _, rfl, L, _, dx2, _, _, rfl, s03 _ _ hL2, T.cl_Loft, T.na_Loft_table, lf_ta _, p, dxT, _, rfl, s3 _ _ h1, rfl, _, rfl, _, rfl, p, way, k, Tb.xs, Tb.zs, ys, ba, rfl, (hT.same s01).same s3, ok.n24, ok.m16, lo.ins, fun H4 r4 s4 n4 e4 => ?_⟩
        have s04 := s03.trans s4
        have ell : (if way = 0 then Tb.xs else Tb.zs).length = ((spotsL way k Tb.xs.length Tb.zs.length).map (atL ys)).length := by rw [List.length_map, lo.len]
        have hf' : fitB sh [] = true := by rw [fit_sh]; exact hf
        refine ⟨_, rfl, r3, r4, c, _, _, sh, rfl, SqL.of (s4 _ _ e3), SqL.of e4, s04.seq hC, ell, lo.l2, lo.l24, line_bd ok lo, z2, (fit_all hf').1, fun H5 s5 => ?_⟩
        exact (q.mono (s04.trans s5)).lst2
def rmCode (S : State) (way k : Int) (sh ms : List Int) : Int := if refCode S way k (fitB sh ms) ≠ 0 then refCode S way k (fitB sh ms) else match S with
  | none => 0
  | some Tb => if sh.length + 2 ≠ (Tb.whole way.toNat k.toNat).xs.length ∨ ms.length ≠ (Tb.whole way.toNat k.toNat).xs.length then -9 else 0
def sp_Loft_refusal_of_moving (K : PySem.W.Frag) (t : Adr) : Sp := fun vs H Q _ => ∃ (L c d : Addr) (own : Addr → Prop) (way k : Int) (sh ms : List Int) (S : State), vs = [.ref L, .int way, .int k, .ref c, .ref d] ∧ Rel t H L S own ∧ SqL K H c (sh.map V.int) ∧ SqL K H d (ms.map V.int) ∧ ∀ H' : Hp, Same H H' → Q (.int (rmCode S way k sh ms)) H'
theorem ok_Loft_refusal_of_moving (T : Txt K mg t) : FnOk P w K mg base CX0 3 t.f_Loft_refusal_of_moving t.d_Loft_refusal_of_moving ["self", "way", "k", "shape", "moves"] (sp_Loft_refusal_of_moving K t) := by
  refine T.fn_Loft_refusal_of_moving.ok sc_Loft_refusal_of_moving (fun vs H Q E h => ?_) (fun cdv A outer s H vs Q E hr h => ?_)
  · obtain ⟨L, c, d, own, way, k, sh, ms, S, rfl, _⟩ := h
    rfl
  · obtain ⟨L, c, d, own, way, k, sh, ms, S, rfl, hR, hC, hD, q⟩ := h
    obtain ⟨dx, v, hL⟩ := hR.at
    refine ⟨_, (pss_cons (ps_set (i := 5) sc_Loft_refusal_of_moving.nd rfl (Or.inl rfl) (pe_and (pe_cmp (pc_isN (pe_call (ok_first_beyond T) (hr.mono (by decide : 1 ≤ 2)) rfl T.m_first_beyond T.fn_first_beyond.kp T.b_first_beyond .nil pass0 (pa_cons (pv 3) (pa_cons (pe_gint rfl T.g_GREATEST_WISH) pa_nil))))) (pe_one (pe_cmp (pc_isN (pe_call (ok_first_beyond T) (hr.mono (by decide : 1 ≤ 2)) rfl T.m_first_beyond T.fn_first_beyond.kp T.b_first_beyond .nil pass0 (pa_cons (pv 4) (pa_cons (pe_gint rfl T.g_FARTHEST) pa_nil))))))))
      (pss_cons (ps_set (i := 6) sc_Loft_refusal_of_moving.nd rfl (Or.inl rfl) (pe_meth (pv 0) T.cl_Loft T.mt_Loft_refusal (ok_Loft_refusal T) hr T.b_Loft_refusal .nil pass0 (pa_cons (pv 1) (pa_cons (pv 2) (pa_cons (pv 5) pa_nil)))))
      (pss_cons (ps_if (pt_cmpR op_ne (pv 6) pe_int (nomark _)) (pss_one (ps_ret (pv 6))) pss_nil)
      (pss_cons (ps_set (i := 7) sc_Loft_refusal_of_moving.nd rfl (Or.inl rfl) (pe_callB call_lenS rfl T.n_len PySem.boot_len (pa_cons (pe_meth (pe_fld (pv 0) rfl) T.cl_Table T.mt_Table_nail_xs (ok_Table_nail_xs T) (hr.mono (by decide : 1 ≤ 2)) T.b_Table_nail_xs .nil pass0 (pa_cons (pv 1) pa_nil)) pa_nil)))
      (pss_cons (ps_if (PW.pt (pw_or (pt_cmpR op_ne (pe_callB call_lenS rfl T.n_len PySem.boot_len (pa_cons (pv 3) pa_nil)) (pe_op op_sub (pv 7) pe_int) (nomark _)) (pw_or1 (pt_cmpR op_ne (pe_callB call_lenS rfl T.n_len PySem.boot_len (pa_cons (pv 4) pa_nil)) (pv 7) (nomark _))))) (pss_one (ps_ret (pe_gint rfl T.g_WRONG_LENGTH))) pss_nil)
      (pss_one (ps_ret pe_int))))))), ?_⟩
    show tAndV _ _ _ _ _
    refine and_rd (b1 := decide (fnbM 3 sh 0 = none)) (b2 := decide (fnbM 16 ms 0 = none)) (fun Q' kk => ⟨_, rfl, c, sh, 3, rfl, hC, fun H0 s0 => ?_⟩) (fun H0 Q' s0 kk => ⟨_, rfl, d, ms, 16, rfl, s0.seq hD, fun H1 s1 => ?_⟩) fun H0 s0 => ?_
    · show Q' (.bl (decide (optV (fnbM 3 sh 0) = V.non))) H0
      rw [optV_non]
      exact kk H0 s0
    · show Q' (.bl (decide (optV (fnbM 16 ms 0) = V.non))) H1
      rw [optV_non]
      exact kk H1 s1
    refine ⟨_, rfl, L, dx, _, rfl, s0 _ _ hL, rfl, _, rfl, _, rfl, _, rfl, L, own, way, k, fitB sh ms, S, rfl, hR.same s0, fun H1 s1 => ?_⟩
    have s01 := s0.trans s1
    refine ⟨_, rfl, rfl, _, rfl, ite2 (fun z => ?_) (fun z => ?_)⟩
    · have z' : refCode S way k (fitB sh ms) ≠ 0 := by simpa using z
      have q' := q H1 s01
      unfold rmCode at q'
      rw [if_pos z'] at q'
      exact ⟨_, rfl, q'⟩
    · have z' : refCode S way k (fitB sh ms) = 0 := by simpa using z
      obtain ⟨Tb, rfl, hf, hw⟩ := ref_zero z'
      obtain ⟨p, ys, ba, ⟨dx2, hL2⟩, hT, ok, _⟩ := hR
      have lo := line_ok ok hw
      have eq0 : rmCode (some Tb) way k sh ms = if sh.length + 2 ≠ (if way = 0 then Tb.xs else Tb.zs).length ∨ ms.length ≠ (if way = 0 then Tb.xs else Tb.zs).length then -9 else 0 := by
        unfold rmCode
        rw [if_neg (fun y => y z')]
        show (if sh.length + 2 ≠ (Tb.whole way.toNat k.toNat).xs.length ∨ ms.length ≠ (Tb.whole way.toNat k.toNat).xs.length then (-9 : Int) else 0) = _
        rw [lo.xs_eq]
      rw [eq0] at q
      obtain ⟨⟨dxT, pa, ha, h1, h2, h3, m1, m2⟩, h4⟩ := id (hT.same s01)
      have l2 := lo.l2
      generalize hX : (if way = 0 then Tb.xs else Tb.zs) = X at *
      refine ⟨_, rfl, L, _, dx2, _, _, rfl, s01 _ _ hL2, T.cl_Loft, T.na_Loft_table, lf_ta _, p, dxT, _, rfl, h1, rfl, _, rfl, p, way, Tb.xs, Tb.zs, ys, ba, rfl, hT.same s01, fun H3 r3 s3 n3 e3 => ?_⟩
      rw [hX] at e3
      have s03 := s01.trans s3
      refine ⟨_, _, rfl, .inl (SqL.of e3), ?_⟩
      refine ⟨_, rfl, _, _, rfl, .inl (s03.seq hC), _, rfl, _, _, rfl, rfl, rfl, _, rfl, ite2 (fun z2 => iteT ?_) (fun z2 => ?_)⟩
      · rw [List.length_map, List.length_map] at z2
        have z2 : sh.length + 2 ≠ X.length := by
          simp at z2
          omega
        have q' := q H3 s03
        rw [if_pos (.inl z2)] at q'
        exact q'
      · rw [List.length_map, List.length_map] at z2
        have z2 : sh.length + 2 = X.length := by
          simp at z2
          omega
        refine ⟨_, rfl, _, _, rfl, .inl (s03.seq hD), _, rfl, rfl, _, rfl, ite2 (fun z3 => ?_) (fun z3 => ?_)⟩
        · rw [List.length_map, List.length_map] at z3
          have z3 : ms.length ≠ X.length := by
            simp at z3
            omega
          have q' := q H3 s03
          rw [if_pos (.inr z3)] at q'
          exact q'
        · rw [List.length_map, List.length_map] at z3
          have z3 : ms.length = X.length := by
            simp at z3
            omega
          have q' := q H3 s03
          rw [if_neg (by rintro (y | y); exact y z2; exact y z3)] at q'
          exact q'
theorem rm_zero {S : State} {way k : Int} {sh ms : List Int} (h : rmCode S way k sh ms = 0) : ∃ Tb, S = some Tb ∧ refCode S way k (fitB sh ms) = 0 ∧ fitB sh ms = true ∧ sh.length + 2 = (Tb.whole way.toNat k.toNat).xs.length ∧ ms.length = (Tb.whole way.toNat k.toNat).xs.length ∧ ((way = 0 ∧ ∃ j : Nat, k = j ∧ j < Tb.zs.length) ∨ (way = 1 ∧ ∃ j : Nat, k = j ∧ j < Tb.xs.length)) := by
  unfold rmCode at h
  by_cases z : refCode S way k (fitB sh ms) ≠ 0
  · rw [if_pos z] at h
    exact absurd h z
  · rw [if_neg z] at h
    have z' := Decidable.not_not.mp z
    obtain ⟨Tb, rfl, hf, hw⟩ := ref_zero z'
    have h : (if sh.length + 2 ≠ (Tb.whole way.toNat k.toNat).xs.length ∨ ms.length ≠ (Tb.whole way.toNat k.toNat).xs.length then (-9 : Int) else 0) = 0 := h
    by_cases y : sh.length + 2 ≠ (Tb.whole way.toNat k.toNat).xs.length ∨ ms.length ≠ (Tb.whole way.toNat k.toNat).xs.length
    · rw [if_pos y] at h
      exact absurd h (by decide)
    · refine ⟨Tb, rfl, z', hf, ?_, ?_, hw⟩
      · exact Decidable.not_not.mp fun x => y (.inl x)
      · exact Decidable.not_not.mp fun x => y (.inr x)
theorem ofLine_rm {S : State} {way k : Int} {sh ms : List Int} {f : Loft.Table → Loft.Line → LoftFairSeed.Answer} (h : rmCode S way k sh ms ≠ 0) : LoftFairSeed.ofLine S way k (true, true) sh ms f = [rmCode S way k sh ms] := by
  rw [ofLine_gen]
  unfold rmCode at *
  by_cases z : refCode S way k (fitB sh ms) ≠ 0
  · rw [if_pos z, if_pos z]
  · rw [if_neg z] at h ⊢
    rw [if_neg z]
    cases S with
    | none => exact absurd rfl h
    | some Tb =>
      have h : (if sh.length + 2 ≠ (Tb.whole way.toNat k.toNat).xs.length ∨ ms.length ≠ (Tb.whole way.toNat k.toNat).xs.length then (-9 : Int) else 0) ≠ 0 := h
      show (if (true = true ∧ sh.length + 2 ≠ (Tb.whole way.toNat k.toNat).xs.length) ∨ (true = true ∧ ms.length ≠ (Tb.whole way.toNat k.toNat).xs.length) then [-9] else f Tb (Tb.whole way.toNat k.toNat)) = [if sh.length + 2 ≠ (Tb.whole way.toNat k.toNat).xs.length ∨ ms.length ≠ (Tb.whole way.toNat k.toNat).xs.length then (-9 : Int) else 0]
      by_cases y : sh.length + 2 ≠ (Tb.whole way.toNat k.toNat).xs.length ∨ ms.length ≠ (Tb.whole way.toNat k.toNat).xs.length
      · rw [if_pos y, if_pos]
        rcases y with y | y
        · exact .inl ⟨rfl, y⟩
        · exact .inr ⟨rfl, y⟩
      · rw [if_neg y] at h
        exact absurd rfl h
theorem ofLine_rm0 {Tb : Loft.Table} {way k : Int} {sh ms : List Int} {f : Loft.Table → Loft.Line → LoftFairSeed.Answer} (h : rmCode (some Tb) way k sh ms = 0) : LoftFairSeed.ofLine (some Tb) way k (true, true) sh ms f = f Tb (Tb.whole way.toNat k.toNat) := by
  obtain ⟨Tb', e, h1, _, h2, h3, _⟩ := rm_zero h
  cases e
  rw [ofLine_gen, if_neg (fun y => y h1)]
  show (if (true = true ∧ sh.length + 2 ≠ (Tb.whole way.toNat k.toNat).xs.length) ∨ (true = true ∧ ms.length ≠ (Tb.whole way.toNat k.toNat).xs.length) then [-9] else f Tb (Tb.whole way.toNat k.toNat)) = _
  rw [if_neg]
  rintro (⟨_, y⟩ | ⟨_, y⟩)
  · exact y h2
  · exact y h3
theorem ro_of {Tb : Loft.Table} {ys : List Int} {way k : Int} {sh ms : List Int} (ok : TabOk Tb ys) (h : rmCode (some Tb) way k sh ms = 0) : LineOk Tb ys way k ∧ RO (Tb.whole way.toNat k.toNat).xs (Tb.whole way.toNat k.toNat).ys sh ms := by
  obtain ⟨Tb', e, h1, hf, h2, h3, hw⟩ := rm_zero h
  cases e
  have lo := line_ok ok hw
  obtain ⟨f1, f2⟩ := fit_all hf
  refine ⟨lo, ⟨?_, ?_, ?_, h3, h2, ?_, ?_, f2, f1⟩, ?_⟩
  · show 2 ≤ (Tb.whole way.toNat k.toNat).xs.length
    rw [lo.xs_eq]
    exact lo.l2
  · show (Tb.whole way.toNat k.toNat).xs.length ≤ 24
    rw [lo.xs_eq]
    exact lo.l24
  · show (Tb.whole way.toNat k.toNat).ys.length = (Tb.whole way.toNat k.toNat).xs.length
    rw [lo.xs_eq, lo.ys_eq, List.length_map, lo.len]
  · show Ris (Tb.whole way.toNat k.toNat).xs
    rw [lo.xs_eq]
    by_cases c : way = 0
    · rw [if_pos c]
      exact ok.rx
    · rw [if_neg c]
      exact ok.rz
  · show ∀ y ∈ (Tb.whole way.toNat k.toNat).ys, 0 ≤ y ∧ y ≤ 1048575
    rw [lo.ys_eq]
    exact line_bd ok lo
  · rw [lo.xs_eq]
    exact lo.bx
def sp_Loft_room (K : PySem.W.Frag) (t : Adr) : Sp := fun vs H Q _ => ∃ (L c d : Addr) (own : Addr → Prop) (way k : Int) (sh ms : List Int) (Tb : Loft.Table), vs = [.ref L, .int way, .int k, .ref c, .ref d] ∧ Rel t H L (some Tb) own ∧ SqL K H c (sh.map V.int) ∧ SqL K H d (ms.map V.int) ∧ rmCode (some Tb) way k sh ms = 0 ∧
  ∀ (H' : Hp) (r : Addr), Same H H' → RoomAt K t.c_Room H' r (Tb.whole way.toNat k.toNat).xs (Tb.whole way.toNat k.toNat).ys sh ms → RO (Tb.whole way.toNat k.toNat).xs (Tb.whole way.toNat k.toNat).ys sh ms → Q (.ref r) H'
theorem ok_Loft_room (T : Txt K mg t) : FnOk P w K mg base CX0 4 t.f_Loft_room t.d_Loft_room ["self", "way", "k", "shape", "moves"] (sp_Loft_room K t) := by
  refine T.fn_Loft_room.ok sc_Loft_room (fun vs H Q E h => ?_) (fun cdv A outer s H vs Q E hr h => ?_)
  · obtain ⟨L, c, d, own, way, k, sh, ms, Tb, rfl, _⟩ := h
    rfl
  · obtain ⟨L, c, d, own, way, k, sh, ms, Tb, rfl, hR, hC, hD, hz, q⟩ := h
    obtain ⟨p, ys, ba, ⟨dx2, hL2⟩, hT, ok, _⟩ := hR
    obtain ⟨lo, ro⟩ := ro_of ok hz
    obtain ⟨⟨dxT, pa, ha, h1, h2, h3, m1, m2⟩, h4⟩ := id hT
    refine ⟨_, (pss_one (ps_ret (pe_make T.mk_Room (ok_Room___init__ T) hr rfl T.m_Room T.b_Room___init__ .nil pass0 (pa_cons (pe_meth (pe_fld (pv 0) rfl) T.cl_Table T.mt_Table_nail_xs (ok_Table_nail_xs T) (hr.mono (by decide : 1 ≤ 3)) T.b_Table_nail_xs .nil pass0 (pa_cons (pv 1) pa_nil)) (pa_cons (pe_meth (pe_fld (pv 0) rfl) T.cl_Table T.mt_Table_nail_ys (ok_Table_nail_ys T) (hr.mono (by decide : 2 ≤ 3)) T.b_Table_nail_ys .nil pass0 (pa_cons (pv 1) (pa_cons (pv 2) pa_nil))) (pa_cons (pv 3) (pa_cons (pv 4) pa_nil))))))), ?_⟩
    refine ⟨_, rfl, L, _, dx2, _, _, rfl, hL2, T.cl_Loft, T.na_Loft_table, lf_ta _, p, dxT, _, rfl, h1, rfl, _, rfl, p, way, Tb.xs, Tb.zs, ys, ba, rfl, hT, fun H3 r3 s3 n3 e3 => ?_⟩
    refine ⟨_, rfl, L, _, dx2, _, _, rfl, s3 _ _ hL2, T.cl_Loft, T.na_Loft_table, lf_ta _, p, dxT, _, rfl, s3 _ _ h1, rfl, _, rfl, _, rfl, p, way, k, Tb.xs, Tb.zs, ys, ba, rfl, hT.same s3, ok.n24, ok.m16, lo.ins, fun H4 r4 s4 n4 e4 => ?_⟩
    rw [← lo.xs_eq] at e3
    rw [← lo.ys_eq] at e4
    have s04 := s3.trans s4
    refine ⟨_, rfl, _, rfl, fun x dx nx ndx ne => ?_⟩
    have sM := made_same (C := t.c_Room) nx ndx
    refine ⟨x, dx, r3, r4, c, d, _, _, sh, ms, rfl, upd_same, SqL.of (sM _ _ (s4 _ _ e3)), SqL.of (sM _ _ e4), (s04.trans sM).seq hC, (s04.trans sM).seq hD, ro.bds, fun H5 hR5 k5 => ⟨rfl, ?_⟩⟩
    exact q H5 x (s04.trans (Same.made nx ndx k5)) hR5 ro
def spMv (K : PySem.W.Frag) (t : Adr) (f : Int → Int → List Int → List Int → LoftFairSeed.Call) : Sp := fun vs H Q _ => ∃ (L c d : Addr) (own : Addr → Prop) (way k : Int) (sh ms : List Int) (S : State), vs = [.ref L, .int way, .int k, .ref c, .ref d] ∧ Rel t H L S own ∧ SqL K H c (sh.map V.int) ∧ SqL K H d (ms.map V.int) ∧ NewInts H (LoftFairSeed.step S (f way k sh ms)).2 Q
theorem ok_Loft_many (T : Txt K mg t) : FnOk P w K mg base CX0 8 t.f_Loft_many t.d_Loft_many ["self", "way", "k", "shape", "moves"] (spMv K t .many) := by
  refine T.fn_Loft_many.ok sc_Loft_many (fun vs H Q E h => ?_) (fun cdv A outer s H vs Q E hr h => ?_)
  · obtain ⟨L, c, d, own, way, k, sh, ms, S, rfl, _⟩ := h
    rfl
  · obtain ⟨L, c, d, own, way, k, sh, ms, S, rfl, hR, hC, hD, q⟩ := h
    obtain ⟨dx, v, hL⟩ := hR.at
    rw [step_many] at q
    refine ⟨_, (pss_cons (ps_set (i := 5) sc_Loft_many.nd rfl (Or.inl rfl) (pe_meth (pv 0) T.cl_Loft T.mt_Loft_refusal_of_moving (ok_Loft_refusal_of_moving T) (hr.mono (by decide : 3 ≤ 7)) T.b_Loft_refusal_of_moving .nil pass0 (pa_cons (pv 1) (pa_cons (pv 2) (pa_cons (pv 3) (pa_cons (pv 4) pa_nil))))))
      (pss_cons (ps_if (pt_cmpR op_ne (pv 5) pe_int (nomark _)) (pss_one (ps_ret (pe_lst (pa_cons (pv 5) pa_nil)))) pss_nil)
      (pss_one (ps_ret (pe_lst (pa_cons pe_int (pa_cons (pe_call (ok_how_many_fair T) hr rfl T.m_how_many_fair T.fn_how_many_fair.kp T.b_how_many_fair .nil pass0 (pa_cons (pe_meth (pv 0) T.cl_Loft T.mt_Loft_room (ok_Loft_room T) (hr.mono (by decide : 4 ≤ 7)) T.b_Loft_room .nil pass0 (pa_cons (pv 1) (pa_cons (pv 2) (pa_cons (pv 3) (pa_cons (pv 4) pa_nil))))) pa_nil)) pa_nil))))))), ?_⟩
    refine ⟨_, rfl, L, dx, _, rfl, hL, rfl, _, rfl, _, rfl, _, rfl, _, rfl, L, c, d, own, way, k, sh, ms, S, rfl, hR, hC, hD, fun H1 s1 => ?_⟩
    refine ⟨_, rfl, rfl, _, rfl, ite2 (fun z => ?_) (fun z => ?_)⟩
    · have z' : rmCode S way k sh ms ≠ 0 := by simpa using z
      rw [ofLine_rm z'] at q
      exact ⟨_, rfl, (q.mono s1).lst1⟩
    · have z' : rmCode S way k sh ms = 0 := by simpa using z
      obtain ⟨Tb, rfl, _⟩ := rm_zero z'
      rw [ofLine_rm0 z'] at q
      refine ⟨_, rfl, L, dx, _, rfl, s1 _ _ hL, rfl, _, rfl, _, rfl, _, rfl, _, rfl, L, c, d, own, way, k, sh, ms, Tb, rfl, hR.same s1, s1.seq hC, s1.seq hD, z', fun H2 r s2 hRm ro => ?_⟩
      refine ⟨r, _, _, sh, ms, rfl, hRm, ro, fun H3 s3 => ?_⟩
      have e := many_spec ro.ok
      have q : NewInts H [0, (Loft.many ((Tb.whole way.toNat k.toNat).spots (nt ms) 16) (nt sh) : Int)] Q := q
      rw [← e] at q
      exact (q.mono ((s1.trans s2).trans s3)).lst2
theorem ok_Loft_none (T : Txt K mg t) : FnOk P w K mg base CX0 7 t.f_Loft_none t.d_Loft_none ["self", "way", "k", "shape", "moves"] (spMv K t .none_) := by
  refine T.fn_Loft_none.ok sc_Loft_none (fun vs H Q E h => ?_) (fun cdv A outer s H vs Q E hr h => ?_)
  · obtain ⟨L, c, d, own, way, k, sh, ms, S, rfl, _⟩ := h
    rfl
  · obtain ⟨L, c, d, own, way, k, sh, ms, S, rfl, hR, hC, hD, q⟩ := h
    obtain ⟨dx, v, hL⟩ := hR.at
    rw [step_none] at q
    refine ⟨_, (pss_cons (ps_set (i := 5) sc_Loft_none.nd rfl (Or.inl rfl) (pe_meth (pv 0) T.cl_Loft T.mt_Loft_refusal_of_moving (ok_Loft_refusal_of_moving T) (hr.mono (by decide : 3 ≤ 6)) T.b_Loft_refusal_of_moving .nil pass0 (pa_cons (pv 1) (pa_cons (pv 2) (pa_cons (pv 3) (pa_cons (pv 4) pa_nil))))))
      (pss_cons (ps_if (pt_cmpR op_ne (pv 5) pe_int (nomark _)) (pss_one (ps_ret (pe_lst (pa_cons (pv 5) pa_nil)))) pss_nil)
      (pss_one (ps_ret (pe_lst (pa_cons pe_int (pa_cons (pe_call (ok_nails_showing_none T) hr rfl T.m_nails_showing_none T.fn_nails_showing_none.kp T.b_nails_showing_none .nil pass0 (pa_cons (pe_meth (pv 0) T.cl_Loft T.mt_Loft_room (ok_Loft_room T) (hr.mono (by decide : 4 ≤ 6)) T.b_Loft_room .nil pass0 (pa_cons (pv 1) (pa_cons (pv 2) (pa_cons (pv 3) (pa_cons (pv 4) pa_nil))))) pa_nil)) pa_nil))))))), ?_⟩
    refine ⟨_, rfl, L, dx, _, rfl, hL, rfl, _, rfl, _, rfl, _, rfl, _, rfl, L, c, d, own, way, k, sh, ms, S, rfl, hR, hC, hD, fun H1 s1 => ?_⟩
    refine ⟨_, rfl, rfl, _, rfl, ite2 (fun z => ?_) (fun z => ?_)⟩
    · have z' : rmCode S way k sh ms ≠ 0 := by simpa using z
      rw [ofLine_rm z'] at q
      exact ⟨_, rfl, (q.mono s1).lst1⟩
    · have z' : rmCode S way k sh ms = 0 := by simpa using z
      obtain ⟨Tb, rfl, _⟩ := rm_zero z'
      rw [ofLine_rm0 z'] at q
      refine ⟨_, rfl, L, dx, _, rfl, s1 _ _ hL, rfl, _, rfl, _, rfl, _, rfl, _, rfl, L, c, d, own, way, k, sh, ms, Tb, rfl, hR.same s1, s1.seq hC, s1.seq hD, z', fun H2 r s2 hRm ro => ?_⟩
      refine ⟨r, _, _, sh, ms, rfl, hRm, ro, fun H3 v s3 hv => ?_⟩
      have q : NewInts H [0, match (Tb.whole way.toNat k.toNat).few (nt sh) (nt ms) with | some m => (m : Int) | none => 0] Q := q
      have e : (match (Tb.whole way.toNat k.toNat).few (nt sh) (nt ms) with | some m => (m : Int) | none => 0) = v := by
        rcases hv with ⟨j, j1, j2, jb, j0, rfl⟩ | ⟨jb, rfl⟩
        · rw [few_some ro.ok j1 j2 jb j0]
        · rw [few_none ro.ok jb]
      rw [e] at q
      exact (q.mono ((s1.trans s2).trans s3)).lst2
theorem ok_Loft_least (T : Txt K mg t) : FnOk P w K mg base CX0 8 t.f_Loft_least t.d_Loft_least ["self", "way", "k", "shape", "moves"] (spMv K t .least) := by
  refine T.fn_Loft_least.ok sc_Loft_least (fun vs H Q E h => ?_) (fun cdv A outer s H vs Q E hr h => ?_)
  · obtain ⟨L, c, d, own, way, k, sh, ms, S, rfl, _⟩ := h
    rfl
  · obtain ⟨L, c, d, own, way, k, sh, ms, S, rfl, hR, hC, hD, q⟩ := h
    obtain ⟨dx, v, hL⟩ := hR.at
    rw [step_least] at q
    refine ⟨_, (pss_cons (ps_set (i := 5) sc_Loft_least.nd rfl (Or.inl rfl) (pe_meth (pv 0) T.cl_Loft T.mt_Loft_refusal_of_moving (ok_Loft_refusal_of_moving T) (hr.mono (by decide : 3 ≤ 7)) T.b_Loft_refusal_of_moving .nil pass0 (pa_cons (pv 1) (pa_cons (pv 2) (pa_cons (pv 3) (pa_cons (pv 4) pa_nil))))))
      (pss_cons (ps_if (pt_cmpR op_ne (pv 5) pe_int (nomark _)) (pss_one (ps_ret (pe_lst (pa_cons (pv 5) pa_nil)))) pss_nil)
      (pss_cons (ps_set (i := 6) sc_Loft_least.nd rfl (Or.inl rfl) (pe_call (ok_nearest T) hr rfl T.m_nearest T.fn_nearest.kp T.b_nearest .nil pass0 (pa_cons (pe_meth (pv 0) T.cl_Loft T.mt_Loft_room (ok_Loft_room T) (hr.mono (by decide : 4 ≤ 7)) T.b_Loft_room .nil pass0 (pa_cons (pv 1) (pa_cons (pv 2) (pa_cons (pv 3) (pa_cons (pv 4) pa_nil))))) pa_nil)))
      (pss_cons (ps_if (pt_cmp (pc_isN (pv 6))) (pss_one (ps_ret (pe_lst (pa_cons (pe_gint rfl T.g_NONE_FAIR) pa_nil)))) pss_nil)
      (pss_one (ps_ret (pe_op op_cat (pe_lst (pa_cons pe_int pa_nil)) (pv 6)))))))), ?_⟩
    refine ⟨_, rfl, L, dx, _, rfl, hL, rfl, _, rfl, _, rfl, _, rfl, _, rfl, L, c, d, own, way, k, sh, ms, S, rfl, hR, hC, hD, fun H1 s1 => ?_⟩
    refine ⟨_, rfl, rfl, _, rfl, ite2 (fun z => ?_) (fun z => ?_)⟩
    · have z' : rmCode S way k sh ms ≠ 0 := by simpa using z
      rw [ofLine_rm z'] at q
      exact ⟨_, rfl, (q.mono s1).lst1⟩
    · have z' : rmCode S way k sh ms = 0 := by simpa using z
      obtain ⟨Tb, rfl, _⟩ := rm_zero z'
      rw [ofLine_rm0 z'] at q
      refine ⟨_, rfl, L, dx, _, rfl, s1 _ _ hL, rfl, _, rfl, _, rfl, _, rfl, _, rfl, L, c, d, own, way, k, sh, ms, Tb, rfl, hR.same s1, s1.seq hC, s1.seq hD, z', fun H2 r s2 hRm ro => ?_⟩
      have s02 := s1.trans s2
      have q : NewInts H (match (Tb.whole way.toNat k.toNat).nearest (nt sh) (nt ms) with
        | some m => 0 :: ([(Loft.greatest (Loft.moves (Tb.whole way.toNat k.toNat).ys m) : Int), (Loft.sum (Loft.moves (Tb.whole way.toNat k.toNat).ys m) : Int)] ++ m)
        | none => [-5]) Q := q
      have most := ro.ok.most
      generalize hl : Tb.whole way.toNat k.toNat = l at *
      refine ⟨r, _, _, sh, ms, rfl, hRm, ro, fun g H3 s3 => ?_, fun g m em H3 r3 s3 n3 e3 => ?_⟩
      · rw [(gr_spec ro.ok).2.1 g] at q
        exact ⟨_, rfl, _, rfl, iteT (q.mono (s02.trans s3)).lst1⟩
      · obtain ⟨_, m', em', _, lm, en, eg, es⟩ := least_some ro.ok g
        have e0 : m' = m := em'.symm.trans em
        subst e0
        rw [en] at q
        have q : NewInts H (0 :: ([(Loft.greatest (Loft.moves l.ys m') : Int), (Loft.sum (Loft.moves l.ys m') : Int)] ++ m')) Q := q
        rw [eg, es] at q
        have s03 := s02.trans s3
        refine ⟨_, rfl, _, rfl, iteF ⟨(by show 1 ≤ sizeLine; decide), fun r0 n0 => ?_⟩⟩
        have e4 : (upd H3 r0 (.lst [.int 0])) r3 = some (.lst (([GR ⟨l.xs, l.ys⟩ sh ms, ((m'.zip l.ys).map fun (u : Int × Int) => absI (u.1 - u.2)).sum] ++ m').map V.int)) := by
          rw [upd_ne (ne_of_none e3 n0)]
          exact e3
        refine ⟨_, rfl, r0, r3, _, _, rfl, rfl, upd_same, e4, ?_, fun r4 n4 => ?_⟩
        · have lm : m'.length = l.xs.length := lm
          have most : l.xs.length ≤ 24 := most
          exact Nat.le_of_lt (small1000 (by simp; omega))
        · exact q _ r4 ((s03.new n0).new n4) ((s03.new n0).free n4) upd_same
end FL

end
section
set_option Elab.async false
set_option linter.all false
set_option maxRecDepth 100000
set_option maxHeartbeats 4000000
namespace FL
open PySem PySem.Spec PyProof.Rows L2
variable {P : Program} {w : World} {K : PySem.W.Frag} {mg : Str → Option Value} {base : Heap} {t : Adr}
def Moved3 (z way k : Int) (sh ms : List Int) (x : LoftFairSeed.Call) : Prop := (z = 6 ∧ x = .least way k sh ms) ∨ (z = 7 ∧ x = .many way k sh ms) ∨ (z = 8 ∧ x = .none_ way k sh ms)
def sp_answer_on_moved (K : PySem.W.Frag) (t : Adr) : Sp := fun vs H Q _ => ∃ (L R l : Addr) (own : Addr → Prop) (i i1 i2 : Nat) (ns sh ms : List Int) (S : State) (z way k : Int) (x : LoftFairSeed.Call), vs = [.ref L, .ref R, .int z, .int way, .int k] ∧ Rel t H L S own ∧ ¬ own R ∧ ReadAt t.c_Reader H R l (i : Int) ∧ Fz K H l (ns.map V.int) ∧
  RowAt ns i sh i1 ∧ RowAt ns i1 ms i2 ∧ Moved3 z way k sh ms x ∧ NextOk t H L own R l i2 (LoftFairSeed.step S x).1 (LoftFairSeed.step S x).2 Q
theorem ok_answer_on_moved (T : Txt K mg t) : FnOk P w K mg base CX0 9 t.f_answer_on_moved t.d_answer_on_moved ["loft", "reader", "call", "way", "k"] (sp_answer_on_moved K t) := by
  refine T.fn_answer_on_moved.ok sc_answer_on_moved (fun vs H Q E h => ?_) (fun cdv A outer s H vs Q E hr h => ?_)
  · obtain ⟨L, R, l, own, i, i1, i2, ns, sh, ms, S, z, way, k, x, rfl, _⟩ := h
    rfl
  · obtain ⟨L, R, l, own, i, i1, i2, ns, sh, ms, S, z, way, k, x, rfl, hR, nR, r0, fz, w1, w2, hx, q⟩ := h
    refine ⟨_, (pss_cons (ps_set (i := 5) sc_answer_on_moved.nd rfl (Or.inl rfl) (pe_meth0 (pv 1) T.cl_Reader T.mt_Reader_take_row (ok_Reader_take_row T) (hr.mono (by decide : 2 ≤ 8)) T.b_Reader_take_row .nil pass0))
      (pss_cons (ps_set (i := 6) sc_answer_on_moved.nd rfl (Or.inl rfl) (pe_meth0 (pv 1) T.cl_Reader T.mt_Reader_take_row (ok_Reader_take_row T) (hr.mono (by decide : 2 ≤ 8)) T.b_Reader_take_row .nil pass0))
      (pss_cons (ps_if (pt_cmpR op_eq (pv 2) (pe_gint rfl T.g_LEAST) (nomark _)) (pss_one (ps_ret (pe_meth (pv 0) T.cl_Loft T.mt_Loft_least (ok_Loft_least T) hr T.b_Loft_least .nil pass0 (pa_cons (pv 3) (pa_cons (pv 4) (pa_cons (pv 5) (pa_cons (pv 6) pa_nil))))))) pss_nil)
      (pss_cons (ps_if (pt_cmpR op_eq (pv 2) (pe_gint rfl T.g_MANY) (nomark _)) (pss_one (ps_ret (pe_meth (pv 0) T.cl_Loft T.mt_Loft_many (ok_Loft_many T) hr T.b_Loft_many .nil pass0 (pa_cons (pv 3) (pa_cons (pv 4) (pa_cons (pv 5) (pa_cons (pv 6) pa_nil))))))) pss_nil)
      (pss_one (ps_ret (pe_meth (pv 0) T.cl_Loft T.mt_Loft_none (ok_Loft_none T) (hr.mono (by decide : 7 ≤ 8)) T.b_Loft_none .nil pass0 (pa_cons (pv 3) (pa_cons (pv 4) (pa_cons (pv 5) (pa_cons (pv 6) pa_nil))))))))))), ?_⟩
    obtain ⟨m1, a1, b1, rfl, rfl⟩ := w1
    obtain ⟨m2, a2, b2, rfl, rfl⟩ := w2
    obtain ⟨d0, e0⟩ := id r0
    refine ⟨_, rfl, R, d0, _, rfl, e0, rfl, R, l, i, m1, ns, rfl, r0, fz.seq, a1, b1, fun H1 p1 r1 s1 n1 c1 => ?_⟩
    have fz1 := fz.but s1 (live_ins e0)
    obtain ⟨d1, e1⟩ := id r1
    refine ⟨_, rfl, R, d1, _, rfl, e1, rfl, R, l, _, m2, ns, rfl, r1, fz1.seq, a2, b2, fun H2 p2 r2 s2 n2 c2 => ?_⟩
    have s02 : SameBut R H H2 := s1.trans s2
    have hR2 := hR.reader r0 s02
    obtain ⟨dx, v, hL2⟩ := hR2.at
    have k1 : p1 ≠ R := ne_of c1 e1 (by intro z; cases z)
    have c1' := s2 _ _ c1 k1
    have dn := q.done hR nR r0 s02 r2
    refine ⟨_, rfl, rfl, _, rfl, ite2 (fun z1 => ?_) (fun z1 => ?_)⟩
    · have z1 : z = 6 := by simpa using z1
      have ex : x = .least way k ((ns.drop (i + 1)).take m1) ((ns.drop (i + 1 + m1 + 1)).take m2) := by
        rcases hx with ⟨_, h⟩ | ⟨h, _⟩ | ⟨h, _⟩
        · exact h
        · omega
        · omega
      subst ex
      exact ⟨_, rfl, L, dx, _, rfl, hL2, rfl, _, rfl, _, rfl, _, rfl, _, rfl, L, p1, p2, own, way, k, _, _, S, rfl, hR2, SqL.of c1', SqL.of c2, Done.same hR2 dn⟩
    · have z1 : ¬ z = 6 := by simpa using z1
      refine ⟨_, rfl, rfl, _, rfl, ite2 (fun z2 => ?_) (fun z2 => ?_)⟩
      · have z2 : z = 7 := by simpa using z2
        have ex : x = .many way k ((ns.drop (i + 1)).take m1) ((ns.drop (i + 1 + m1 + 1)).take m2) := by
          rcases hx with ⟨h, _⟩ | ⟨_, h⟩ | ⟨h, _⟩
          · omega
          · exact h
          · omega
        subst ex
        exact ⟨_, rfl, L, dx, _, rfl, hL2, rfl, _, rfl, _, rfl, _, rfl, _, rfl, L, p1, p2, own, way, k, _, _, S, rfl, hR2, SqL.of c1', SqL.of c2, Done.same hR2 dn⟩
      · have z2 : ¬ z = 7 := by simpa using z2
        have ex : x = .none_ way k ((ns.drop (i + 1)).take m1) ((ns.drop (i + 1 + m1 + 1)).take m2) := by
          rcases hx with ⟨h, _⟩ | ⟨h, _⟩ | ⟨_, h⟩
          · omega
          · omega
          · exact h
        subst ex
        exact ⟨_, rfl, L, dx, _, rfl, hL2, rfl, _, rfl, _, rfl, _, rfl, _, rfl, L, p1, p2, own, way, k, _, _, S, rfl, hR2, SqL.of c1', SqL.of c2, Done.same hR2 dn⟩
theorem Rel.live {H : Hp} {L : Addr} {S : State} {own : Addr → Prop} (h : Rel t H L S own) : Rel t H L S (fun b => own b ∧ ∃ o, H b = some o) := by
  cases S with
  | none => exact h
  | some Tb =>
    obtain ⟨p, ys, ba, h1, ⟨⟨dxT, pa, ha, t1, t2, t3, m1, m2⟩, t4⟩, h3, ob, dxo, pao, hao, o1, o2, o3⟩ := h
    have z := Option.some.inj (t1.symm.trans o1)
    injection z with _ _ z
    have e1 : (V.ref pa) = V.ref pao := Option.some.inj ((tf_pl pa ha ba).symm.trans ((congrArg (fun l => List.lookup ("places" : Str) l) z).trans (tf_pl pao hao ba)))
    have e2 : (V.ref ha) = V.ref hao := Option.some.inj ((tf_he pa ha ba).symm.trans ((congrArg (fun l => List.lookup ("heights" : Str) l) z).trans (tf_he pao hao ba)))
    cases e1
    cases e2
    exact ⟨p, ys, ba, h1, ⟨⟨dxT, pa, ha, t1, t2, t3, m1, m2⟩, t4⟩, h3, ⟨ob, _, t4⟩, dxo, pa, ha, o1, ⟨o2, _, t2⟩, o3, _, t3⟩
theorem Done.less {H : Hp} {L : Addr} {own own2 : Addr → Prop} {S' : State} {ans : List Int} {Q : VK} (h : Done t H L own S' ans Q) (k : ∀ b, own2 b → own b) : Done t H L own2 S' ans Q :=
  fun H' r own' q1 q2 q3 q4 q5 => h H' r own' q1 (fun b z => (q2 b z).elim (fun y => .inl (k b y)) .inr) (fun b o e n1 n2 => q3 b o e n1 fun y => n2 (k b y)) q4 q5
def sp_answer_on_line (K : PySem.W.Frag) (t : Adr) : Sp := fun vs H Q _ => ∃ (L R l : Addr) (own : Addr → Prop) (i i' : Nat) (ns : List Int) (S : State) (z : Int) (x : LoftFairSeed.Call), vs = [.ref L, .ref R, .int z] ∧ Rel t H L S own ∧ ¬ own R ∧ ReadAt t.c_Reader H R l ((i + 1 : Nat) : Int) ∧ Fz K H l (ns.map V.int) ∧ ns.length ≤ 17000 ∧
  CallAt ns i x i' ∧ ns[i]? = some z ∧ z ≠ 1 ∧ NextOk t H L own R l i' (LoftFairSeed.step S x).1 (LoftFairSeed.step S x).2 Q
theorem call_way {ns : List Int} {i i' : Nat} {x : LoftFairSeed.Call} {z : Int} (h : CallAt ns i x i') (hz : ns[i]? = some z) (h1 : z ≠ 1) : ∃ way k, ns[i + 1]? = some way ∧ ns[i + 2]? = some k ∧
    ((z = 2 ∧ x = .line way k ∧ i' = i + 3) ∨ (z = 3 ∧ ∃ us, x = .put way k us ∧ RowAt ns (i + 3) us i') ∨ (z = 4 ∧ x = .stands way k ∧ i' = i + 3) ∨ (z = 5 ∧ ∃ sh, x = .judge way k sh ∧ RowAt ns (i + 3) sh i') ∨
      ((z = 6 ∨ z = 7 ∨ z = 8) ∧ ∃ sh ms i1, Moved3 z way k sh ms x ∧ RowAt ns (i + 3) sh i1 ∧ RowAt ns i1 ms i')) := by
  have key : ∀ {c : Int}, ns[i]? = some c → z = c := fun e => Option.some.inj (hz.symm.trans e)
  cases x with
  | make xs zs ys =>
    obtain ⟨h0, _⟩ := h
    exact absurd (key h0) h1
  | line way k =>
    obtain ⟨h0, h2, h3, rfl⟩ := h
    exact ⟨way, k, h2, h3, .inl ⟨key h0, rfl, rfl⟩⟩
  | put way k us =>
    obtain ⟨h0, h2, h3, h⟩ := h
    exact ⟨way, k, h2, h3, .inr (.inl ⟨key h0, us, rfl, h⟩)⟩
  | stands way k =>
    obtain ⟨h0, h2, h3, rfl⟩ := h
    exact ⟨way, k, h2, h3, .inr (.inr (.inl ⟨key h0, rfl, rfl⟩))⟩
  | judge way k sh =>
    obtain ⟨h0, h2, h3, h⟩ := h
    exact ⟨way, k, h2, h3, .inr (.inr (.inr (.inl ⟨key h0, sh, rfl, h⟩)))⟩
  | least way k sh ms =>
    obtain ⟨h0, h2, h3, i1, h4, h5⟩ := h
    exact ⟨way, k, h2, h3, .inr (.inr (.inr (.inr ⟨.inl (key h0), sh, ms, i1, .inl ⟨key h0, rfl⟩, h4, h5⟩)))⟩
  | many way k sh ms =>
    obtain ⟨h0, h2, h3, i1, h4, h5⟩ := h
    exact ⟨way, k, h2, h3, .inr (.inr (.inr (.inr ⟨.inr (.inl (key h0)), sh, ms, i1, .inr (.inl ⟨key h0, rfl⟩), h4, h5⟩)))⟩
  | none_ way k sh ms =>
    obtain ⟨h0, h2, h3, i1, h4, h5⟩ := h
    exact ⟨way, k, h2, h3, .inr (.inr (.inr (.inr ⟨.inr (.inr (key h0)), sh, ms, i1, .inr (.inr ⟨key h0, rfl⟩), h4, h5⟩)))⟩
theorem NextOk.but {H H1 : Hp} {L : Addr} {own : Addr → Prop} {R l : Addr} {i' : Nat} {S' : State} {ans : List Int} {Q : VK} (h : NextOk t H L own R l i' S' ans Q) (s : SameBut R H H1) (r1 : ∃ o, H1 R = some o) : NextOk t H1 L own R l i' S' ans Q := by
  obtain ⟨o1, r1⟩ := r1
  have nn : ∀ b, H1 b = none → H b = none := fun b z => by
    cases e : H b with
    | none => rfl
    | some o =>
      have y := s.ns e z
      rw [y, r1] at z
      cases z
  exact fun H' r own' q1 q2 q3 q4 q5 q6 => h H' r own' q1 q2 (fun b z => (q3 b z).elim .inl fun y => .inr (nn b y)) (fun b o e b1 b2 b3 => q4 b o (s b o e b3) b1 b2 b3) (nn r q5) q6
theorem row_len {ns : List Int} {i i' : Nat} {us : List Int} (h : RowAt ns i us i') : us.length ≤ ns.length := by
  obtain ⟨m, _, _, rfl, _⟩ := h
  rw [List.length_take, List.length_drop]
  omega
theorem ok_answer_on_line (T : Txt K mg t) : FnOk P w K mg base CX0 10 t.f_answer_on_line t.d_answer_on_line ["loft", "reader", "call"] (sp_answer_on_line K t) := by
  refine T.fn_answer_on_line.ok sc_answer_on_line (fun vs H Q E h => ?_) (fun cdv A outer s H vs Q E hr h => ?_)
  · obtain ⟨L, R, l, own, i, i', ns, S, z, x, rfl, _⟩ := h
    rfl
  · obtain ⟨L, R, l, own, i, i', ns, S, z, x, rfl, hR, nR, r0, fz, hlen, hc, hz, hz1, q⟩ := h
    obtain ⟨way, k, g1, g2, hx⟩ := call_way hc hz hz1
    refine ⟨_, (pss_cons (ps_set (i := 3) sc_answer_on_line.nd rfl (Or.inl rfl) (pe_meth0 (pv 1) T.cl_Reader T.mt_Reader_take_number (ok_Reader_take_number T) (hr.mono (by decide : 1 ≤ 9)) T.b_Reader_take_number .nil pass0))
      (pss_cons (ps_set (i := 4) sc_answer_on_line.nd rfl (Or.inl rfl) (pe_meth0 (pv 1) T.cl_Reader T.mt_Reader_take_number (ok_Reader_take_number T) (hr.mono (by decide : 1 ≤ 9)) T.b_Reader_take_number .nil pass0))
      (pss_cons (ps_if (pt_cmpR op_eq (pv 2) (pe_gint rfl T.g_LINE) (nomark _)) (pss_one (ps_ret (pe_meth (pv 0) T.cl_Loft T.mt_Loft_line (ok_Loft_line T) (hr.mono (by decide : 3 ≤ 9)) T.b_Loft_line .nil pass0 (pa_cons (pv 3) (pa_cons (pv 4) pa_nil))))) pss_nil)
      (pss_cons (ps_if (pt_cmpR op_eq (pv 2) (pe_gint rfl T.g_PUT) (nomark _)) (pss_one (ps_ret (pe_meth (pv 0) T.cl_Loft T.mt_Loft_put (ok_Loft_put T) (hr.mono (by decide : 3 ≤ 9)) T.b_Loft_put .nil pass0 (pa_cons (pv 3) (pa_cons (pv 4) (pa_cons (pe_meth0 (pv 1) T.cl_Reader T.mt_Reader_take_row (ok_Reader_take_row T) (hr.mono (by decide : 2 ≤ 9)) T.b_Reader_take_row .nil pass0) pa_nil)))))) pss_nil)
      (pss_cons (ps_if (pt_cmpR op_eq (pv 2) (pe_gint rfl T.g_STANDS) (nomark _)) (pss_one (ps_ret (pe_meth (pv 0) T.cl_Loft T.mt_Loft_stands (ok_Loft_stands T) (hr.mono (by decide : 3 ≤ 9)) T.b_Loft_stands .nil pass0 (pa_cons (pv 3) (pa_cons (pv 4) pa_nil))))) pss_nil)
      (pss_cons (ps_if (pt_cmpR op_eq (pv 2) (pe_gint rfl T.g_JUDGE) (nomark _)) (pss_one (ps_ret (pe_meth (pv 0) T.cl_Loft T.mt_Loft_judge (ok_Loft_judge T) (hr.mono (by decide : 3 ≤ 9)) T.b_Loft_judge .nil pass0 (pa_cons (pv 3) (pa_cons (pv 4) (pa_cons (pe_meth0 (pv 1) T.cl_Reader T.mt_Reader_take_row (ok_Reader_take_row T) (hr.mono (by decide : 2 ≤ 9)) T.b_Reader_take_row .nil pass0) pa_nil)))))) pss_nil)
      (pss_one (ps_ret (pe_call (ok_answer_on_moved T) hr rfl T.m_answer_on_moved T.fn_answer_on_moved.kp T.b_answer_on_moved .nil pass0 (pa_cons (pv 0) (pa_cons (pv 1) (pa_cons (pv 2) (pa_cons (pv 3) (pa_cons (pv 4) pa_nil)))))))))))))), ?_⟩
    obtain ⟨d0, e0⟩ := id r0
    refine ⟨_, rfl, R, d0, _, rfl, e0, rfl, R, l, i + 1, ns, way, rfl, r0, fz.seq, g1, fun H1 r1 s1 => ?_⟩
    have fz1 := fz.but s1 (live_ins e0)
    obtain ⟨d1, e1⟩ := id r1
    refine ⟨_, rfl, R, d1, _, rfl, e1, rfl, R, l, i + 1 + 1, ns, k, rfl, r1, fz1.seq, g2, fun H2 r2 s2 => ?_⟩
    have fz2 := fz1.but s2 (live_ins e1)
    obtain ⟨d2, e2⟩ := id r2
    have s02 : SameBut R H H2 := s1.trans s2
    have hR2 := hR.reader r0 s02
    obtain ⟨dx, v, hL2⟩ := hR2.at
    refine ⟨_, rfl, rfl, _, rfl, ite2 (fun z1 => ?_) (fun z1 => ?_)⟩
    · have z1 : z = 2 := by simpa using z1
      have ex : x = .line way k ∧ i' = i + 3 := by
        rcases hx with ⟨_, h⟩ | ⟨h, _⟩ | ⟨h, _⟩ | ⟨h, _⟩ | ⟨h, _⟩
        · exact h
        all_goals omega
      obtain ⟨rfl, rfl⟩ := ex
      exact ⟨_, rfl, L, dx, _, rfl, hL2, rfl, _, rfl, _, rfl, L, own, way, k, S, rfl, hR2, Done.same hR2 (q.done hR nR r0 s02 r2)⟩
    · have z1 : ¬ z = 2 := by simpa using z1
      refine ⟨_, rfl, rfl, _, rfl, ite2 (fun z2 => ?_) (fun z2 => ?_)⟩
      · have z2 : z = 3 := by simpa using z2
        have ex : ∃ us, x = .put way k us ∧ RowAt ns (i + 3) us i' := by
          rcases hx with ⟨h, _⟩ | ⟨_, h⟩ | ⟨h, _⟩ | ⟨h, _⟩ | ⟨h, _⟩
          · omega
          · exact h
          all_goals omega
        obtain ⟨us, rfl, hrow⟩ := ex
        have hul := row_len hrow
        obtain ⟨m1, a1, b1, rfl, rfl⟩ := hrow
        refine ⟨_, rfl, L, dx, _, rfl, hL2, rfl, _, rfl, _, rfl, _, rfl, R, d2, _, rfl, e2, rfl, R, l, i + 3, m1, ns, rfl, r2, fz2.seq, a1, b1, fun H3 p3 r3 s3 n3 c3 => ?_⟩
        have s03 := s02.trans s3
        have hR3 := hR2.live.reader r2 s3
        exact ⟨L, p3, _, way, k, _, S, rfl, hR3, SqL.of c3, (fun z => by obtain ⟨_, o, eo⟩ := z; rw [n3] at eo; cases eo), (by omega), (q.done hR nR r0 s03 r3).less fun b z => z.1⟩
      · have z2 : ¬ z = 3 := by simpa using z2
        refine ⟨_, rfl, rfl, _, rfl, ite2 (fun z3 => ?_) (fun z3 => ?_)⟩
        · have z3 : z = 4 := by simpa using z3
          have ex : x = .stands way k ∧ i' = i + 3 := by
            rcases hx with ⟨h, _⟩ | ⟨h, _⟩ | ⟨_, h⟩ | ⟨h, _⟩ | ⟨h, _⟩
            · omega
            · omega
            · exact h
            all_goals omega
          obtain ⟨rfl, rfl⟩ := ex
          exact ⟨_, rfl, L, dx, _, rfl, hL2, rfl, _, rfl, _, rfl, L, own, way, k, S, rfl, hR2, Done.same hR2 (q.done hR nR r0 s02 r2)⟩
        · have z3 : ¬ z = 4 := by simpa using z3
          refine ⟨_, rfl, rfl, _, rfl, ite2 (fun z4 => ?_) (fun z4 => ?_)⟩
          · have z4 : z = 5 := by simpa using z4
            have ex : ∃ sh, x = .judge way k sh ∧ RowAt ns (i + 3) sh i' := by
              rcases hx with ⟨h, _⟩ | ⟨h, _⟩ | ⟨h, _⟩ | ⟨_, h⟩ | ⟨h, _⟩
              · omega
              · omega
              · omega
              · exact h
              · omega
            obtain ⟨sh, rfl, hrow⟩ := ex
            obtain ⟨m1, a1, b1, rfl, rfl⟩ := hrow
            refine ⟨_, rfl, L, dx, _, rfl, hL2, rfl, _, rfl, _, rfl, _, rfl, R, d2, _, rfl, e2, rfl, R, l, i + 3, m1, ns, rfl, r2, fz2.seq, a1, b1, fun H3 p3 r3 s3 n3 c3 => ?_⟩
            have s03 := s02.trans s3
            have hR3 := hR.reader r0 s03
            exact ⟨L, p3, own, way, k, _, S, rfl, hR3, SqL.of c3, Done.same hR3 (q.done hR nR r0 s03 r3)⟩
          · have z4 : ¬ z = 5 := by simpa using z4
            have ex : ∃ sh ms i1, Moved3 z way k sh ms x ∧ RowAt ns (i + 3) sh i1 ∧ RowAt ns i1 ms i' := by
              rcases hx with ⟨h, _⟩ | ⟨h, _⟩ | ⟨h, _⟩ | ⟨h, _⟩ | ⟨_, h⟩
              · omega
              · omega
              · omega
              · omega
              · exact h
            obtain ⟨sh, ms, i1, hm, w1, w2⟩ := ex
            exact ⟨_, rfl, _, rfl, _, rfl, _, rfl, _, rfl, L, R, l, own, i + 3, i1, i', ns, sh, ms, S, z, way, k, x, rfl, hR2, nR, r2, fz2, w1, w2, hm, q.but s02 ⟨_, e2⟩⟩
def sp_answer_next (K : PySem.W.Frag) (t : Adr) : Sp := fun vs H Q _ => ∃ (L R l : Addr) (own : Addr → Prop) (i i' : Nat) (ns : List Int) (S : State) (x : LoftFairSeed.Call), vs = [.ref L, .ref R] ∧ Rel t H L S own ∧ ¬ own R ∧ ReadAt t.c_Reader H R l (i : Int) ∧ Fz K H l (ns.map V.int) ∧ ns.length ≤ 17000 ∧
  CallAt ns i x i' ∧ NextOk t H L own R l i' (LoftFairSeed.step S x).1 (LoftFairSeed.step S x).2 Q
theorem call_num {ns : List Int} {i i' : Nat} {x : LoftFairSeed.Call} (h : CallAt ns i x i') : ∃ z, ns[i]? = some z ∧ 1 ≤ z ∧ z ≤ 8 ∧ (z = 1 → ∃ xs zs ys i1 i2, x = .make xs zs ys ∧ RowAt ns (i + 1) xs i1 ∧ RowAt ns i1 zs i2 ∧ RowAt ns i2 ys i') := by
  cases x with
  | make xs zs ys =>
    obtain ⟨h0, i1, i2, w1, w2, w3⟩ := h
    exact ⟨1, h0, by omega, by omega, fun _ => ⟨xs, zs, ys, i1, i2, rfl, w1, w2, w3⟩⟩
  | line way k => exact ⟨2, h.1, by omega, by omega, fun z => by omega⟩
  | put way k us => exact ⟨3, h.1, by omega, by omega, fun z => by omega⟩
  | stands way k => exact ⟨4, h.1, by omega, by omega, fun z => by omega⟩
  | judge way k sh => exact ⟨5, h.1, by omega, by omega, fun z => by omega⟩
  | least way k sh ms => exact ⟨6, h.1, by omega, by omega, fun z => by omega⟩
  | many way k sh ms => exact ⟨7, h.1, by omega, by omega, fun z => by omega⟩
  | none_ way k sh ms => exact ⟨8, h.1, by omega, by omega, fun z => by omega⟩
theorem ok_answer_next (T : Txt K mg t) : FnOk P w K mg base CX0 11 t.f_answer_next t.d_answer_next ["loft", "reader"] (sp_answer_next K t) := by
  refine T.fn_answer_next.ok sc_answer_next (fun vs H Q E h => ?_) (fun cdv A outer s H vs Q E hr h => ?_)
  · obtain ⟨L, R, l, own, i, i', ns, S, x, rfl, _⟩ := h
    rfl
  · obtain ⟨L, R, l, own, i, i', ns, S, x, rfl, hR, nR, r0, fz, hlen, hc, q⟩ := h
    obtain ⟨z, hz, z1, z8, hmk⟩ := call_num hc
    refine ⟨_, (pss_cons (ps_set (i := 2) sc_answer_next.nd rfl (Or.inl rfl) (pe_meth0 (pv 1) T.cl_Reader T.mt_Reader_take_number (ok_Reader_take_number T) (hr.mono (by decide : 1 ≤ 10)) T.b_Reader_take_number .nil pass0))
      (pss_cons (ps_if (pt_not (pt_chain op_le op_le (pe_gint rfl T.g_MAKE) (pv 2) (pe_gint rfl T.g_NONE))) (pss_one ps_never) pss_nil)
      (pss_cons (ps_if (pt_cmpR op_eq (pv 2) (pe_gint rfl T.g_MAKE) (nomark _)) (pss_one (ps_ret (pe_call (ok_answer_make T) (hr.mono (by decide : 4 ≤ 10)) rfl T.m_answer_make T.fn_answer_make.kp T.b_answer_make .nil pass0 (pa_cons (pv 0) (pa_cons (pv 1) pa_nil))))) pss_nil)
      (pss_one (ps_ret (pe_call (ok_answer_on_line T) hr rfl T.m_answer_on_line T.fn_answer_on_line.kp T.b_answer_on_line .nil pass0 (pa_cons (pv 0) (pa_cons (pv 1) (pa_cons (pv 2) pa_nil))))))))), ?_⟩
    obtain ⟨d0, e0⟩ := id r0
    refine ⟨_, rfl, R, d0, _, rfl, e0, rfl, R, l, i, ns, z, rfl, r0, fz.seq, hz, fun H1 r1 s1 => ?_⟩
    have fz1 := fz.but s1 (live_ins e0)
    obtain ⟨d1, e1⟩ := id r1
    have hR1 := hR.reader r0 s1
    refine ⟨_, rfl, _, _, rfl, rfl, _, rfl, ite2 (fun c1 => ⟨_, _, rfl, rfl, _, rfl, ite2 (fun c2 => ?_) (fun c2 => ?_)⟩) (fun c1 => ?_)⟩
    · simp at c2
      omega
    · refine ⟨_, rfl, rfl, _, rfl, ite2 (fun c3 => ?_) (fun c3 => ?_)⟩
      · have c3 : z = 1 := by simpa using c3
        obtain ⟨xs, zs, ys, i1, i2, rfl, w1, w2, w3⟩ := hmk c3
        exact ⟨_, rfl, _, rfl, L, R, l, own, i + 1, i1, i2, i', ns, xs, zs, ys, S, rfl, hR1, nR, r1, fz1, w1, w2, w3, q.but s1 ⟨_, e1⟩⟩
      · have c3 : ¬ z = 1 := by simpa using c3
        exact ⟨_, rfl, _, rfl, _, rfl, L, R, l, own, i, i', ns, S, z, x, rfl, hR1, nR, r1, fz1, hlen, hc, hz, c3, q.but s1 ⟨_, e1⟩⟩
    · simp at c1
      omega
end FL

end
section
set_option Elab.async false
set_option linter.all false
set_option maxRecDepth 100000
set_option maxHeartbeats 4000000
namespace FL
open PySem PySem.Spec PyProof.Rows L2
open PySem.W (Codec)
variable {P : Program} {w : World} {K : PySem.W.Frag} {mg : Str → Option Value} {base : Heap} {t : Adr}
theorem row_le {ns : List Int} {i i' : Nat} {us : List Int} (h : RowAt ns i us i') : i' ≤ ns.length := by
  obtain ⟨m, _, h, _, rfl⟩ := h
  exact h
theorem call_le {ns : List Int} {i i' : Nat} {x : LoftFairSeed.Call} (h : CallAt ns i x i') : i < ns.length ∧ i' ≤ ns.length := by
  cases x with
  | make xs zs ys =>
    obtain ⟨h0, _, _, _, _, h⟩ := h
    exact ⟨lt_of_get h0, row_le h⟩
  | line way k =>
    obtain ⟨h0, _, h2, rfl⟩ := h
    have := lt_of_get h2
    exact ⟨lt_of_get h0, by omega⟩
  | put way k us =>
    obtain ⟨h0, _, _, h⟩ := h
    exact ⟨lt_of_get h0, row_le h⟩
  | stands way k =>
    obtain ⟨h0, _, h2, rfl⟩ := h
    have := lt_of_get h2
    exact ⟨lt_of_get h0, by omega⟩
  | judge way k h' =>
    obtain ⟨h0, _, _, h⟩ := h
    exact ⟨lt_of_get h0, row_le h⟩
  | least way k h' m =>
    obtain ⟨h0, _, _, _, _, h⟩ := h
    exact ⟨lt_of_get h0, row_le h⟩
  | many way k h' m =>
    obtain ⟨h0, _, _, _, _, h⟩ := h
    exact ⟨lt_of_get h0, row_le h⟩
  | none_ way k h' m =>
    obtain ⟨h0, _, _, _, _, h⟩ := h
    exact ⟨lt_of_get h0, row_le h⟩
def FzO (K : PySem.W.Frag) (H : Hp) (own : Addr → Prop) (l : Addr) (xs : List V) : Prop := (∃ o, H l = some (.frz o (.lst xs)) ∧ ¬ own l) ∨
  ∃ (o : Obj) (its : Array Value) (n : Nat), K.lookup l = some o ∧ o.cls = .type "list" ∧ o.dict = none ∧ o.data = .seq its n ∧ its.size ≤ sizeLine ∧ Vals xs its.toList
theorem FzO.fz {H : Hp} {own : Addr → Prop} {l : Addr} {xs : List V} (h : FzO K H own l xs) : Fz K H l xs := by
  rcases h with ⟨o, h, _⟩ | h
  · exact .inl ⟨o, h⟩
  · exact .inr h
theorem Fz.none {H : Hp} {l : Addr} {xs : List V} (h : Fz K H l xs) : FzO K H (fun _ => False) l xs := by
  rcases h with ⟨o, h⟩ | h
  · exact .inl ⟨o, h, fun z => z⟩
  · exact .inr h
theorem FzO.but {H H' : Hp} {own : Addr → Prop} {l a : Addr} {xs : List V} (h : FzO K H own l xs) (s : SameBut a H H') (v : Live H a) : FzO K H' own l xs := by
  rcases h with ⟨o, h, n⟩ | h
  · exact .inl ⟨o, s _ _ h fun z => v o _ (by rw [← z]; exact h), n⟩
  · exact .inr h
theorem Rel.tab {H : Hp} {L : Addr} {S : State} {own : Addr → Prop} (h : Rel t H L S own) : ∀ Tb, S = some Tb → ∃ ys, TabOk Tb ys := fun Tb e => by
  subst e
  obtain ⟨p, ys, ba, _, _, ok, _⟩ := h
  exact ⟨ys, ok⟩
theorem Rel.list {H H' : Hp} {L g : Addr} {S : State} {own : Addr → Prop} {gl : List V} (h : Rel t H L S own) (s : SameBut g H H') (hg : H g = some (.lst gl)) (n : ¬ own g) : Rel t H' L S own := by
  have ni : ∀ {b C dx : Addr} {fs : List (Str × V)}, H b = some (.ins C dx fs) → b ≠ g := fun e => ne_of e hg (by intro z; cases z)
  have no : ∀ {b : Addr}, own b → b ≠ g := fun e z => n (by rw [← z]; exact e)
  cases S with
  | none =>
    obtain ⟨dx, h⟩ := h
    exact ⟨dx, s _ _ h (ni h)⟩
  | some Tb =>
    obtain ⟨p, ys, ba, ⟨dx, h1⟩, ⟨⟨dxT, pa, ha, t1, t2, t3, m1, m2⟩, t4⟩, h3, ob, dxo, pao, hao, o1, o2, o3⟩ := h
    have z := Option.some.inj (t1.symm.trans o1)
    injection z with _ _ z
    have e1 : (V.ref pa) = V.ref pao := Option.some.inj ((tf_pl pa ha ba).symm.trans ((congrArg (fun l => List.lookup ("places" : Str) l) z).trans (tf_pl pao hao ba)))
    have e2 : (V.ref ha) = V.ref hao := Option.some.inj ((tf_he pa ha ba).symm.trans ((congrArg (fun l => List.lookup ("heights" : Str) l) z).trans (tf_he pao hao ba)))
    cases e1
    cases e2
    exact ⟨p, ys, ba, ⟨dx, s _ _ h1 (ni h1)⟩, ⟨⟨dxT, pa, ha, s _ _ t1 (ni t1), s _ _ t2 (no o2), s _ _ t3 (no o3), m1, m2⟩, s _ _ t4 (no ob)⟩, h3, ob, dxo, pa, ha, s _ _ o1 (ni o1), o2, o3⟩
theorem line_big {n : Nat} (h : n ≤ 1000000) : n < sizeLine := by
  rw [sizeLine_eq]
  omega
def sp_answers (K : PySem.W.Frag) : Sp := fun vs H Q _ => ∃ (a : Addr) (ns : List Int), vs = [.ref a] ∧ Fz K H a (ns.map V.int) ∧ ns.length ≤ 17000 ∧ PyWqlftc.answers_asked ns = true ∧ ∀ (H' : Hp) (p : Addr), H' p = some (.lst ((PyWqlftc.answers ns).map V.int)) → Q (.ref p) H'
theorem ok_answers (T : Txt K mg t) : FnOk P w K mg base CX0 12 t.f_answers t.d_answers ["calls"] (sp_answers K) := by
  refine T.fn_answers.ok sc_answers (fun vs H Q E h => ?_) (fun cdv A outer s H vs Q E hr h => ?_)
  · obtain ⟨a, ns, rfl, _⟩ := h
    rfl
  · obtain ⟨a, ns, rfl, fz, hlen, hask, k⟩ := h
    refine ⟨_, (pss_cons (ps_set (i := 1) sc_answers.nd rfl (Or.inl rfl) (pe_make0 T.mk_Loft (ok_Loft___init__ T) (hr.mono (by decide : 2 ≤ 11)) rfl T.m_Loft T.b_Loft___init__ .nil pass0))
      (pss_cons (ps_set (i := 2) sc_answers.nd rfl (Or.inl rfl) (pe_make T.mk_Reader (ok_Reader___init__ T) (hr.mono (by decide : 2 ≤ 11)) rfl T.m_Reader T.b_Reader___init__ .nil pass0 (pa_cons (pv 0) pa_nil)))
      (pss_cons (ps_set (i := 3) sc_answers.nd rfl (Or.inl rfl) (pe_lst pa_nil))
      (pss_cons (ps_while PassesOwn.never (pt_val (pe_meth0 (pv 2) T.cl_Reader T.mt_Reader_has_more (ok_Reader_has_more T) (hr.mono (by decide : 1 ≤ 11)) T.b_Reader_has_more .nil pass0)) (pss_cons (ps_set (i := 4) sc_answers.nd rfl (Or.inl rfl) (pe_call (ok_answer_next T) hr rfl T.m_answer_next T.fn_answer_next.kp T.b_answer_next .nil pass0 (pa_cons (pv 1) (pa_cons (pv 2) pa_nil))))
      (pss_cons (ps_expr (pe_bm PySem.F.plainAttrs_list PySem.F.slot_list_append PySem.F.type_list_append mt_append (pv 3) (pa_cons (pe_callB call_lenS rfl T.n_len PySem.boot_len (pa_cons (pv 4) pa_nil)) pa_nil)))
      (pss_one (ps_expr (pe_bm PySem.F.plainAttrs_list PySem.F.slot_list_extend PySem.F.type_list_extend mt_extend (pv 3) (pa_cons (pv 4) pa_nil)))))))
      (pss_one (ps_ret (pv 3))))))), ?_⟩
    intro L dL nL ndL neL
    refine ⟨L, dL, rfl, upd_same, fun H1 hL s1 => ⟨rfl, ?_⟩⟩
    have s01 : Same H H1 := Same.made nL ndL s1
    refine ⟨_, rfl, fun R dR nR ndR neR => ⟨R, dR, a, rfl, upd_same, fun H2 hRd s2 => ⟨rfl, ?_⟩⟩⟩
    have s12 : Same H1 H2 := Same.made nR ndR s2
    refine ⟨(by show 0 ≤ sizeLine; decide), fun g ng => ?_⟩
    have s23 : Same H2 (upd H2 g (.lst [])) := (Same.refl H2).new ng
    obtain ⟨dx, hL⟩ := hL
    obtain ⟨dr, hRd⟩ := hRd
    have hL2 := s12 _ _ hL
    have hL3 := s23 _ _ hL2
    refine ⟨fun m σ H' => ∃ (i : Nat) (S : State) (own : Addr → Prop) (gv out : List Int) (va : Option V), m = ns.length - i ∧ σ = [some (.ref a), some (.ref L), some (.ref R), some (.ref g), va] ∧ Rel t H' L S own ∧ ¬ own R ∧ ReadAt t.c_Reader H' R a (i : Int) ∧ FzO K H' own a (ns.map V.int) ∧
      H' g = some (.lst (gv.map V.int)) ∧ ¬ own g ∧ RunAt ns i S out ∧ gv ++ out = PyWqlftc.answers ns ∧ gv.length ≤ 41 * i, ⟨_, 0, LoftFairSeed.start, fun _ => False, [], PyWqlftc.answers ns, none, rfl, rfl, ⟨dx, hL3⟩, fun z => z, ⟨dr, s23 _ _ hRd⟩, (fz.same ((s01.trans s12).trans s23)).none, upd_same, fun z => z, run_of hask, rfl, Nat.zero_le _⟩, ?_⟩
    rintro m σ H' ⟨i, S, own, gv, out, va, rfl, rfl, hR, nR', rd, fo, hg, ngb, run, eo, lb⟩
    obtain ⟨d4, e4⟩ := id rd
    have fz' := fo.fz
    refine ⟨_, rfl, R, d4, _, rfl, e4, rfl, R, a, (i : Int), ns, rfl, rd, fz'.seq, _, rfl, ite2 (fun c => ?_) (fun c => ?_)⟩
    · have c' : i < ns.length := by
        have := of_decide_eq_true c
        omega
      cases run with
      | done h => omega
      | @call _ i' _ x out' hi hc run' =>
        have hi' : i' ≤ ns.length := (call_le hc).2
        refine ⟨fun σ' H'' => ∃ m', m' < ns.length - i ∧ ∃ (i : Nat) (S : State) (own : Addr → Prop) (gv out : List Int) (va : Option V), m' = ns.length - i ∧ σ' = [some (.ref a), some (.ref L), some (.ref R), some (.ref g), va] ∧ Rel t H'' L S own ∧ ¬ own R ∧ ReadAt t.c_Reader H'' R a (i : Int) ∧ FzO K H'' own a (ns.map V.int) ∧
          H'' g = some (.lst (gv.map V.int)) ∧ ¬ own g ∧ RunAt ns i S out ∧ gv ++ out = PyWqlftc.answers ns ∧ gv.length ≤ 41 * i, fun σ' H'' z => z, ?_⟩
        refine ⟨_, rfl, _, rfl, L, R, a, own, i, i', ns, S, x, rfl, hR, nR', rd, fz', hlen, hc, fun H5 r own' hR5 rd5 hba fr nr er => ?_⟩
        have n1 := hR.ne rd
        obtain ⟨dLL, vLL, hLL⟩ := hR.at
        have gL : g ≠ L := ne_of hg hLL (by intro z; cases z)
        have gR : g ≠ R := ne_of hg e4 (by intro z; cases z)
        have hg5 : H5 g = some (.lst (gv.map V.int)) := fr _ _ hg gL ngb gR
        have gb' : ¬ own' g := fun z => (hba g z).elim ngb fun y => by rw [hg] at y; cases y
        have Rb' : ¬ own' R := fun z => (hba R z).elim nR' fun y => by rw [e4] at y; cases y
        have fo5 : FzO K H5 own' a (ns.map V.int) := by
          rcases fo with ⟨o, e, na⟩ | h
          · refine .inl ⟨o, fr _ _ e (fun z => live_ins hLL o _ (by rw [← z]; exact e)) na (fun z => live_ins e4 o _ (by rw [← z]; exact e)), fun z => (hba a z).elim na fun y => by rw [e] at y; cases y⟩
          · exact .inr h
        have al := ans_len hR.tab x
        refine ⟨_, rfl, .inl ⟨rfl, _, SqL.of hg5⟩, _, rfl, _, _, rfl, .inl (SqL.of er), g, _, _, rfl, rfl, hg5, ?_, ?_⟩
        · rw [List.length_map]
          exact line_big (by omega)
        · have nrg : r ≠ g := fun e => by rw [e, hg] at nr; cases nr
          rw [List.length_map]
          generalize hG : gv.map V.int ++ [V.int ((LoftFairSeed.step S x).2.length : Int)] = gl
          have hgl : gl = (gv ++ [((LoftFairSeed.step S x).2.length : Int)]).map V.int := by rw [← hG, List.map_append]; rfl
          refine ⟨_, rfl, .inl ⟨rfl, _, SqL.of upd_same⟩, _, rfl, g, r, gl, _, rfl, rfl, upd_same, (by rw [upd_ne nrg]; exact er), ?_, ?_⟩
          · rw [hgl, List.length_map, List.length_map, List.length_append]
            exact Nat.le_of_lt (line_big (by simp; omega))
          · have s6 : SameBut g H5 (upd (upd H5 g (.lst gl)) g (.lst (gl ++ (LoftFairSeed.step S x).2.map V.int))) := ((SameBut.refl g H5).upd _).upd _
            obtain ⟨d5, e5⟩ := id rd5
            have lg := live_lst hg5
            refine ⟨ns.length - i', by omega, i', _, own', gv ++ (((LoftFairSeed.step S x).2.length : Int) :: (LoftFairSeed.step S x).2), out', _, rfl, rfl, ?_, Rb', ⟨d5, s6 _ _ e5 (ne_of e5 hg5 (by intro z; cases z))⟩, fo5.but s6 lg, ?_, gb', run', ?_, ?_⟩
            · exact hR5.list s6 hg5 gb'
            · rw [upd_same, hgl, List.map_append, List.map_append, List.map_cons, List.append_assoc]
              rfl
            · rw [← eo, List.append_assoc]
            · rw [List.length_append, List.length_cons]
              omega
    · have c' : ¬ i < ns.length := fun z => c (decide_eq_true (by omega))
      cases run with
      | done h =>
        rw [List.append_nil] at eo
        refine ⟨_, rfl, k H' g ?_⟩
        rw [hg, eo]
      | @call _ i' _ x out' hi hc run' => exact absurd (call_le hc).1 c'
theorem spec_end (K : PySem.W.Frag) (H : Hp) (hO : OnlyF H) (xs : List V) (a : Codec.denoteAll PySem.Challenge.rw_fairlines_s01_answers.args) (hwi : Codec.withinAll PySem.Challenge.rw_fairlines_s01_answers.args a = true) (hask : Codec.app PySem.Challenge.rw_fairlines_s01_answers.args PySem.Challenge.rw_fairlines_s01_answers.asked a = true) (hx : DwAll K H xs (Codec.encAll PySem.Challenge.rw_fairlines_s01_answers.args a)) :
    sp_answers K xs H (fun v H' => Dw K H' v (PySem.Challenge.rw_fairlines_s01_answers.ret.enc (Codec.app PySem.Challenge.rw_fairlines_s01_answers.args PySem.Challenge.rw_fairlines_s01_answers.f a))) fun _ _ _ => False := by
  cases hx with
  | cons h1 h2 =>
    cases h2
    cases h1 with
    | lst hs ha =>
      have e := L2.ints_dw a.1 _ ha
      subst e
      have q : ((Codec.inLen 0 17000 a.1 && a.1.all (Codec.inInt (-1000000000000000000) 1000000000000000000)) && true) = true := hwi
      rw [Bool.and_eq_true, Bool.and_eq_true] at q
      refine ⟨_, a.1, rfl, ?_, (Codec.inNat_iff.mp q.1.1).2, hask, fun H' p hp => .lst (L2.SqL.of hp) (L2.dw_ints _)⟩
      rcases hs with (h | h) | h
      · rcases hO _ with z | ⟨ob, u, z⟩
        · rw [h] at z; cases z
        · rw [h] at z; cases z
      · exact .inl h
      · exact .inr h
end FL

end
section
set_option Elab.async false
set_option linter.all false
set_option maxRecDepth 100000
set_option maxHeartbeats 4000000
namespace FL
open PySem PySem.Spec PyProof.Rows L2
theorem ln1 {us : List Value} (h : us.length = 1) : ∃ a0, us = [a0] := match us, h with | [a0], _ => ⟨a0, rfl⟩
theorem ln2 {us : List Value} (h : us.length = 2) : ∃ a0 a1, us = [a0, a1] := match us, h with | [a0, a1], _ => ⟨a0, a1, rfl⟩
theorem ln3 {us : List Value} (h : us.length = 3) : ∃ a0 a1 a2, us = [a0, a1, a2] := match us, h with | [a0, a1, a2], _ => ⟨a0, a1, a2, rfl⟩
theorem ln4 {us : List Value} (h : us.length = 4) : ∃ a0 a1 a2 a3, us = [a0, a1, a2, a3] := match us, h with | [a0, a1, a2, a3], _ => ⟨a0, a1, a2, a3, rfl⟩
theorem ln5 {us : List Value} (h : us.length = 5) : ∃ a0 a1 a2 a3 a4, us = [a0, a1, a2, a3, a4] := match us, h with | [a0, a1, a2, a3, a4], _ => ⟨a0, a1, a2, a3, a4, rfl⟩
theorem txt_mk {K : PySem.W.Frag} {h : Heap} {mg : Str → Option Value} (X : K.In h) (G : h.Ns mainGlobals mg)
    {c_Table c_Room c_Counts c_GreatestMoves c_Ranks c_Reader c_Loft f_0 f_1 f_2 f_3 f_4 f_5 f_6 f_7 f_8 f_9 f_10 f_11 f_12 f_13 f_14 f_15 f_16 f_17 f_18 f_19 f_20 f_21 f_22 f_23 f_24 f_25 f_26 f_27 f_28 f_29 f_30 f_31 f_32 f_33 f_34 f_35 f_36 f_37 f_38 f_39 f_40 f_41 f_42 f_43 f_44 f_45 f_46 f_47 f_48 f_49 f_50 f_51 f_52 f_53 f_54 f_55 f_56 f_57 f_58 f_59 f_60 f_61 f_62 f_63 : Addr}
    {oc_0 kV_0 dc_0 pm_0 cd_0 ct_0 oc_1 kV_1 dc_1 pm_1 cd_1 ct_1 oc_2 kV_2 dc_2 pm_2 cd_2 ct_2 oc_3 kV_3 dc_3 pm_3 cd_3 ct_3 oc_4 kV_4 dc_4 pm_4 cd_4 ct_4 oc_5 kV_5 dc_5 pm_5 cd_5 ct_5 oc_6 kV_6 dc_6 pm_6 cd_6 ct_6 oc_7 kV_7 dc_7 pm_7 cd_7 ct_7 oc_8 kV_8 dc_8 pm_8 cd_8 ct_8 oc_9 kV_9 dc_9 pm_9 cd_9 ct_9 oc_10 kV_10 dc_10 pm_10 cd_10 ct_10 oc_11 kV_11 dc_11 pm_11 cd_11 ct_11 oc_12 kV_12 dc_12 pm_12 cd_12 ct_12 oc_13 kV_13 dc_13 pm_13 cd_13 ct_13 oc_14 kV_14 dc_14 pm_14 cd_14 ct_14 oc_15 kV_15 dc_15 pm_15 cd_15 ct_15 oc_16 kV_16 dc_16 pm_16 cd_16 ct_16 oc_17 kV_17 dc_17 pm_17 cd_17 ct_17 oc_18 kV_18 dc_18 pm_18 cd_18 ct_18 oc_19 kV_19 dc_19 pm_19 cd_19 ct_19 oc_20 kV_20 dc_20 pm_20 cd_20 ct_20 oc_21 kV_21 dc_21 pm_21 cd_21 ct_21 oc_22 kV_22 dc_22 pm_22 cd_22 ct_22 oc_23 kV_23 dc_23 pm_23 cd_23 ct_23 oc_24 kV_24 dc_24 pm_24 cd_24 ct_24 oc_25 kV_25 dc_25 pm_25 cd_25 ct_25 oc_26 kV_26 dc_26 pm_26 cd_26 ct_26 oc_27 kV_27 dc_27 pm_27 cd_27 ct_27 oc_28 kV_28 dc_28 pm_28 cd_28 ct_28 oc_29 kV_29 dc_29 pm_29 cd_29 ct_29 oc_30 kV_30 dc_30 pm_30 cd_30 ct_30 oc_31 kV_31 dc_31 pm_31 cd_31 ct_31 oc_32 kV_32 dc_32 pm_32 cd_32 ct_32 oc_33 kV_33 dc_33 pm_33 cd_33 ct_33 oc_34 kV_34 dc_34 pm_34 cd_34 ct_34 oc_35 kV_35 dc_35 pm_35 cd_35 ct_35 oc_36 kV_36 dc_36 pm_36 cd_36 ct_36 oc_37 kV_37 dc_37 pm_37 cd_37 ct_37 oc_38 kV_38 dc_38 pm_38 cd_38 ct_38 oc_39 kV_39 dc_39 pm_39 cd_39 ct_39 oc_40 kV_40 dc_40 pm_40 cd_40 ct_40 oc_41 kV_41 dc_41 pm_41 cd_41 ct_41 oc_42 kV_42 dc_42 pm_42 cd_42 ct_42 oc_43 kV_43 dc_43 pm_43 cd_43 ct_43 oc_44 kV_44 dc_44 pm_44 cd_44 ct_44 oc_45 kV_45 dc_45 pm_45 cd_45 ct_45 oc_46 kV_46 dc_46 pm_46 cd_46 ct_46 oc_47 kV_47 dc_47 pm_47 cd_47 ct_47 oc_48 kV_48 dc_48 pm_48 cd_48 ct_48 oc_49 kV_49 dc_49 pm_49 cd_49 ct_49 oc_50 kV_50 dc_50 pm_50 cd_50 ct_50 oc_51 kV_51 dc_51 pm_51 cd_51 ct_51 oc_52 kV_52 dc_52 pm_52 cd_52 ct_52 oc_53 kV_53 dc_53 pm_53 cd_53 ct_53 oc_54 kV_54 dc_54 pm_54 cd_54 ct_54 oc_55 kV_55 dc_55 pm_55 cd_55 ct_55 oc_56 kV_56 dc_56 pm_56 cd_56 ct_56 oc_57 kV_57 dc_57 pm_57 cd_57 ct_57 oc_58 kV_58 dc_58 pm_58 cd_58 ct_58 oc_59 kV_59 dc_59 pm_59 cd_59 ct_59 oc_60 kV_60 dc_60 pm_60 cd_60 ct_60 oc_61 kV_61 dc_61 pm_61 cd_61 ct_61 oc_62 kV_62 dc_62 pm_62 cd_62 ct_62 oc_63 kV_63 dc_63 pm_63 cd_63 ct_63 : Value}
    {od_0 an_0 od_1 an_1 od_2 an_2 od_3 an_3 od_4 an_4 od_5 an_5 od_6 an_6 od_7 an_7 od_8 an_8 od_9 an_9 od_10 an_10 od_11 an_11 od_12 an_12 od_13 an_13 od_14 an_14 od_15 an_15 od_16 an_16 od_17 an_17 od_18 an_18 od_19 an_19 od_20 an_20 od_21 an_21 od_22 an_22 od_23 an_23 od_24 an_24 od_25 an_25 od_26 an_26 od_27 an_27 od_28 an_28 od_29 an_29 od_30 an_30 od_31 an_31 od_32 an_32 od_33 an_33 od_34 an_34 od_35 an_35 od_36 an_36 od_37 an_37 od_38 an_38 od_39 an_39 od_40 an_40 od_41 an_41 od_42 an_42 od_43 an_43 od_44 an_44 od_45 an_45 od_46 an_46 od_47 an_47 od_48 an_48 od_49 an_49 od_50 an_50 od_51 an_51 od_52 an_52 od_53 an_53 od_54 an_54 od_55 an_55 od_56 an_56 od_57 an_57 od_58 an_58 od_59 an_59 od_60 an_60 od_61 an_61 od_62 an_62 od_63 an_63 : Option Addr}
    {sl_0 sl_1 sl_2 sl_3 sl_4 sl_5 sl_6 sl_7 sl_8 sl_9 sl_10 sl_11 sl_12 sl_13 sl_14 sl_15 sl_16 sl_17 sl_18 sl_19 sl_20 sl_21 sl_22 sl_23 sl_24 sl_25 sl_26 sl_27 sl_28 sl_29 sl_30 sl_31 sl_32 sl_33 sl_34 sl_35 sl_36 sl_37 sl_38 sl_39 sl_40 sl_41 sl_42 sl_43 sl_44 sl_45 sl_46 sl_47 sl_48 sl_49 sl_50 sl_51 sl_52 sl_53 sl_54 sl_55 sl_56 sl_57 sl_58 sl_59 sl_60 sl_61 sl_62 sl_63 : Array (Option Value)}
    {t_GREATEST t_FEWEST t_MOST_STATIONS t_MOST_LEVELS t_TAKEN t_WRONG_COUNT t_WRONG_SIZE t_WRONG_PLACE t_WRONG_HEIGHT t_WRONG_BREADTH t_HOLLOW t_FULL t_STRAIGHT t_ANY t_GREATEST_WISH t_FARTHEST t_MOST_CHOICES t_MAKE t_LINE t_PUT t_STANDS t_JUDGE t_LEAST t_MANY t_NONE t_NO_TABLE t_WRONG_NUMBER t_NO_LINE t_WRONG_LENGTH t_NONE_FAIR : Tok}
    (aC_Table : PySem.W.nsIn K mainGlobals "Table" = some (some (.ref c_Table)))
    (aC_Room : PySem.W.nsIn K mainGlobals "Room" = some (some (.ref c_Room)))
    (aC_Counts : PySem.W.nsIn K mainGlobals "Counts" = some (some (.ref c_Counts)))
    (aC_GreatestMoves : PySem.W.nsIn K mainGlobals "GreatestMoves" = some (some (.ref c_GreatestMoves)))
    (aC_Ranks : PySem.W.nsIn K mainGlobals "Ranks" = some (some (.ref c_Ranks)))
    (aC_Reader : PySem.W.nsIn K mainGlobals "Reader" = some (some (.ref c_Reader)))
    (aC_Loft : PySem.W.nsIn K mainGlobals "Loft" = some (some (.ref c_Loft)))
    (a_0 : PySem.W.nsIn K mainGlobals "first_not_rising" = some (some (.ref f_0)))
    (l_0 : K.lookup f_0 = some ⟨oc_0, od_0, .func (PySem.W.fnOf "first_not_rising" "first_not_rising" (defArgs s_first_not_rising) (defBody s_first_not_rising) (defScope s_first_not_rising) .none kV_0 dc_0 pm_0 an_0 cd_0 ct_0), sl_0⟩)
    (c_d_0 : PySem.W.codeIn K cd_0 "first_not_rising" = true)
    (k_0 : PySem.W.keepIn K (.ref f_0) = true)
    (a_1 : PySem.W.nsIn K mainGlobals "first_beyond" = some (some (.ref f_1)))
    (l_1 : K.lookup f_1 = some ⟨oc_1, od_1, .func (PySem.W.fnOf "first_beyond" "first_beyond" (defArgs s_first_beyond) (defBody s_first_beyond) (defScope s_first_beyond) .none kV_1 dc_1 pm_1 an_1 cd_1 ct_1), sl_1⟩)
    (c_d_1 : PySem.W.codeIn K cd_1 "first_beyond" = true)
    (k_1 : PySem.W.keepIn K (.ref f_1) = true)
    (a_2 : PySem.W.nsIn K mainGlobals "fault_of_sizes" = some (some (.ref f_2)))
    (l_2 : K.lookup f_2 = some ⟨oc_2, od_2, .func (PySem.W.fnOf "fault_of_sizes" "fault_of_sizes" (defArgs s_fault_of_sizes) (defBody s_fault_of_sizes) (defScope s_fault_of_sizes) .none kV_2 dc_2 pm_2 an_2 cd_2 ct_2), sl_2⟩)
    (c_d_2 : PySem.W.codeIn K cd_2 "fault_of_sizes" = true)
    (k_2 : PySem.W.keepIn K (.ref f_2) = true)
    (a_3 : PySem.W.nsIn K mainGlobals "verdict_on" = some (some (.ref f_3)))
    (l_3 : K.lookup f_3 = some ⟨oc_3, od_3, .func (PySem.W.fnOf "verdict_on" "verdict_on" (defArgs s_verdict_on) (defBody s_verdict_on) (defScope s_verdict_on) .none kV_3 dc_3 pm_3 an_3 cd_3 ct_3), sl_3⟩)
    (c_d_3 : PySem.W.codeIn K cd_3 "verdict_on" = true)
    (k_3 : PySem.W.keepIn K (.ref f_3) = true)
    (a_4 : PySem.W.findIn K (.ref c_Table) "__init__" = some (some (.ref f_4)))
    (i_4 : PySem.W.isFn K (.ref f_4) = true)
    (l_4 : K.lookup f_4 = some ⟨oc_4, od_4, .func (PySem.W.fnOf "__init__" "Table.__init__" (defArgs s_Table___init__) (defBody s_Table___init__) (defScope s_Table___init__) .none kV_4 dc_4 pm_4 an_4 cd_4 ct_4), sl_4⟩)
    (c_d_4 : PySem.W.codeIn K cd_4 "Table.__init__" = true)
    (k_4 : PySem.W.keepIn K (.ref f_4) = true)
    (a_5 : PySem.W.findIn K (.ref c_Table) "line_count" = some (some (.ref f_5)))
    (i_5 : PySem.W.isFn K (.ref f_5) = true)
    (l_5 : K.lookup f_5 = some ⟨oc_5, od_5, .func (PySem.W.fnOf "line_count" "Table.line_count" (defArgs s_Table_line_count) (defBody s_Table_line_count) (defScope s_Table_line_count) .none kV_5 dc_5 pm_5 an_5 cd_5 ct_5), sl_5⟩)
    (c_d_5 : PySem.W.codeIn K cd_5 "Table.line_count" = true)
    (k_5 : PySem.W.keepIn K (.ref f_5) = true)
    (a_6 : PySem.W.findIn K (.ref c_Table) "spots" = some (some (.ref f_6)))
    (i_6 : PySem.W.isFn K (.ref f_6) = true)
    (l_6 : K.lookup f_6 = some ⟨oc_6, od_6, .func (PySem.W.fnOf "spots" "Table.spots" (defArgs s_Table_spots) (defBody s_Table_spots) (defScope s_Table_spots) .none kV_6 dc_6 pm_6 an_6 cd_6 ct_6), sl_6⟩)
    (c_d_6 : PySem.W.codeIn K cd_6 "Table.spots" = true)
    (k_6 : PySem.W.keepIn K (.ref f_6) = true)
    (a_7 : PySem.W.findIn K (.ref c_Table) "nail_xs" = some (some (.ref f_7)))
    (i_7 : PySem.W.isFn K (.ref f_7) = true)
    (l_7 : K.lookup f_7 = some ⟨oc_7, od_7, .func (PySem.W.fnOf "nail_xs" "Table.nail_xs" (defArgs s_Table_nail_xs) (defBody s_Table_nail_xs) (defScope s_Table_nail_xs) .none kV_7 dc_7 pm_7 an_7 cd_7 ct_7), sl_7⟩)
    (c_d_7 : PySem.W.codeIn K cd_7 "Table.nail_xs" = true)
    (k_7 : PySem.W.keepIn K (.ref f_7) = true)
    (a_8 : PySem.W.findIn K (.ref c_Table) "nail_ys" = some (some (.ref f_8)))
    (i_8 : PySem.W.isFn K (.ref f_8) = true)
    (l_8 : K.lookup f_8 = some ⟨oc_8, od_8, .func (PySem.W.fnOf "nail_ys" "Table.nail_ys" (defArgs s_Table_nail_ys) (defBody s_Table_nail_ys) (defScope s_Table_nail_ys) .none kV_8 dc_8 pm_8 an_8 cd_8 ct_8), sl_8⟩)
    (c_d_8 : PySem.W.codeIn K cd_8 "Table.nail_ys" = true)
    (k_8 : PySem.W.keepIn K (.ref f_8) = true)
    (a_9 : PySem.W.findIn K (.ref c_Table) "put_ys" = some (some (.ref f_9)))
    (i_9 : PySem.W.isFn K (.ref f_9) = true)
    (l_9 : K.lookup f_9 = some ⟨oc_9, od_9, .func (PySem.W.fnOf "put_ys" "Table.put_ys" (defArgs s_Table_put_ys) (defBody s_Table_put_ys) (defScope s_Table_put_ys) .none kV_9 dc_9 pm_9 an_9 cd_9 ct_9), sl_9⟩)
    (c_d_9 : PySem.W.codeIn K cd_9 "Table.put_ys" = true)
    (k_9 : PySem.W.keepIn K (.ref f_9) = true)
    (a_10 : PySem.W.nsIn K mainGlobals "stands_of" = some (some (.ref f_10)))
    (l_10 : K.lookup f_10 = some ⟨oc_10, od_10, .func (PySem.W.fnOf "stands_of" "stands_of" (defArgs s_stands_of) (defBody s_stands_of) (defScope s_stands_of) .none kV_10 dc_10 pm_10 an_10 cd_10 ct_10), sl_10⟩)
    (c_d_10 : PySem.W.codeIn K cd_10 "stands_of" = true)
    (k_10 : PySem.W.keepIn K (.ref f_10) = true)
    (a_11 : PySem.W.nsIn K mainGlobals "first_unfair" = some (some (.ref f_11)))
    (l_11 : K.lookup f_11 = some ⟨oc_11, od_11, .func (PySem.W.fnOf "first_unfair" "first_unfair" (defArgs s_first_unfair) (defBody s_first_unfair) (defScope s_first_unfair) .none kV_11 dc_11 pm_11 an_11 cd_11 ct_11), sl_11⟩)
    (c_d_11 : PySem.W.codeIn K cd_11 "first_unfair" = true)
    (k_11 : PySem.W.keepIn K (.ref f_11) = true)
    (a_12 : PySem.W.nsIn K mainGlobals "choices_of" = some (some (.ref f_12)))
    (l_12 : K.lookup f_12 = some ⟨oc_12, od_12, .func (PySem.W.fnOf "choices_of" "choices_of" (defArgs s_choices_of) (defBody s_choices_of) (defScope s_choices_of) .none kV_12 dc_12 pm_12 an_12 cd_12 ct_12), sl_12⟩)
    (c_d_12 : PySem.W.codeIn K cd_12 "choices_of" = true)
    (k_12 : PySem.W.keepIn K (.ref f_12) = true)
    (a_13 : PySem.W.findIn K (.ref c_Room) "__init__" = some (some (.ref f_13)))
    (i_13 : PySem.W.isFn K (.ref f_13) = true)
    (l_13 : K.lookup f_13 = some ⟨oc_13, od_13, .func (PySem.W.fnOf "__init__" "Room.__init__" (defArgs s_Room___init__) (defBody s_Room___init__) (defScope s_Room___init__) .none kV_13 dc_13 pm_13 an_13 cd_13 ct_13), sl_13⟩)
    (c_d_13 : PySem.W.codeIn K cd_13 "Room.__init__" = true)
    (k_13 : PySem.W.keepIn K (.ref f_13) = true)
    (a_14 : PySem.W.findIn K (.ref c_Room) "moved_by" = some (some (.ref f_14)))
    (i_14 : PySem.W.isFn K (.ref f_14) = true)
    (l_14 : K.lookup f_14 = some ⟨oc_14, od_14, .func (PySem.W.fnOf "moved_by" "Room.moved_by" (defArgs s_Room_moved_by) (defBody s_Room_moved_by) (defScope s_Room_moved_by) .none kV_14 dc_14 pm_14 an_14 cd_14 ct_14), sl_14⟩)
    (c_d_14 : PySem.W.codeIn K cd_14 "Room.moved_by" = true)
    (k_14 : PySem.W.keepIn K (.ref f_14) = true)
    (a_15 : PySem.W.findIn K (.ref c_Counts) "__init__" = some (some (.ref f_15)))
    (i_15 : PySem.W.isFn K (.ref f_15) = true)
    (l_15 : K.lookup f_15 = some ⟨oc_15, od_15, .func (PySem.W.fnOf "__init__" "Counts.__init__" (defArgs s_Counts___init__) (defBody s_Counts___init__) (defScope s_Counts___init__) .none kV_15 dc_15 pm_15 an_15 cd_15 ct_15), sl_15⟩)
    (c_d_15 : PySem.W.codeIn K cd_15 "Counts.__init__" = true)
    (k_15 : PySem.W.keepIn K (.ref f_15) = true)
    (a_16 : PySem.W.findIn K (.ref c_Counts) "either" = some (some (.ref f_16)))
    (i_16 : PySem.W.isFn K (.ref f_16) = true)
    (l_16 : K.lookup f_16 = some ⟨oc_16, od_16, .func (PySem.W.fnOf "either" "Counts.either" (defArgs s_Counts_either) (defBody s_Counts_either) (defScope s_Counts_either) .none kV_16 dc_16 pm_16 an_16 cd_16 ct_16), sl_16⟩)
    (c_d_16 : PySem.W.codeIn K cd_16 "Counts.either" = true)
    (k_16 : PySem.W.keepIn K (.ref f_16) = true)
    (a_17 : PySem.W.findIn K (.ref c_Counts) "along" = some (some (.ref f_17)))
    (i_17 : PySem.W.isFn K (.ref f_17) = true)
    (l_17 : K.lookup f_17 = some ⟨oc_17, od_17, .func (PySem.W.fnOf "along" "Counts.along" (defArgs s_Counts_along) (defBody s_Counts_along) (defScope s_Counts_along) .none kV_17 dc_17 pm_17 an_17 cd_17 ct_17), sl_17⟩)
    (c_d_17 : PySem.W.codeIn K cd_17 "Counts.along" = true)
    (k_17 : PySem.W.keepIn K (.ref f_17) = true)
    (a_18 : PySem.W.findIn K (.ref c_GreatestMoves) "__init__" = some (some (.ref f_18)))
    (i_18 : PySem.W.isFn K (.ref f_18) = true)
    (l_18 : K.lookup f_18 = some ⟨oc_18, od_18, .func (PySem.W.fnOf "__init__" "GreatestMoves.__init__" (defArgs s_GreatestMoves___init__) (defBody s_GreatestMoves___init__) (defScope s_GreatestMoves___init__) .none kV_18 dc_18 pm_18 an_18 cd_18 ct_18), sl_18⟩)
    (c_d_18 : PySem.W.codeIn K cd_18 "GreatestMoves.__init__" = true)
    (k_18 : PySem.W.keepIn K (.ref f_18) = true)
    (a_19 : PySem.W.findIn K (.ref c_GreatestMoves) "either" = some (some (.ref f_19)))
    (i_19 : PySem.W.isFn K (.ref f_19) = true)
    (l_19 : K.lookup f_19 = some ⟨oc_19, od_19, .func (PySem.W.fnOf "either" "GreatestMoves.either" (defArgs s_GreatestMoves_either) (defBody s_GreatestMoves_either) (defScope s_GreatestMoves_either) .none kV_19 dc_19 pm_19 an_19 cd_19 ct_19), sl_19⟩)
    (c_d_19 : PySem.W.codeIn K cd_19 "GreatestMoves.either" = true)
    (k_19 : PySem.W.keepIn K (.ref f_19) = true)
    (a_20 : PySem.W.findIn K (.ref c_GreatestMoves) "along" = some (some (.ref f_20)))
    (i_20 : PySem.W.isFn K (.ref f_20) = true)
    (l_20 : K.lookup f_20 = some ⟨oc_20, od_20, .func (PySem.W.fnOf "along" "GreatestMoves.along" (defArgs s_GreatestMoves_along) (defBody s_GreatestMoves_along) (defScope s_GreatestMoves_along) .none kV_20 dc_20 pm_20 an_20 cd_20 ct_20), sl_20⟩)
    (c_d_20 : PySem.W.codeIn K cd_20 "GreatestMoves.along" = true)
    (k_20 : PySem.W.keepIn K (.ref f_20) = true)
    (a_21 : PySem.W.nsIn K mainGlobals "digit_weights" = some (some (.ref f_21)))
    (l_21 : K.lookup f_21 = some ⟨oc_21, od_21, .func (PySem.W.fnOf "digit_weights" "digit_weights" (defArgs s_digit_weights) (defBody s_digit_weights) (defScope s_digit_weights) .none kV_21 dc_21 pm_21 an_21 cd_21 ct_21), sl_21⟩)
    (c_d_21 : PySem.W.codeIn K cd_21 "digit_weights" = true)
    (k_21 : PySem.W.keepIn K (.ref f_21) = true)
    (a_22 : PySem.W.nsIn K mainGlobals "rank_costs" = some (some (.ref f_22)))
    (l_22 : K.lookup f_22 = some ⟨oc_22, od_22, .func (PySem.W.fnOf "rank_costs" "rank_costs" (defArgs s_rank_costs) (defBody s_rank_costs) (defScope s_rank_costs) .none kV_22 dc_22 pm_22 an_22 cd_22 ct_22), sl_22⟩)
    (c_d_22 : PySem.W.codeIn K cd_22 "rank_costs" = true)
    (k_22 : PySem.W.keepIn K (.ref f_22) = true)
    (a_23 : PySem.W.findIn K (.ref c_Ranks) "__init__" = some (some (.ref f_23)))
    (i_23 : PySem.W.isFn K (.ref f_23) = true)
    (l_23 : K.lookup f_23 = some ⟨oc_23, od_23, .func (PySem.W.fnOf "__init__" "Ranks.__init__" (defArgs s_Ranks___init__) (defBody s_Ranks___init__) (defScope s_Ranks___init__) .none kV_23 dc_23 pm_23 an_23 cd_23 ct_23), sl_23⟩)
    (c_d_23 : PySem.W.codeIn K cd_23 "Ranks.__init__" = true)
    (k_23 : PySem.W.keepIn K (.ref f_23) = true)
    (a_24 : PySem.W.findIn K (.ref c_Ranks) "either" = some (some (.ref f_24)))
    (i_24 : PySem.W.isFn K (.ref f_24) = true)
    (l_24 : K.lookup f_24 = some ⟨oc_24, od_24, .func (PySem.W.fnOf "either" "Ranks.either" (defArgs s_Ranks_either) (defBody s_Ranks_either) (defScope s_Ranks_either) .none kV_24 dc_24 pm_24 an_24 cd_24 ct_24), sl_24⟩)
    (c_d_24 : PySem.W.codeIn K cd_24 "Ranks.either" = true)
    (k_24 : PySem.W.keepIn K (.ref f_24) = true)
    (a_25 : PySem.W.findIn K (.ref c_Ranks) "along" = some (some (.ref f_25)))
    (i_25 : PySem.W.isFn K (.ref f_25) = true)
    (l_25 : K.lookup f_25 = some ⟨oc_25, od_25, .func (PySem.W.fnOf "along" "Ranks.along" (defArgs s_Ranks_along) (defBody s_Ranks_along) (defScope s_Ranks_along) .none kV_25 dc_25 pm_25 an_25 cd_25 ct_25), sl_25⟩)
    (c_d_25 : PySem.W.codeIn K cd_25 "Ranks.along" = true)
    (k_25 : PySem.W.keepIn K (.ref f_25) = true)
    (a_26 : PySem.W.nsIn K mainGlobals "choices_of_rank" = some (some (.ref f_26)))
    (l_26 : K.lookup f_26 = some ⟨oc_26, od_26, .func (PySem.W.fnOf "choices_of_rank" "choices_of_rank" (defArgs s_choices_of_rank) (defBody s_choices_of_rank) (defScope s_choices_of_rank) .none kV_26 dc_26 pm_26 an_26 cd_26 ct_26), sl_26⟩)
    (c_d_26 : PySem.W.codeIn K cd_26 "choices_of_rank" = true)
    (k_26 : PySem.W.keepIn K (.ref f_26) = true)
    (a_27 : PySem.W.nsIn K mainGlobals "gathered" = some (some (.ref f_27)))
    (l_27 : K.lookup f_27 = some ⟨oc_27, od_27, .func (PySem.W.fnOf "gathered" "gathered" (defArgs s_gathered) (defBody s_gathered) (defScope s_gathered) .none kV_27 dc_27 pm_27 an_27 cd_27 ct_27), sl_27⟩)
    (c_d_27 : PySem.W.codeIn K cd_27 "gathered" = true)
    (k_27 : PySem.W.keepIn K (.ref f_27) = true)
    (a_28 : PySem.W.nsIn K mainGlobals "total" = some (some (.ref f_28)))
    (l_28 : K.lookup f_28 = some ⟨oc_28, od_28, .func (PySem.W.fnOf "total" "total" (defArgs s_total) (defBody s_total) (defScope s_total) .none kV_28 dc_28 pm_28 an_28 cd_28 ct_28), sl_28⟩)
    (c_d_28 : PySem.W.codeIn K cd_28 "total" = true)
    (k_28 : PySem.W.keepIn K (.ref f_28) = true)
    (a_29 : PySem.W.nsIn K mainGlobals "clamped" = some (some (.ref f_29)))
    (l_29 : K.lookup f_29 = some ⟨oc_29, od_29, .func (PySem.W.fnOf "clamped" "clamped" (defArgs s_clamped) (defBody s_clamped) (defScope s_clamped) .none kV_29 dc_29 pm_29 an_29 cd_29 ct_29), sl_29⟩)
    (c_d_29 : PySem.W.codeIn K cd_29 "clamped" = true)
    (k_29 : PySem.W.keepIn K (.ref f_29) = true)
    (a_30 : PySem.W.nsIn K mainGlobals "straight_points" = some (some (.ref f_30)))
    (l_30 : K.lookup f_30 = some ⟨oc_30, od_30, .func (PySem.W.fnOf "straight_points" "straight_points" (defArgs s_straight_points) (defBody s_straight_points) (defScope s_straight_points) .none kV_30 dc_30 pm_30 an_30 cd_30 ct_30), sl_30⟩)
    (c_d_30 : PySem.W.codeIn K cd_30 "straight_points" = true)
    (k_30 : PySem.W.keepIn K (.ref f_30) = true)
    (a_31 : PySem.W.nsIn K mainGlobals "hollow_or_straight" = some (some (.ref f_31)))
    (l_31 : K.lookup f_31 = some ⟨oc_31, od_31, .func (PySem.W.fnOf "hollow_or_straight" "hollow_or_straight" (defArgs s_hollow_or_straight) (defBody s_hollow_or_straight) (defScope s_hollow_or_straight) .none kV_31 dc_31 pm_31 an_31 cd_31 ct_31), sl_31⟩)
    (c_d_31 : PySem.W.codeIn K cd_31 "hollow_or_straight" = true)
    (k_31 : PySem.W.keepIn K (.ref f_31) = true)
    (a_32 : PySem.W.nsIn K mainGlobals "full_or_straight" = some (some (.ref f_32)))
    (l_32 : K.lookup f_32 = some ⟨oc_32, od_32, .func (PySem.W.fnOf "full_or_straight" "full_or_straight" (defArgs s_full_or_straight) (defBody s_full_or_straight) (defScope s_full_or_straight) .none kV_32 dc_32 pm_32 an_32 cd_32 ct_32), sl_32⟩)
    (c_d_32 : PySem.W.codeIn K cd_32 "full_or_straight" = true)
    (k_32 : PySem.W.keepIn K (.ref f_32) = true)
    (a_33 : PySem.W.nsIn K mainGlobals "straight_alone" = some (some (.ref f_33)))
    (l_33 : K.lookup f_33 = some ⟨oc_33, od_33, .func (PySem.W.fnOf "straight_alone" "straight_alone" (defArgs s_straight_alone) (defBody s_straight_alone) (defScope s_straight_alone) .none kV_33 dc_33 pm_33 an_33 cd_33 ct_33), sl_33⟩)
    (c_d_33 : PySem.W.codeIn K cd_33 "straight_alone" = true)
    (k_33 : PySem.W.keepIn K (.ref f_33) = true)
    (a_34 : PySem.W.nsIn K mainGlobals "tallies_behind" = some (some (.ref f_34)))
    (l_34 : K.lookup f_34 = some ⟨oc_34, od_34, .func (PySem.W.fnOf "tallies_behind" "tallies_behind" (defArgs s_tallies_behind) (defBody s_tallies_behind) (defScope s_tallies_behind) .none kV_34 dc_34 pm_34 an_34 cd_34 ct_34), sl_34⟩)
    (c_d_34 : PySem.W.codeIn K cd_34 "tallies_behind" = true)
    (k_34 : PySem.W.keepIn K (.ref f_34) = true)
    (a_35 : PySem.W.nsIn K mainGlobals "with_cost" = some (some (.ref f_35)))
    (l_35 : K.lookup f_35 = some ⟨oc_35, od_35, .func (PySem.W.fnOf "with_cost" "with_cost" (defArgs s_with_cost) (defBody s_with_cost) (defScope s_with_cost) .none kV_35 dc_35 pm_35 an_35 cd_35 ct_35), sl_35⟩)
    (c_d_35 : PySem.W.codeIn K cd_35 "with_cost" = true)
    (k_35 : PySem.W.keepIn K (.ref f_35) = true)
    (a_36 : PySem.W.nsIn K mainGlobals "first_rows" = some (some (.ref f_36)))
    (l_36 : K.lookup f_36 = some ⟨oc_36, od_36, .func (PySem.W.fnOf "first_rows" "first_rows" (defArgs s_first_rows) (defBody s_first_rows) (defScope s_first_rows) .none kV_36 dc_36 pm_36 an_36 cd_36 ct_36), sl_36⟩)
    (c_d_36 : PySem.W.codeIn K cd_36 "first_rows" = true)
    (k_36 : PySem.W.keepIn K (.ref f_36) = true)
    (a_37 : PySem.W.nsIn K mainGlobals "nth_of_each" = some (some (.ref f_37)))
    (l_37 : K.lookup f_37 = some ⟨oc_37, od_37, .func (PySem.W.fnOf "nth_of_each" "nth_of_each" (defArgs s_nth_of_each) (defBody s_nth_of_each) (defScope s_nth_of_each) .none kV_37 dc_37 pm_37 an_37 cd_37 ct_37), sl_37⟩)
    (c_d_37 : PySem.W.codeIn K cd_37 "nth_of_each" = true)
    (k_37 : PySem.W.keepIn K (.ref f_37) = true)
    (a_38 : PySem.W.nsIn K mainGlobals "next_rows" = some (some (.ref f_38)))
    (l_38 : K.lookup f_38 = some ⟨oc_38, od_38, .func (PySem.W.fnOf "next_rows" "next_rows" (defArgs s_next_rows) (defBody s_next_rows) (defScope s_next_rows) .none kV_38 dc_38 pm_38 an_38 cd_38 ct_38), sl_38⟩)
    (c_d_38 : PySem.W.codeIn K cd_38 "next_rows" = true)
    (k_38 : PySem.W.keepIn K (.ref f_38) = true)
    (a_39 : PySem.W.nsIn K mainGlobals "total_of_fair" = some (some (.ref f_39)))
    (l_39 : K.lookup f_39 = some ⟨oc_39, od_39, .func (PySem.W.fnOf "total_of_fair" "total_of_fair" (defArgs s_total_of_fair) (defBody s_total_of_fair) (defScope s_total_of_fair) .none kV_39 dc_39 pm_39 an_39 cd_39 ct_39), sl_39⟩)
    (c_d_39 : PySem.W.codeIn K cd_39 "total_of_fair" = true)
    (k_39 : PySem.W.keepIn K (.ref f_39) = true)
    (a_40 : PySem.W.nsIn K mainGlobals "how_many_fair" = some (some (.ref f_40)))
    (l_40 : K.lookup f_40 = some ⟨oc_40, od_40, .func (PySem.W.fnOf "how_many_fair" "how_many_fair" (defArgs s_how_many_fair) (defBody s_how_many_fair) (defScope s_how_many_fair) .none kV_40 dc_40 pm_40 an_40 cd_40 ct_40), sl_40⟩)
    (c_d_40 : PySem.W.codeIn K cd_40 "how_many_fair" = true)
    (k_40 : PySem.W.keepIn K (.ref f_40) = true)
    (a_41 : PySem.W.nsIn K mainGlobals "nails_showing_none" = some (some (.ref f_41)))
    (l_41 : K.lookup f_41 = some ⟨oc_41, od_41, .func (PySem.W.fnOf "nails_showing_none" "nails_showing_none" (defArgs s_nails_showing_none) (defBody s_nails_showing_none) (defScope s_nails_showing_none) .none kV_41 dc_41 pm_41 an_41 cd_41 ct_41), sl_41⟩)
    (c_d_41 : PySem.W.codeIn K cd_41 "nails_showing_none" = true)
    (k_41 : PySem.W.keepIn K (.ref f_41) = true)
    (a_42 : PySem.W.nsIn K mainGlobals "nearest" = some (some (.ref f_42)))
    (l_42 : K.lookup f_42 = some ⟨oc_42, od_42, .func (PySem.W.fnOf "nearest" "nearest" (defArgs s_nearest) (defBody s_nearest) (defScope s_nearest) .none kV_42 dc_42 pm_42 an_42 cd_42 ct_42), sl_42⟩)
    (c_d_42 : PySem.W.codeIn K cd_42 "nearest" = true)
    (k_42 : PySem.W.keepIn K (.ref f_42) = true)
    (a_43 : PySem.W.findIn K (.ref c_Reader) "__init__" = some (some (.ref f_43)))
    (i_43 : PySem.W.isFn K (.ref f_43) = true)
    (l_43 : K.lookup f_43 = some ⟨oc_43, od_43, .func (PySem.W.fnOf "__init__" "Reader.__init__" (defArgs s_Reader___init__) (defBody s_Reader___init__) (defScope s_Reader___init__) .none kV_43 dc_43 pm_43 an_43 cd_43 ct_43), sl_43⟩)
    (c_d_43 : PySem.W.codeIn K cd_43 "Reader.__init__" = true)
    (k_43 : PySem.W.keepIn K (.ref f_43) = true)
    (a_44 : PySem.W.findIn K (.ref c_Reader) "has_more" = some (some (.ref f_44)))
    (i_44 : PySem.W.isFn K (.ref f_44) = true)
    (l_44 : K.lookup f_44 = some ⟨oc_44, od_44, .func (PySem.W.fnOf "has_more" "Reader.has_more" (defArgs s_Reader_has_more) (defBody s_Reader_has_more) (defScope s_Reader_has_more) .none kV_44 dc_44 pm_44 an_44 cd_44 ct_44), sl_44⟩)
    (c_d_44 : PySem.W.codeIn K cd_44 "Reader.has_more" = true)
    (k_44 : PySem.W.keepIn K (.ref f_44) = true)
    (a_45 : PySem.W.findIn K (.ref c_Reader) "take_number" = some (some (.ref f_45)))
    (i_45 : PySem.W.isFn K (.ref f_45) = true)
    (l_45 : K.lookup f_45 = some ⟨oc_45, od_45, .func (PySem.W.fnOf "take_number" "Reader.take_number" (defArgs s_Reader_take_number) (defBody s_Reader_take_number) (defScope s_Reader_take_number) .none kV_45 dc_45 pm_45 an_45 cd_45 ct_45), sl_45⟩)
    (c_d_45 : PySem.W.codeIn K cd_45 "Reader.take_number" = true)
    (k_45 : PySem.W.keepIn K (.ref f_45) = true)
    (a_46 : PySem.W.findIn K (.ref c_Reader) "take_row" = some (some (.ref f_46)))
    (i_46 : PySem.W.isFn K (.ref f_46) = true)
    (l_46 : K.lookup f_46 = some ⟨oc_46, od_46, .func (PySem.W.fnOf "take_row" "Reader.take_row" (defArgs s_Reader_take_row) (defBody s_Reader_take_row) (defScope s_Reader_take_row) .none kV_46 dc_46 pm_46 an_46 cd_46 ct_46), sl_46⟩)
    (c_d_46 : PySem.W.codeIn K cd_46 "Reader.take_row" = true)
    (k_46 : PySem.W.keepIn K (.ref f_46) = true)
    (a_47 : PySem.W.findIn K (.ref c_Loft) "__init__" = some (some (.ref f_47)))
    (i_47 : PySem.W.isFn K (.ref f_47) = true)
    (l_47 : K.lookup f_47 = some ⟨oc_47, od_47, .func (PySem.W.fnOf "__init__" "Loft.__init__" (defArgs s_Loft___init__) (defBody s_Loft___init__) (defScope s_Loft___init__) .none kV_47 dc_47 pm_47 an_47 cd_47 ct_47), sl_47⟩)
    (c_d_47 : PySem.W.codeIn K cd_47 "Loft.__init__" = true)
    (k_47 : PySem.W.keepIn K (.ref f_47) = true)
    (a_48 : PySem.W.findIn K (.ref c_Loft) "refusal" = some (some (.ref f_48)))
    (i_48 : PySem.W.isFn K (.ref f_48) = true)
    (l_48 : K.lookup f_48 = some ⟨oc_48, od_48, .func (PySem.W.fnOf "refusal" "Loft.refusal" (defArgs s_Loft_refusal) (defBody s_Loft_refusal) (defScope s_Loft_refusal) .none kV_48 dc_48 pm_48 an_48 cd_48 ct_48), sl_48⟩)
    (c_d_48 : PySem.W.codeIn K cd_48 "Loft.refusal" = true)
    (k_48 : PySem.W.keepIn K (.ref f_48) = true)
    (a_49 : PySem.W.findIn K (.ref c_Loft) "refusal_of_moving" = some (some (.ref f_49)))
    (i_49 : PySem.W.isFn K (.ref f_49) = true)
    (l_49 : K.lookup f_49 = some ⟨oc_49, od_49, .func (PySem.W.fnOf "refusal_of_moving" "Loft.refusal_of_moving" (defArgs s_Loft_refusal_of_moving) (defBody s_Loft_refusal_of_moving) (defScope s_Loft_refusal_of_moving) .none kV_49 dc_49 pm_49 an_49 cd_49 ct_49), sl_49⟩)
    (c_d_49 : PySem.W.codeIn K cd_49 "Loft.refusal_of_moving" = true)
    (k_49 : PySem.W.keepIn K (.ref f_49) = true)
    (a_50 : PySem.W.findIn K (.ref c_Loft) "room" = some (some (.ref f_50)))
    (i_50 : PySem.W.isFn K (.ref f_50) = true)
    (l_50 : K.lookup f_50 = some ⟨oc_50, od_50, .func (PySem.W.fnOf "room" "Loft.room" (defArgs s_Loft_room) (defBody s_Loft_room) (defScope s_Loft_room) .none kV_50 dc_50 pm_50 an_50 cd_50 ct_50), sl_50⟩)
    (c_d_50 : PySem.W.codeIn K cd_50 "Loft.room" = true)
    (k_50 : PySem.W.keepIn K (.ref f_50) = true)
    (a_51 : PySem.W.findIn K (.ref c_Loft) "make" = some (some (.ref f_51)))
    (i_51 : PySem.W.isFn K (.ref f_51) = true)
    (l_51 : K.lookup f_51 = some ⟨oc_51, od_51, .func (PySem.W.fnOf "make" "Loft.make" (defArgs s_Loft_make) (defBody s_Loft_make) (defScope s_Loft_make) .none kV_51 dc_51 pm_51 an_51 cd_51 ct_51), sl_51⟩)
    (c_d_51 : PySem.W.codeIn K cd_51 "Loft.make" = true)
    (k_51 : PySem.W.keepIn K (.ref f_51) = true)
    (a_52 : PySem.W.findIn K (.ref c_Loft) "line" = some (some (.ref f_52)))
    (i_52 : PySem.W.isFn K (.ref f_52) = true)
    (l_52 : K.lookup f_52 = some ⟨oc_52, od_52, .func (PySem.W.fnOf "line" "Loft.line" (defArgs s_Loft_line) (defBody s_Loft_line) (defScope s_Loft_line) .none kV_52 dc_52 pm_52 an_52 cd_52 ct_52), sl_52⟩)
    (c_d_52 : PySem.W.codeIn K cd_52 "Loft.line" = true)
    (k_52 : PySem.W.keepIn K (.ref f_52) = true)
    (a_53 : PySem.W.findIn K (.ref c_Loft) "put" = some (some (.ref f_53)))
    (i_53 : PySem.W.isFn K (.ref f_53) = true)
    (l_53 : K.lookup f_53 = some ⟨oc_53, od_53, .func (PySem.W.fnOf "put" "Loft.put" (defArgs s_Loft_put) (defBody s_Loft_put) (defScope s_Loft_put) .none kV_53 dc_53 pm_53 an_53 cd_53 ct_53), sl_53⟩)
    (c_d_53 : PySem.W.codeIn K cd_53 "Loft.put" = true)
    (k_53 : PySem.W.keepIn K (.ref f_53) = true)
    (a_54 : PySem.W.findIn K (.ref c_Loft) "stands" = some (some (.ref f_54)))
    (i_54 : PySem.W.isFn K (.ref f_54) = true)
    (l_54 : K.lookup f_54 = some ⟨oc_54, od_54, .func (PySem.W.fnOf "stands" "Loft.stands" (defArgs s_Loft_stands) (defBody s_Loft_stands) (defScope s_Loft_stands) .none kV_54 dc_54 pm_54 an_54 cd_54 ct_54), sl_54⟩)
    (c_d_54 : PySem.W.codeIn K cd_54 "Loft.stands" = true)
    (k_54 : PySem.W.keepIn K (.ref f_54) = true)
    (a_55 : PySem.W.findIn K (.ref c_Loft) "judge" = some (some (.ref f_55)))
    (i_55 : PySem.W.isFn K (.ref f_55) = true)
    (l_55 : K.lookup f_55 = some ⟨oc_55, od_55, .func (PySem.W.fnOf "judge" "Loft.judge" (defArgs s_Loft_judge) (defBody s_Loft_judge) (defScope s_Loft_judge) .none kV_55 dc_55 pm_55 an_55 cd_55 ct_55), sl_55⟩)
    (c_d_55 : PySem.W.codeIn K cd_55 "Loft.judge" = true)
    (k_55 : PySem.W.keepIn K (.ref f_55) = true)
    (a_56 : PySem.W.findIn K (.ref c_Loft) "least" = some (some (.ref f_56)))
    (i_56 : PySem.W.isFn K (.ref f_56) = true)
    (l_56 : K.lookup f_56 = some ⟨oc_56, od_56, .func (PySem.W.fnOf "least" "Loft.least" (defArgs s_Loft_least) (defBody s_Loft_least) (defScope s_Loft_least) .none kV_56 dc_56 pm_56 an_56 cd_56 ct_56), sl_56⟩)
    (c_d_56 : PySem.W.codeIn K cd_56 "Loft.least" = true)
    (k_56 : PySem.W.keepIn K (.ref f_56) = true)
    (a_57 : PySem.W.findIn K (.ref c_Loft) "many" = some (some (.ref f_57)))
    (i_57 : PySem.W.isFn K (.ref f_57) = true)
    (l_57 : K.lookup f_57 = some ⟨oc_57, od_57, .func (PySem.W.fnOf "many" "Loft.many" (defArgs s_Loft_many) (defBody s_Loft_many) (defScope s_Loft_many) .none kV_57 dc_57 pm_57 an_57 cd_57 ct_57), sl_57⟩)
    (c_d_57 : PySem.W.codeIn K cd_57 "Loft.many" = true)
    (k_57 : PySem.W.keepIn K (.ref f_57) = true)
    (a_58 : PySem.W.findIn K (.ref c_Loft) "none" = some (some (.ref f_58)))
    (i_58 : PySem.W.isFn K (.ref f_58) = true)
    (l_58 : K.lookup f_58 = some ⟨oc_58, od_58, .func (PySem.W.fnOf "none" "Loft.none" (defArgs s_Loft_none) (defBody s_Loft_none) (defScope s_Loft_none) .none kV_58 dc_58 pm_58 an_58 cd_58 ct_58), sl_58⟩)
    (c_d_58 : PySem.W.codeIn K cd_58 "Loft.none" = true)
    (k_58 : PySem.W.keepIn K (.ref f_58) = true)
    (a_59 : PySem.W.nsIn K mainGlobals "answer_make" = some (some (.ref f_59)))
    (l_59 : K.lookup f_59 = some ⟨oc_59, od_59, .func (PySem.W.fnOf "answer_make" "answer_make" (defArgs s_answer_make) (defBody s_answer_make) (defScope s_answer_make) .none kV_59 dc_59 pm_59 an_59 cd_59 ct_59), sl_59⟩)
    (c_d_59 : PySem.W.codeIn K cd_59 "answer_make" = true)
    (k_59 : PySem.W.keepIn K (.ref f_59) = true)
    (a_60 : PySem.W.nsIn K mainGlobals "answer_on_line" = some (some (.ref f_60)))
    (l_60 : K.lookup f_60 = some ⟨oc_60, od_60, .func (PySem.W.fnOf "answer_on_line" "answer_on_line" (defArgs s_answer_on_line) (defBody s_answer_on_line) (defScope s_answer_on_line) .none kV_60 dc_60 pm_60 an_60 cd_60 ct_60), sl_60⟩)
    (c_d_60 : PySem.W.codeIn K cd_60 "answer_on_line" = true)
    (k_60 : PySem.W.keepIn K (.ref f_60) = true)
    (a_61 : PySem.W.nsIn K mainGlobals "answer_on_moved" = some (some (.ref f_61)))
    (l_61 : K.lookup f_61 = some ⟨oc_61, od_61, .func (PySem.W.fnOf "answer_on_moved" "answer_on_moved" (defArgs s_answer_on_moved) (defBody s_answer_on_moved) (defScope s_answer_on_moved) .none kV_61 dc_61 pm_61 an_61 cd_61 ct_61), sl_61⟩)
    (c_d_61 : PySem.W.codeIn K cd_61 "answer_on_moved" = true)
    (k_61 : PySem.W.keepIn K (.ref f_61) = true)
    (a_62 : PySem.W.nsIn K mainGlobals "answer_next" = some (some (.ref f_62)))
    (l_62 : K.lookup f_62 = some ⟨oc_62, od_62, .func (PySem.W.fnOf "answer_next" "answer_next" (defArgs s_answer_next) (defBody s_answer_next) (defScope s_answer_next) .none kV_62 dc_62 pm_62 an_62 cd_62 ct_62), sl_62⟩)
    (c_d_62 : PySem.W.codeIn K cd_62 "answer_next" = true)
    (k_62 : PySem.W.keepIn K (.ref f_62) = true)
    (a_63 : PySem.W.nsIn K mainGlobals "answers" = some (some (.ref f_63)))
    (l_63 : K.lookup f_63 = some ⟨oc_63, od_63, .func (PySem.W.fnOf "answers" "answers" (defArgs s_answers) (defBody s_answers) (defScope s_answers) .none kV_63 dc_63 pm_63 an_63 cd_63 ct_63), sl_63⟩)
    (c_d_63 : PySem.W.codeIn K cd_63 "answers" = true)
    (k_63 : PySem.W.keepIn K (.ref f_63) = true)
    (pg_Table : PySem.W.plainGet K c_Table Str.empty = true)
    (hd_Table : PySem.W.hasDictIn K c_Table = true)
    (po_Table : PySem.W.plainOver K c_Table = true)
    (sa_Table : PySem.W.findIn K (.ref c_Table) "__setattr__" = some (some (.builtin "object.__setattr__")))
    (mk_Table : PySem.W.makesIn K c_Table = true)
    (kc_Table : PySem.W.keepIn K (.ref c_Table) = true)
    (na_Table_places : PySem.W.findIn K (.ref c_Table) "places" = some none)
    (na_Table_heights : PySem.W.findIn K (.ref c_Table) "heights" = some none)
    (na_Table_half_breadths : PySem.W.findIn K (.ref c_Table) "half_breadths" = some none)
    (pg_Room : PySem.W.plainGet K c_Room Str.empty = true)
    (hd_Room : PySem.W.hasDictIn K c_Room = true)
    (po_Room : PySem.W.plainOver K c_Room = true)
    (sa_Room : PySem.W.findIn K (.ref c_Room) "__setattr__" = some (some (.builtin "object.__setattr__")))
    (mk_Room : PySem.W.makesIn K c_Room = true)
    (kc_Room : PySem.W.keepIn K (.ref c_Room) = true)
    (na_Room_xs : PySem.W.findIn K (.ref c_Room) "xs" = some none)
    (na_Room_ys : PySem.W.findIn K (.ref c_Room) "ys" = some none)
    (na_Room_shape : PySem.W.findIn K (.ref c_Room) "shape" = some none)
    (na_Room_moves : PySem.W.findIn K (.ref c_Room) "moves" = some none)
    (na_Room_choices : PySem.W.findIn K (.ref c_Room) "choices" = some none)
    (pg_Counts : PySem.W.plainGet K c_Counts Str.empty = true)
    (hd_Counts : PySem.W.hasDictIn K c_Counts = true)
    (po_Counts : PySem.W.plainOver K c_Counts = true)
    (sa_Counts : PySem.W.findIn K (.ref c_Counts) "__setattr__" = some (some (.builtin "object.__setattr__")))
    (mk_Counts : PySem.W.makesIn K c_Counts = true)
    (kc_Counts : PySem.W.keepIn K (.ref c_Counts) = true)
    (na_Counts_nothing : PySem.W.findIn K (.ref c_Counts) "nothing" = some none)
    (na_Counts_costs : PySem.W.findIn K (.ref c_Counts) "costs" = some none)
    (pg_GreatestMoves : PySem.W.plainGet K c_GreatestMoves Str.empty = true)
    (hd_GreatestMoves : PySem.W.hasDictIn K c_GreatestMoves = true)
    (po_GreatestMoves : PySem.W.plainOver K c_GreatestMoves = true)
    (sa_GreatestMoves : PySem.W.findIn K (.ref c_GreatestMoves) "__setattr__" = some (some (.builtin "object.__setattr__")))
    (mk_GreatestMoves : PySem.W.makesIn K c_GreatestMoves = true)
    (kc_GreatestMoves : PySem.W.keepIn K (.ref c_GreatestMoves) = true)
    (na_GreatestMoves_nothing : PySem.W.findIn K (.ref c_GreatestMoves) "nothing" = some none)
    (na_GreatestMoves_costs : PySem.W.findIn K (.ref c_GreatestMoves) "costs" = some none)
    (pg_Ranks : PySem.W.plainGet K c_Ranks Str.empty = true)
    (hd_Ranks : PySem.W.hasDictIn K c_Ranks = true)
    (po_Ranks : PySem.W.plainOver K c_Ranks = true)
    (sa_Ranks : PySem.W.findIn K (.ref c_Ranks) "__setattr__" = some (some (.builtin "object.__setattr__")))
    (mk_Ranks : PySem.W.makesIn K c_Ranks = true)
    (kc_Ranks : PySem.W.keepIn K (.ref c_Ranks) = true)
    (na_Ranks_nothing : PySem.W.findIn K (.ref c_Ranks) "nothing" = some none)
    (na_Ranks_costs : PySem.W.findIn K (.ref c_Ranks) "costs" = some none)
    (pg_Reader : PySem.W.plainGet K c_Reader Str.empty = true)
    (hd_Reader : PySem.W.hasDictIn K c_Reader = true)
    (po_Reader : PySem.W.plainOver K c_Reader = true)
    (sa_Reader : PySem.W.findIn K (.ref c_Reader) "__setattr__" = some (some (.builtin "object.__setattr__")))
    (mk_Reader : PySem.W.makesIn K c_Reader = true)
    (kc_Reader : PySem.W.keepIn K (.ref c_Reader) = true)
    (na_Reader_numbers : PySem.W.findIn K (.ref c_Reader) "numbers" = some none)
    (na_Reader_at : PySem.W.findIn K (.ref c_Reader) "at" = some none)
    (pg_Loft : PySem.W.plainGet K c_Loft Str.empty = true)
    (hd_Loft : PySem.W.hasDictIn K c_Loft = true)
    (po_Loft : PySem.W.plainOver K c_Loft = true)
    (sa_Loft : PySem.W.findIn K (.ref c_Loft) "__setattr__" = some (some (.builtin "object.__setattr__")))
    (mk_Loft : PySem.W.makesIn K c_Loft = true)
    (kc_Loft : PySem.W.keepIn K (.ref c_Loft) = true)
    (na_Loft_table : PySem.W.findIn K (.ref c_Loft) "table" = some none)
    (g_GREATEST : PySem.W.nsIn K mainGlobals "GREATEST" = some (some (.int (1048575) t_GREATEST)))
    (g_FEWEST : PySem.W.nsIn K mainGlobals "FEWEST" = some (some (.int (2) t_FEWEST)))
    (g_MOST_STATIONS : PySem.W.nsIn K mainGlobals "MOST_STATIONS" = some (some (.int (24) t_MOST_STATIONS)))
    (g_MOST_LEVELS : PySem.W.nsIn K mainGlobals "MOST_LEVELS" = some (some (.int (16) t_MOST_LEVELS)))
    (g_TAKEN : PySem.W.nsIn K mainGlobals "TAKEN" = some (some (.int (0) t_TAKEN)))
    (g_WRONG_COUNT : PySem.W.nsIn K mainGlobals "WRONG_COUNT" = some (some (.int (1) t_WRONG_COUNT)))
    (g_WRONG_SIZE : PySem.W.nsIn K mainGlobals "WRONG_SIZE" = some (some (.int (2) t_WRONG_SIZE)))
    (g_WRONG_PLACE : PySem.W.nsIn K mainGlobals "WRONG_PLACE" = some (some (.int (3) t_WRONG_PLACE)))
    (g_WRONG_HEIGHT : PySem.W.nsIn K mainGlobals "WRONG_HEIGHT" = some (some (.int (4) t_WRONG_HEIGHT)))
    (g_WRONG_BREADTH : PySem.W.nsIn K mainGlobals "WRONG_BREADTH" = some (some (.int (5) t_WRONG_BREADTH)))
    (g_HOLLOW : PySem.W.nsIn K mainGlobals "HOLLOW" = some (some (.int (1) t_HOLLOW)))
    (g_FULL : PySem.W.nsIn K mainGlobals "FULL" = some (some (.int (2) t_FULL)))
    (g_STRAIGHT : PySem.W.nsIn K mainGlobals "STRAIGHT" = some (some (.int (3) t_STRAIGHT)))
    (g_ANY : PySem.W.nsIn K mainGlobals "ANY" = some (some (.int (0) t_ANY)))
    (g_GREATEST_WISH : PySem.W.nsIn K mainGlobals "GREATEST_WISH" = some (some (.int (3) t_GREATEST_WISH)))
    (g_FARTHEST : PySem.W.nsIn K mainGlobals "FARTHEST" = some (some (.int (16) t_FARTHEST)))
    (g_MOST_CHOICES : PySem.W.nsIn K mainGlobals "MOST_CHOICES" = some (some (.int (33) t_MOST_CHOICES)))
    (g_MAKE : PySem.W.nsIn K mainGlobals "MAKE" = some (some (.int (1) t_MAKE)))
    (g_LINE : PySem.W.nsIn K mainGlobals "LINE" = some (some (.int (2) t_LINE)))
    (g_PUT : PySem.W.nsIn K mainGlobals "PUT" = some (some (.int (3) t_PUT)))
    (g_STANDS : PySem.W.nsIn K mainGlobals "STANDS" = some (some (.int (4) t_STANDS)))
    (g_JUDGE : PySem.W.nsIn K mainGlobals "JUDGE" = some (some (.int (5) t_JUDGE)))
    (g_LEAST : PySem.W.nsIn K mainGlobals "LEAST" = some (some (.int (6) t_LEAST)))
    (g_MANY : PySem.W.nsIn K mainGlobals "MANY" = some (some (.int (7) t_MANY)))
    (g_NONE : PySem.W.nsIn K mainGlobals "NONE" = some (some (.int (8) t_NONE)))
    (g_NO_TABLE : PySem.W.nsIn K mainGlobals "NO_TABLE" = some (some (.int (-3) t_NO_TABLE)))
    (g_WRONG_NUMBER : PySem.W.nsIn K mainGlobals "WRONG_NUMBER" = some (some (.int (-1) t_WRONG_NUMBER)))
    (g_NO_LINE : PySem.W.nsIn K mainGlobals "NO_LINE" = some (some (.int (-4) t_NO_LINE)))
    (g_WRONG_LENGTH : PySem.W.nsIn K mainGlobals "WRONG_LENGTH" = some (some (.int (-9) t_WRONG_LENGTH)))
    (g_NONE_FAIR : PySem.W.nsIn K mainGlobals "NONE_FAIR" = some (some (.int (-5) t_NONE_FAIR)))
    (n_len : PySem.W.nsIn K mainGlobals "len" = some none)
    (n_abs : PySem.W.nsIn K mainGlobals "abs" = some none)
    (n_sum : PySem.W.nsIn K mainGlobals "sum" = some none)
    (n_min : PySem.W.nsIn K mainGlobals "min" = some none)
    (n_max : PySem.W.nsIn K mainGlobals "max" = some none)
    (n_list : PySem.W.nsIn K mainGlobals "list" = some none)
    (n_enumerate : PySem.W.nsIn K mainGlobals "enumerate" = some none)
    (n_range : PySem.W.nsIn K mainGlobals "range" = some none)
    (n_reversed : PySem.W.nsIn K mainGlobals "reversed" = some none)
    (n_zip : PySem.W.nsIn K mainGlobals "zip" = some none)
    : ∃ t : Adr, Txt K mg t ∧ ∀ (s : Shared) (us : List Value), us.length = (["calls"] : List Str).length → BindsTo s t.d_answers ⟨us, []⟩ ((["calls"] : List Str).zip us) := by
  have F_0 := fun_mk (st := s_first_not_rising) l_0 c_d_0 k_0
  have B_0 := F_0.binds (ps := ["numbers", "least"]) fun _ _ _ _ _ _ us hl => by obtain ⟨_, _, rfl⟩ := ln2 hl; rfl
  have F_1 := fun_mk (st := s_first_beyond) l_1 c_d_1 k_1
  have B_1 := F_1.binds (ps := ["numbers", "most"]) fun _ _ _ _ _ _ us hl => by obtain ⟨_, _, rfl⟩ := ln2 hl; rfl
  have F_2 := fun_mk (st := s_fault_of_sizes) l_2 c_d_2 k_2
  have B_2 := F_2.binds (ps := ["places", "heights", "half_breadths"]) fun _ _ _ _ _ _ us hl => by obtain ⟨_, _, _, rfl⟩ := ln3 hl; rfl
  have F_3 := fun_mk (st := s_verdict_on) l_3 c_d_3 k_3
  have B_3 := F_3.binds (ps := ["places", "heights", "half_breadths"]) fun _ _ _ _ _ _ us hl => by obtain ⟨_, _, _, rfl⟩ := ln3 hl; rfl
  have F_4 := fun_mk (st := s_Table___init__) l_4 c_d_4 k_4
  have B_4 := F_4.binds (ps := ["self", "places", "heights", "half_breadths"]) fun _ _ _ _ _ _ us hl => by obtain ⟨_, _, _, _, rfl⟩ := ln4 hl; rfl
  have F_5 := fun_mk (st := s_Table_line_count) l_5 c_d_5 k_5
  have B_5 := F_5.binds (ps := ["self", "way"]) fun _ _ _ _ _ _ us hl => by obtain ⟨_, _, rfl⟩ := ln2 hl; rfl
  have F_6 := fun_mk (st := s_Table_spots) l_6 c_d_6 k_6
  have B_6 := F_6.binds (ps := ["self", "way", "k"]) fun _ _ _ _ _ _ us hl => by obtain ⟨_, _, _, rfl⟩ := ln3 hl; rfl
  have F_7 := fun_mk (st := s_Table_nail_xs) l_7 c_d_7 k_7
  have B_7 := F_7.binds (ps := ["self", "way"]) fun _ _ _ _ _ _ us hl => by obtain ⟨_, _, rfl⟩ := ln2 hl; rfl
  have F_8 := fun_mk (st := s_Table_nail_ys) l_8 c_d_8 k_8
  have B_8 := F_8.binds (ps := ["self", "way", "k"]) fun _ _ _ _ _ _ us hl => by obtain ⟨_, _, _, rfl⟩ := ln3 hl; rfl
  have F_9 := fun_mk (st := s_Table_put_ys) l_9 c_d_9 k_9
  have B_9 := F_9.binds (ps := ["self", "way", "k", "ys"]) fun _ _ _ _ _ _ us hl => by obtain ⟨_, _, _, _, rfl⟩ := ln4 hl; rfl
  have F_10 := fun_mk (st := s_stands_of) l_10 c_d_10 k_10
  have B_10 := F_10.binds (ps := ["xs", "ys"]) fun _ _ _ _ _ _ us hl => by obtain ⟨_, _, rfl⟩ := ln2 hl; rfl
  have F_11 := fun_mk (st := s_first_unfair) l_11 c_d_11 k_11
  have B_11 := F_11.binds (ps := ["xs", "ys", "shape"]) fun _ _ _ _ _ _ us hl => by obtain ⟨_, _, _, rfl⟩ := ln3 hl; rfl
  have F_12 := fun_mk (st := s_choices_of) l_12 c_d_12 k_12
  have B_12 := F_12.binds (ps := ["y", "move"]) fun _ _ _ _ _ _ us hl => by obtain ⟨_, _, rfl⟩ := ln2 hl; rfl
  have F_13 := fun_mk (st := s_Room___init__) l_13 c_d_13 k_13
  have B_13 := F_13.binds (ps := ["self", "xs", "ys", "shape", "moves"]) fun _ _ _ _ _ _ us hl => by obtain ⟨_, _, _, _, _, rfl⟩ := ln5 hl; rfl
  have F_14 := fun_mk (st := s_Room_moved_by) l_14 c_d_14 k_14
  have B_14 := F_14.binds (ps := ["self", "nail"]) fun _ _ _ _ _ _ us hl => by obtain ⟨_, _, rfl⟩ := ln2 hl; rfl
  have F_15 := fun_mk (st := s_Counts___init__) l_15 c_d_15 k_15
  have B_15 := F_15.binds (ps := ["self", "room"]) fun _ _ _ _ _ _ us hl => by obtain ⟨_, _, rfl⟩ := ln2 hl; rfl
  have F_16 := fun_mk (st := s_Counts_either) l_16 c_d_16 k_16
  have B_16 := F_16.binds (ps := ["self", "one", "other"]) fun _ _ _ _ _ _ us hl => by obtain ⟨_, _, _, rfl⟩ := ln3 hl; rfl
  have F_17 := fun_mk (st := s_Counts_along) l_17 c_d_17 k_17
  have B_17 := F_17.binds (ps := ["self", "tally", "cost"]) fun _ _ _ _ _ _ us hl => by obtain ⟨_, _, _, rfl⟩ := ln3 hl; rfl
  have F_18 := fun_mk (st := s_GreatestMoves___init__) l_18 c_d_18 k_18
  have B_18 := F_18.binds (ps := ["self", "room"]) fun _ _ _ _ _ _ us hl => by obtain ⟨_, _, rfl⟩ := ln2 hl; rfl
  have F_19 := fun_mk (st := s_GreatestMoves_either) l_19 c_d_19 k_19
  have B_19 := F_19.binds (ps := ["self", "one", "other"]) fun _ _ _ _ _ _ us hl => by obtain ⟨_, _, _, rfl⟩ := ln3 hl; rfl
  have F_20 := fun_mk (st := s_GreatestMoves_along) l_20 c_d_20 k_20
  have B_20 := F_20.binds (ps := ["self", "tally", "cost"]) fun _ _ _ _ _ _ us hl => by obtain ⟨_, _, _, rfl⟩ := ln3 hl; rfl
  have F_21 := fun_mk (st := s_digit_weights) l_21 c_d_21 k_21
  have B_21 := F_21.binds (ps := ["count"]) fun _ _ _ _ _ _ us hl => by obtain ⟨_, rfl⟩ := ln1 hl; rfl
  have F_22 := fun_mk (st := s_rank_costs) l_22 c_d_22 k_22
  have B_22 := F_22.binds (ps := ["moved", "sum_weight", "digit_weight"]) fun _ _ _ _ _ _ us hl => by obtain ⟨_, _, _, rfl⟩ := ln3 hl; rfl
  have F_23 := fun_mk (st := s_Ranks___init__) l_23 c_d_23 k_23
  have B_23 := F_23.binds (ps := ["self", "room"]) fun _ _ _ _ _ _ us hl => by obtain ⟨_, _, rfl⟩ := ln2 hl; rfl
  have F_24 := fun_mk (st := s_Ranks_either) l_24 c_d_24 k_24
  have B_24 := F_24.binds (ps := ["self", "one", "other"]) fun _ _ _ _ _ _ us hl => by obtain ⟨_, _, _, rfl⟩ := ln3 hl; rfl
  have F_25 := fun_mk (st := s_Ranks_along) l_25 c_d_25 k_25
  have B_25 := F_25.binds (ps := ["self", "tally", "cost"]) fun _ _ _ _ _ _ us hl => by obtain ⟨_, _, _, rfl⟩ := ln3 hl; rfl
  have F_26 := fun_mk (st := s_choices_of_rank) l_26 c_d_26 k_26
  have B_26 := F_26.binds (ps := ["room", "rank"]) fun _ _ _ _ _ _ us hl => by obtain ⟨_, _, rfl⟩ := ln2 hl; rfl
  have F_27 := fun_mk (st := s_gathered) l_27 c_d_27 k_27
  have B_27 := F_27.binds (ps := ["tallies", "row"]) fun _ _ _ _ _ _ us hl => by obtain ⟨_, _, rfl⟩ := ln2 hl; rfl
  have F_28 := fun_mk (st := s_total) l_28 c_d_28 k_28
  have B_28 := F_28.binds (ps := ["tallies", "rows"]) fun _ _ _ _ _ _ us hl => by obtain ⟨_, _, rfl⟩ := ln2 hl; rfl
  have F_29 := fun_mk (st := s_clamped) l_29 c_d_29 k_29
  have B_29 := F_29.binds (ps := ["number", "most"]) fun _ _ _ _ _ _ us hl => by obtain ⟨_, _, rfl⟩ := ln2 hl; rfl
  have F_30 := fun_mk (st := s_straight_points) l_30 c_d_30 k_30
  have B_30 := F_30.binds (ps := ["room", "nail", "here"]) fun _ _ _ _ _ _ us hl => by obtain ⟨_, _, _, rfl⟩ := ln3 hl; rfl
  have F_31 := fun_mk (st := s_hollow_or_straight) l_31 c_d_31 k_31
  have B_31 := F_31.binds (ps := ["tallies", "row", "lowest", "points", "step"]) fun _ _ _ _ _ _ us hl => by obtain ⟨_, _, _, _, _, rfl⟩ := ln5 hl; rfl
  have F_32 := fun_mk (st := s_full_or_straight) l_32 c_d_32 k_32
  have B_32 := F_32.binds (ps := ["tallies", "row", "lowest", "points", "step"]) fun _ _ _ _ _ _ us hl => by obtain ⟨_, _, _, _, _, rfl⟩ := ln5 hl; rfl
  have F_33 := fun_mk (st := s_straight_alone) l_33 c_d_33 k_33
  have B_33 := F_33.binds (ps := ["tallies", "row", "lowest", "points", "step"]) fun _ _ _ _ _ _ us hl => by obtain ⟨_, _, _, _, _, rfl⟩ := ln5 hl; rfl
  have F_34 := fun_mk (st := s_tallies_behind) l_34 c_d_34 k_34
  have B_34 := F_34.binds (ps := ["room", "tallies", "nail", "here", "row"]) fun _ _ _ _ _ _ us hl => by obtain ⟨_, _, _, _, _, rfl⟩ := ln5 hl; rfl
  have F_35 := fun_mk (st := s_with_cost) l_35 c_d_35 k_35
  have B_35 := F_35.binds (ps := ["tallies", "row", "cost"]) fun _ _ _ _ _ _ us hl => by obtain ⟨_, _, _, rfl⟩ := ln3 hl; rfl
  have F_36 := fun_mk (st := s_first_rows) l_36 c_d_36 k_36
  have B_36 := F_36.binds (ps := ["tallies"]) fun _ _ _ _ _ _ us hl => by obtain ⟨_, rfl⟩ := ln1 hl; rfl
  have F_37 := fun_mk (st := s_nth_of_each) l_37 c_d_37 k_37
  have B_37 := F_37.binds (ps := ["columns", "index"]) fun _ _ _ _ _ _ us hl => by obtain ⟨_, _, rfl⟩ := ln2 hl; rfl
  have F_38 := fun_mk (st := s_next_rows) l_38 c_d_38 k_38
  have B_38 := F_38.binds (ps := ["room", "tallies", "nail", "rows"]) fun _ _ _ _ _ _ us hl => by obtain ⟨_, _, _, _, rfl⟩ := ln4 hl; rfl
  have F_39 := fun_mk (st := s_total_of_fair) l_39 c_d_39 k_39
  have B_39 := F_39.binds (ps := ["room", "tallies"]) fun _ _ _ _ _ _ us hl => by obtain ⟨_, _, rfl⟩ := ln2 hl; rfl
  have F_40 := fun_mk (st := s_how_many_fair) l_40 c_d_40 k_40
  have B_40 := F_40.binds (ps := ["room"]) fun _ _ _ _ _ _ us hl => by obtain ⟨_, rfl⟩ := ln1 hl; rfl
  have F_41 := fun_mk (st := s_nails_showing_none) l_41 c_d_41 k_41
  have B_41 := F_41.binds (ps := ["room"]) fun _ _ _ _ _ _ us hl => by obtain ⟨_, rfl⟩ := ln1 hl; rfl
  have F_42 := fun_mk (st := s_nearest) l_42 c_d_42 k_42
  have B_42 := F_42.binds (ps := ["room"]) fun _ _ _ _ _ _ us hl => by obtain ⟨_, rfl⟩ := ln1 hl; rfl
  have F_43 := fun_mk (st := s_Reader___init__) l_43 c_d_43 k_43
  have B_43 := F_43.binds (ps := ["self", "numbers"]) fun _ _ _ _ _ _ us hl => by obtain ⟨_, _, rfl⟩ := ln2 hl; rfl
  have F_44 := fun_mk (st := s_Reader_has_more) l_44 c_d_44 k_44
  have B_44 := F_44.binds (ps := ["self"]) fun _ _ _ _ _ _ us hl => by obtain ⟨_, rfl⟩ := ln1 hl; rfl
  have F_45 := fun_mk (st := s_Reader_take_number) l_45 c_d_45 k_45
  have B_45 := F_45.binds (ps := ["self"]) fun _ _ _ _ _ _ us hl => by obtain ⟨_, rfl⟩ := ln1 hl; rfl
  have F_46 := fun_mk (st := s_Reader_take_row) l_46 c_d_46 k_46
  have B_46 := F_46.binds (ps := ["self"]) fun _ _ _ _ _ _ us hl => by obtain ⟨_, rfl⟩ := ln1 hl; rfl
  have F_47 := fun_mk (st := s_Loft___init__) l_47 c_d_47 k_47
  have B_47 := F_47.binds (ps := ["self"]) fun _ _ _ _ _ _ us hl => by obtain ⟨_, rfl⟩ := ln1 hl; rfl
  have F_48 := fun_mk (st := s_Loft_refusal) l_48 c_d_48 k_48
  have B_48 := F_48.binds (ps := ["self", "way", "k", "numbers_fit"]) fun _ _ _ _ _ _ us hl => by obtain ⟨_, _, _, _, rfl⟩ := ln4 hl; rfl
  have F_49 := fun_mk (st := s_Loft_refusal_of_moving) l_49 c_d_49 k_49
  have B_49 := F_49.binds (ps := ["self", "way", "k", "shape", "moves"]) fun _ _ _ _ _ _ us hl => by obtain ⟨_, _, _, _, _, rfl⟩ := ln5 hl; rfl
  have F_50 := fun_mk (st := s_Loft_room) l_50 c_d_50 k_50
  have B_50 := F_50.binds (ps := ["self", "way", "k", "shape", "moves"]) fun _ _ _ _ _ _ us hl => by obtain ⟨_, _, _, _, _, rfl⟩ := ln5 hl; rfl
  have F_51 := fun_mk (st := s_Loft_make) l_51 c_d_51 k_51
  have B_51 := F_51.binds (ps := ["self", "places", "heights", "half_breadths"]) fun _ _ _ _ _ _ us hl => by obtain ⟨_, _, _, _, rfl⟩ := ln4 hl; rfl
  have F_52 := fun_mk (st := s_Loft_line) l_52 c_d_52 k_52
  have B_52 := F_52.binds (ps := ["self", "way", "k"]) fun _ _ _ _ _ _ us hl => by obtain ⟨_, _, _, rfl⟩ := ln3 hl; rfl
  have F_53 := fun_mk (st := s_Loft_put) l_53 c_d_53 k_53
  have B_53 := F_53.binds (ps := ["self", "way", "k", "ys"]) fun _ _ _ _ _ _ us hl => by obtain ⟨_, _, _, _, rfl⟩ := ln4 hl; rfl
  have F_54 := fun_mk (st := s_Loft_stands) l_54 c_d_54 k_54
  have B_54 := F_54.binds (ps := ["self", "way", "k"]) fun _ _ _ _ _ _ us hl => by obtain ⟨_, _, _, rfl⟩ := ln3 hl; rfl
  have F_55 := fun_mk (st := s_Loft_judge) l_55 c_d_55 k_55
  have B_55 := F_55.binds (ps := ["self", "way", "k", "shape"]) fun _ _ _ _ _ _ us hl => by obtain ⟨_, _, _, _, rfl⟩ := ln4 hl; rfl
  have F_56 := fun_mk (st := s_Loft_least) l_56 c_d_56 k_56
  have B_56 := F_56.binds (ps := ["self", "way", "k", "shape", "moves"]) fun _ _ _ _ _ _ us hl => by obtain ⟨_, _, _, _, _, rfl⟩ := ln5 hl; rfl
  have F_57 := fun_mk (st := s_Loft_many) l_57 c_d_57 k_57
  have B_57 := F_57.binds (ps := ["self", "way", "k", "shape", "moves"]) fun _ _ _ _ _ _ us hl => by obtain ⟨_, _, _, _, _, rfl⟩ := ln5 hl; rfl
  have F_58 := fun_mk (st := s_Loft_none) l_58 c_d_58 k_58
  have B_58 := F_58.binds (ps := ["self", "way", "k", "shape", "moves"]) fun _ _ _ _ _ _ us hl => by obtain ⟨_, _, _, _, _, rfl⟩ := ln5 hl; rfl
  have F_59 := fun_mk (st := s_answer_make) l_59 c_d_59 k_59
  have B_59 := F_59.binds (ps := ["loft", "reader"]) fun _ _ _ _ _ _ us hl => by obtain ⟨_, _, rfl⟩ := ln2 hl; rfl
  have F_60 := fun_mk (st := s_answer_on_line) l_60 c_d_60 k_60
  have B_60 := F_60.binds (ps := ["loft", "reader", "call"]) fun _ _ _ _ _ _ us hl => by obtain ⟨_, _, _, rfl⟩ := ln3 hl; rfl
  have F_61 := fun_mk (st := s_answer_on_moved) l_61 c_d_61 k_61
  have B_61 := F_61.binds (ps := ["loft", "reader", "call", "way", "k"]) fun _ _ _ _ _ _ us hl => by obtain ⟨_, _, _, _, _, rfl⟩ := ln5 hl; rfl
  have F_62 := fun_mk (st := s_answer_next) l_62 c_d_62 k_62
  have B_62 := F_62.binds (ps := ["loft", "reader"]) fun _ _ _ _ _ _ us hl => by obtain ⟨_, _, rfl⟩ := ln2 hl; rfl
  have F_63 := fun_mk (st := s_answers) l_63 c_d_63 k_63
  have B_63 := F_63.binds (ps := ["calls"]) fun _ _ _ _ _ _ us hl => by obtain ⟨_, rfl⟩ := ln1 hl; rfl
  have X : Txt K mg ⟨c_Table, c_Room, c_Counts, c_GreatestMoves, c_Ranks, c_Reader, c_Loft, f_0, _, f_1, _, f_2, _, f_3, _, f_4, _, f_5, _, f_6, _, f_7, _, f_8, _, f_9, _, f_10, _, f_11, _, f_12, _, f_13, _, f_14, _, f_15, _, f_16, _, f_17, _, f_18, _, f_19, _, f_20, _, f_21, _, f_22, _, f_23, _, f_24, _, f_25, _, f_26, _, f_27, _, f_28, _, f_29, _, f_30, _, f_31, _, f_32, _, f_33, _, f_34, _, f_35, _, f_36, _, f_37, _, f_38, _, f_39, _, f_40, _, f_41, _, f_42, _, f_43, _, f_44, _, f_45, _, f_46, _, f_47, _, f_48, _, f_49, _, f_50, _, f_51, _, f_52, _, f_53, _, f_54, _, f_55, _, f_56, _, f_57, _, f_58, _, f_59, _, f_60, _, f_61, _, f_62, _, f_63, _, t_GREATEST, t_FEWEST, t_MOST_STATIONS, t_MOST_LEVELS, t_TAKEN, t_WRONG_COUNT, t_WRONG_SIZE, t_WRONG_PLACE, t_WRONG_HEIGHT, t_WRONG_BREADTH, t_HOLLOW, t_FULL, t_STRAIGHT, t_ANY, t_GREATEST_WISH, t_FARTHEST, t_MOST_CHOICES, t_MAKE, t_LINE, t_PUT, t_STANDS, t_JUDGE, t_LEAST, t_MANY, t_NONE, t_NO_TABLE, t_WRONG_NUMBER, t_NO_LINE, t_WRONG_LENGTH, t_NONE_FAIR⟩ := ⟨⟨pg_Table, hd_Table, po_Table, sa_Table⟩,
    ⟨mk_Table, a_4, i_4, kc_Table⟩,
    PySem.W.mg_of X G aC_Table,
    na_Table_places,
    na_Table_heights,
    na_Table_half_breadths,
    ⟨pg_Room, hd_Room, po_Room, sa_Room⟩,
    ⟨mk_Room, a_13, i_13, kc_Room⟩,
    PySem.W.mg_of X G aC_Room,
    na_Room_xs,
    na_Room_ys,
    na_Room_shape,
    na_Room_moves,
    na_Room_choices,
    ⟨pg_Counts, hd_Counts, po_Counts, sa_Counts⟩,
    ⟨mk_Counts, a_15, i_15, kc_Counts⟩,
    PySem.W.mg_of X G aC_Counts,
    na_Counts_nothing,
    na_Counts_costs,
    ⟨pg_GreatestMoves, hd_GreatestMoves, po_GreatestMoves, sa_GreatestMoves⟩,
    ⟨mk_GreatestMoves, a_18, i_18, kc_GreatestMoves⟩,
    PySem.W.mg_of X G aC_GreatestMoves,
    na_GreatestMoves_nothing,
    na_GreatestMoves_costs,
    ⟨pg_Ranks, hd_Ranks, po_Ranks, sa_Ranks⟩,
    ⟨mk_Ranks, a_23, i_23, kc_Ranks⟩,
    PySem.W.mg_of X G aC_Ranks,
    na_Ranks_nothing,
    na_Ranks_costs,
    ⟨pg_Reader, hd_Reader, po_Reader, sa_Reader⟩,
    ⟨mk_Reader, a_43, i_43, kc_Reader⟩,
    PySem.W.mg_of X G aC_Reader,
    na_Reader_numbers,
    na_Reader_at,
    ⟨pg_Loft, hd_Loft, po_Loft, sa_Loft⟩,
    ⟨mk_Loft, a_47, i_47, kc_Loft⟩,
    PySem.W.mg_of X G aC_Loft,
    na_Loft_table,
    F_0,
    B_0,
    PySem.W.mg_of X G a_0,
    F_1,
    B_1,
    PySem.W.mg_of X G a_1,
    F_2,
    B_2,
    PySem.W.mg_of X G a_2,
    F_3,
    B_3,
    PySem.W.mg_of X G a_3,
    F_4,
    B_4,
    F_5,
    B_5,
    ⟨a_5, i_5, k_5⟩,
    F_6,
    B_6,
    ⟨a_6, i_6, k_6⟩,
    F_7,
    B_7,
    ⟨a_7, i_7, k_7⟩,
    F_8,
    B_8,
    ⟨a_8, i_8, k_8⟩,
    F_9,
    B_9,
    ⟨a_9, i_9, k_9⟩,
    F_10,
    B_10,
    PySem.W.mg_of X G a_10,
    F_11,
    B_11,
    PySem.W.mg_of X G a_11,
    F_12,
    B_12,
    PySem.W.mg_of X G a_12,
    F_13,
    B_13,
    F_14,
    B_14,
    ⟨a_14, i_14, k_14⟩,
    F_15,
    B_15,
    F_16,
    B_16,
    ⟨a_16, i_16, k_16⟩,
    F_17,
    B_17,
    ⟨a_17, i_17, k_17⟩,
    F_18,
    B_18,
    F_19,
    B_19,
    ⟨a_19, i_19, k_19⟩,
    F_20,
    B_20,
    ⟨a_20, i_20, k_20⟩,
    F_21,
    B_21,
    PySem.W.mg_of X G a_21,
    F_22,
    B_22,
    PySem.W.mg_of X G a_22,
    F_23,
    B_23,
    F_24,
    B_24,
    ⟨a_24, i_24, k_24⟩,
    F_25,
    B_25,
    ⟨a_25, i_25, k_25⟩,
    F_26,
    B_26,
    PySem.W.mg_of X G a_26,
    F_27,
    B_27,
    PySem.W.mg_of X G a_27,
    F_28,
    B_28,
    PySem.W.mg_of X G a_28,
    F_29,
    B_29,
    PySem.W.mg_of X G a_29,
    F_30,
    B_30,
    PySem.W.mg_of X G a_30,
    F_31,
    B_31,
    PySem.W.mg_of X G a_31,
    F_32,
    B_32,
    PySem.W.mg_of X G a_32,
    F_33,
    B_33,
    PySem.W.mg_of X G a_33,
    F_34,
    B_34,
    PySem.W.mg_of X G a_34,
    F_35,
    B_35,
    PySem.W.mg_of X G a_35,
    F_36,
    B_36,
    PySem.W.mg_of X G a_36,
    F_37,
    B_37,
    PySem.W.mg_of X G a_37,
    F_38,
    B_38,
    PySem.W.mg_of X G a_38,
    F_39,
    B_39,
    PySem.W.mg_of X G a_39,
    F_40,
    B_40,
    PySem.W.mg_of X G a_40,
    F_41,
    B_41,
    PySem.W.mg_of X G a_41,
    F_42,
    B_42,
    PySem.W.mg_of X G a_42,
    F_43,
    B_43,
    F_44,
    B_44,
    ⟨a_44, i_44, k_44⟩,
    F_45,
    B_45,
    ⟨a_45, i_45, k_45⟩,
    F_46,
    B_46,
    ⟨a_46, i_46, k_46⟩,
    F_47,
    B_47,
    F_48,
    B_48,
    ⟨a_48, i_48, k_48⟩,
    F_49,
    B_49,
    ⟨a_49, i_49, k_49⟩,
    F_50,
    B_50,
    ⟨a_50, i_50, k_50⟩,
    F_51,
    B_51,
    ⟨a_51, i_51, k_51⟩,
    F_52,
    B_52,
    ⟨a_52, i_52, k_52⟩,
    F_53,
    B_53,
    ⟨a_53, i_53, k_53⟩,
    F_54,
    B_54,
    ⟨a_54, i_54, k_54⟩,
    F_55,
    B_55,
    ⟨a_55, i_55, k_55⟩,
    F_56,
    B_56,
    ⟨a_56, i_56, k_56⟩,
    F_57,
    B_57,
    ⟨a_57, i_57, k_57⟩,
    F_58,
    B_58,
    ⟨a_58, i_58, k_58⟩,
    F_59,
    B_59,
    PySem.W.mg_of X G a_59,
    F_60,
    B_60,
    PySem.W.mg_of X G a_60,
    F_61,
    B_61,
    PySem.W.mg_of X G a_61,
    F_62,
    B_62,
    PySem.W.mg_of X G a_62,
    F_63,
    B_63,
    PySem.W.mg_of X G a_63,
    PySem.W.mg_of X G g_GREATEST,
    PySem.W.mg_of X G g_FEWEST,
    PySem.W.mg_of X G g_MOST_STATIONS,
    PySem.W.mg_of X G g_MOST_LEVELS,
    PySem.W.mg_of X G g_TAKEN,
    PySem.W.mg_of X G g_WRONG_COUNT,
    PySem.W.mg_of X G g_WRONG_SIZE,
    PySem.W.mg_of X G g_WRONG_PLACE,
    PySem.W.mg_of X G g_WRONG_HEIGHT,
    PySem.W.mg_of X G g_WRONG_BREADTH,
    PySem.W.mg_of X G g_HOLLOW,
    PySem.W.mg_of X G g_FULL,
    PySem.W.mg_of X G g_STRAIGHT,
    PySem.W.mg_of X G g_ANY,
    PySem.W.mg_of X G g_GREATEST_WISH,
    PySem.W.mg_of X G g_FARTHEST,
    PySem.W.mg_of X G g_MOST_CHOICES,
    PySem.W.mg_of X G g_MAKE,
    PySem.W.mg_of X G g_LINE,
    PySem.W.mg_of X G g_PUT,
    PySem.W.mg_of X G g_STANDS,
    PySem.W.mg_of X G g_JUDGE,
    PySem.W.mg_of X G g_LEAST,
    PySem.W.mg_of X G g_MANY,
    PySem.W.mg_of X G g_NONE,
    PySem.W.mg_of X G g_NO_TABLE,
    PySem.W.mg_of X G g_WRONG_NUMBER,
    PySem.W.mg_of X G g_NO_LINE,
    PySem.W.mg_of X G g_WRONG_LENGTH,
    PySem.W.mg_of X G g_NONE_FAIR,
    PySem.W.mg_none_of X G n_len,
    PySem.W.mg_none_of X G n_abs,
    PySem.W.mg_none_of X G n_sum,
    PySem.W.mg_none_of X G n_min,
    PySem.W.mg_none_of X G n_max,
    PySem.W.mg_none_of X G n_list,
    PySem.W.mg_none_of X G n_enumerate,
    PySem.W.mg_none_of X G n_range,
    PySem.W.mg_none_of X G n_reversed,
    PySem.W.mg_none_of X G n_zip⟩
  exact ⟨_, X, fun s us hu => match us, hu with | [_], _ => .of_eq rfl⟩
end FL
namespace PySem.W.Fast
def tw4146112313879554240 := 0
def tw5362100350116416704 := 0
def tw12540738451872063744 := 0
def tw1685591347564665120 := 0
def tw13549972673805772096 := 0
def tw18121328586967634272 := 0
def tw18304318002782991744 := 0
def tw18405012669342740128 := 0
def tw10630294256691387072 := 0
def tw12552368125391288032 := 0
def tw18198020286730015488 := 0
def tw14024881086289417024 := 0
def tw9770630542405975936 := 0
def tw15390648293299974016 := 0
def tw2444916411914080160 := 0
def tw5639667135203597441 := 0
def tw6855748067668251937 := 0
def tw16137899714098460001 := 0
def tw14919173694860081537 := 0
def tw4143371045067491745 := 0
def tw185102248856959521 := 0
def tw6875932659818621633 := 0
def tw2204461930235008801 := 0
def tw10326811887216558977 := 0
def tw6146402462032983937 := 0
def tw1137846704620601281 := 0
def tw3748961064616904706 := 0
def tw11502553467565095970 := 0
def tw10629109471562797122 := 0
def tw2700792028752800834 := 0
def tw1938795509458736226 := 0
def tw10251783269691843682 := 0
def tw16129495131345578082 := 0
def tw10027528593180584066 := 0
def tw8868976999937713314 := 0
def tw16921471874289906914 := 0
def tw2538426317627249890 := 0
def tw17581852338213598466 := 0
def tw7997922662444652898 := 0
def tw49546827746951714 := 0
def tw3403334759660267042 := 0
def tw13444751957946762818 := 0
def tw12909926317811909250 := 0
def tw13711275963258454690 := 0
def tw16192304385076351714 := 0
def tw13905384055565026 := 0
def tw16644627845932028674 := 0
def tw13394762669731064738 := 0
def tw8163577048754635779 := 0
def tw7758923477866266659 := 0
def tw12405781479608911939 := 0
def tw1450095190730114179 := 0
def tw8622480096981523619 := 0
def tw10126270284732714211 := 0
def tw10497653223552669955 := 0
def tw8763831228532635043 := 0
def tw4017727919333511651 := 0
def tw10175295469061441027 := 0
def tw6415817752548434467 := 0
def tw13225513486210544195 := 0
def tw1334596442796615235 := 0
def tw11928891406481860227 := 0
def tw16335551914517483139 := 0
def tw9344459643543365315 := 0
def tw13462994312136969987 := 0
def tw14442653560390990723 := 0
def tw14917069727322613828 := 0
def tw17655868665465030820 := 0
def tw15518525150111689220 := 0
def tw11805813040402270756 := 0
def tw11306807179770141220 := 0
def tw8595468917068710500 := 0
def tw442178909404188292 := 0
def tw11702312920669911684 := 0
def tw13737158373351282340 := 0
def tw840025354704634660 := 0
def tw7194923065953287076 := 0
def tw12737033550401776580 := 0
def tw17605571616110824805 := 0
def tw8269090558787083685 := 0
def tw15816458529031354917 := 0
def tw5247176106288341605 := 0
def tw6764672147880200837 := 0
def tw9762742026186126981 := 0
def tw2792133193789421221 := 0
def tw1510089466281977509 := 0
def tw18248182966776139461 := 0
def tw12020037680960300901 := 0
def tw1164402673286957029 := 0
def tw8791124621742629894 := 0
def tw7783508238901803110 := 0
def tw11305460640641812582 := 0
def tw3335790569589602630 := 0
def tw2180089313920350534 := 0
def tw1598205324118659430 := 0
def tw4175679011866366374 := 0
def tw14885191063066282406 := 0
def tw6590916594866351622 := 0
def tw15723750701707170374 := 0
def tw18118862583368409670 := 0
def tw11918135905958532710 := 0
def tw963733761599820454 := 0
def tw1690497790933751558 := 0
def tw17612445330135832358 := 0
def tw15460453712190190406 := 0
def tw10550069684694998886 := 0
def tw3487101495480938438 := 0
def tw5309535062737392711 := 0
def tw4141556253380418631 := 0
def tw18258992495348970599 := 0
def tw15966514757184815207 := 0
def tw3630543216321273095 := 0
def tw2734307555646220583 := 0
def tw5939616377819668839 := 0
def tw14329071315011908999 := 0
def tw6819878733377144263 := 0
def tw11438667633946152487 := 0
def tw11028584752266156615 := 0
def tw16029463243568858855 := 0
def tw15170365450512023271 := 0
def tw18008693656366741255 := 0
def tw676255557933095719 := 0
def tw4501141991637043047 := 0
def tw6531081875139094439 := 0
def tw6656558874053771175 := 0
def tw13145108577779422248 := 0
def tw5790418462596798504 := 0
def tw14235195702109000808 := 0
def tw17770335455671520552 := 0
def tw2517897685742303656 := 0
def tw4174822555367077352 := 0
def tw1628489062522329608 := 0
def tw12187987660828618344 := 0
def tw7529714928218399368 := 0
def tw7043379074367155944 := 0
def tw2288334359465908008 := 0
def tw1610631969834282856 := 0
def tw3006902526299407240 := 0
def tw16965859891688292232 := 0
def tw17179965007130560424 := 0
def tw10387505963397374952 := 0
def tw17251563918867877864 := 0
def tw16817325399158459401 := 0
def tw1883186630420380681 := 0
def tw12418213432345302057 := 0
def tw11327627194218565769 := 0
def tw579720092150972617 := 0
def tw12932201061955259593 := 0
def tw1341306464466897129 := 0
def tw4217928727806906633 := 0
def tw10567619736978586889 := 0
def tw14730904305390593353 := 0
def tw5109695631175329225 := 0
def tw16892664235954253289 := 0
def tw15023351840253731465 := 0
def tw13543303356596143785 := 0
def tw12302168365337171657 := 0
def tw5634203405930052297 := 0
def tw5602912549668945673 := 0
def tw18193297257026925449 := 0
def tw12327931405846669225 := 0
def tw9908969530342526921 := 0
def tw18168090503518120905 := 0
def tw12923342688757775370 := 0
def tw7808870911290722346 := 0
def tw17146069886867843114 := 0
def tw17869901634506315946 := 0
def tw4579419870313761002 := 0
def tw15577481443057870186 := 0
def tw106432297227002314 := 0
def tw4604259755988734442 := 0
def tw4069582620417219050 := 0
def tw8550818696290306698 := 0
def tw2108371653242500746 := 0
def tw7800285331271942826 := 0
def tw14739992510505759402 := 0
def tw8178046003751178186 := 0
def tw10261586333364630539 := 0
def tw14712160575009503243 := 0
def tw4337820358698902571 := 0
def tw4278202060353984619 := 0
def tw6021141331464909931 := 0
def tw2126619420256035979 := 0
def tw13079762505642120363 := 0
def tw17449628638442628267 := 0
def tw13572877063371900075 := 0
def tw6813911910449776875 := 0
def tw2038603893773410539 := 0
def tw15288138988903236875 := 0
def tw5032400652204120363 := 0
def tw10954018732538189131 := 0
def tw3308837940285056491 := 0
def tw7358976887415505419 := 0
def tw17600040386511382027 := 0
def tw2800267443039986187 := 0
def tw6338211077660558923 := 0
def tw11025537916824613483 := 0
def tw8054379754453078667 := 0
def tw5415544933415790219 := 0
def tw8361841070319081163 := 0
def tw5571009710753395435 := 0
def tw18019109313375960843 := 0
def tw15817977134357148459 := 0
def tw3895345334280479691 := 0
def tw10465628839149908044 := 0
def tw9085396865795502188 := 0
def tw13244401306843789420 := 0
def tw16059477083390301324 := 0
def tw5654939145528813804 := 0
def tw5204124605016731916 := 0
def tw5626050827449371116 := 0
def tw15733832468058372620 := 0
def tw1291611387188980396 := 0
def tw4467463246187847340 := 0
def tw6393622149360137932 := 0
def tw17393821392523723628 := 0
def tw8842722962692984748 := 0
def tw4419167272187776972 := 0
def tw3122182281193579597 := 0
def tw9599406138142375021 := 0
def tw14975034830722647149 := 0
def tw14526923562205029517 := 0
def tw11371304427699231981 := 0
def tw12527820483415485709 := 0
def tw11803412851164587309 := 0
def tw12848138545679764845 := 0
def tw1152574764551343565 := 0
def tw2868634185412373997 := 0
def tw15180528026206117421 := 0
def tw396553476908548781 := 0
def tw18045367753700996877 := 0
def tw17112179511086567245 := 0
def tw7894345648922506125 := 0
def tw2297629538893582221 := 0
def tw690367813585169357 := 0
def tw5371245702023255021 := 0
def tw15666561814232795150 := 0
def tw5242966190631129230 := 0
def tw924144528331157678 := 0
def tw14541644867842364654 := 0
def tw3074981961321367790 := 0
def tw14167124364877485358 := 0
def tw17447441056580108590 := 0
def tw6119721577239837006 := 0
def tw3261839855347806542 := 0
def tw15394079991414347118 := 0
def tw5889861200578944430 := 0
def tw7736170379950121486 := 0
def tw6699569577993835022 := 0
def tw7510793163563764270 := 0
def tw4998288474243256974 := 0
def tw3555661194327989934 := 0
def tw3362330720152679118 := 0
def tw14613721836667666126 := 0
def tw12824836778586338030 := 0
def tw4055832965328496430 := 0
def tw1362542365670020974 := 0
def tw6595458896383371182 := 0
def tw12192830015579671502 := 0
def tw1821409212299202542 := 0
def tw265243666936629263 := 0
def tw9709335603688388687 := 0
def tw13767567579024844911 := 0
def tw6907193281392060559 := 0
def tw5356073204947103919 := 0
def tw9399414889615162639 := 0
def tw13040420114471158095 := 0
def tw12148438321740655023 := 0
def tw1742571255971002799 := 0
def tw6695740517002253775 := 0
def tw11708277136847933999 := 0
def tw14428641035766312527 := 0
def tw16722968014958315151 := 0
def tw17586222731225609903 := 0
def tw3967009395872808655 := 0
def tw10564844499349864175 := 0
def tw11454316259945003855 := 0
def tw10357990524575624079 := 0
def tw1401916902734726160 := 0
def tw9421089865706983440 := 0
def tw6089561017392590864 := 0
def tw9746427382132492336 := 0
def tw4225233368170191920 := 0
def tw512370812494312656 := 0
def tw16732086794718052848 := 0
def tw16240139116702329392 := 0
def tw9831026936140782160 := 0
def tw8931349469226403536 := 0
def tw10256700895830925040 := 0
def tw9364399102509223696 := 0
def tw4827297401653720880 := 0
def tw3449629408429521808 := 0
def tw6033201397568158640 := 0
def tw5120065150738782192 := 0
def tw12128719371504741393 := 0
def tw10088077777228495985 := 0
def tw6736964696965426321 := 0
def tw14014249894251776145 := 0
def tw16529551755161634993 := 0
def tw10785727757207509201 := 0
def tw8080670908573019377 := 0
def tw6022011313851023665 := 0
def tw2057592810445491505 := 0
def tw13676615752008103281 := 0
def tw6078135211685170545 := 0
def tw15616189994158756369 := 0
def tw18365789659171741201 := 0
def tw3956402784848548401 := 0
def tw383190063322798673 := 0
def tw9665256927251641169 := 0
def tw13598846952235857809 := 0
def tw9505011929963187282 := 0
def tw12797387186366024818 := 0
def tw14071201084691440818 := 0
def tw13695328442544129234 := 0
def tw11983485813937373426 := 0
def tw3039552115081110770 := 0
def tw1573395604549208402 := 0
def tw5066803442858778962 := 0
def tw10433393180633124242 := 0
def tw3274814604510891538 := 0
def tw12817584472492362290 := 0
def tw2343373723476962130 := 0
def tw8758902349829562194 := 0
def tw7552488536329638866 := 0
def tw12130306525424403475 := 0
def tw5641962532199968819 := 0
def tw582799266500949075 := 0
def tw4800059992890304627 := 0
def tw1409983897932669107 := 0
def tw7239963041010849043 := 0
def tw13838585698614079923 := 0
def tw6991081009297566131 := 0
def tw17044830801932474899 := 0
def tw1931081126646966899 := 0
def tw15238992450999840531 := 0
def tw5295491239114881875 := 0
def tw6872459609896953908 := 0
def tw14178909477169973364 := 0
def tw3396714045198923924 := 0
def tw5879124370916885748 := 0
def tw17591641816916060436 := 0
def tw7411803735438258452 := 0
def tw2044048625952034132 := 0
def tw8655265713788220788 := 0
def tw8287588268624589268 := 0
def tw12696980651506339316 := 0
def tw13997895257758796276 := 0
def tw11854405967661665812 := 0
def tw2634216003396994612 := 0
def tw7907325388044026420 := 0
def tw9876199071497142996 := 0
def tw1026167445644152564 := 0
def tw3166759977126821684 := 0
def tw4046013803226680148 := 0
def tw9635922660526574516 := 0
def tw16075575494559798325 := 0
def tw16179483361054959701 := 0
def tw604514233807844469 := 0
def tw12708304271275666709 := 0
def tw4327263591609487637 := 0
def tw16298182134866760021 := 0
def tw10699736442473199957 := 0
def tw2542039837248060821 := 0
def tw4995166481220265397 := 0
def tw4206618284501746101 := 0
def tw12172063644829275605 := 0
def tw12797750859453162997 := 0
def tw3892030233900882453 := 0
def tw392050527478217397 := 0
def tw10728282660544458581 := 0
def tw855858996379202421 := 0
def tw7532205292982770581 := 0
def tw6005985362122280022 := 0
def tw17680908543840289910 := 0
def tw17694282765928175734 := 0
def tw14088068171397044342 := 0
def tw13832528285805788342 := 0
def tw8422845734174650550 := 0
def tw10197266854667329750 := 0
def tw6936044906083857622 := 0
def tw17351133630608521430 := 0
def tw4858569031557569782 := 0
def tw302290081290989814 := 0
def tw13267921497779031318 := 0
def tw16782753582842324278 := 0
def tw14863493490888383862 := 0
def tw8273583272635201942 := 0
def tw14085325781711319542 := 0
def tw13317199804196469238 := 0
def tw1755205090999411318 := 0
def tw7112530322479757974 := 0
def tw1473503488338678422 := 0
def tw12076782597662538518 := 0
def tw11324579982677161878 := 0
def tw13931843479449294742 := 0
def tw5452361352099196886 := 0
def tw4361585202774907894 := 0
def tw7907164223001311255 := 0
def tw11313059855414955063 := 0
def tw2280435592065493079 := 0
def tw8855785436151162999 := 0
def tw11559554839231556759 := 0
def tw278074983784258743 := 0
def tw1014960107149770135 := 0
def tw3614384182418904471 := 0
def tw11393362704573234775 := 0
def tw18003159839799051927 := 0
def tw5817731531739469463 := 0
def tw6003383182774315703 := 0
def tw2132016408423458551 := 0
def tw2739130421025367895 := 0
def tw17135478783624022935 := 0
def tw10885957348714998679 := 0
def tw12071359522161982391 := 0
def tw13001774741292101559 := 0
def tw5445809679077684344 := 0
def tw14355822689277338776 := 0
def tw10703131454072838360 := 0
def tw2702241584801377560 := 0
def tw3239796814400626040 := 0
def tw8859112870468451736 := 0
def tw7872205026088117688 := 0
def tw5701613106094266872 := 0
def tw5163427568661983768 := 0
def tw6530108281898883640 := 0
def tw15754148272253998648 := 0
def tw2679958541312205400 := 0
def tw13369035909403735768 := 0
def tw9132206105114548984 := 0
def tw310650539078261496 := 0
def tw3682687479226949464 := 0
def tw5830029962345498552 := 0
def tw13857288149917163512 := 0
def tw5414195575615120376 := 0
def tw13372617738435640409 := 0
def tw14094069483860308121 := 0
def tw12384369805894139033 := 0
def tw12600189879112716441 := 0
def tw1035140396926270617 := 0
def tw6109106228864341177 := 0
def tw17900838114022796537 := 0
def tw10484274865536953593 := 0
def tw16338638474507284729 := 0
def tw17484189925434141977 := 0
def tw15486626119676024089 := 0
def tw1138517689216694553 := 0
def tw17320224809844722297 := 0
def tw9688758222880621209 := 0
def tw12821580615930335961 := 0
def tw4375646978091612921 := 0
def tw4113234659728281369 := 0
def tw291726379569887001 := 0
def tw2766353441745482649 := 0
def tw18182789954308200345 := 0
def tw7837755023050265593 := 0
def tw5412126780617285658 := 0
def tw15312045701636590714 := 0
def tw17346542185928989818 := 0
def tw1282034601432391834 := 0
def tw17760320728859652314 := 0
def tw17942752228717249786 := 0
def tw6767771315660417434 := 0
def tw4186361403015535098 := 0
def tw6877557171721329146 := 0
def tw2445153233903722010 := 0
def tw4618108843685894682 := 0
def tw14758625504722921531 := 0
def tw11867439369655859419 := 0
def tw3099950273967487291 := 0
def tw8775242128530851163 := 0
def tw4285352618829927771 := 0
def tw412873761196893723 := 0
def tw6003635856761742875 := 0
def tw18123683337967040091 := 0
def tw4993555568155336315 := 0
def tw7340241329123680891 := 0
def tw16860038338498308763 := 0
def tw4200359034951049051 := 0
def tw2632324113804455771 := 0
def tw5942848651396297595 := 0
def tw2268258612415748987 := 0
def tw12296863554411192219 := 0
def tw9830439337259210683 := 0
def tw11066095365873443771 := 0
def tw15532758197634751419 := 0
def tw2775753451980943323 := 0
def tw14316522999325472828 := 0
def tw18220190552566679612 := 0
def tw4179394593664072892 := 0
def tw3789287413496295644 := 0
def tw16141012994518109468 := 0
def tw9268048465626128796 := 0
def tw17914931942874883644 := 0
def tw14286352148806462044 := 0
def tw11510469731547811484 := 0
def tw17939825034086978332 := 0
def tw14374876264759656316 := 0
def tw736698487754449949 := 0
def tw8088723618725655581 := 0
def tw9198522545860869181 := 0
def tw11307587402610008285 := 0
def tw7592906592252176701 := 0
def tw4836369211975596413 := 0
def tw2549233684935612925 := 0
def tw12997732865819833885 := 0
def tw14809337008026350173 := 0
def tw16489718283835140733 := 0
def tw12402216018994402013 := 0
def tw1574353975883567837 := 0
def tw12039684161303031549 := 0
def tw12424134570254110589 := 0
def tw5866844895634700285 := 0
def tw7417598064569795581 := 0
def tw10464827080662337566 := 0
def tw14212642908630168638 := 0
def tw14229283159281764478 := 0
def tw13417495369077360894 := 0
def tw14721962830801611070 := 0
def tw744180804670736734 := 0
def tw6860573092709228894 := 0
def tw17566217942916517278 := 0
def tw14305421894071181790 := 0
def tw15447741030461742590 := 0
def tw14605394798944101886 := 0
def tw16007465274318006814 := 0
def tw17534653120547986046 := 0
def tw15818373624997862014 := 0
def tw4164224177257608030 := 0
def tw14687608003579734878 := 0
def tw15517277802146211710 := 0
def tw12390908902794321822 := 0
def tw2304579334901512126 := 0
def tw3524197276485054430 := 0
def tw10036011182843762783 := 0
def tw13572920402650707039 := 0
def tw4621938268985478367 := 0
def tw783837022382516479 := 0
def tw9863220332844747103 := 0
def tw6577256468610984415 := 0
def tw3802816207179546111 := 0
def tw9124360062598945375 := 0
def tw6228610841577001567 := 0
def tw2498669382599151231 := 0
def tw7513147603022568063 := 0
def tw9254543170829394591 := 0
def tw1266727556728177599 := 0
def tw4242200098490819551 := 0
def tw10545026847022164959 := 0
def tw595580123750897608 := 0
end PySem.W.Fast
open PySem PySem.W PyProof.Rows
set_option maxRecDepth 100000 in
set_option maxHeartbeats 0 in
theorem PySem.Challenge.cw_fairlines_s01_answers_holds : PySem.Challenge.rw_fairlines_s01_answers.Holds := by
  w_on; k_headS; (case hw => exact ⟨[.list [.int 2, .int 0, .int 0]], by decide +kernel, by decide +kernel⟩)
  k_fillS
  refine L2.walk_specK (r := PySem.Challenge.rw_fairlines_s01_answers) (k := 12) (CX := L2.CX0) (ps := ["calls"]) (sp := FL.sp_answers) (by decide +kernel) rfl rfl ⟨rfl, by decide, by decide⟩ (fun w h Y => PySem.W.kIn_of Y) ?F ?S (fun _ _ _ _ z => z)
  case F =>
    intro w mg fa h Y KX G hmg
    have X : ∃ t : FL.Adr, FL.Txt (L2.KOf KX) mg t ∧ ∀ (s : Shared) (us : List Value), us.length = (["calls"] : List Str).length → BindsTo s t.d_answers ⟨us, []⟩ ((["calls"] : List Str).zip us) := by
      dsimp only [L2.KOf]
      refine' FL.txt_mk KX G ?aC_Table ?aC_Room ?aC_Counts ?aC_GreatestMoves ?aC_Ranks ?aC_Reader ?aC_Loft ?a_0 ?l_0 ?c_d_0 ?k_0 ?a_1 ?l_1 ?c_d_1 ?k_1 ?a_2 ?l_2 ?c_d_2 ?k_2 ?a_3 ?l_3 ?c_d_3 ?k_3 ?a_4 ?i_4 ?l_4 ?c_d_4 ?k_4 ?a_5 ?i_5 ?l_5 ?c_d_5 ?k_5 ?a_6 ?i_6 ?l_6 ?c_d_6 ?k_6 ?a_7 ?i_7 ?l_7 ?c_d_7 ?k_7 ?a_8 ?i_8 ?l_8 ?c_d_8 ?k_8 ?a_9 ?i_9 ?l_9 ?c_d_9 ?k_9 ?a_10 ?l_10 ?c_d_10 ?k_10 ?a_11 ?l_11 ?c_d_11 ?k_11 ?a_12 ?l_12 ?c_d_12 ?k_12 ?a_13 ?i_13 ?l_13 ?c_d_13 ?k_13 ?a_14 ?i_14 ?l_14 ?c_d_14 ?k_14 ?a_15 ?i_15 ?l_15 ?c_d_15 ?k_15 ?a_16 ?i_16 ?l_16 ?c_d_16 ?k_16 ?a_17 ?i_17 ?l_17 ?c_d_17 ?k_17 ?a_18 ?i_18 ?l_18 ?c_d_18 ?k_18 ?a_19 ?i_19 ?l_19 ?c_d_19 ?k_19 ?a_20 ?i_20 ?l_20 ?c_d_20 ?k_20 ?a_21 ?l_21 ?c_d_21 ?k_21 ?a_22 ?l_22 ?c_d_22 ?k_22 ?a_23 ?i_23 ?l_23 ?c_d_23 ?k_23 ?a_24 ?i_24 ?l_24 ?c_d_24 ?k_24 ?a_25 ?i_25 ?l_25 ?c_d_25 ?k_25 ?a_26 ?l_26 ?c_d_26 ?k_26 ?a_27 ?l_27 ?c_d_27 ?k_27 ?a_28 ?l_28 ?c_d_28 ?k_28 ?a_29 ?l_29 ?c_d_29 ?k_29 ?a_30 ?l_30 ?c_d_30 ?k_30 ?a_31 ?l_31 ?c_d_31 ?k_31 ?a_32 ?l_32 ?c_d_32 ?k_32 ?a_33 ?l_33 ?c_d_33 ?k_33 ?a_34 ?l_34 ?c_d_34 ?k_34 ?a_35 ?l_35 ?c_d_35 ?k_35 ?a_36 ?l_36 ?c_d_36 ?k_36 ?a_37 ?l_37 ?c_d_37 ?k_37 ?a_38 ?l_38 ?c_d_38 ?k_38 ?a_39 ?l_39 ?c_d_39 ?k_39 ?a_40 ?l_40 ?c_d_40 ?k_40 ?a_41 ?l_41 ?c_d_41 ?k_41 ?a_42 ?l_42 ?c_d_42 ?k_42 ?a_43 ?i_43 ?l_43 ?c_d_43 ?k_43 ?a_44 ?i_44 ?l_44 ?c_d_44 ?k_44 ?a_45 ?i_45 ?l_45 ?c_d_45 ?k_45 ?a_46 ?i_46 ?l_46 ?c_d_46 ?k_46 ?a_47 ?i_47 ?l_47 ?c_d_47 ?k_47 ?a_48 ?i_48 ?l_48 ?c_d_48 ?k_48 ?a_49 ?i_49 ?l_49 ?c_d_49 ?k_49 ?a_50 ?i_50 ?l_50 ?c_d_50 ?k_50 ?a_51 ?i_51 ?l_51 ?c_d_51 ?k_51 ?a_52 ?i_52 ?l_52 ?c_d_52 ?k_52 ?a_53 ?i_53 ?l_53 ?c_d_53 ?k_53 ?a_54 ?i_54 ?l_54 ?c_d_54 ?k_54 ?a_55 ?i_55 ?l_55 ?c_d_55 ?k_55 ?a_56 ?i_56 ?l_56 ?c_d_56 ?k_56 ?a_57 ?i_57 ?l_57 ?c_d_57 ?k_57 ?a_58 ?i_58 ?l_58 ?c_d_58 ?k_58 ?a_59 ?l_59 ?c_d_59 ?k_59 ?a_60 ?l_60 ?c_d_60 ?k_60 ?a_61 ?l_61 ?c_d_61 ?k_61 ?a_62 ?l_62 ?c_d_62 ?k_62 ?a_63 ?l_63 ?c_d_63 ?k_63 ?pg_Table ?hd_Table ?po_Table ?sa_Table ?mk_Table ?kc_Table ?na_Table_places ?na_Table_heights ?na_Table_half_breadths ?pg_Room ?hd_Room ?po_Room ?sa_Room ?mk_Room ?kc_Room ?na_Room_xs ?na_Room_ys ?na_Room_shape ?na_Room_moves ?na_Room_choices ?pg_Counts ?hd_Counts ?po_Counts ?sa_Counts ?mk_Counts ?kc_Counts ?na_Counts_nothing ?na_Counts_costs ?pg_GreatestMoves ?hd_GreatestMoves ?po_GreatestMoves ?sa_GreatestMoves ?mk_GreatestMoves ?kc_GreatestMoves ?na_GreatestMoves_nothing ?na_GreatestMoves_costs ?pg_Ranks ?hd_Ranks ?po_Ranks ?sa_Ranks ?mk_Ranks ?kc_Ranks ?na_Ranks_nothing ?na_Ranks_costs ?pg_Reader ?hd_Reader ?po_Reader ?sa_Reader ?mk_Reader ?kc_Reader ?na_Reader_numbers ?na_Reader_at ?pg_Loft ?hd_Loft ?po_Loft ?sa_Loft ?mk_Loft ?kc_Loft ?na_Loft_table ?g_GREATEST ?g_FEWEST ?g_MOST_STATIONS ?g_MOST_LEVELS ?g_TAKEN ?g_WRONG_COUNT ?g_WRONG_SIZE ?g_WRONG_PLACE ?g_WRONG_HEIGHT ?g_WRONG_BREADTH ?g_HOLLOW ?g_FULL ?g_STRAIGHT ?g_ANY ?g_GREATEST_WISH ?g_FARTHEST ?g_MOST_CHOICES ?g_MAKE ?g_LINE ?g_PUT ?g_STANDS ?g_JUDGE ?g_LEAST ?g_MANY ?g_NONE ?g_NO_TABLE ?g_WRONG_NUMBER ?g_NO_LINE ?g_WRONG_LENGTH ?g_NONE_FAIR ?n_len ?n_abs ?n_sum ?n_min ?n_max ?n_list ?n_enumerate ?n_range ?n_reversed ?n_zip
      (case aC_Table => k_is)
      (case aC_Room => k_is)
      (case aC_Counts => k_is)
      (case aC_GreatestMoves => k_is)
      (case aC_Ranks => k_is)
      (case aC_Reader => k_is)
      (case aC_Loft => k_is)
      (case a_0 => k_is)
      (case l_0 => k_is)
      (case c_d_0 => k_is)
      (case k_0 => k_is)
      (case a_1 => k_is)
      (case l_1 => k_is)
      (case c_d_1 => k_is)
      (case k_1 => k_is)
      (case a_2 => k_is)
      (case l_2 => k_is)
      (case c_d_2 => k_is)
      (case k_2 => k_is)
      (case a_3 => k_is)
      (case l_3 => k_is)
      (case c_d_3 => k_is)
      (case k_3 => k_is)
      (case a_4 => k_is)
      (case i_4 => k_is)
      (case l_4 => k_is)
      (case c_d_4 => k_is)
      (case k_4 => k_is)
      (case a_5 => k_is)
      (case i_5 => k_is)
      (case l_5 => k_is)
      (case c_d_5 => k_is)
      (case k_5 => k_is)
      (case a_6 => k_is)
      (case i_6 => k_is)
      (case l_6 => k_is)
      (case c_d_6 => k_is)
      (case k_6 => k_is)
      (case a_7 => k_is)
      (case i_7 => k_is)
      (case l_7 => k_is)
      (case c_d_7 => k_is)
      (case k_7 => k_is)
      (case a_8 => k_is)
      (case i_8 => k_is)
      (case l_8 => k_is)
      (case c_d_8 => k_is)
      (case k_8 => k_is)
      (case a_9 => k_is)
      (case i_9 => k_is)
      (case l_9 => k_is)
      (case c_d_9 => k_is)
      (case k_9 => k_is)
      (case a_10 => k_is)
      (case l_10 => k_is)
      (case c_d_10 => k_is)
      (case k_10 => k_is)
      (case a_11 => k_is)
      (case l_11 => k_is)
      (case c_d_11 => k_is)
      (case k_11 => k_is)
      (case a_12 => k_is)
      (case l_12 => k_is)
      (case c_d_12 => k_is)
      (case k_12 => k_is)
      (case a_13 => k_is)
      (case i_13 => k_is)
      (case l_13 => k_is)
      (case c_d_13 => k_is)
      (case k_13 => k_is)
      (case a_14 => k_is)
      (case i_14 => k_is)
      (case l_14 => k_is)
      (case c_d_14 => k_is)
      (case k_14 => k_is)
      (case a_15 => k_is)
      (case i_15 => k_is)
      (case l_15 => k_is)
      (case c_d_15 => k_is)
      (case k_15 => k_is)
      (case a_16 => k_is)
      (case i_16 => k_is)
      (case l_16 => k_is)
      (case c_d_16 => k_is)
      (case k_16 => k_is)
      (case a_17 => k_is)
      (case i_17 => k_is)
      (case l_17 => k_is)
      (case c_d_17 => k_is)
      (case k_17 => k_is)
      (case a_18 => k_is)
      (case i_18 => k_is)
      (case l_18 => k_is)
      (case c_d_18 => k_is)
      (case k_18 => k_is)
      (case a_19 => k_is)
      (case i_19 => k_is)
      (case l_19 => k_is)
      (case c_d_19 => k_is)
      (case k_19 => k_is)
      (case a_20 => k_is)
      (case i_20 => k_is)
      (case l_20 => k_is)
      (case c_d_20 => k_is)
      (case k_20 => k_is)
      (case a_21 => k_is)
      (case l_21 => k_is)
      (case c_d_21 => k_is)
      (case k_21 => k_is)
      (case a_22 => k_is)
      (case l_22 => k_is)
      (case c_d_22 => k_is)
      (case k_22 => k_is)
      (case a_23 => k_is)
      (case i_23 => k_is)
      (case l_23 => k_is)
      (case c_d_23 => k_is)
      (case k_23 => k_is)
      (case a_24 => k_is)
      (case i_24 => k_is)
      (case l_24 => k_is)
      (case c_d_24 => k_is)
      (case k_24 => k_is)
      (case a_25 => k_is)
      (case i_25 => k_is)
      (case l_25 => k_is)
      (case c_d_25 => k_is)
      (case k_25 => k_is)
      (case a_26 => k_is)
      (case l_26 => k_is)
      (case c_d_26 => k_is)
      (case k_26 => k_is)
      (case a_27 => k_is)
      (case l_27 => k_is)
      (case c_d_27 => k_is)
      (case k_27 => k_is)
      (case a_28 => k_is)
      (case l_28 => k_is)
      (case c_d_28 => k_is)
      (case k_28 => k_is)
      (case a_29 => k_is)
      (case l_29 => k_is)
      (case c_d_29 => k_is)
      (case k_29 => k_is)
      (case a_30 => k_is)
      (case l_30 => k_is)
      (case c_d_30 => k_is)
      (case k_30 => k_is)
      (case a_31 => k_is)
      (case l_31 => k_is)
      (case c_d_31 => k_is)
      (case k_31 => k_is)
      (case a_32 => k_is)
      (case l_32 => k_is)
      (case c_d_32 => k_is)
      (case k_32 => k_is)
      (case a_33 => k_is)
      (case l_33 => k_is)
      (case c_d_33 => k_is)
      (case k_33 => k_is)
      (case a_34 => k_is)
      (case l_34 => k_is)
      (case c_d_34 => k_is)
      (case k_34 => k_is)
      (case a_35 => k_is)
      (case l_35 => k_is)
      (case c_d_35 => k_is)
      (case k_35 => k_is)
      (case a_36 => k_is)
      (case l_36 => k_is)
      (case c_d_36 => k_is)
      (case k_36 => k_is)
      (case a_37 => k_is)
      (case l_37 => k_is)
      (case c_d_37 => k_is)
      (case k_37 => k_is)
      (case a_38 => k_is)
      (case l_38 => k_is)
      (case c_d_38 => k_is)
      (case k_38 => k_is)
      (case a_39 => k_is)
      (case l_39 => k_is)
      (case c_d_39 => k_is)
      (case k_39 => k_is)
      (case a_40 => k_is)
      (case l_40 => k_is)
      (case c_d_40 => k_is)
      (case k_40 => k_is)
      (case a_41 => k_is)
      (case l_41 => k_is)
      (case c_d_41 => k_is)
      (case k_41 => k_is)
      (case a_42 => k_is)
      (case l_42 => k_is)
      (case c_d_42 => k_is)
      (case k_42 => k_is)
      (case a_43 => k_is)
      (case i_43 => k_is)
      (case l_43 => k_is)
      (case c_d_43 => k_is)
      (case k_43 => k_is)
      (case a_44 => k_is)
      (case i_44 => k_is)
      (case l_44 => k_is)
      (case c_d_44 => k_is)
      (case k_44 => k_is)
      (case a_45 => k_is)
      (case i_45 => k_is)
      (case l_45 => k_is)
      (case c_d_45 => k_is)
      (case k_45 => k_is)
      (case a_46 => k_is)
      (case i_46 => k_is)
      (case l_46 => k_is)
      (case c_d_46 => k_is)
      (case k_46 => k_is)
      (case a_47 => k_is)
      (case i_47 => k_is)
      (case l_47 => k_is)
      (case c_d_47 => k_is)
      (case k_47 => k_is)
      (case a_48 => k_is)
      (case i_48 => k_is)
      (case l_48 => k_is)
      (case c_d_48 => k_is)
      (case k_48 => k_is)
      (case a_49 => k_is)
      (case i_49 => k_is)
      (case l_49 => k_is)
      (case c_d_49 => k_is)
      (case k_49 => k_is)
      (case a_50 => k_is)
      (case i_50 => k_is)
      (case l_50 => k_is)
      (case c_d_50 => k_is)
      (case k_50 => k_is)
      (case a_51 => k_is)
      (case i_51 => k_is)
      (case l_51 => k_is)
      (case c_d_51 => k_is)
      (case k_51 => k_is)
      (case a_52 => k_is)
      (case i_52 => k_is)
      (case l_52 => k_is)
      (case c_d_52 => k_is)
      (case k_52 => k_is)
      (case a_53 => k_is)
      (case i_53 => k_is)
      (case l_53 => k_is)
      (case c_d_53 => k_is)
      (case k_53 => k_is)
      (case a_54 => k_is)
      (case i_54 => k_is)
      (case l_54 => k_is)
      (case c_d_54 => k_is)
      (case k_54 => k_is)
      (case a_55 => k_is)
      (case i_55 => k_is)
      (case l_55 => k_is)
      (case c_d_55 => k_is)
      (case k_55 => k_is)
      (case a_56 => k_is)
      (case i_56 => k_is)
      (case l_56 => k_is)
      (case c_d_56 => k_is)
      (case k_56 => k_is)
      (case a_57 => k_is)
      (case i_57 => k_is)
      (case l_57 => k_is)
      (case c_d_57 => k_is)
      (case k_57 => k_is)
      (case a_58 => k_is)
      (case i_58 => k_is)
      (case l_58 => k_is)
      (case c_d_58 => k_is)
      (case k_58 => k_is)
      (case a_59 => k_is)
      (case l_59 => k_is)
      (case c_d_59 => k_is)
      (case k_59 => k_is)
      (case a_60 => k_is)
      (case l_60 => k_is)
      (case c_d_60 => k_is)
      (case k_60 => k_is)
      (case a_61 => k_is)
      (case l_61 => k_is)
      (case c_d_61 => k_is)
      (case k_61 => k_is)
      (case a_62 => k_is)
      (case l_62 => k_is)
      (case c_d_62 => k_is)
      (case k_62 => k_is)
      (case a_63 => k_is)
      (case l_63 => k_is)
      (case c_d_63 => k_is)
      (case k_63 => k_is)
      (case pg_Table => k_is)
      (case hd_Table => k_is)
      (case po_Table => k_is)
      (case sa_Table => k_is)
      (case mk_Table => k_is)
      (case kc_Table => k_is)
      (case na_Table_places => k_is)
      (case na_Table_heights => k_is)
      (case na_Table_half_breadths => k_is)
      (case pg_Room => k_is)
      (case hd_Room => k_is)
      (case po_Room => k_is)
      (case sa_Room => k_is)
      (case mk_Room => k_is)
      (case kc_Room => k_is)
      (case na_Room_xs => k_is)
      (case na_Room_ys => k_is)
      (case na_Room_shape => k_is)
      (case na_Room_moves => k_is)
      (case na_Room_choices => k_is)
      (case pg_Counts => k_is)
      (case hd_Counts => k_is)
      (case po_Counts => k_is)
      (case sa_Counts => k_is)
      (case mk_Counts => k_is)
      (case kc_Counts => k_is)
      (case na_Counts_nothing => k_is)
      (case na_Counts_costs => k_is)
      (case pg_GreatestMoves => k_is)
      (case hd_GreatestMoves => k_is)
      (case po_GreatestMoves => k_is)
      (case sa_GreatestMoves => k_is)
      (case mk_GreatestMoves => k_is)
      (case kc_GreatestMoves => k_is)
      (case na_GreatestMoves_nothing => k_is)
      (case na_GreatestMoves_costs => k_is)
      (case pg_Ranks => k_is)
      (case hd_Ranks => k_is)
      (case po_Ranks => k_is)
      (case sa_Ranks => k_is)
      (case mk_Ranks => k_is)
      (case kc_Ranks => k_is)
      (case na_Ranks_nothing => k_is)
      (case na_Ranks_costs => k_is)
      (case pg_Reader => k_is)
      (case hd_Reader => k_is)
      (case po_Reader => k_is)
      (case sa_Reader => k_is)
      (case mk_Reader => k_is)
      (case kc_Reader => k_is)
      (case na_Reader_numbers => k_is)
      (case na_Reader_at => k_is)
      (case pg_Loft => k_is)
      (case hd_Loft => k_is)
      (case po_Loft => k_is)
      (case sa_Loft => k_is)
      (case mk_Loft => k_is)
      (case kc_Loft => k_is)
      (case na_Loft_table => k_is)
      (case g_GREATEST => k_is)
      (case g_FEWEST => k_is)
      (case g_MOST_STATIONS => k_is)
      (case g_MOST_LEVELS => k_is)
      (case g_TAKEN => k_is)
      (case g_WRONG_COUNT => k_is)
      (case g_WRONG_SIZE => k_is)
      (case g_WRONG_PLACE => k_is)
      (case g_WRONG_HEIGHT => k_is)
      (case g_WRONG_BREADTH => k_is)
      (case g_HOLLOW => k_is)
      (case g_FULL => k_is)
      (case g_STRAIGHT => k_is)
      (case g_ANY => k_is)
      (case g_GREATEST_WISH => k_is)
      (case g_FARTHEST => k_is)
      (case g_MOST_CHOICES => k_is)
      (case g_MAKE => k_is)
      (case g_LINE => k_is)
      (case g_PUT => k_is)
      (case g_STANDS => k_is)
      (case g_JUDGE => k_is)
      (case g_LEAST => k_is)
      (case g_MANY => k_is)
      (case g_NONE => k_is)
      (case g_NO_TABLE => k_is)
      (case g_WRONG_NUMBER => k_is)
      (case g_NO_LINE => k_is)
      (case g_WRONG_LENGTH => k_is)
      (case g_NONE_FAIR => k_is)
      (case n_len => k_is)
      (case n_abs => k_is)
      (case n_sum => k_is)
      (case n_min => k_is)
      (case n_max => k_is)
      (case n_list => k_is)
      (case n_enumerate => k_is)
      (case n_range => k_is)
      (case n_reversed => k_is)
      (case n_zip => k_is)
    obtain ⟨t, T, ea⟩ := X
    cases hmg.symm.trans T.m_answers
    exact ⟨t.d_answers, ea, fun base _ _ => FL.ok_answers T⟩
  case S =>
    intro K H xs a hO hwi hask hx
    exact FL.spec_end K H hO xs a hwi hask hx

end

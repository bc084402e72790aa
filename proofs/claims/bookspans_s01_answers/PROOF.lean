import PyProof.Rows.All
import Wide.All
import OpenK.AllK
import Wide.FinOn
import PyProof.EqAt
import PyProof.EqKinds
import PyProof.TupleCall
import KE.BitLaws
import Open.SpecLaws
import KE.OsHead
import KE.OsGo
import PySem.Challenge.RW_bookspans_s01_answers
import PyWqakbd
import PyFlatLaws
import KE.KSortTupG
import KE.KSortKeyAny
import KE.KBoundM
import KE.KDictSum
import KE.KSuperObj
set_option Elab.async false
set_option linter.all false
set_option maxRecDepth 100000
namespace L2
open PySem PySem.Spec PyProof.Rows
abbrev Key := Sum Int Str
def keyIs : Key → Value → Bool
  | .inl k, v => Value.isInt k v
  | .inr x, v => Value.isStrOf x v
def keyH (w : World) : Key → Int
  | .inl k => hashInt k
  | .inr x => hashStr w x
theorem keyIs_shape : ∀ {k : Key} {v : Value}, keyIs k v = true → (∃ i t, k = Sum.inl i ∧ v = Value.int i t) ∨ (∃ x t, k = Sum.inr x ∧ v = Value.str x t)
  | .inl i, v, h => by
    obtain ⟨t, e⟩ := Value.isInt_shape (k := i) (v := v) h
    exact .inl ⟨i, t, rfl, e⟩
  | .inr x, v, h => by
    obtain ⟨t, e⟩ := Value.isStrOf_shape (x := x) (v := v) h
    exact .inr ⟨x, t, rfl, e⟩
theorem keyIs_int (i : Int) (t : Tok) : keyIs (.inl i) (.int i t) = true := by simp [keyIs, Value.isInt]
theorem keyIs_str (x : Str) (t : Tok) : keyIs (.inr x) (.str x t) = true := by simp [keyIs, Value.isStrOf]
theorem key_ll (a b : Int) : decide ((Sum.inl a : Key) = Sum.inl b) = (a == b) := by
  by_cases e : a = b
  · subst e; simp
  · have h : ¬ (Sum.inl a : Key) = Sum.inl b := fun q => e (Sum.inl.inj q)
    rw [decide_eq_false h]
    exact (beq_eq_false_iff_ne.mpr e).symm
theorem key_rr (a b : Str) : decide ((Sum.inr a : Key) = Sum.inr b) = decide (a = b) := by
  by_cases e : a = b
  · subst e; simp
  · have h : ¬ (Sum.inr a : Key) = Sum.inr b := fun q => e (Sum.inr.inj q)
    rw [decide_eq_false h, decide_eq_false e]
theorem key_lr (a : Int) (b : Str) : decide ((Sum.inl a : Key) = Sum.inr b) = false := decide_eq_false (fun q => nomatch q)
theorem key_rl (a : Str) (b : Int) : decide ((Sum.inr a : Key) = Sum.inl b) = false := decide_eq_false (fun q => nomatch q)
def mixKind (prog : Program) (w : World) : PySem.KeyKind prog w Key where
  is := keyIs
  hash := keyH w
  inj := fun v a b ha hb => by
    rcases keyIs_shape ha with ⟨i, t, rfl, rfl⟩ | ⟨x, t, rfl, rfl⟩
    · rcases keyIs_shape hb with ⟨j, u, rfl, e⟩ | ⟨y, u, rfl, e⟩
      · injection e with e1 _; rw [e1]
      · exact nomatch e
    · rcases keyIs_shape hb with ⟨j, u, rfl, e⟩ | ⟨y, u, rfl, e⟩
      · exact nomatch e
      · injection e with e1 _; rw [e1]
  byValue := fun k v h => by
    rcases keyIs_shape h with ⟨i, t, rfl, rfl⟩ | ⟨x, t, rfl, rfl⟩ <;> rfl
  pyHash := fun hv h => by
    rcases keyIs_shape hv with ⟨i, t, rfl, rfl⟩ | ⟨x, t, rfl, rfl⟩
    · exact wpAny_pyHash_int h
    · exact wpAny_pyHash_str h
  eqBool := fun hu hv h => by
    rcases keyIs_shape hu with ⟨i, t, rfl, rfl⟩ | ⟨x, t, rfl, rfl⟩
    · rcases keyIs_shape hv with ⟨j, u, rfl, rfl⟩ | ⟨y, u, rfl, rfl⟩
      · rw [key_ll] at h; exact wpAny_eqBool_int h
      · rw [key_lr] at h; exact SeqAt.EqAt.int_str i t y u _ _ _ _ h
    · rcases keyIs_shape hv with ⟨j, u, rfl, rfl⟩ | ⟨y, u, rfl, rfl⟩
      · rw [key_rl] at h; exact SeqAt.EqAt.str_int x t j u _ _ _ _ h
      · rw [key_rr] at h; exact wpAny_eqBool_str h
  «strs» := fun k x t v h => by
    rcases keyIs_shape h with ⟨i, u, rfl, e⟩ | ⟨y, u, rfl, e⟩
    · exact nomatch e
    · injection e with e1 _
      subst e1
      cases v <;> rfl
theorem mixKind_int (prog : Program) (w : World) (i : Int) (t : Tok) : (mixKind prog w).is (.inl i) (.int i t) = true := keyIs_int i t
theorem mixKind_str (prog : Program) (w : World) (x : Str) (t : Tok) : (mixKind prog w).is (.inr x) (.str x t) = true := keyIs_str x t
end L2
namespace L2
open PySem PySem.Spec PyProof.Rows
inductive V where
  | non | bl (b : Bool) | int (i : Int) | str (x : Str) | byt (b : Array UInt8) | flt (b : UInt64) | ref (a : Addr) | ty (n : String)
  deriving DecidableEq
def RelV : V → Value → Prop
  | .non, u => u = Value.none
  | .bl b, u => u = Value.bool b
  | .int i, u => ∃ t, u = Value.int i t
  | .str x, u => ∃ t, u = Value.str x t
  | .byt b, u => ∃ t, u = Value.bytes b t
  | .flt b, u => ∃ t, u = Value.float b t
  | .ref a, u => u = Value.ref a
  | .ty n, u => u = Value.type n
abbrev Vals : List V → List Value → Prop := Paired RelV
theorem Vals.length {xs : List V} {us : List Value} (r : Vals xs us) : xs.length = us.length := Paired.length r
theorem Vals.get : ∀ {xs : List V} {us : List Value} {i : Nat} {x : V}, Vals xs us → xs[i]? = some x → ∃ u, us[i]? = some u ∧ RelV x u
  | _, _, _, _, .nil, e => by simp at e
  | _, _, 0, _, .cons r _, e => by simp at e; subst e; exact ⟨_, rfl, r⟩
  | _, _, i + 1, x, .cons _ t, e => by
    obtain ⟨u, h1, h2⟩ := Vals.get (i := i) (x := x) t (by simpa using e)
    exact ⟨u, by simpa using h1, h2⟩
theorem Vals.set {x : V} {u : Value} (r : RelV x u) : ∀ {xs : List V} {us : List Value} (i : Nat), Vals xs us → Vals (xs.set i x) (us.set i u)
  | _, _, _, .nil => .nil
  | _, _, 0, .cons _ t => .cons r t
  | _, _, i + 1, .cons q t => .cons q (Vals.set r i t)
theorem Vals.append : ∀ {xs ys : List V} {us ws : List Value}, Vals xs us → Vals ys ws → Vals (xs ++ ys) (us ++ ws)
  | _, _, _, _, .nil, s => s
  | _, _, _, _, .cons r t, s => .cons r (Vals.append t s)
theorem Vals.take : ∀ {xs : List V} {us : List Value} (n : Nat), Vals xs us → Vals (xs.take n) (us.take n)
  | _, _, 0, _ => .nil
  | _, _, _ + 1, .nil => .nil
  | _, _, n + 1, .cons r t => .cons r (Vals.take n t)
theorem Vals.drop : ∀ {xs : List V} {us : List Value} (n : Nat), Vals xs us → Vals (xs.drop n) (us.drop n)
  | _, _, 0, r => r
  | _, _, _ + 1, .nil => .nil
  | _, _, n + 1, .cons _ t => Vals.drop n t
theorem Vals.none_of : ∀ {xs : List V} {us : List Value} {i : Nat}, Vals xs us → xs[i]? = none → us[i]? = none := fun {xs us i} r e => by
  have h1 := r.length
  have h2 : xs.length ≤ i := List.getElem?_eq_none_iff.mp e
  exact List.getElem?_eq_none_iff.mpr (by omega)
def RelO : Option V → Option Value → Prop
  | some v, some u => RelV v u
  | none, none => True
  | _, _ => False
def KV {κ : Type} : List (κ × V) → List (κ × Value) → Prop := Paired fun (p : κ × V) (q : κ × Value) => p.1 = q.1 ∧ RelV p.2 q.2
def kV : Key → V
  | .inl i => .int i
  | .inr x => .str x
inductive HO where
  | lst (xs : List V)
  | tup (xs : List V)
  | dK (kvs : List (Key × V)) | dT (kvs : List (List Key × V))
  | set (S : Int → Bool) (n : Nat)
  | ins (C dx : Addr) (fs : List (Str × V))
  | own (x : Addr)
  | xd (fs : List (Str × V))
  | met (f x : Addr)
  | rng (lo hi : Int)
  | frz (o : Obj) (u : HO)
  | tbl (ps : Array Value)
  | ext (φ : Heap → Prop)
abbrev Hp := Addr → Option HO
def upd (H : Hp) (a : Addr) (o : HO) : Hp := fun b => if b = a then some o else H b
theorem upd_same {H : Hp} {a : Addr} {o : HO} : upd H a o a = some o := by unfold upd; rw [if_pos rfl]
theorem upd_ne {H : Hp} {a b : Addr} {o : HO} (h : b ≠ a) : upd H a o b = H b := by unfold upd; rw [if_neg h]
theorem upd_upd {H : Hp} {a : Addr} {o u : HO} : upd (upd H a o) a u = upd H a u := by
  funext b; unfold upd; split <;> rfl
theorem ne_of {H : Hp} {a b : Addr} {o u : HO} (h : H a = some o) (h' : H b = some u) (d : o ≠ u) : a ≠ b := by
  intro e; subst e; rw [h] at h'; exact d (Option.some.inj h')
theorem ne_of_none {H : Hp} {a b : Addr} {o : HO} (h : H a = some o) (h' : H b = none) : a ≠ b := by
  intro e; subst e; rw [h] at h'; cases h'
section
variable (P : Program) (w : World)
def ObjOk (H : Hp) (h : Heap) (a : Addr) : HO → Prop
  | .lst xs => xs.length ≤ sizeLine ∧ ∃ (its : List Value) (n : Nat), Vals xs its ∧ h.get? a = some { cls := .type "list", data := .seq its.toArray n }
  | .tup xs => xs.length ≤ sizeLine ∧ ∃ its : List Value, Vals xs its ∧ IsTup h a its.toArray
  | .dK kvs => kvs.length ≤ sizeLine ∧ (a == sysModules) = false ∧ ∃ vs, KV kvs vs ∧ h.DictOf (mixKind P w) a vs
  | .dT kvs => kvs.length ≤ sizeLine ∧ (a == sysModules) = false ∧ ∃ xs : List (List Key × Addr × Value),
      Paired (fun (p : List Key × V) (q : List Key × Addr × Value) => p.1 = q.1 ∧ H q.2.1 = some (.tup (p.1.map kV)) ∧ RelV p.2 q.2.2) kvs xs ∧
      ∃ o es ep, h.get? a = some o ∧ o.ExactDict ∧ o.data = .dict es ep ∧ es.toList = xs.map (entryOfKey (tupleKind (mixKind P w))) ∧ (xs.map (·.1)).Nodup
  | .set S n => h.SetOf (intKind P w) a S n
  | .ins C dx fs => H dx = some (.own a) ∧ fs.length ≤ 1000 ∧ dx ≠ a ∧ h.get? a = some (PySem.W.instObj C dx) ∧
      ∃ mA, h.Ns1 dx mA ∧ (∀ f, RelO (fs.lookup f) (mA f)) ∧ PySem.Within mA (fs.map (·.1))
  | .own _ => ∃ o, h.get? a = some o
  | .xd fs => ∃ mA, h.Ns1 a mA ∧ ∀ f, RelO (fs.lookup f) (mA f)
  | .rng lo hi => ∃ t u v, h.get? a = some { cls := .type "range", data := .fields #[.int lo t, .int hi u, .int 1 v] }
  | .frz o u => h.get? a = some o ∧ ObjOk H h a u
  | .tbl ps => h.get? a = some { cls := .none, data := .fields ps }
  | .met f x => h.get? a = some (PySem.W.methodObj (.ref f) (.ref x))
  | .ext φ => φ h ∧ (∃ o, h.get? a = some o) ∧ ∀ h1 h2 : Heap, φ h1 → (∀ o, h1.get? a = some o → h2.get? a = some o) → φ h2
def HOk (H : Hp) (h : Heap) : Prop := ∀ a o, H a = some o → ObjOk P w H h a o
end
section
variable {P : Program} {w : World} {H H' : Hp} {h h' : Heap} {a : Addr} {o : HO}
theorem ObjOk.lt (x : ObjOk P w H h a o) : a < h.objs.size := by
  cases o with
  | lst xs => obtain ⟨_, _, _, _, e⟩ := x; exact Heap.lt_size e
  | tup xs => obtain ⟨_, _, _, p⟩ := x; exact p.lt
  | dK kvs => obtain ⟨_, _, _, _, o, _, _, e, _⟩ := x; exact Heap.lt_size e
  | dT kvs => obtain ⟨_, _, _, _, o, _, _, e, _⟩ := x; exact Heap.lt_size e
  | set S n => obtain ⟨o, _, _, _, e, _⟩ := x; exact Heap.lt_size e
  | ins C dx fs => obtain ⟨_, _, _, e, _⟩ := x; exact Heap.lt_size e
  | own y => obtain ⟨_, e⟩ := x; exact Heap.lt_size e
  | xd fs => obtain ⟨_, ⟨_, _, _, e, _⟩, _⟩ := x; exact Heap.lt_size e
  | rng lo hi => obtain ⟨_, _, _, e⟩ := x; exact Heap.lt_size e
  | frz ob u => obtain ⟨e, _⟩ := x; exact Heap.lt_size e
  | tbl ps => exact Heap.lt_size (show h.get? a = some _ from x)
  | met f y => exact Heap.lt_size (show h.get? a = some _ from x)
  | ext φ => obtain ⟨_, ⟨_, e⟩, _⟩ := x; exact Heap.lt_size e
theorem Paired.mapP {α β : Type} {F G : α → β → Prop} : ∀ {l₁ : List α} {l₂ : List β}, Paired F l₁ l₂ → (∀ a b, F a b → G a b) → Paired G l₁ l₂
  | _, _, .nil, _ => .nil
  | _, _, .cons r t, f => .cons (f _ _ r) (Paired.mapP t f)
theorem ObjOk.stay (x : ObjOk P w H h a o) (k : ∀ b u, (b = a ∨ H b = some (.own a)) → h.get? b = some u → h'.get? b = some u)
    (ho : ∀ b, H b = some (.own a) → H' b = some (.own a)) (ht : ∀ b xs, H b = some (.tup xs) → H' b = some (.tup xs)) : ObjOk P w H' h' a o := by
  induction o with
  | lst xs => obtain ⟨z, its, n, r, e⟩ := x; exact ⟨z, its, n, r, k _ _ (.inl rfl) e⟩
  | tup xs => obtain ⟨z, its, r, ob, e, c⟩ := x; exact ⟨z, its, r, ob, k _ _ (.inl rfl) e, c⟩
  | dK kvs => obtain ⟨z, y, vs, r, ob, es, ep, e, c⟩ := x; exact ⟨z, y, vs, r, ob, es, ep, k _ _ (.inl rfl) e, c⟩
  | dT kvs =>
    obtain ⟨z, y, xs, r, ob, es, ep, e, c⟩ := x
    exact ⟨z, y, xs, Paired.mapP r fun p q z => ⟨z.1, ht _ _ z.2.1, z.2.2⟩, ob, es, ep, k _ _ (.inl rfl) e, c⟩
  | set S n => obtain ⟨ob, es, ep, t, e, c⟩ := x; exact ⟨ob, es, ep, t, k _ _ (.inl rfl) e, c⟩
  | ins C dx fs =>
    obtain ⟨d, z, ne, e, mA, ⟨od, es, ep, e2, c⟩, r⟩ := x
    exact ⟨ho _ d, z, ne, k _ _ (.inl rfl) e, mA, ⟨od, es, ep, k _ _ (.inr d) e2, c⟩, r⟩
  | own y => obtain ⟨ob, e⟩ := x; exact ⟨ob, k _ _ (.inl rfl) e⟩
  | xd fs => obtain ⟨mA, ⟨od, es, ep, e, c⟩, r⟩ := x; exact ⟨mA, ⟨od, es, ep, k _ _ (.inl rfl) e, c⟩, r⟩
  | rng lo hi => obtain ⟨t, u, v, e⟩ := x; exact ⟨t, u, v, k _ _ (.inl rfl) e⟩
  | frz ob u ih => obtain ⟨e, q⟩ := x; exact ⟨k _ _ (.inl rfl) e, ih q⟩
  | tbl ps =>
    have e : h.get? a = some { cls := .none, data := .fields ps } := x
    show h'.get? a = some { cls := .none, data := .fields ps }
    exact k a _ (.inl rfl) e
  | met f y =>
    have e : h.get? a = some (PySem.W.methodObj (.ref f) (.ref y)) := x
    show h'.get? a = some (PySem.W.methodObj (.ref f) (.ref y))
    exact k a _ (.inl rfl) e
  | ext φ => obtain ⟨p, ⟨o, e⟩, st⟩ := x; exact ⟨st _ _ p fun o q => k _ _ (.inl rfl) q, ⟨o, k _ _ (.inl rfl) e⟩, st⟩
theorem HOk.lt (x : HOk P w H h) (e : H a = some o) : a < h.objs.size := (x a o e).lt
theorem HOk.fresh (x : HOk P w H h) (e : h.objs.size ≤ a) : H a = none := by
  cases q : H a with
  | none => rfl
  | some u => exact absurd (Nat.lt_of_lt_of_le (x.lt q) e) (Nat.lt_irrefl _)
theorem HOk.kept (x : HOk P w H h) (k : ∀ b u, h.get? b = some u → h'.get? b = some u) : HOk P w H h' := fun a o e =>
  (x a o e).stay (fun b u _ q => k b u q) (fun _ q => q) fun _ _ q => q
theorem HOk.laid (x : HOk P w H h) (k : ∀ b u, h.get? b = some u → h'.get? b = some u) (hp : h.objs.size ≤ a) (new : ObjOk P w (upd H a o) h' a o) : HOk P w (upd H a o) h' := fun b u e => by
  have hn := x.fresh hp
  by_cases hb : b = a
  · subst hb; rw [upd_same] at e; cases e; exact new
  · rw [upd_ne hb] at e
    exact (x b u e).stay (fun c v _ q => k c v q) (fun c q => by rw [upd_ne (ne_of_none q hn)]; exact q) fun c xs q => by rw [upd_ne (ne_of_none q hn)]; exact q
end
def Rd (H : Hp) (a : Addr) (u : HO) : Prop := H a = some u ∨ ∃ o, H a = some (.frz o u)
theorem Rd.of {H : Hp} {a : Addr} {u : HO} (h : H a = some u) : Rd H a u := .inl h
theorem Rd.ok {P : Program} {w : World} {H : Hp} {h : Heap} {a : Addr} {u : HO} (r : Rd H a u) (x : HOk P w H h) : ObjOk P w H h a u := by
  rcases r with r | ⟨o, r⟩
  · exact x a u r
  · obtain ⟨_, q⟩ := x a _ r
    exact q
def Mut : Option HO → Prop
  | some (.lst _) => True
  | some (.dK _) => True
  | some (.dT _) => True
  | some (.set _ _) => True
  | some (.ins _ _ _) => True
  | some (.ext _) => True
  | _ => False
section
variable {P : Program} {w : World} {H : Hp} {h h' : Heap} {x e : Addr} {o' : HO}
theorem HOk.write (ok : HOk P w H h) (mu : Mut (H x)) (he : e = x ∨ H e = some (.own x)) (k : ∀ b u, b ≠ e → h.get? b = some u → h'.get? b = some u) (heo : ∃ u, h'.get? e = some u)
    (new : ObjOk P w (upd H x o') h' x o') : HOk P w (upd H x o') h' := fun b u q => by
  have nown : ∀ c y, H c = some (.own y) → c ≠ x := fun c y r z => by subst z; rw [r] at mu; exact mu
  have ntup : ∀ c xs, H c = some (.tup xs) → c ≠ x := fun c xs r z => by subst z; rw [r] at mu; exact mu
  by_cases hb : b = x
  · subst hb; rw [upd_same] at q; cases q; exact new
  · rw [upd_ne hb] at q
    by_cases hbe : b = e
    · have q' : H b = some (.own x) := by
        rcases he with z | z
        · exact absurd (hbe.trans z) hb
        · rw [hbe]; exact z
      rw [q] at q'; cases q'
      obtain ⟨v, hv⟩ := heo
      exact ⟨v, by rw [hbe]; exact hv⟩
    · refine (ok b u q).stay (fun c v hc r => k c v ?_ r) (fun c r => by rw [upd_ne (nown c b r)]; exact r) fun c xs r => by rw [upd_ne (ntup c xs r)]; exact r
      rcases hc with rfl | hc
      · exact hbe
      · rintro rfl
        rcases he with z | z
        · exact nown c b hc z
        · rw [hc] at z; cases z; exact hb rfl
end
structure Un (fs ex : List Addr) (H H' : Hp) (h h' : Heap) : Prop where
  keep : ∀ b o, h.get? b = some o → H b = none → b ∉ fs → b ∉ ex → h'.get? b = some o
  slot : ∀ b o, h.get? b = some o → H b = none → b ∈ fs → b ∉ ex → ∃ sl, h'.get? b = some { o with slots := sl }
  free : ∀ b o, h.get? b = some o → H b = none → b ∉ ex → H' b = none
  there : ∀ b o, h.get? b = some o → b ∉ ex → ∃ o', h'.get? b = some o'
  tups : ∀ b xs, H b = some (.tup xs) → H' b = some (.tup xs)
  frzs : ∀ b o u, H b = some (.frz o u) → H' b = some (.frz o u)
  tbls : ∀ b ps, H b = some (.tbl ps) → ∃ more, H' b = some (.tbl (ps ++ more))
section
variable {fs fs' ex ex' : List Addr} {H H1 H2 : Hp} {h h1 h2 h' : Heap} {a x e : Addr} {o : HO}
theorem Un.any (u : Un fs ex H H1 h h1) {b : Addr} {ob : Obj} (q : h.get? b = some ob) (n : H b = none) (hx : b ∉ ex) : ∃ sl, h1.get? b = some { ob with slots := sl } := by
  by_cases hb : b ∈ fs
  · exact u.slot b ob q n hb hx
  · exact ⟨ob.slots, u.keep b ob q n hb hx⟩
theorem Un.trans (a : Un fs ex H H1 h h1) (b : Un fs ex H1 H2 h1 h2) : Un fs ex H H2 h h2 where
  keep := fun c ob q n hc hx => b.keep c ob (a.keep c ob q n hc hx) (a.free c ob q n hx) hc hx
  slot := fun c ob q n hc hx => by
    obtain ⟨sl, e1⟩ := a.slot c ob q n hc hx
    obtain ⟨sl', e2⟩ := b.slot c _ e1 (a.free c ob q n hx) hc hx
    exact ⟨sl', e2⟩
  free := fun c ob q n hx => by
    obtain ⟨o', e1⟩ := a.there c ob q hx
    exact b.free c o' e1 (a.free c ob q n hx) hx
  there := fun c ob q hx => by
    obtain ⟨o', e1⟩ := a.there c ob q hx
    exact b.there c o' e1 hx
  tups := fun c xs q => b.tups c xs (a.tups c xs q)
  frzs := fun c ob xs q => b.frzs c ob xs (a.frzs c ob xs q)
  tbls := fun c ps q => by
    obtain ⟨m1, e1⟩ := a.tbls c ps q
    obtain ⟨m2, e2⟩ := b.tbls c _ e1
    exact ⟨m1 ++ m2, by rw [e2, Array.append_assoc]⟩
theorem Un.kept (k : ∀ b u, h.get? b = some u → h'.get? b = some u) : Un fs ex H H h h' :=
  ⟨fun b ob q _ _ _ => k b ob q, fun b ob q _ _ _ => ⟨ob.slots, k b ob q⟩, fun _ _ _ n _ => n, fun b ob q _ => ⟨ob, k b ob q⟩, fun _ _ q => q, fun _ _ _ q => q, fun _ ps q => ⟨#[], by rw [q]; simp⟩⟩
theorem Un.refl : Un fs ex H H h h := Un.kept fun _ _ q => q
theorem Un.laid (k : ∀ b u, h.get? b = some u → h'.get? b = some u) (hp : h.objs.size ≤ a) (hn : H a = none) : Un fs ex H (upd H a o) h h' where
  keep := fun b u q _ _ _ => k b u q
  slot := fun b u q _ _ _ => ⟨u.slots, k b u q⟩
  free := fun b u q n _ => by rw [upd_ne (Nat.ne_of_lt (Nat.lt_of_lt_of_le (Heap.lt_size q) hp))]; exact n
  there := fun b u q _ => ⟨u, k b u q⟩
  tups := fun b xs q => by rw [upd_ne (ne_of_none q hn)]; exact q
  frzs := fun b u xs q => by rw [upd_ne (ne_of_none q hn)]; exact q
  tbls := fun b ps q => ⟨#[], by rw [upd_ne (ne_of_none q hn), q]; simp⟩
theorem Un.write (mu : Mut (H x)) (he : e = x ∨ H e = some (.own x)) (k : ∀ b u, b ≠ e → h.get? b = some u → h'.get? b = some u) (heo : ∃ u, h'.get? e = some u) : Un fs ex H (upd H x o) h h' := by
  have hx : ∀ b, H b = none → b ≠ x := fun b n z => by subst z; rw [n] at mu; exact mu
  have hb : ∀ b, H b = none → b ≠ e := fun b n z => by
    subst z
    rcases he with r | r
    · exact hx b n r
    · rw [n] at r; cases r
  have hm : ∀ b u, H b = some u → ¬ Mut (some u) → b ≠ x := fun b u q nm z => by subst z; rw [q] at mu; exact nm mu
  refine ⟨fun b u q n _ _ => k b u (hb b n) q, fun b u q n _ _ => ⟨u.slots, k b u (hb b n) q⟩, fun b u q n _ => by rw [upd_ne (hx b n)]; exact n, fun b u q _ => ?_,
    fun b xs q => by rw [upd_ne (hm b _ q fun z => z)]; exact q, fun b u xs q => by rw [upd_ne (hm b _ q fun z => z)]; exact q, fun b ps q => ⟨#[], by rw [upd_ne (hm b _ q fun z => z), q]; simp⟩⟩
  by_cases hbe : b = e
  · subst hbe; exact heo
  · exact ⟨u, k b u hbe q⟩
theorem Un.mono (u : Un fs ex H H1 h h1) (hs : ∀ b ∈ fs, b ∈ fs') (hx : ∀ b ∈ ex, b ∈ ex') : Un fs' ex' H H1 h h1 :=
  ⟨fun b ob q n hb he => u.keep b ob q n (fun z => hb (hs b z)) fun z => he (hx b z), fun _ _ q n _ he => u.any q n fun z => he (hx _ z), fun b ob q n he => u.free b ob q n fun z => he (hx b z), fun b ob q he => u.there b ob q fun z => he (hx b z), u.tups, u.frzs, u.tbls⟩
end
def trk (h : Heap) (H : Hp) : List Addr := (List.range h.objs.size).filter fun a => (H a).isSome
def hidT (h : Heap) (H : Hp) : Heap := PySem.W.hideAll h (trk h H)
theorem hidT_size (h : Heap) (H : Hp) : (hidT h H).objs.size = h.objs.size := PySem.W.hideAll_size _ _
theorem hidT_get {h : Heap} {H : Hp} {b : Addr} {o : Obj} (e : h.get? b = some o) (n : H b = none) : (hidT h H).get? b = some o :=
  PySem.W.hideAll_get _ e fun hm => by
    have q : (H b).isSome = true := (List.mem_filter.mp hm).2
    rw [n] at q; simp at q
theorem of_hidT {h : Heap} {H : Hp} {b : Addr} {o : Obj} (e : (hidT h H).get? b = some o) : h.get? b = some o ∧ H b = none := by
  have e' : h.get? b = some o := PySem.W.of_hideAll (trk h H) e
  refine ⟨e', ?_⟩
  cases q : H b with
  | none => rfl
  | some x =>
    have hm : b ∈ trk h H := List.mem_filter.mpr ⟨List.mem_range.mpr (Heap.lt_size e'), by simp [q]⟩
    have z : (hidT h H).get? b = none := PySem.W.hideAll_none (trk h H) hm
    rw [z] at e; cases e
def allNews (g h : Heap) (L : Addr) : List (Addr × Obj) := (List.range h.objs.size).filterMap fun a => if a = L ∨ (g.get? a).isSome = true then none else (h.get? a).map fun o => (a, o)
def rest (g h : Heap) (L d : Addr) : List (Addr × Obj) := (allNews g h L).filter fun p => decide (p.1 ≠ d)
end L2
namespace L2
open PySem PySem.Spec PyProof.Rows
structure Mod (K : PySem.W.Frag) (mg : Str → Option Value) (base : Heap) : Prop where
  kin : K.In base
  glob : base.Ns mainGlobals mg
  blt : ∃ mb, base.Ns builtinsNs mb ∧ ∀ x : Str, x ≠ "__name__" → mb x = bootBuiltins x
  nolimit : base.NoLimit
structure Cx where
  prog : Program
  w : World
  K : PySem.W.Frag
  mg : Str → Option Value
  base : Heap
  A : Around
  N : List Str
  s_0 : Shared
  H_0 : Hp
  env : Env
  outer : List Env
  stack : List Env
  ex : List Addr
  fn : Str → Bool
  calm : Bool
  pn : List (Addr × Obj)
  xe : Value → Shared → Prop
def frs (l : List Env) : List Addr := l.filterMap (·.frame)
abbrev Cx.fs (X : Cx) : List Addr := frs X.outer
def Vis (sc : Scope) (x : Str) : Prop := sc.names.lookup x = some .local ∨ sc.names.lookup x = some .cell ∨ sc.names.lookup x = some .free
def Loc (sc : Scope) (x : Str) : Prop := sc.names.lookup x = some .local ∨ sc.names.lookup x = some .cell
def Look (env : Env) (h : Heap) (m : Str → Option Value) (x : Str) (u : Value) : Prop :=
  (env.kindOf x = some .local ∧ m x = some u) ∨ ((env.kindOf x = some .cell ∨ env.kindOf x = some .free) ∧ ∃ c, env.cells.lookup x = some c ∧ h.IsCell c (some u))
structure Cx.Ok (X : Cx) : Prop where
  mod : Mod X.K X.mg X.base
  kind : X.env.scope.kind = .function
  glob : X.env.globals = mainGlobals
  blt : X.env.builtins = builtinsNs
  above : X.s_0.heap.objs.size ≤ X.env.locals
  inj : ∀ x y c, X.env.cells.lookup x = some c → X.env.cells.lookup y = some c → x = y
  has : ∀ x, (X.env.kindOf x = some .cell ∨ X.env.kindOf x = some .free) → ∃ c, X.env.cells.lookup x = some c
  cab : ∀ x c, X.fn x = true → X.env.cells.lookup x = some c → X.s_0.heap.objs.size ≤ c
  hd : X.calm = true → X.A.handled = none
  frames : X.A.frames = some X.stack
  stk : X.stack = X.outer ∨ (X.stack = X.env :: X.outer ∧ X.env.frame = some X.env.locals)
  exf : ∀ b ∈ X.ex, b ≠ X.env.locals ∧ ∀ x c, X.env.cells.lookup x = some c → c ≠ b
  bs : ∀ b o, X.base.get? b = some o → X.s_0.heap.get? b = some o ∧ X.H_0 b = none
  bsz : X.base.objs.size ≤ X.s_0.heap.objs.size
  noex : ∀ b o, X.base.get? b = some o → b ∉ X.ex
  exfs : ∀ b ∈ X.ex, b ∉ X.fs
  funs : X.s_0.heap.FunFrames X.base X.outer
  frf : ∀ b ∈ X.fs, X.H_0 b = none
structure Inv (X : Cx) (pins : List (Addr × Obj)) (σ : List (Option V)) (H : Hp) (s : Shared) : Prop where
  ok : X.Ok
  os : s.os = X.s_0.os
  bare : AllBare s.gens
  base : Un X.fs X.ex X.H_0 H X.s_0.heap s.heap
  loc : ∃ m, s.heap.Ns X.env.locals m ∧ ∀ (i : Nat) (x : Str) (v : V), X.N[i]? = some x → σ[i]? = some (some v) → Vis X.env.scope x → ∃ u, RelV v u ∧ Look X.env s.heap m x u
  cell : ∀ x c, X.env.cells.lookup x = some c → ∃ v, s.heap.IsCell c v
  free : H X.env.locals = none
  freeC : ∀ x c, X.env.cells.lookup x = some c → H c = none
  pin : ∀ p ∈ X.pn ++ pins, s.heap.get? p.1 = some p.2 ∧ H p.1 = none ∧ p.1 ≠ X.env.locals ∧ p.1 ∉ X.fs ∧ ∀ v, p.2.data ≠ .cell v
  hok : HOk X.prog X.w H s.heap
  len : σ.length = X.N.length
section
variable {X : Cx} {pins : List (Addr × Obj)} {σ : List (Option V)} {H H' : Hp} {s : Shared} {h' : Heap}
theorem Cx.Ok.nofr (ok : X.Ok) {b : Addr} {o : Obj} (e : X.base.get? b = some o) : b ∉ X.fs := fun hb => by
  have := (ok.funs.mem hb).1
  rw [e] at this; cases this
theorem Inv.bs (I : Inv X pins σ H s) : ∀ b o, X.base.get? b = some o → s.heap.get? b = some o ∧ H b = none := fun b o e =>
  ⟨I.base.keep b o (I.ok.bs b o e).1 (I.ok.bs b o e).2 (I.ok.nofr e) (I.ok.noex b o e), I.base.free b o (I.ok.bs b o e).1 (I.ok.bs b o e).2 (I.ok.noex b o e)⟩
theorem Inv.bk (I : Inv X pins σ H s) : ∀ b o, X.base.get? b = some o → s.heap.get? b = some o := fun b o e => (I.bs b o e).1
theorem Inv.mod (I : Inv X pins σ H s) : Mod X.K X.mg X.base := I.ok.mod
theorem Inv.kIn (I : Inv X pins σ H s) : X.K.In s.heap := I.ok.mod.kin.keeps I.bk
theorem Inv.nolimit (I : Inv X pins σ H s) : s.heap.NoLimit := I.ok.mod.nolimit.keeps I.bk
theorem Inv.fr (I : Inv X pins σ H s) : ∃ m, Fr X.base X.env.locals s.heap m :=
  let ⟨m, hn, _⟩ := I.loc
  ⟨m, hn, I.bk, Nat.le_trans I.ok.bsz I.ok.above⟩
theorem Inv.lt (I : Inv X pins σ H s) : X.env.locals < s.heap.objs.size := let ⟨_, hn, _⟩ := I.loc; hn.lt
theorem Inv.sz (I : Inv X pins σ H s) : X.s_0.heap.objs.size ≤ s.heap.objs.size := Nat.le_trans I.ok.above (Nat.le_of_lt I.lt)
theorem Inv.nofs (I : Inv X pins σ H s) {a : Addr} (h : s.heap.objs.size ≤ a) : a ∉ X.fs := fun hb => by
  obtain ⟨_, o, ho, _⟩ := I.ok.funs.mem hb
  exact absurd (Nat.lt_of_lt_of_le (Heap.lt_size ho) (Nat.le_trans I.sz h)) (Nat.lt_irrefl _)
theorem Inv.cne (I : Inv X pins σ H s) : ∀ x c, X.env.cells.lookup x = some c → c ≠ X.env.locals := fun x c e z => by
  obtain ⟨v, o, ho, hd⟩ := I.cell x c e
  obtain ⟨m, ⟨o', es, ep, ho', hd', _⟩, _⟩ := I.loc
  rw [z, ho'] at ho; cases ho; rw [hd'] at hd; cases hd
theorem Inv.funs (I : Inv X pins σ H s) : s.heap.FunFrames X.base X.outer := by
  have all : ∀ (l : List Env), (∀ b ∈ frs l, b ∈ X.fs) → X.s_0.heap.FunFrames X.base l → s.heap.FunFrames X.base l := by
    intro l
    induction l with
    | nil => intro _ _; trivial
    | cons env r ih =>
      intro hs hl
      obtain ⟨hk, ⟨L, o, hf, hn, ho, hd⟩, hr⟩ := hl
      have hL : L ∈ X.fs := hs L (by unfold frs; rw [List.filterMap_cons, hf]; exact List.mem_cons_self)
      obtain ⟨sl, e⟩ := I.base.slot L o ho (I.ok.frf L hL) hL fun z => I.ok.exfs L z hL
      exact ⟨hk, ⟨L, _, hf, hn, e, hd⟩, ih (fun b hb => hs b (by unfold frs; rw [List.filterMap_cons, hf]; exact List.mem_cons_of_mem _ hb)) hr⟩
  exact all X.outer (fun _ hb => hb) I.ok.funs
theorem Inv.stack (I : Inv X pins σ H s) : s.heap.FunFrames X.base X.stack := by
  rcases I.ok.stk with e | ⟨e, hf⟩
  · rw [e]; exact I.funs
  · rw [e]
    obtain ⟨m, hn, _⟩ := I.loc
    refine .cons (by rw [I.ok.kind]; decide) hf hn ?_ I.funs
    exact Heap.get?_none_of_le (Nat.le_trans I.ok.bsz I.ok.above)
theorem Inv.stkSub (I : Inv X pins σ H s) : ∀ b ∈ frs X.stack, b ∈ X.env.locals :: X.fs := fun b hb => by
  rcases I.ok.stk with e | ⟨e, hf⟩
  · rw [e] at hb; exact List.mem_cons_of_mem _ hb
  · rw [e] at hb
    unfold frs at hb
    rw [List.filterMap_cons, hf] at hb
    exact hb
theorem Inv.stkFree (I : Inv X pins σ H s) : ∀ b ∈ frs X.stack, H b = none := fun b hb => by
  rcases List.mem_cons.mp (I.stkSub b hb) with e | hb
  · rw [e]; exact I.free
  · obtain ⟨_, o, ho, _⟩ := I.ok.funs.mem hb
    exact I.base.free b o ho (I.ok.frf b hb) fun z => I.ok.exfs b z hb
theorem Inv.step {g' : Array GenState} {t' : Nat} {d' : Drawn} {ch : List Addr} (I : Inv X pins σ H s)
    (hch : ∀ b ∈ ch, (b ∈ X.ex ∨ X.s_0.heap.objs.size ≤ b) ∧ b ≠ X.env.locals ∧ (∀ x c, X.env.cells.lookup x = some c → c ≠ b) ∧ ∀ p ∈ X.pn ++ pins, p.1 ≠ b)
    (keep : ∀ b o, b ≠ X.env.locals → b ∉ X.fs → b ∉ ch → s.heap.get? b = some o → H b = none → h'.get? b = some o)
    (slot : ∀ b o, b ≠ X.env.locals → b ∈ X.fs → b ∉ ch → s.heap.get? b = some o → H b = none → ∃ sl, h'.get? b = some { o with slots := sl }) (free : ∀ b o, b ∉ ch → s.heap.get? b = some o → H b = none → H' b = none)
    (there : ∀ b o, b ∉ ch → s.heap.get? b = some o → ∃ o', h'.get? b = some o')
    (tups : ∀ b xs, H b = some (.tup xs) → H' b = some (.tup xs)) (frzs : ∀ b o u, H b = some (.frz o u) → H' b = some (.frz o u)) (tbls : ∀ b ps, H b = some (.tbl ps) → ∃ more, H' b = some (.tbl (ps ++ more)))
    (ns : ∀ m, s.heap.Ns X.env.locals m → h'.Ns X.env.locals m) (hok : HOk X.prog X.w H' h') (hg : AllBare g') :
    Inv X pins σ H' { s with heap := h', gens := g', drawn := d', toks := t' } := by
  have neL : ∀ b o, X.s_0.heap.get? b = some o → b ≠ X.env.locals := fun b o e => Nat.ne_of_lt (Nat.lt_of_lt_of_le (Heap.lt_size e) I.ok.above)
  have neC : ∀ b o, X.s_0.heap.get? b = some o → b ∉ X.ex → b ∉ ch := fun b o e hx hb => by
    rcases (hch b hb).1 with z | z
    · exact hx z
    · exact absurd (Nat.lt_of_lt_of_le (Heap.lt_size e) z) (Nat.lt_irrefl _)
  have cellK : ∀ x c, X.env.cells.lookup x = some c → ∀ v, s.heap.IsCell c v → h'.IsCell c v := fun x c e v ⟨o, ho, hd⟩ => by
    have nch : c ∉ ch := fun z => (hch c z).2.2.1 x c e rfl
    by_cases hc : c ∈ X.fs
    · obtain ⟨sl, q⟩ := slot c o (I.cne x c e) hc nch ho (I.freeC x c e)
      exact ⟨_, q, hd⟩
    · exact ⟨o, keep c o (I.cne x c e) hc nch ho (I.freeC x c e), hd⟩
  refine ⟨I.ok, I.os, hg, ⟨fun b o e n hb hx => ?_, fun b o e n hb hx => ?_, fun b o e n hx => ?_, fun b o e hx => ?_, fun b xs e => tups b xs (I.base.tups b xs e), fun b o xs e => frzs b o xs (I.base.frzs b o xs e), fun b ps e => ?_⟩, ?_, fun x c e => ?_, ?_, fun x c e => ?_, fun p hp => ?_, hok, I.len⟩
  · exact keep b o (neL b o e) hb (neC b o e hx) (I.base.keep b o e n hb hx) (I.base.free b o e n hx)
  · obtain ⟨sl, e1⟩ := I.base.slot b o e n hb hx
    obtain ⟨sl', e2⟩ := slot b _ (neL b o e) hb (neC b o e hx) e1 (I.base.free b o e n hx)
    exact ⟨sl', e2⟩
  · obtain ⟨o', e1⟩ := I.base.there b o e hx
    exact free b o' (neC b o e hx) e1 (I.base.free b o e n hx)
  · obtain ⟨o', e1⟩ := I.base.there b o e hx
    exact there b o' (neC b o e hx) e1
  · obtain ⟨m1, e1⟩ := I.base.tbls b ps e
    obtain ⟨m2, e2⟩ := tbls b _ e1
    exact ⟨m1 ++ m2, by rw [e2, Array.append_assoc]⟩
  · obtain ⟨m, hn, hl⟩ := I.loc
    refine ⟨m, ns m hn, fun i x v e1 e2 e3 => ?_⟩
    obtain ⟨u, r, l⟩ := hl i x v e1 e2 e3
    refine ⟨u, r, ?_⟩
    rcases l with l | ⟨k, c, e, z⟩
    · exact .inl l
    · exact .inr ⟨k, c, e, cellK x c e _ z⟩
  · obtain ⟨v, z⟩ := I.cell x c e
    exact ⟨v, cellK x c e v z⟩
  · obtain ⟨m, ⟨o, _, _, ho, _⟩, _⟩ := I.loc
    exact free _ o (fun z => (hch _ z).2.1 rfl) ho I.free
  · obtain ⟨v, o, ho, hd⟩ := I.cell x c e
    exact free c o (fun z => (hch c z).2.2.1 x c e rfl) ho (I.freeC x c e)
  · obtain ⟨e, n, ne, nf, d⟩ := I.pin p hp
    have nch : p.1 ∉ ch := fun z => (hch p.1 z).2.2.2 p hp rfl
    exact ⟨keep p.1 p.2 ne nf nch e n, free p.1 p.2 nch e n, ne, nf, d⟩
theorem Inv.un {t' : Nat} (I : Inv X pins σ H s) (u : Un X.fs [] H H' s.heap h') (hok : HOk X.prog X.w H' h') : Inv X pins σ H' { s with heap := h', toks := t' } := by
  obtain ⟨m, ⟨o, es, ep, ho, r⟩, _⟩ := id I.loc
  obtain ⟨sl, hL⟩ := u.any ho I.free (by simp)
  exact I.step (g' := s.gens) (d' := s.drawn) (ch := []) (fun _ z => nomatch z) (fun b o _ hb _ e n => u.keep b o e n hb (by simp)) (fun b o _ hb _ e n => u.slot b o e n hb (by simp)) (fun b o _ e n => u.free b o e n (by simp)) (fun b o _ e => u.there b o e (by simp)) u.tups u.frzs u.tbls (fun m' hm => by
    obtain ⟨o', es', ep', ho', r'⟩ := hm
    rw [ho] at ho'; cases ho'
    exact ⟨_, es', ep', hL, r'⟩) hok I.bare
theorem Inv.call {g' : Array GenState} {t' : Nat} {d' : Drawn} {ch : List Addr} (I : Inv X pins σ H s) (u : Un (frs X.stack) ch H H' s.heap h') (hok : HOk X.prog X.w H' h') (hg : AllBare g')
    (hch : ∀ b ∈ ch, (b ∈ X.ex ∨ X.s_0.heap.objs.size ≤ b) ∧ b ≠ X.env.locals ∧ (∀ x c, X.env.cells.lookup x = some c → c ≠ b) ∧ ∀ p ∈ X.pn ++ pins, p.1 ≠ b) :
    Inv X pins σ H' { s with heap := h', gens := g', drawn := d', toks := t' } := by
  obtain ⟨m, ⟨o, es, ep, ho, r⟩, _⟩ := id I.loc
  obtain ⟨sl, hL⟩ := u.any ho I.free fun z => (hch _ z).2.1 rfl
  exact I.step (ch := ch) hch (fun b o hL hb hc e n => u.keep b o e n (fun z => (List.mem_cons.mp (I.stkSub b z)).elim hL hb) hc) (fun b o _ _ hc e n => u.any e n hc) (fun b o hc e n => u.free b o e n hc) (fun b o hc e => u.there b o e hc) u.tups u.frzs u.tbls (fun m' hm => by
    obtain ⟨o', es', ep', ho', r'⟩ := hm
    rw [ho] at ho'; cases ho'
    exact ⟨_, es', ep', hL, r'⟩) hok hg
theorem Inv.turned {t' : Nat} {it : Addr} (I : Inv X pins σ H s) (k : ∀ b o, b ≠ it → s.heap.get? b = some o → h'.get? b = some o) (hn : H it = none) (hL : it ≠ X.env.locals)
    (h1 : it ∈ X.ex ∨ X.s_0.heap.objs.size ≤ it) (h2 : ∀ x c, X.env.cells.lookup x = some c → c ≠ it) (h3 : ∀ p ∈ X.pn ++ pins, p.1 ≠ it) : Inv X pins σ H { s with heap := h', toks := t' } := by
  have nit : ∀ b u, H b = some u → b ≠ it := fun b u e z => by rw [z, hn] at e; cases e
  refine I.step (g' := s.gens) (d' := s.drawn) (ch := [it]) (fun b hb => ?_) (fun b o _ _ hc e _ => k b o (fun z => hc (by simp [z])) e) (fun b o _ _ hc e _ => ⟨o.slots, k b o (fun z => hc (by simp [z])) e⟩) (fun _ _ _ _ n => n)
    (fun b o hc e => ⟨o, k b o (fun z => hc (by simp [z])) e⟩) (fun _ _ e => e) (fun _ _ _ e => e) (fun b ps e => ⟨#[], by rw [e]; simp⟩) (fun m hm => ?_) (fun b u e => ?_) I.bare
  · have e : b = it := by simpa using hb
    subst e
    exact ⟨h1, hL, h2, h3⟩
  · obtain ⟨o, es, ep, ho, r⟩ := hm
    exact ⟨o, es, ep, k _ o (Ne.symm hL) ho, r⟩
  · refine (I.hok b u e).stay (fun c v hc q => k c v ?_ q) (fun _ q => q) fun _ _ q => q
    rcases hc with z | z
    · rw [z]; exact nit b u e
    · exact nit c _ z
theorem Inv.tok (I : Inv X pins σ H s) (t : Nat) : Inv X pins σ H { s with toks := t } := I.un (h' := s.heap) (t' := t) Un.refl I.hok
theorem Inv.kept {t' : Nat} (I : Inv X pins σ H s) (k : ∀ b u, s.heap.get? b = some u → h'.get? b = some u) : Inv X pins σ H { s with heap := h', toks := t' } := I.un (Un.kept k) (I.hok.kept k)
theorem Inv.laid {a : Addr} {o : HO} {t' : Nat} (I : Inv X pins σ H s) (k : ∀ b u, s.heap.get? b = some u → h'.get? b = some u) (hp : s.heap.objs.size ≤ a) (new : ObjOk X.prog X.w (upd H a o) h' a o) :
    Inv X pins σ (upd H a o) { s with heap := h', toks := t' } := I.un (Un.laid k hp (I.hok.fresh hp)) (I.hok.laid k hp new)
theorem Inv.write {x e : Addr} {o : HO} {t' : Nat} (I : Inv X pins σ H s) (mu : Mut (H x)) (he : e = x ∨ H e = some (.own x)) (k : ∀ b u, b ≠ e → s.heap.get? b = some u → h'.get? b = some u) (heo : ∃ u, h'.get? e = some u)
    (new : ObjOk X.prog X.w (upd H x o) h' x o) : Inv X pins σ (upd H x o) { s with heap := h', toks := t' } := I.un (Un.write mu he k heo) (I.hok.write mu he k heo new)
theorem Inv.weak {σ' : List (Option V)} (I : Inv X pins σ H s) (hl : σ'.length = σ.length) (w : ∀ (i : Nat) v, σ'[i]? = some (some v) → σ[i]? = some (some v)) : Inv X pins σ' H s :=
  ⟨I.ok, I.os, I.bare, I.base, let ⟨m, hn, hl'⟩ := I.loc; ⟨m, hn, fun i x v e1 e2 e3 => hl' i x v e1 (w i v e2) e3⟩, I.cell, I.free, I.freeC, I.pin, I.hok, hl.trans I.len⟩
theorem Inv.pins_of {pins' : List (Addr × Obj)} (I : Inv X pins σ H s) (h : ∀ p ∈ pins', s.heap.get? p.1 = some p.2 ∧ H p.1 = none ∧ p.1 ≠ X.env.locals ∧ p.1 ∉ X.fs ∧ ∀ v, p.2.data ≠ .cell v) : Inv X pins' σ H s :=
  ⟨I.ok, I.os, I.bare, I.base, I.loc, I.cell, I.free, I.freeC, fun p hp => (List.mem_append.mp hp).elim (fun z => I.pin p (List.mem_append_left _ z)) (h p), I.hok, I.len⟩
theorem nodup_ix {N : List Str} (hN : N.Nodup) {i j : Nat} {x : Str} (a : N[i]? = some x) (b : N[j]? = some x) : i = j := by
  obtain ⟨h1, e1⟩ := List.getElem?_eq_some_iff.mp a
  obtain ⟨h2, e2⟩ := List.getElem?_eq_some_iff.mp b
  exact (List.getElem_inj hN).mp (e1.trans e2.symm)
theorem store_ok2 {M : Model} {A : Around} {E : Value → Shared → Prop} {i : Nat} {x : Str} {v : V} {u : Value} {Q : Unit → Shared → Prop} (I : Inv X pins σ H s) (hN : X.N.Nodup) (hi : X.N[i]? = some x) (hx : Loc X.env.scope x) (r : RelV v u)
    (h : ∀ s', Inv X pins (σ.set i (some v)) H s' → (∃ a, Heap.SameBut a s.heap s'.heap ∧ (a = X.env.locals ∨ X.env.cells.lookup x = some a)) → Q () s') (hf : X.fn x = true ∨ X.env.scope.names.lookup x = some .local := by first | exact .inl rfl | exact .inr rfl | assumption) : wpAny M A (storeName X.env x u) Q E s := by
  obtain ⟨m, hn, hl⟩ := id I.loc
  have hcls : (X.env.scope.kind == .class || (X.env.scope.kind == .module && X.env.locals != X.env.globals)) = false := by rw [I.ok.kind]; rfl
  have hiσ : i < σ.length := by rw [I.len]; exact (List.getElem?_eq_some_iff.mp hi).1
  have cne := I.cne
  have tracked : ∀ {a : Addr} {h' : Heap}, (∃ o, s.heap.get? a = some o ∧ H a = none) → Heap.SameBut a s.heap h' → HOk X.prog X.w H h' := fun {a h'} ha hs b ob e => by
    obtain ⟨_, _, hfree⟩ := ha
    refine (I.hok b ob e).stay (fun c w' hc q => (hs.2 c ?_).trans q) (fun _ q => q) fun _ _ q => q
    rintro rfl
    rcases hc with rfl | hc
    · rw [hfree] at e; cases e
    · rw [hfree] at hc; cases hc
  rcases hx with hk | hk
  · refine wpAny_storeName_local hk hn (fun h' hn' hs => ?_) hcls
    obtain ⟨oL, _, _, hoL, _⟩ := id hn
    refine h _ ⟨I.ok, I.os, I.bare, ⟨fun b o e n hb hx => ?_, fun b o e n hb hx => ?_, I.base.free, fun b o e hx => ?_, I.base.tups, I.base.frzs, I.base.tbls⟩, ⟨_, hn', fun j y v' e1 e2 e3 => ?_⟩, fun y c e => ?_, I.free, I.freeC, fun p hp => ?_, tracked ⟨oL, hoL, I.free⟩ hs, by simpa using I.len⟩ ⟨_, hs, .inl rfl⟩
    · exact (hs.2 b (Nat.ne_of_lt (Nat.lt_of_lt_of_le (Heap.lt_size e) I.ok.above))).trans (I.base.keep b o e n hb hx)
    · obtain ⟨sl, e1⟩ := I.base.slot b o e n hb hx
      exact ⟨sl, (hs.2 b (Nat.ne_of_lt (Nat.lt_of_lt_of_le (Heap.lt_size e) I.ok.above))).trans e1⟩
    · obtain ⟨o', e1⟩ := I.base.there b o e hx
      exact ⟨o', (hs.2 b (Nat.ne_of_lt (Nat.lt_of_lt_of_le (Heap.lt_size e) I.ok.above))).trans e1⟩
    · by_cases hj : j = i
      · subst hj
        rw [hi] at e1; cases e1
        rw [List.getElem?_set_self hiσ] at e2
        cases e2
        exact ⟨u, r, .inl ⟨hk, by simp⟩⟩
      · rw [List.getElem?_set_ne (Ne.symm hj)] at e2
        obtain ⟨u', r', q⟩ := hl j y v' e1 e2 e3
        refine ⟨u', r', ?_⟩
        rcases q with ⟨k, e⟩ | ⟨k, c, e, z⟩
        · refine .inl ⟨k, ?_⟩
          have : y ≠ x := fun e => hj (nodup_ix hN e1 (e ▸ hi))
          simp [this, e]
        · exact .inr ⟨k, c, e, z.sameBut hs (cne y c e)⟩
    · obtain ⟨w', z⟩ := I.cell y c e
      exact ⟨w', z.sameBut hs (cne y c e)⟩
    · obtain ⟨e, n, ne, nf, d⟩ := I.pin p hp
      exact ⟨(hs.2 p.1 ne).trans e, n, ne, nf, d⟩
  · have hfn : X.fn x = true := by
      rcases hf with z | z
      · exact z
      · rw [z] at hk; cases hk
    obtain ⟨c, hc⟩ := I.ok.has x (.inl hk)
    obtain ⟨w', z⟩ := I.cell x c hc
    refine wpAny_storeName_cell I.ok.kind hk hc z (fun h' hc' hs => ?_)
    obtain ⟨oc, hoc, hocd⟩ := id z
    refine h { s with heap := h' } ⟨I.ok, I.os, I.bare, ⟨fun b o e n hb hx => ?_, fun b o e n hb hx => ?_, I.base.free, fun b o e hx => ?_, I.base.tups, I.base.frzs, I.base.tbls⟩, ⟨m, hn.sameBut hs (Ne.symm (cne x c hc)), fun j y v' e1 e2 e3 => ?_⟩, fun y c' e => ?_, I.free, I.freeC, fun p hp => ?_, tracked ⟨oc, hoc, I.freeC x c hc⟩ hs, by simpa using I.len⟩ ⟨c, hs, .inr hc⟩
    · exact (hs.2 b (Nat.ne_of_lt (Nat.lt_of_lt_of_le (Heap.lt_size e) (I.ok.cab x c hfn hc)))).trans (I.base.keep b o e n hb hx)
    · obtain ⟨sl, e1⟩ := I.base.slot b o e n hb hx
      exact ⟨sl, (hs.2 b (Nat.ne_of_lt (Nat.lt_of_lt_of_le (Heap.lt_size e) (I.ok.cab x c hfn hc)))).trans e1⟩
    · obtain ⟨o', e1⟩ := I.base.there b o e hx
      exact ⟨o', (hs.2 b (Nat.ne_of_lt (Nat.lt_of_lt_of_le (Heap.lt_size e) (I.ok.cab x c hfn hc)))).trans e1⟩
    · by_cases hj : j = i
      · subst hj
        rw [hi] at e1; cases e1
        rw [List.getElem?_set_self hiσ] at e2
        cases e2
        exact ⟨u, r, .inr ⟨.inl hk, c, hc, hc'⟩⟩
      · rw [List.getElem?_set_ne (Ne.symm hj)] at e2
        obtain ⟨u', r', q⟩ := hl j y v' e1 e2 e3
        refine ⟨u', r', ?_⟩
        rcases q with q | ⟨k, c', e, z'⟩
        · exact .inl q
        · refine .inr ⟨k, c', e, z'.sameBut hs ?_⟩
          rintro rfl
          exact hj (nodup_ix hN e1 (I.ok.inj _ _ _ e hc ▸ hi))
    · by_cases hcc : c' = c
      · subst hcc; exact ⟨_, hc'⟩
      · obtain ⟨w2, z2⟩ := I.cell y c' e
        exact ⟨w2, z2.sameBut hs hcc⟩
    · obtain ⟨e, n, ne, nf, d⟩ := I.pin p hp
      refine ⟨(hs.2 p.1 ?_).trans e, n, ne, nf, d⟩
      intro q
      rw [q, hoc] at e
      have q' : oc = p.2 := Option.some.inj e
      exact d w' (by rw [← q']; exact hocd)
theorem store_ok {M : Model} {A : Around} {E : Value → Shared → Prop} {i : Nat} {x : Str} {v : V} {u : Value} {Q : Unit → Shared → Prop} (I : Inv X pins σ H s) (hN : X.N.Nodup) (hi : X.N[i]? = some x) (hx : Loc X.env.scope x) (r : RelV v u)
    (h : ∀ s', Inv X pins (σ.set i (some v)) H s' → Q () s') (hf : X.fn x = true ∨ X.env.scope.names.lookup x = some .local := by first | exact .inl rfl | exact .inr rfl | assumption) : wpAny M A (storeName X.env x u) Q E s :=
  store_ok2 I hN hi hx r (fun s' I' _ => h s' I') hf
theorem Inv.call' {s' : Shared} {ch : List Addr} (I : Inv X pins σ H s) (ho : s'.os = s.os) (u : Un (frs X.stack) ch H H' s.heap s'.heap) (hok : HOk X.prog X.w H' s'.heap) (hg : AllBare s'.gens)
    (hch : ∀ b ∈ ch, (b ∈ X.ex ∨ X.s_0.heap.objs.size ≤ b) ∧ b ≠ X.env.locals ∧ (∀ x c, X.env.cells.lookup x = some c → c ≠ b) ∧ ∀ p ∈ X.pn ++ pins, p.1 ≠ b) : Inv X pins σ H' s' := by
  obtain ⟨h', g', d', t', o'⟩ := s'
  have e : o' = s.os := ho
  subst e
  exact I.call (g' := g') (t' := t') (d' := d') u hok hg hch
end
abbrev XK := Value → Option Addr → Hp → Prop
abbrev St := List (Option V)
abbrev VK := V → Hp → Prop
abbrev TE := St → Hp → VK → Prop
abbrev TT := St → Hp → (Bool → Hp → Prop) → Prop
abbrev TA := St → Hp → (List V → Hp → Prop) → Prop
structure Ends where
  nx : St → Hp → Prop
  rt : VK
  bk : St → Hp → Prop := fun _ _ => False
  ct : St → Hp → Prop := fun _ _ => False
abbrev TS := Ends → St → Hp → Prop
def EP (X : Cx) (pins : List (Addr × Obj)) (σ : St) (Q : VK) (u : Value) (s' : Shared) : Prop := ∃ v H', Inv X pins σ H' s' ∧ RelV v u ∧ Q v H'
def TP (X : Cx) (pins : List (Addr × Obj)) (σ : St) (Q : Bool → Hp → Prop) (b : Bool) (s' : Shared) : Prop := ∃ H', Inv X pins σ H' s' ∧ Q b H'
def AP (X : Cx) (pins : List (Addr × Obj)) (σ : St) (Q : List V → Hp → Prop) (us : List Value) (s' : Shared) : Prop := ∃ vs H', Inv X pins σ H' s' ∧ Vals vs us ∧ Q vs H'
def SP (X : Cx) (pins : List (Addr × Obj)) (D : Ends) (f : Flow) (s' : Shared) : Prop :=
  match f with
  | .next => ∃ σ' H', Inv X pins σ' H' s' ∧ D.nx σ' H'
  | .brk => ∃ σ' H', Inv X pins σ' H' s' ∧ D.bk σ' H'
  | .cont => ∃ σ' H', Inv X pins σ' H' s' ∧ D.ct σ' H'
  | .ret u => ∃ v σ' H', Inv X pins σ' H' s' ∧ RelV v u ∧ D.rt v H'
def PE (X : Cx) (e : Expr) (t : TE) : Prop :=
  ∀ (pins : List (Addr × Obj)) (s : Shared) (σ : St) (H : Hp) (Q : VK), Inv X pins σ H s → t σ H Q → wpAny (model X.prog X.w) X.A (eval e X.env) (EP X pins σ Q) X.xe s
def PT (X : Cx) (e : Expr) (t : TT) : Prop :=
  ∀ (pins : List (Addr × Obj)) (s : Shared) (σ : St) (H : Hp) (Q : Bool → Hp → Prop), Inv X pins σ H s → t σ H Q → wpAny (model X.prog X.w) X.A (isTrue e X.env (eval e X.env)) (TP X pins σ Q) X.xe s
def PW (X : Cx) (e : Expr) (t : TT) : Prop :=
  ∀ (whole : Sem Value) (pins : List (Addr × Obj)) (s : Shared) (σ : St) (H : Hp) (Q : Bool → Hp → Prop), Inv X pins σ H s → t σ H Q → wpAny (model X.prog X.w) X.A (isTrue e X.env whole) (TP X pins σ Q) X.xe s
theorem PW.pt {X : Cx} {e : Expr} {t : TT} (h : PW X e t) : PT X e t := h _
def PA (X : Cx) (es : List Expr) (t : TA) : Prop :=
  ∀ (pos : Pos) (pins : List (Addr × Obj)) (s : Shared) (σ : St) (H : Hp) (Q : List V → Hp → Prop), Inv X pins σ H s → t σ H Q → wpAny (model X.prog X.w) X.A (spliced (backTo pos (starEach es X.env))) (AP X pins σ Q) X.xe s
def PS (X : Cx) (st : Stmt) (t : TS) : Prop :=
  ∀ (pins : List (Addr × Obj)) (s : Shared) (σ : St) (H : Hp) (D : Ends), Inv X pins σ H s → t D σ H → wpAny (model X.prog X.w) X.A (exec st X.env) (SP X pins D) X.xe s
def PSs (X : Cx) (st : List Stmt) (t : TS) : Prop :=
  ∀ (pins : List (Addr × Obj)) (s : Shared) (σ : St) (H : Hp) (D : Ends), Inv X pins σ H s → t D σ H → wpAny (model X.prog X.w) X.A (execs st X.env) (SP X pins D) X.xe s
theorem thn {α : Type} {t : Sem α} {Q Q' : α → Shared → Prop} {M : Model} {A : Around} {E : Value → Shared → Prop} {s : Shared} (h : wpAny M A t Q E s) (hQ : ∀ a s, Q a s → Q' a s) : wpAny M A t Q' E s := wpAny_mono h hQ fun _ _ x => x
end L2
namespace L2
open PySem PySem.Spec PyProof.Rows
section
variable {X : Cx}
def tVar (i : Nat) : TE := fun σ H Q => ∃ v, σ[i]? = some (some v) ∧ Q v H
def tC (v : V) : TE := fun _ H Q => Q v H
theorem pe_var {i : Nat} {x : Str} {pos : Pos} (hN : X.N[i]? = some x) (hv : Vis X.env.scope x) (hd : (x == ("__debug__" : Str)) = false := by decide) (hcd : (x == ("__classdict__" : Str)) = false := by decide) : PE X (.Name x pos) (tVar i) := by
  intro pins s σ H Q I h
  obtain ⟨v, e, h⟩ := h
  obtain ⟨m, hn, hl⟩ := I.loc
  obtain ⟨u, r, l⟩ := hl i x v hN e hv
  have fin : EP X pins σ Q u s := ⟨v, H, I, r, h⟩
  rcases l with ⟨hk, hm⟩ | ⟨hk, c, hc, hcell⟩
  · exact wpAny_Name (wpAny_loadName_local I.ok.kind hk hn hm fin) hd
  · rcases hk with hk | hk
    · exact wpAny_Name (wpAny_loadName_cell I.ok.kind hk hc hcell fin) hd
    · exact wpAny_Name (wpAny_loadName_free I.ok.kind hk hc hcell fin hcd) hd
theorem pe_int {i j pos} : PE X (.Constant (.int i) j pos) (tC (.int i)) := fun _ _ _ H _ I h => wpAny_Constant_int ⟨.int i, H, I.tok _, ⟨_, rfl⟩, h⟩
theorem pe_bl {b j pos} : PE X (.Constant (.bool b) j pos) (tC (.bl b)) := fun _ _ _ H _ I h => Constant_bool ⟨.bl b, H, I, rfl, h⟩
def Gl (X : Cx) (x : Str) : Prop := X.env.kindOf x = some .globalImplicit
theorem ld_glob {E : Value → Shared → Prop} {pins : List (Addr × Obj)} {s : Shared} {σ : St} {H : Hp} {x : Str} {u : Value} {pos : Pos} {Q : Value → Shared → Prop} (I : Inv X pins σ H s) (hg : Gl X x) (hm : X.mg x = some u) (h : Q u s)
    (hd : (x == ("__debug__" : Str)) = false := by decide) : wpAny (model X.prog X.w) X.A (eval (.Name x pos) X.env) Q E s :=
  Calls.Name_function_global I.ok.kind hg (Calls.loadGlobal_global (by rw [I.ok.glob]; exact I.mod.glob.keeps I.bk) hm h) hd
theorem ld_blt {E : Value → Shared → Prop} {pins : List (Addr × Obj)} {s : Shared} {σ : St} {H : Hp} {x : Str} {u : Value} {pos : Pos} {Q : Value → Shared → Prop} (I : Inv X pins σ H s) (hg : Gl X x) (hm : X.mg x = none) (hv : bootBuiltins x = some u) (h : Q u s)
    (hn : x ≠ "__name__" := by decide) (hd : (x == ("__debug__" : Str)) = false := by decide) : wpAny (model X.prog X.w) X.A (eval (.Name x pos) X.env) Q E s := by
  obtain ⟨mb, h1, h2⟩ := I.mod.blt
  exact Calls.Name_function_global I.ok.kind hg (Calls.loadGlobal_builtin (by rw [I.ok.glob]; exact I.mod.glob.keeps I.bk) hm (by rw [I.ok.blt]; exact h1.keeps I.bk) ((h2 x hn).trans hv) h) hd
theorem pe_glob {x : Str} {v : V} {u : Value} {pos : Pos} (hg : Gl X x) (hm : X.mg x = some u) (r : RelV v u) (hd : (x == ("__debug__" : Str)) = false := by decide) : PE X (.Name x pos) (tC v) :=
  fun _ _ _ H _ I h => ld_glob I hg hm ⟨v, H, I, r, h⟩ hd
def t2I (ta tb : TE) (k : Int → Int → Hp → Prop) : St → Hp → Prop := fun σ H => ta σ H fun x H1 => tb σ H1 fun y H2 => ∃ i j, x = .int i ∧ y = .int j ∧ k i j H2
def tAdd (ta tb : TE) : TE := fun σ H Q => t2I ta tb (fun i j H2 => Q (.int (i + j)) H2) σ H
def tSub (ta tb : TE) : TE := fun σ H Q => t2I ta tb (fun i j H2 => Q (.int (i - j)) H2) σ H
def tMul (ta tb : TE) : TE := fun σ H Q => t2I ta tb (fun i j H2 => (-(2 ^ 64) < i ∧ i < 2 ^ 64) ∧ Q (.int (i * j)) H2) σ H
variable {a b : Expr} {ta tb : TE} {pos : Pos}
def PC (X : Cx) (op : CmpOp) (a b : Expr) (t : TE) : Prop :=
  ∀ (pins : List (Addr × Obj)) (s : Shared) (σ : St) (H : Hp) (Q : VK), Inv X pins σ H s → t σ H Q →
    wpAny (model X.prog X.w) X.A (eval a X.env) (fun v s₁ => wpAny (model X.prog X.w) X.A (eval b X.env) (fun u s₂ => wpAny (model X.prog X.w) X.A (compareOp op v u) (EP X pins σ Q) X.xe s₂) X.xe s₁) X.xe s
theorem nobehind (b : Expr) {op : CmpOp} (h : op ≠ .In) (h2 : op ≠ .NotIn) : behindInMarks op b = false := by
  have e1 : (op == CmpOp.In) = false := by cases op <;> first | rfl | exact absurd rfl h
  have e2 : (op == CmpOp.NotIn) = false := by cases op <;> first | rfl | exact absurd rfl h2
  cases b <;> simp [behindInMarks, e1, e2]
def tCmp (p : Int → Int → Bool) (ta tb : TE) : TE := fun σ H Q => t2I ta tb (fun i j H2 => Q (.bl (p i j)) H2) σ H
abbrev tLt : TE → TE → TE := tCmp fun i j => decide (i < j)
abbrev tLe : TE → TE → TE := tCmp fun i j => decide (i ≤ j)
abbrev tGt : TE → TE → TE := tCmp fun i j => decide (j < i)
abbrev tGe : TE → TE → TE := tCmp fun i j => decide (j ≤ i)
abbrev tEqI : TE → TE → TE := tCmp fun i j => decide (i = j)
abbrev tNeI : TE → TE → TE := tCmp fun i j => !decide (i = j)
def tIsN (ta : TE) : TE := fun σ H Q => ta σ H fun x H1 => Q (.bl (decide (x = .non))) H1
def tNotN (ta : TE) : TE := fun σ H Q => ta σ H fun x H1 => Q (.bl (!decide (x = .non))) H1
def tB (t : TE) : TT := fun σ H Q => t σ H fun x H1 => ∃ c, x = .bl c ∧ Q c H1
theorem pt_cmp {op : CmpOp} {t : TE} (h : PC X op a b t) (h1 : behindInMarks op b = false := by first | exact nobehind _ (by decide) (by decide) | rfl) : PT X (.Compare a [op] [b] pos) (tB t) := by
  intro pins s σ H Q I hw
  refine wpAny_isTrue_Compare1 (thn (h pins s σ H _ I hw) fun v s1 h1 => thn h1 fun u s2 h2 => thn h2 fun c s3 ⟨x, H1, I1, r1, q1⟩ => ?_) h1
  obtain ⟨d, rfl, q⟩ := q1
  cases r1
  exact wpAny_truthy_bool ⟨H1, I1, q⟩
theorem pt_val {e : Expr} {t : TE} (h : PE X e t) (he : ∀ whole, isTrue e X.env whole = (do let v ← whole; standAt e.pos; holding [v] (truthy v)) := by intro _; rfl) : PT X e (tB t) := by
  intro pins s σ H Q I hw
  refine isTrue_plain (thn (h pins s σ H _ I hw) fun v s1 ⟨x, H1, I1, r1, q1⟩ => ?_) (he _)
  obtain ⟨d, rfl, q⟩ := q1
  cases r1
  exact wpAny_truthy_bool ⟨H1, I1, q⟩
variable {tA tB' : TT} {rest : List Expr}
def tAnd (t u : TT) : TT := fun σ H Q => t σ H fun c H1 => if c = true then u σ H1 Q else Q false H1
def tOr (t u : TT) : TT := fun σ H Q => t σ H fun c H1 => if c = true then Q true H1 else u σ H1 Q
def tNot (t : TT) : TT := fun σ H Q => t σ H fun c H1 => Q (!c) H1
theorem pw_and1 (ha : PT X a tA) : PW X (.BoolOp .And [a] pos) tA := by
  intro wh pins s σ H Q I h
  refine isTrue_and (thn (ha pins s σ H Q I h) fun c s1 e => ?_)
  cases c with
  | true => exact isTrue_and_nil e
  | false => exact e
theorem pw_or1 (ha : PT X a tA) : PW X (.BoolOp .Or [a] pos) tA := by
  intro wh pins s σ H Q I h
  refine isTrue_or (thn (ha pins s σ H Q I h) fun c s1 e => ?_)
  cases c with
  | false => exact isTrue_or_nil e
  | true => exact e
theorem pw_and (ha : PT X a tA) (hb : PW X (.BoolOp .And (b :: rest) pos) tB') : PW X (.BoolOp .And (a :: b :: rest) pos) (tAnd tA tB') := by
  intro wh pins s σ H Q I h
  refine isTrue_and (thn (ha pins s σ H _ I h) fun c s1 ⟨H1, I1, q1⟩ => ?_)
  cases c with
  | true => exact hb wh pins s1 σ H1 Q I1 q1
  | false => exact ⟨H1, I1, q1⟩
theorem pw_or (ha : PT X a tA) (hb : PW X (.BoolOp .Or (b :: rest) pos) tB') : PW X (.BoolOp .Or (a :: b :: rest) pos) (tOr tA tB') := by
  intro wh pins s σ H Q I h
  refine isTrue_or (thn (ha pins s σ H _ I h) fun c s1 ⟨H1, I1, q1⟩ => ?_)
  cases c with
  | true => exact ⟨H1, I1, q1⟩
  | false => exact hb wh pins s1 σ H1 Q I1 q1
theorem pt_not (ha : PT X a tA) : PT X (.UnaryOp .Not a pos) (tNot tA) := by
  intro pins s σ H Q I h
  exact isTrue_not (ha pins s σ H (fun c H1 => Q (!c) H1) I h)
def tAndV (ta tb : TE) : TE := fun σ H Q => ta σ H fun x H1 => ∃ c, x = .bl c ∧ if c = true then tb σ H1 Q else Q (.bl false) H1
def tOrV (ta tb : TE) : TE := fun σ H Q => ta σ H fun x H1 => ∃ c, x = .bl c ∧ if c = true then Q (.bl true) H1 else tb σ H1 Q
def tNotV (ta : TE) : TE := fun σ H Q => ta σ H fun x H1 => ∃ c, x = .bl c ∧ Q (.bl (!c)) H1
theorem pe_one {op} {t : TE} (h : PE X a t) : PE X (.BoolOp op [a] pos) t := fun pins s σ H Q I hw => BoolOp_one (h pins s σ H Q I hw)
theorem pe_and (ha : PE X a ta) (hb : PE X (.BoolOp .And (b :: rest) pos) tb) : PE X (.BoolOp .And (a :: b :: rest) pos) (tAndV ta tb) := by
  intro pins s σ H Q I h
  refine BoolOp_and (thn (ha pins s σ H _ I h) fun v s1 ⟨x, H1, I1, r1, q1⟩ => ?_)
  obtain ⟨c, rfl, q1⟩ := q1
  cases r1
  refine wpAny_truthy_bool ?_
  cases c with
  | true => exact hb pins s1 σ H1 Q I1 q1
  | false => exact ⟨.bl false, H1, I1, rfl, q1⟩
theorem pe_or (ha : PE X a ta) (hb : PE X (.BoolOp .Or (b :: rest) pos) tb) : PE X (.BoolOp .Or (a :: b :: rest) pos) (tOrV ta tb) := by
  intro pins s σ H Q I h
  refine BoolOp_or (thn (ha pins s σ H _ I h) fun v s1 ⟨x, H1, I1, r1, q1⟩ => ?_)
  obtain ⟨c, rfl, q1⟩ := q1
  cases r1
  refine wpAny_truthy_bool ?_
  cases c with
  | false => exact hb pins s1 σ H1 Q I1 q1
  | true => exact ⟨.bl true, H1, I1, rfl, q1⟩
def tIf (t : TT) (ta tb : TE) : TE := fun σ H Q => t σ H fun c H1 => if c = true then ta σ H1 Q else tb σ H1 Q
end
end L2
namespace L2
open PySem PySem.Spec PyProof.Rows
def SqL (K : PySem.W.Frag) (H : Hp) (a : Addr) (xs : List V) : Prop :=
  Rd H a (.lst xs) ∨
    ∃ (o : Obj) (its : Array Value) (n : Nat), K.lookup a = some o ∧ o.cls = .type "list" ∧ o.dict = none ∧ o.data = .seq its n ∧ its.size ≤ sizeLine ∧ Vals xs its.toList
def SqT (K : PySem.W.Frag) (H : Hp) (a : Addr) (xs : List V) : Prop :=
  Rd H a (.tup xs) ∨
    ∃ (o : Obj) (its : Array Value) (n : Nat), K.lookup a = some o ∧ o.cls = .type "tuple" ∧ o.data = .seq its n ∧ its.size ≤ sizeLine ∧ Vals xs its.toList
def absV : Value → Option V
  | .none => some .non
  | .bool b => some (.bl b)
  | .int i _ => some (.int i)
  | .str x _ => some (.str x)
  | .bytes b _ => some (.byt b)
  | .float b _ => some (.flt b)
  | .ref a => some (.ref a)
  | .type n => some (.ty n)
  | _ => none
theorem RelV.abs {x : V} {u : Value} (r : RelV x u) : absV u = some x := by
  cases x with
  | non => cases r; rfl
  | bl _ => cases r; rfl
  | int _ => obtain ⟨t, rfl⟩ := r; rfl
  | str _ => obtain ⟨t, rfl⟩ := r; rfl
  | byt _ => obtain ⟨t, rfl⟩ := r; rfl
  | flt _ => obtain ⟨t, rfl⟩ := r; rfl
  | ref _ => cases r; rfl
  | ty _ => cases r; rfl
theorem RelV.inj {x y : V} {u : Value} (r : RelV x u) (q : RelV y u) : x = y := Option.some.inj (r.abs.symm.trans q.abs)
theorem Vals.inj : ∀ {xs ys : List V} {us : List Value}, Vals xs us → Vals ys us → xs = ys
  | _, _, _, .nil, .nil => rfl
  | _, _, _, .cons r t, .cons r' t' => by rw [r.inj r', Vals.inj t t']
section
variable {X : Cx} {pins : List (Addr × Obj)} {σ : St} {H : Hp} {s : Shared} {a : Addr} {xs ys : List V}
theorem SqL.of {K : PySem.W.Frag} (h : H a = some (.lst xs)) : SqL K H a xs := .inl (.inl h)
theorem SqT.of {K : PySem.W.Frag} (h : H a = some (.tup xs)) : SqT K H a xs := .inl (.inl h)
theorem Inv.list (I : Inv X pins σ H s) (h : SqL X.K H a xs) : ∃ its : List Value, Vals xs its ∧ PlainL s.heap a its.toArray ∧ xs.length ≤ sizeLine := by
  rcases h with h | ⟨o, its, n, hk, hc, hd, hs, hz, r⟩
  · obtain ⟨z, its, n, r, e⟩ := h.ok I.hok
    exact ⟨its, r, ⟨_, n, e, rfl, rfl, rfl⟩, z⟩
  · refine ⟨its.toList, r, ⟨o, n, I.kIn a o hk, hc, hd, by simpa using hs⟩, ?_⟩
    have e := r.length
    simp only [Array.length_toList] at e
    omega
theorem Inv.tuple (I : Inv X pins σ H s) (h : SqT X.K H a xs) : ∃ its : List Value, Vals xs its ∧ IsTup s.heap a its.toArray ∧ xs.length ≤ sizeLine := by
  rcases h with h | ⟨o, its, n, hk, hc, hs, hz, r⟩
  · obtain ⟨z, its, r, p⟩ := h.ok I.hok
    exact ⟨its, r, p, z⟩
  · refine ⟨its.toList, r, ⟨o, I.kIn a o hk, hc, n, by simpa using hs⟩, ?_⟩
    have e := r.length
    simp only [Array.length_toList] at e
    omega
theorem Inv.list_inj (I : Inv X pins σ H s) (h : SqL X.K H a xs) (h' : SqL X.K H a ys) : xs = ys := by
  obtain ⟨its, r, ⟨o, n, e, _, _, d⟩, _⟩ := I.list h
  obtain ⟨its', r', ⟨o', n', e', _, _, d'⟩, _⟩ := I.list h'
  rw [e] at e'; cases e'
  rw [d] at d'
  injection d' with d1 _
  have : its = its' := by simpa using congrArg Array.toList d1
  subst this
  exact r.inj r'
end
abbrev Cx.wish (X : Cx) (E : Value → Shared → Prop) : Cx := { X with xe := E }
abbrev Cx.nox (X : Cx) : Cx := X.wish fun _ _ => False
theorem Cx.Ok.wish {X : Cx} (ok : X.Ok) (E : Value → Shared → Prop) : (X.wish E).Ok :=
  ⟨ok.mod, ok.kind, ok.glob, ok.blt, ok.above, ok.inj, ok.has, ok.cab, ok.hd, ok.frames, ok.stk, ok.exf, ok.bs, ok.bsz, ok.noex, ok.exfs, ok.funs, ok.frf⟩
theorem Cx.Ok.unwish {X : Cx} {E : Value → Shared → Prop} (ok : (X.wish E).Ok) : X.Ok :=
  ⟨ok.mod, ok.kind, ok.glob, ok.blt, ok.above, ok.inj, ok.has, ok.cab, ok.hd, ok.frames, ok.stk, ok.exf, ok.bs, ok.bsz, ok.noex, ok.exfs, ok.funs, ok.frf⟩
section
variable {X : Cx} {pins : List (Addr × Obj)} {σ : St} {H : Hp} {s : Shared} {E : Value → Shared → Prop}
theorem Inv.wish (I : Inv X pins σ H s) (E : Value → Shared → Prop) : Inv (X.wish E) pins σ H s := ⟨I.ok.wish E, I.os, I.bare, I.base, I.loc, I.cell, I.free, I.freeC, I.pin, I.hok, I.len⟩
theorem Inv.unwish (I : Inv (X.wish E) pins σ H s) : Inv X pins σ H s := ⟨I.ok.unwish, I.os, I.bare, I.base, I.loc, I.cell, I.free, I.freeC, I.pin, I.hok, I.len⟩
theorem SP.unwish {D : Ends} {f : Flow} {s' : Shared} (h : SP (X.wish E) pins D f s') : SP X pins D f s' := by
  cases f with
  | next => obtain ⟨σ', H', I, q⟩ := h; exact ⟨σ', H', I.unwish, q⟩
  | brk => obtain ⟨σ', H', I, q⟩ := h; exact ⟨σ', H', I.unwish, q⟩
  | cont => obtain ⟨σ', H', I, q⟩ := h; exact ⟨σ', H', I.unwish, q⟩
  | ret u => obtain ⟨v, σ', H', I, r, q⟩ := h; exact ⟨v, σ', H', I.unwish, r, q⟩
theorem PE.nox {e : Expr} {t : TE} (h : PE X.nox e t) : PE X e t := fun pins s σ H Q I hw =>
  wpAny_mono (h pins s σ H Q (I.wish _) hw) (fun _ _ ⟨v, H', I', r, q⟩ => ⟨v, H', I'.unwish, r, q⟩) fun _ _ z => False.elim z
theorem PT.nox {e : Expr} {t : TT} (h : PT X.nox e t) : PT X e t := fun pins s σ H Q I hw =>
  wpAny_mono (h pins s σ H Q (I.wish _) hw) (fun _ _ ⟨H', I', q⟩ => ⟨H', I'.unwish, q⟩) fun _ _ z => False.elim z
theorem PSs.nox {st : List Stmt} {t : TS} (h : PSs X.nox st t) : PSs X st t := fun pins s σ H D I hw =>
  wpAny_mono (h pins s σ H D (I.wish _) hw) (fun _ _ q => q.unwish) fun _ _ z => False.elim z
end
section
variable {X : Cx} {st : Stmt} {rest : List Stmt} {t u : TS} {e : Expr} {te : TE} {pos : Pos}
def tNext : TS := fun D σ H => D.nx σ H
def tSeq (t u : TS) : TS := fun D σ H => t { D with nx := u D } σ H
theorem pss_nil : PSs X [] tNext := fun _ _ σ H _ I h => wpAny_execs_nil ⟨σ, H, I, h⟩
theorem pss_cons (h1 : PS X st t) (h2 : PSs X rest u) : PSs X (st :: rest) (tSeq t u) := by
  intro pins s σ H D I h
  refine wpAny_execs_cons (thn (h1 pins s σ H { D with nx := u D } I h) fun f s1 q => ?_)
  cases f with
  | next =>
    obtain ⟨σ', H', I', q⟩ := q
    exact h2 pins s1 σ' H' D I' q
  | ret v => exact q
  | brk => exact q
  | cont => exact q
theorem pss_one (h1 : PS X st t) : PSs X [st] t := by
  intro pins s σ H D I h
  refine wpAny_execs_cons (thn (h1 pins s σ H D I h) fun f s1 q => ?_)
  cases f with
  | next => exact wpAny_execs_nil q
  | ret v => exact q
  | brk => exact q
  | cont => exact q
def tBreak : TS := fun D σ H => D.bk σ H
def tCont : TS := fun D σ H => D.ct σ H
theorem Inv.quiet {pins : List (Addr × Obj)} {σ : St} {H : Hp} {s : Shared} (I : Inv X pins σ H s) : interactive X.env = false := by simp [interactive, I.ok.kind]
def tDrop (te : TE) : TS := fun D σ H => te σ H fun _ H1 => D.nx σ H1
theorem ps_expr (he : PE X e te) (hs : swapsWith e none pos.line X.env = pure false := by rfl) : PS X (.Expr e pos) (tDrop te) := by
  intro pins s σ H D I h
  exact wpAny_Expr_any (thn (he pins s σ H _ I h) fun v s1 ⟨x, H1, I1, r1, q1⟩ => ⟨σ, H1, I1, q1⟩) I.quiet hs
def tRet (te : TE) : TS := fun D σ H => te σ H D.rt
theorem ps_ret (he : PE X e te) : PS X (.Return (some e) pos) (tRet te) := by
  intro pins s σ H D I h
  exact wpAny_Return_some (thn (he pins s σ H _ I h) fun v s1 ⟨x, H1, I1, r1, q1⟩ => ⟨x, σ, H1, I1, r1, q1⟩)
def tRetN : TS := fun D _ H => D.rt .non H
def tIfS (c : TT) (t u : TS) : TS := fun D σ H => c σ H fun b H1 => if b = true then t D σ H1 else u D σ H1
theorem ps_if {c : Expr} {a b : List Stmt} {tc : TT} (hc : PT X c tc) (ha : PSs X a t) (hb : PSs X b u) : PS X (.If c a b pos) (tIfS tc t u) := by
  intro pins s σ H D I h
  refine wpAny_If (thn (hc pins s σ H _ I h) fun d s1 ⟨H1, I1, q1⟩ => ?_)
  cases d with
  | true => exact ha pins s1 σ H1 D I1 q1
  | false => exact hb pins s1 σ H1 D I1 q1
def tNever : TS := fun _ _ _ => False
end
abbrev TG := V → St → Hp → (St → Hp → Prop) → Prop
abbrev TGs := List V → St → Hp → (St → Hp → Prop) → Prop
def PG (X : Cx) (target : Expr) (t : TG) : Prop :=
  ∀ (pins : List (Addr × Obj)) (s : Shared) (σ : St) (H : Hp) (v : V) (u : Value) (Q : St → Hp → Prop), Inv X pins σ H s → RelV v u → t v σ H Q →
    wpAny (model X.prog X.w) X.A (assign target X.env u) (fun _ s' => ∃ σ' H', Inv X pins σ' H' s' ∧ Q σ' H') X.xe s
def PGs (X : Cx) (ts : List Expr) (t : TGs) : Prop :=
  ∀ (pins : List (Addr × Obj)) (s : Shared) (σ : St) (H : Hp) (vs : List V) (us : List Value) (Q : St → Hp → Prop), Inv X pins σ H s → Vals vs us → t vs σ H Q →
    wpAny (model X.prog X.w) X.A (assignInOrder ((assignEach ts X.env).map (·.2)) us) (fun _ s' => ∃ σ' H', Inv X pins σ' H' s' ∧ Q σ' H') X.xe s
abbrev TSet := V → V → V → Hp → (Hp → Prop) → Prop
def PSet (X : Cx) (t : TSet) : Prop :=
  ∀ (pins : List (Addr × Obj)) (s : Shared) (σ : St) (H : Hp) (o i v : V) (ov iv u : Value) (Q : Hp → Prop), Inv X pins σ H s → RelV o ov → RelV i iv → RelV v u → t o i v H Q →
    wpAny (model X.prog X.w) X.A (setItem ov iv u) (fun _ s' => ∃ H', Inv X pins σ H' s' ∧ Q H') X.xe s
abbrev TIp := V → V → Hp → VK → Prop
def PIp (X : Cx) (op : Operator) (t : TIp) : Prop :=
  ∀ (pins : List (Addr × Obj)) (s : Shared) (σ : St) (H : Hp) (x y : V) (v u : Value) (Q : VK), Inv X pins σ H s → RelV x v → RelV y u → t x y H Q →
    wpAny (model X.prog X.w) X.A (inplaceOp op v u) (EP X pins σ Q) X.xe s
section
variable {X : Cx} {pos : Pos}
def gName (i : Nat) : TG := fun v σ H Q => Q (σ.set i (some v)) H
theorem pg_name {i : Nat} {x : Str} (hN : X.N.Nodup) (hi : X.N[i]? = some x) (hx : Loc X.env.scope x) (hf : X.fn x = true ∨ X.env.scope.names.lookup x = some .local := by first | exact .inl rfl | exact .inr rfl | assumption) : PG X (.Name x pos) (gName i) := by
  intro pins s σ H v u Q I r h
  exact wpAny_assign_Name (store_ok I hN hi hx r (fun s' I' => ⟨_, H, I', h⟩) hf)
def gNil : TGs := fun vs σ H Q => vs = [] ∧ Q σ H
def gCons (t : TG) (u : TGs) : TGs := fun vs σ H Q => ∃ v r, vs = v :: r ∧ t v σ H fun σ' H' => u r σ' H' Q
def gTup (K : PySem.W.Frag) (n : Nat) (t : TGs) : TG := fun v σ H Q => ∃ a xs, v = .ref a ∧ SqT K H a xs ∧ xs.length = n ∧ t xs σ H Q
def gSub (to ti : TE) (t : TSet) : TG := fun v σ H Q => to σ H fun o H1 => ti σ H1 fun i H2 => t o i v H2 fun H3 => Q σ H3
def tAsg (te : TE) (g : TG) : TS := fun D σ H => te σ H fun x H1 => g x σ H1 D.nx
theorem ps_set {i : Nat} {x : Str} {e : Expr} {te : TE} {pos' : Pos} (hN : X.N.Nodup) (hi : X.N[i]? = some x) (hx : Loc X.env.scope x) (he : PE X e te) (hs : swapsWith e (some (.Name x pos')) pos.line X.env = pure false := by rfl) (hf : X.fn x = true ∨ X.env.scope.names.lookup x = some .local := by first | exact .inl rfl | exact .inr rfl | assumption) :
    PS X (.Assign [.Name x pos'] e pos) (tAsg te (gName i)) := by
  intro pins s σ H D I h
  refine wpAny_Assign_Name (thn (he pins s σ H _ I h) fun v s1 ⟨y, H1, I1, r1, q1⟩ => ?_) hs
  exact store_ok I1 hN hi hx r1 (fun s2 I2 => ⟨_, H1, I2, q1⟩) hf
def tPar (i j : Nat) (ta : TA) : TS := fun D σ H => ta σ H fun vs H1 => ∃ v w, vs = [v, w] ∧ D.nx ((σ.set i (some v)).set j (some w)) H1
def tAug (i : Nat) (te : TE) (ti : TIp) : TS := fun D σ H => ∃ x, σ[i]? = some (some x) ∧ te σ H fun y H1 => ti x y H1 fun z H2 => D.nx (σ.set i (some z)) H2
theorem ps_aug {i : Nat} {x : Str} {e : Expr} {te : TE} {op : Operator} {ti : TIp} {pos' : Pos} (hN : X.N.Nodup) (hi : X.N[i]? = some x) (hx : Loc X.env.scope x) (he : PE X e te) (ho : PIp X op ti) (hf : X.fn x = true ∨ X.env.scope.names.lookup x = some .local := by first | exact .inl rfl | exact .inr rfl | assumption) :
    PS X (.AugAssign (.Name x pos') op e pos) (tAug i te ti) := by
  intro pins s σ H D I h
  obtain ⟨v, e1, h⟩ := h
  obtain ⟨m, hn, hl⟩ := I.loc
  have vis : Vis X.env.scope x := by rcases hx with k | k; exact .inl k; exact .inr (.inl k)
  obtain ⟨u, r, l⟩ := hl i x v hi e1 vis
  refine wpAny_AugAssign_Name ?_
  have go : wpAny (model X.prog X.w) X.A (eval e X.env) (fun w s₂ => wpAny (model X.prog X.w) X.A (inplaceOp op u w) (fun r s₃ => wpAny (model X.prog X.w) X.A (storeName X.env x r) (fun _ => SP X pins D .next) X.xe s₃) X.xe s₂) X.xe s := by
    refine thn (he pins s σ H _ I h) fun w s1 ⟨y, H1, I1, r1, q1⟩ => ?_
    refine thn (ho pins s1 σ H1 v y u w _ I1 r r1 q1) fun z s2 ⟨zv, H2, I2, r2, q2⟩ => ?_
    exact store_ok I2 hN hi hx r2 (fun s3 I3 => ⟨_, H2, I3, q2⟩) hf
  rcases l with ⟨hk, hm⟩ | ⟨hk, c, hc, hcell⟩
  · exact wpAny_loadName_local I.ok.kind hk hn hm go
  · rcases hk with hk | hk
    · exact wpAny_loadName_cell I.ok.kind hk hc hcell go
    · rcases hx with k | k
      · have : X.env.scope.names.lookup x = some .free := hk
        rw [k] at this; cases this
      · have : X.env.scope.names.lookup x = some .free := hk
        rw [k] at this; cases this
def tAugS (to ti te : TE) (tget : V → V → Hp → VK → Prop) (tip : TIp) (tset : TSet) : TS := fun D σ H => to σ H fun o H1 => ti σ H1 fun i H2 => tget o i H2 fun x H3 => te σ H3 fun y H4 => tip x y H4 fun z H5 => tset o i z H5 fun H6 => D.nx σ H6
def PGet (X : Cx) (t : V → V → Hp → VK → Prop) : Prop :=
  ∀ (pins : List (Addr × Obj)) (s : Shared) (σ : St) (H : Hp) (o i : V) (ov iv : Value) (Q : VK), Inv X pins σ H s → RelV o ov → RelV i iv → t o i H Q →
    wpAny (model X.prog X.w) X.A (getItem ov iv) (EP X pins σ Q) X.xe s
def ipI (f : Int → Int → Int) : TIp := fun x y H Q => ∃ i j, x = .int i ∧ y = .int j ∧ Q (.int (f i j)) H
theorem ip_add : PIp X .Add (ipI fun i j => i + j) := by
  intro pins s σ H x y v u Q I r1 r2 h
  obtain ⟨i, j, e1, e2, q⟩ := h
  subst e1; subst e2
  obtain ⟨t, rfl⟩ := r1
  obtain ⟨t', rfl⟩ := r2
  exact iadd_int ⟨.int _, H, I.tok _, ⟨_, rfl⟩, q⟩
end
section
variable {X : Cx} {pos : Pos}
def tWhile (c : TT) (tb : TS) : TS := fun D σ H => ∃ W : Nat → St → Hp → Prop, (∃ m, W m σ H) ∧ ∀ m σ H, W m σ H →
  c σ H fun b H1 => if b = true then ∃ N : St → Hp → Prop, (∀ σ' H', N σ' H' → ∃ m', m' < m ∧ W m' σ' H') ∧ tb { D with nx := N, ct := N, bk := D.nx } σ H1 else D.nx σ H1
theorem ps_while {c : Expr} {body : List Stmt} {tc : TT} {tb : TS} (hp : PassesOwn (model X.prog X.w) X.A X.env X.xe) (hc : PT X c tc) (hb : PSs X body tb) : PS X (.While c body [] pos) (tWhile tc tb) := by
  intro pins s σ H D I h
  obtain ⟨W, ⟨m0, w0⟩, turn⟩ := h
  refine wpAny_While (codeAny_whileLoop (fun n s' => ∃ σ' H', Inv X pins σ' H' s' ∧ W n σ' H') ?_ m0 ⟨σ, H, I, w0⟩)
  rintro n s1 ⟨σ1, H1, I1, w1⟩
  refine wpAny_passesOwn hp (thn (hc pins s1 σ1 H1 _ I1 (turn n σ1 H1 w1)) fun b s2 ⟨H2, I2, q2⟩ => ?_)
  cases b with
  | true =>
    obtain ⟨N, hN, q2⟩ := q2
    rw [if_pos rfl]
    refine wpAny_passesOwn hp (thn (hb pins s2 σ1 H2 _ I2 q2) fun f s3 q3 => ?_)
    cases f with
    | next =>
      obtain ⟨σ3, H3, I3, n3⟩ := q3
      obtain ⟨m', hm, w3⟩ := hN σ3 H3 n3
      exact ⟨m', hm, σ3, H3, I3, w3⟩
    | cont =>
      obtain ⟨σ3, H3, I3, n3⟩ := q3
      obtain ⟨m', hm, w3⟩ := hN σ3 H3 n3
      exact ⟨m', hm, σ3, H3, I3, w3⟩
    | brk => exact q3
    | ret v => exact q3
  | false =>
    rw [if_neg Bool.false_ne_true]
    exact wpAny_execs_nil ⟨σ1, H2, I2, q2⟩
end
structure It where
  go : Nat → Hp → Prop
  yld : Nat → Hp → V → Hp → Prop
  stop : Nat → Hp → Prop
def FpOk (X : Cx) (pins : List (Addr × Obj)) (H : Hp) (b : Addr) : Prop :=
  H b = none ∧ b ≠ X.env.locals ∧ b ∉ X.fs ∧ (b ∈ X.ex ∨ X.s_0.heap.objs.size ≤ b) ∧ (∀ x c, X.env.cells.lookup x = some c → c ≠ b) ∧ ∀ p ∈ X.pn ++ pins, p.1 ≠ b
theorem Inv.fpOk {X : Cx} {pins : List (Addr × Obj)} {σ : St} {H H' : Hp} {s : Shared} {b : Addr} (I : Inv X pins σ H s) (hb : s.heap.objs.size ≤ b) (hn : H' b = none) : FpOk X pins H' b := by
  refine ⟨hn, Nat.ne_of_gt (Nat.lt_of_lt_of_le I.lt hb), I.nofs hb, .inr (Nat.le_trans I.sz hb), fun x c e z => ?_, fun p hp z => ?_⟩
  · obtain ⟨v, q⟩ := I.cell x c e
    exact absurd (Nat.lt_of_lt_of_le q.lt (by rw [z]; exact hb)) (Nat.lt_irrefl _)
  · exact absurd (Nat.lt_of_lt_of_le (Heap.lt_size (I.pin p hp).1) (by rw [z]; exact hb)) (Nat.lt_irrefl _)
structure Turn (P : Program) (w : World) (K : PySem.W.Frag) (tg : Expr) (J : It) (fp : List Addr) (it : Addr) (tn : Nat → Heap → Prop) : Prop where
  mem : it ∈ fp
  obj : ∀ i h, tn i h → ∀ b ∈ fp, ∃ o, h.get? b = some o ∧ ∀ v, o.data ≠ .cell v
  keep : ∀ i h h', tn i h → (∀ b ∈ fp, ∀ o, h.get? b = some o → h'.get? b = some o) → tn i h'
  item : ∀ (X : Cx), X.prog = P → X.w = w → X.K = K → X.calm = true → ∀ (i : Nat) (pins : List (Addr × Obj)) (s : Shared) (σ : St) (H : Hp) (E : Value → Shared → Prop), Inv X pins σ H s → (∀ b ∈ fp, FpOk X pins H b) → tn i s.heap → J.go i H →
    wpAny (model P w) X.A (pyNext (.ref it)) (fun r s1 => ∃ u, r = some u ∧
      wpAny (model P w) X.A (letOwnedTupleGo tg (.ref it) u) (fun _ s2 => ∃ x H', Inv X pins σ H' s2 ∧ RelV x u ∧ J.yld i H x H' ∧ tn (i + 1) s2.heap ∧ ∀ b ∈ fp, H' b = none) E s1) E s
  done : ∀ (X : Cx), X.prog = P → X.w = w → X.K = K → X.calm = true → ∀ (i : Nat) (pins : List (Addr × Obj)) (s : Shared) (σ : St) (H : Hp) (E : Value → Shared → Prop), Inv X pins σ H s → (∀ b ∈ fp, FpOk X pins H b) → tn i s.heap → J.stop i H →
    wpAny (model P w) X.A (pyNext (.ref it)) (fun r s1 => r = none ∧ Inv X pins σ H s1) E s
  self : ∀ (A : Around) (i : Nat) (s : Shared) (Q : Value → Shared → Prop) (E : Value → Shared → Prop), tn i s.heap → Q (.ref it) s → wpAny (model P w) A (pyIter (.ref it)) Q E s
abbrev TI := St → Hp → (It → Hp → Prop) → Prop
def PIE (X : Cx) (pins : List (Addr × Obj)) (σ : St) (tg : Expr) (R : It → Hp → Prop) (itv : Value) (s2 : Shared) : Prop :=
  ∃ (it : Addr) (fp : List Addr) (tn : Nat → Heap → Prop) (J : It) (H' : Hp), itv = .ref it ∧ Inv X pins σ H' s2 ∧ Turn X.prog X.w X.K tg J fp it tn ∧ tn 0 s2.heap ∧ (∀ b ∈ fp, FpOk X pins H' b) ∧ R J H'
def PI (X : Cx) (tg iter : Expr) (wi : TI) : Prop :=
  ∀ (pins : List (Addr × Obj)) (s : Shared) (σ : St) (H : Hp) (R : It → Hp → Prop), Inv X pins σ H s → wi σ H R →
    wpAny (model X.prog X.w) X.A (eval iter X.env) (fun v s1 => wpAny (model X.prog X.w) X.A (pyIter v) (PIE X pins σ tg R) X.xe s1) X.xe s
theorem go_of {M : Model} {A : Around} {E : Value → Shared → Prop} {s : Shared} {tg : Expr} {it : Addr} {u : Value} {o : Obj} {n : String} {vs : Array Value} {Q : Unit → Shared → Prop} (ho : s.heap.get? it = some o) (hc : o.cls = .type n) (hd : o.data = .fields vs)
    (hn : ["enumerate", "zip", "dict_itemiterator", "dict_reverseitemiterator", "odict_iterator", "itertools.zip_longest", "itertools.pairwise"].contains n = false) (hQ : Q () s) : wpAny M A (letOwnedTupleGo tg (.ref it) u) Q E s := by
  unfold letOwnedTupleGo
  cases tg <;> first
    | exact wpAny_pure hQ
    | (cases u <;> first
        | exact wpAny_pure hQ
        | (refine wpAny_bind (wpAny_load ho ?_)
           rw [hc, hd]
           show wpAny M A (if (["enumerate", "zip", "dict_itemiterator", "dict_reverseitemiterator", "odict_iterator", "itertools.zip_longest", "itertools.pairwise"].contains n && vs[0]? == some (rawInt _)) = true then _ else _) Q E s
           rw [if_neg (by intro h; rw [hn, Bool.false_and] at h; cases h)]
           exact wpAny_pure hQ))
def Itl (K : PySem.W.Frag) (a : Addr) : It :=
  ⟨fun i H => ∃ xs x, SqL K H a xs ∧ xs[i]? = some x, fun i H x H' => H' = H ∧ ∀ xs, SqL K H a xs → xs[i]? = some x, fun i H => ∃ xs, SqL K H a xs ∧ xs.length ≤ i⟩
def Itt (K : PySem.W.Frag) (a : Addr) : It :=
  ⟨fun i H => ∃ xs x, SqT K H a xs ∧ xs[i]? = some x, fun i H x H' => H' = H ∧ ∀ xs, SqT K H a xs → xs[i]? = some x, fun i H => ∃ xs, SqT K H a xs ∧ xs.length ≤ i⟩
def Itr (lo : Int) (n : Nat) : It := ⟨fun i _ => i < n, fun i H x H' => H' = H ∧ x = .int (lo + i), fun i _ => n ≤ i⟩
theorem turn_list {P : Program} {w : World} {K : PySem.W.Frag} {tg : Expr} (a it : Addr) : Turn P w K tg (Itl K a) [it] it (fun i h => h.IsListIter it a i) where
  mem := by simp
  obj := fun i h st b hb => by
    have e : b = it := by simpa using hb
    subst e
    obtain ⟨o, e, c, d⟩ := st
    exact ⟨o, e, fun v z => by rw [d] at z; cases z⟩
  keep := fun i h h' st k => st.at fun o e => k it (by simp) o e
  item := by
    intro X hP hw hK hc i pins s σ H E I hf st hg
    subst hP hw hK
    obtain ⟨xs, x, hq, hx⟩ := hg
    obtain ⟨its, rv, p, hz⟩ := I.list hq
    obtain ⟨u, hu, ru⟩ := rv.get hx
    obtain ⟨f0, f1, f2, f3, f4, f5⟩ := hf it (by simp)
    refine wpAny_pyNext_list_item st p.isList (x := u) (by simpa using hu) fun h' st' sb => ?_
    have I1 : Inv X pins σ H { s with heap := h' } := I.turned (t' := s.toks) (fun b o hb e => (sb.2 b hb).trans e) f0 f1 f3 f4 f5
    obtain ⟨o, e, c, d⟩ := id st'
    exact ⟨u, rfl, go_of (s := { s with heap := h' }) e c d (by decide) ⟨x, H, I1, ru, ⟨rfl, fun ys hy => by rw [I.list_inj hy hq]; exact hx⟩, st', fun b hb => (hf b hb).1⟩⟩
  done := by
    intro X hP hw hK hc i pins s σ H E I hf st hg
    subst hP hw hK
    obtain ⟨xs, hq, hx⟩ := hg
    obtain ⟨its, rv, p, hz⟩ := I.list hq
    obtain ⟨f0, f1, f2, f3, f4, f5⟩ := hf it (by simp)
    have hl := rv.length
    exact wpAny_pyNext_list_end (I.ok.hd hc) st p.isList (by simp; omega) fun h' eb => ⟨rfl, I.turned (t' := s.toks) (fun b o hb e => eb b o hb e) f0 f1 f3 f4 f5⟩
  self := fun _ _ _ _ _ st h => wpAny_pyIter_listiter st h
end L2
namespace L2
open PySem PySem.Spec PyProof.Rows
section
variable {X : Cx} {tg : Expr}
def iList (K : PySem.W.Frag) (tl : TE) : TI := fun σ H R => tl σ H fun x H1 => ∃ a, x = .ref a ∧ (∃ xs, SqL K H1 a xs) ∧ R (Itl K a) H1
def iTup (K : PySem.W.Frag) (tl : TE) : TI := fun σ H R => tl σ H fun x H1 => ∃ a, x = .ref a ∧ (∃ xs, SqT K H1 a xs) ∧ R (Itt K a) H1
theorem pi_list {l : Expr} {tl : TE} (hl : PE X l tl) : PI X tg l (iList X.K tl) := by
  intro pins s σ H R I h
  refine thn (hl pins s σ H _ I h) fun v s1 ⟨x, H1, I1, r1, q1⟩ => ?_
  obtain ⟨a, e, ⟨xs, hq⟩, q⟩ := q1
  subst e
  cases r1
  obtain ⟨its, rv, p, hz⟩ := I1.list hq
  refine wpAny_pyIter_list p.isList ?_
  refine ⟨s1.heap.objs.size, [s1.heap.objs.size], _, _, H1, rfl, I1.kept (t' := s1.toks) fun b o e => Heap.get?_push_of_some _ e, turn_list a _, ⟨_, Heap.get?_push_size _ rfl, rfl, rfl⟩, fun b hb => ?_, q⟩
  have e : b = s1.heap.objs.size := by simpa using hb
  subst e
  exact I1.fpOk (Nat.le_refl _) (I1.hok.fresh (Nat.le_refl _))
def iRng1 (ta : TA) : TI := fun σ H R => ta σ H fun vs H1 => ∃ j : Int, vs = [.int j] ∧ -(2 ^ 62) ≤ j ∧ j < 2 ^ 62 ∧ R (Itr 0 j.toNat) H1
def iRng2 (ta : TA) : TI := fun σ H R => ta σ H fun vs H1 => ∃ i j : Int, vs = [.int i, .int j] ∧ (-(2 ^ 62) ≤ i ∧ i < 2 ^ 62 ∧ -(2 ^ 62) ≤ j ∧ j < 2 ^ 62) ∧ R (Itr i (j - i).toNat) H1
def tFor (wi : TI) (g : TG) (tb : TS) : TS := fun D σ H => wi σ H fun J H1 => ∃ W : Nat → Nat → St → Hp → Prop, (∃ m, W 0 m σ H1) ∧ ∀ i m σ H, W i m σ H →
  (J.stop i H ∧ D.nx σ H) ∨ (J.go i H ∧ ∃ N : St → Hp → Prop, (∀ σ' H', N σ' H' → ∃ m', m' < m ∧ W (i + 1) m' σ' H') ∧ ∀ x H', J.yld i H x H' → g x σ H' fun σ2 H2 => tb { D with nx := N, ct := N, bk := D.nx } σ2 H2)
def pinsAt (fp : List Addr) (h : Heap) : List (Addr × Obj) := fp.filterMap fun b => (h.get? b).map fun o => (b, o)
theorem mem_pinsAt {fp : List Addr} {h : Heap} {b : Addr} {o : Obj} (hb : b ∈ fp) (e : h.get? b = some o) : (b, o) ∈ pinsAt fp h := List.mem_filterMap.mpr ⟨b, hb, by rw [e]; rfl⟩
theorem of_pinsAt {fp : List Addr} {h : Heap} {p : Addr × Obj} (hp : p ∈ pinsAt fp h) : p.1 ∈ fp ∧ h.get? p.1 = some p.2 := by
  obtain ⟨b, hb, e⟩ := List.mem_filterMap.mp hp
  cases q : h.get? b with
  | none => rw [q] at e; cases e
  | some o =>
    rw [q] at e
    have e' : (b, o) = p := Option.some.inj e
    subst e'
    exact ⟨hb, q⟩
theorem Inv.pinned {pins : List (Addr × Obj)} {σ : St} {H : Hp} {s : Shared} {fp : List Addr} (I : Inv X pins σ H s) (hf : ∀ b ∈ fp, FpOk X pins H b) (ho : ∀ b ∈ fp, ∃ o, s.heap.get? b = some o ∧ ∀ v, o.data ≠ .cell v) : Inv X (pins ++ pinsAt fp s.heap) σ H s :=
  I.pins_of fun p hp => (List.mem_append.mp hp).elim (fun z => I.pin p (List.mem_append_right _ z)) fun z => by
    obtain ⟨hb, e⟩ := of_pinsAt z
    obtain ⟨f0, f1, f2, _⟩ := hf p.1 hb
    obtain ⟨o, e', d⟩ := ho p.1 hb
    rw [e] at e'; cases e'
    exact ⟨e, f0, f1, f2, d⟩
theorem Inv.unpinned {pins pl : List (Addr × Obj)} {σ : St} {H : Hp} {s : Shared} (I : Inv X (pins ++ pl) σ H s) : Inv X pins σ H s := I.pins_of fun p hp => I.pin p (List.mem_append_right _ (List.mem_append_left _ hp))
theorem ps_for {iter : Expr} {body : List Stmt} {wi : TI} {g : TG} {tb : TS} {pos : Pos} (hp : PassesOwn (model X.prog X.w) X.A X.env X.xe) (hc : X.calm = true) (hi : PI X tg iter wi) (hg : PG X tg g) (hb : PSs X body tb)
    (hs : ∀ x, foldedSetIterable iter X.env x = pure x := by intro _; rfl) : PS X (.For tg iter body [] pos) (tFor wi g tb) := by
  intro pins s σ H D I h
  refine wpAny_For (thn (hi pins s σ H _ I h) fun v s1 h1 => thn h1 fun itv s2 h2 => ?_) hs
  obtain ⟨it, fp, tn, J, H2, e, I2, T, st2, f2, W, ⟨m0, w0⟩, turn⟩ := h2
  subst e
  -- what stays true of the iterator's objects through the loop
  have stat : ∀ {H' : Hp}, (∀ b ∈ fp, H' b = none) → ∀ b ∈ fp, FpOk X pins H' b := fun hn b hb => ⟨hn b hb, (f2 b hb).2⟩
  refine codeAny_forLoop_any (fun n s' => ∃ i σ' H', Inv X pins σ' H' s' ∧ tn i s'.heap ∧ (∀ b ∈ fp, H' b = none) ∧ W i n σ' H') ?_ m0 ⟨0, σ, H2, I2, st2, fun b hb => (f2 b hb).1, w0⟩
  rintro n s3 ⟨i, σ3, H3, I3, st3, fr3, w3⟩
  rcases turn i n σ3 H3 w3 with ⟨stop, qn⟩ | ⟨go, N, hN, step⟩
  · refine wpAny_passesOwn hp (thn (T.done X rfl rfl rfl hc i pins s3 σ3 H3 X.xe I3 (stat fr3) st3 stop) fun r s4 ⟨hr, I4⟩ => ?_)
    subst hr
    exact wpAny_execs_nil ⟨σ3, H3, I4, qn⟩
  · refine wpAny_passesOwn hp (thn (T.item X rfl rfl rfl hc i pins s3 σ3 H3 X.xe I3 (stat fr3) st3 go) fun r s4 ⟨u, hr, h4⟩ => ?_)
    subst hr
    refine wpAny_passesOwn hp (thn h4 fun _ s5 ⟨x, H5, I5, r5, y5, st5, fr5⟩ => ?_)
    have I5' := I5.pinned (stat fr5) (T.obj _ _ st5)
    refine wpAny_passesOwn hp (thn (hg _ s5 σ3 H5 x u _ I5' r5 (step x H5 y5)) fun _ s6 ⟨σ6, H6, I6, q6⟩ => ?_)
    refine wpAny_passesOwn hp (thn (hb _ s6 σ6 H6 _ I6 q6) fun f s7 q7 => ?_)
    have again : ∀ {σ7 : St} {H7 : Hp}, Inv X (pins ++ pinsAt fp s5.heap) σ7 H7 s7 → N σ7 H7 → ∃ m, m < n ∧ ∃ i σ' H', Inv X pins σ' H' s7 ∧ tn i s7.heap ∧ (∀ b ∈ fp, H' b = none) ∧ W i m σ' H' := fun {σ7 H7} I7 n7 => by
      obtain ⟨m', hm, w7⟩ := hN σ7 H7 n7
      refine ⟨m', hm, i + 1, σ7, H7, I7.unpinned, T.keep _ _ _ st5 fun b hb o e => (I7.pin (b, o) (List.mem_append_right _ (List.mem_append_right _ (mem_pinsAt hb e)))).1, fun b hb => ?_, w7⟩
      obtain ⟨o, e, d⟩ := T.obj _ _ st5 b hb
      exact (I7.pin (b, o) (List.mem_append_right _ (List.mem_append_right _ (mem_pinsAt hb e)))).2.1
    cases f with
    | next => obtain ⟨σ7, H7, I7, n7⟩ := q7; exact again I7 n7
    | cont => obtain ⟨σ7, H7, I7, n7⟩ := q7; exact again I7 n7
    | brk => obtain ⟨σ7, H7, I7, q7⟩ := q7; exact ⟨σ7, H7, I7.unpinned, q7⟩
    | ret v => obtain ⟨x7, σ7, H7, I7, r7, q7⟩ := q7; exact ⟨x7, σ7, H7, I7.unpinned, r7, q7⟩
end
theorem for_list {K : PySem.W.Frag} {a : Addr} {xs : List V} {g : TG} {tb : TS} {D : Ends} {σ : St} {H : Hp} (Pv : Nat → St → Hp → Prop) (h0 : Pv 0 σ H) (hl : ∀ i σ H, i ≤ xs.length → Pv i σ H → SqL K H a xs)
    (hs : ∀ i x σ H, xs[i]? = some x → Pv i σ H → g x σ H fun σ2 H2 => tb { D with nx := Pv (i + 1), ct := Pv (i + 1), bk := D.nx } σ2 H2) (hd : ∀ σ H, Pv xs.length σ H → D.nx σ H) :
    ∃ W : Nat → Nat → St → Hp → Prop, (∃ m, W 0 m σ H) ∧ ∀ i m σ H, W i m σ H →
      ((Itl K a).stop i H ∧ D.nx σ H) ∨ ((Itl K a).go i H ∧ ∃ N : St → Hp → Prop, (∀ σ' H', N σ' H' → ∃ m', m' < m ∧ W (i + 1) m' σ' H') ∧ ∀ x H', (Itl K a).yld i H x H' → g x σ H' fun σ2 H2 => tb { D with nx := N, ct := N, bk := D.nx } σ2 H2) := by
  refine ⟨fun i m σ H => m = xs.length - i ∧ i ≤ xs.length ∧ Pv i σ H, ⟨xs.length, by simp, Nat.zero_le _, h0⟩, ?_⟩
  rintro i m σ H ⟨rfl, hi, p⟩
  have q := hl i σ H hi p
  by_cases hlt : i < xs.length
  · refine .inr ⟨⟨xs, xs[i], q, by simp [hlt]⟩, Pv (i + 1), fun σ' H' p' => ⟨xs.length - (i + 1), by omega, rfl, hlt, p'⟩, fun x H' y => ?_⟩
    obtain ⟨e, y⟩ := y
    subst e
    exact hs i x σ _ (y xs q) p
  · have e : i = xs.length := by omega
    subst e
    exact .inl ⟨⟨xs, q, Nat.le_refl _⟩, hd σ H p⟩
theorem while_by {c : TT} {tb : TS} {D : Ends} {σ : St} {H : Hp} (Pv : St → Hp → Prop) (μ : St → Hp → Nat) (h0 : Pv σ H)
    (hs : ∀ σ H, Pv σ H → c σ H fun b H1 => if b = true then tb { D with nx := fun σ' H' => Pv σ' H' ∧ μ σ' H' < μ σ H, ct := fun σ' H' => Pv σ' H' ∧ μ σ' H' < μ σ H, bk := D.nx } σ H1 else D.nx σ H1)
    (mono : ∀ σ H Q Q', (∀ b H1, Q b H1 → Q' b H1) → c σ H Q → c σ H Q') : tWhile c tb D σ H := by
  refine ⟨fun m σ H => m = μ σ H ∧ Pv σ H, ⟨_, rfl, h0⟩, ?_⟩
  rintro m σ H ⟨rfl, p⟩
  refine mono σ H _ _ (fun b H1 q => ?_) (hs σ H p)
  cases b with
  | true => exact ⟨_, fun σ' H' ⟨p', l⟩ => ⟨_, l, rfl, p'⟩, q⟩
  | false => exact q
end L2
namespace L2
open PySem PySem.Spec PyProof.Rows
abbrev R2 := V → V → Hp → VK → Prop
def OpR (X : Cx) (f : Value → Value → Sem Value) (r : R2) : Prop :=
  ∀ (pins : List (Addr × Obj)) (s : Shared) (σ : St) (H : Hp) (x y : V) (v u : Value) (Q : VK), Inv X pins σ H s → RelV x v → RelV y u → r x y H Q →
    wpAny (model X.prog X.w) X.A (f v u) (EP X pins σ Q) X.xe s
def UnR (X : Cx) (f : Value → Sem Value) (r : V → Hp → VK → Prop) : Prop :=
  ∀ (pins : List (Addr × Obj)) (s : Shared) (σ : St) (H : Hp) (x : V) (v : Value) (Q : VK), Inv X pins σ H s → RelV x v → r x H Q →
    wpAny (model X.prog X.w) X.A (f v) (EP X pins σ Q) X.xe s
def CallR (X : Cx) (f : Value) (r : List V → Hp → VK → Prop) : Prop :=
  ∀ (pins : List (Addr × Obj)) (s : Shared) (σ : St) (H : Hp) (xs : List V) (us : List Value) (Q : VK), Inv X pins σ H s → Vals xs us → r xs H Q →
    wpAny (model X.prog X.w) X.A (call f us) (EP X pins σ Q) X.xe s
def TruR (X : Cx) (r : V → Hp → (Bool → Hp → Prop) → Prop) : Prop :=
  ∀ (pins : List (Addr × Obj)) (s : Shared) (σ : St) (H : Hp) (x : V) (v : Value) (Q : Bool → Hp → Prop), Inv X pins σ H s → RelV x v → r x H Q →
    wpAny (model X.prog X.w) X.A (truthy v) (TP X pins σ Q) X.xe s
def tOp (r : R2) (ta tb : TE) : TE := fun σ H Q => ta σ H fun x H1 => tb σ H1 fun y H2 => r x y H2 Q
def tUn (r : V → Hp → VK → Prop) (ta : TE) : TE := fun σ H Q => ta σ H fun x H1 => r x H1 Q
def rI (C : Int → Int → Prop) (g : Int → Int → V) : R2 := fun x y H Q => ∃ i j, x = .int i ∧ y = .int j ∧ C i j ∧ Q (g i j) H
def rI0 (g : Int → Int → V) : R2 := fun x y H Q => ∃ i j, x = .int i ∧ y = .int j ∧ Q (g i j) H
def rU (g : Int → V) : V → Hp → VK → Prop := fun x H Q => ∃ i, x = .int i ∧ Q (g i) H
section
variable {X : Cx} {a b c : Expr} {ta tb tc : TE} {pos : Pos}
theorem binT (ha : PE X a ta) (hb : PE X b tb) {pins : List (Addr × Obj)} {s : Shared} {σ : St} {H : Hp} {R : V → V → Hp → Prop} (I : Inv X pins σ H s)
    (h : ta σ H fun x H1 => tb σ H1 fun y H2 => R x y H2) {Q : Value → Shared → Prop} {f : Value → Value → Sem Value}
    (hf : ∀ v u s2 x y H2, Inv X pins σ H2 s2 → RelV x v → RelV y u → R x y H2 → wpAny (model X.prog X.w) X.A (f v u) Q X.xe s2) :
    wpAny (model X.prog X.w) X.A (eval a X.env) (fun v s₁ => wpAny (model X.prog X.w) X.A (eval b X.env) (fun u s₂ => wpAny (model X.prog X.w) X.A (f v u) Q X.xe s₂) X.xe s₁) X.xe s := by
  refine thn (ha pins s σ H _ I h) fun v s1 ⟨x, H1, I1, r1, q1⟩ => ?_
  refine thn (hb pins s1 σ H1 _ I1 q1) fun u s2 ⟨y, H2, I2, r2, q2⟩ => ?_
  exact hf v u s2 x y H2 I2 r1 r2 q2
theorem pe_op {op : Operator} {r : R2} (ho : OpR X (binaryOp op) r) (ha : PE X a ta) (hb : PE X b tb) : PE X (.BinOp a op b pos) (tOp r ta tb) := by
  intro pins s σ H Q I h
  exact wpAny_BinOp (binT ha hb I h fun v u s2 x y H2 I2 rx ry q => ho pins s2 σ H2 x y v u Q I2 rx ry q)
theorem pe_un {op : UnaryOp} {r : V → Hp → VK → Prop} (ho : UnR X (unaryOp op) r) (ha : PE X a ta) : PE X (.UnaryOp op a pos) (tUn r ta) := by
  intro pins s σ H Q I h
  exact UnaryOp_ (thn (ha pins s σ H _ I h) fun v s1 ⟨x, H1, I1, r1, q1⟩ => ho pins s1 σ H1 x v Q I1 r1 q1)
theorem opI {f : Value → Value → Sem Value} {C : Int → Int → Prop} {g : Int → Int → Int}
    (rule : ∀ (i j : Int) (t u : Tok) (s : Shared) (Q : Value → Shared → Prop) (E : Value → Shared → Prop), C i j → Q (.int (g i j) s.toks) { s with toks := s.toks + 1 } → wpAny (model X.prog X.w) X.A (f (.int i t) (.int j u)) Q E s) :
    OpR X f (rI C fun i j => .int (g i j)) := by
  intro pins s σ H x y v u Q I rx ry h
  obtain ⟨i, j, rfl, rfl, hc, q⟩ := h
  obtain ⟨t, rfl⟩ := rx
  obtain ⟨t', rfl⟩ := ry
  exact rule i j t t' s _ _ hc ⟨.int (g i j), H, I.tok _, ⟨_, rfl⟩, q⟩
theorem opI0 {f : Value → Value → Sem Value} {g : Int → Int → Int}
    (rule : ∀ (i j : Int) (t u : Tok) (s : Shared) (Q : Value → Shared → Prop) (E : Value → Shared → Prop), Q (.int (g i j) s.toks) { s with toks := s.toks + 1 } → wpAny (model X.prog X.w) X.A (f (.int i t) (.int j u)) Q E s) :
    OpR X f (rI0 fun i j => .int (g i j)) := by
  intro pins s σ H x y v u Q I rx ry h
  obtain ⟨i, j, rfl, rfl, q⟩ := h
  obtain ⟨t, rfl⟩ := rx
  obtain ⟨t', rfl⟩ := ry
  exact rule i j t t' s _ _ ⟨.int (g i j), H, I.tok _, ⟨_, rfl⟩, q⟩
theorem opB0 {f : Value → Value → Sem Value} {g : Int → Int → Bool}
    (rule : ∀ (i j : Int) (t u : Tok) (s : Shared) (Q : Value → Shared → Prop) (E : Value → Shared → Prop), Q (.bool (g i j)) s → wpAny (model X.prog X.w) X.A (f (.int i t) (.int j u)) Q E s) :
    OpR X f (rI0 fun i j => .bl (g i j)) := by
  intro pins s σ H x y v u Q I rx ry h
  obtain ⟨i, j, rfl, rfl, q⟩ := h
  obtain ⟨t, rfl⟩ := rx
  obtain ⟨t', rfl⟩ := ry
  exact rule i j t t' s _ _ ⟨.bl (g i j), H, I, rfl, q⟩
def CDiv (i j : Int) : Prop := 0 < j ∧ j < 1073741824
def CDivN (i j : Int) : Prop := j ≠ 0 ∧ j.natAbs < 1073741824
def CPow (i j : Int) : Prop := 0 ≤ j ∧ j ≤ 1000000 ∧ i.natAbs < 2 ^ 64
def CMul (i j : Int) : Prop := (-(2 ^ 64) < i ∧ i < 2 ^ 64) ∨ (-(2 ^ 64) < j ∧ j < 2 ^ 64)
theorem CMul.ok {i j : Int} (h : CMul i j) : IntMulOk i j := by
  rcases h with ⟨h1, h2⟩ | ⟨h1, h2⟩
  · exact .of_left (intBits_le_64 h1 h2)
  · exact .of_right (intBits_le_64 h1 h2)
theorem op_add : OpR X (binaryOp .Add) (rI0 fun i j => .int (i + j)) := opI0 fun _ _ _ _ _ _ _ q => add_int q
theorem op_sub : OpR X (binaryOp .Sub) (rI0 fun i j => .int (i - j)) := opI0 fun _ _ _ _ _ _ _ q => sub_int q
theorem op_fdiv : OpR X (binaryOp .FloorDiv) (rI CDiv fun i j => .int (i / j)) := opI fun i j _ _ _ _ _ hc q => by
  have h1 : (0 : Int) < j := hc.1
  have h2 : j < 1073741824 := hc.2
  exact floordiv_int (by omega) (by rw [Int.fdiv_eq_ediv_of_nonneg i (by omega)]; exact q) (.inl (PyProof.noPylong_small (by omega)))
theorem unI {f : Value → Sem Value} {g : Int → Int}
    (rule : ∀ (i : Int) (t : Tok) (s : Shared) (Q : Value → Shared → Prop) (E : Value → Shared → Prop), Q (.int (g i) s.toks) { s with toks := s.toks + 1 } → wpAny (model X.prog X.w) X.A (f (.int i t)) Q E s) :
    UnR X f (rU fun i => .int (g i)) := by
  intro pins s σ H x v Q I rx h
  obtain ⟨i, rfl, q⟩ := h
  obtain ⟨t, rfl⟩ := rx
  exact rule i t s _ _ ⟨.int (g i), H, I.tok _, ⟨_, rfl⟩, q⟩
theorem un_neg : UnR X (unaryOp .USub) (rU fun i => .int (-i)) := unI fun _ _ _ _ _ q => neg_int q
end
def scal : V → V → Bool
  | .non, .non => true | .non, .int _ => true | .int _, .non => true | .non, .bl _ => true | .bl _, .non => true | .non, .str _ => true | .str _, .non => true
  | .int _, .int _ => true | .bl _, .bl _ => true | .str _, .str _ => true | .byt _, .byt _ => true
  | .int _, .str _ => true | .str _, .int _ => true | .bl _, .str _ => true | .str _, .bl _ => true
  | _, _ => false
def rEq : R2 := fun x y H Q => scal x y = true ∧ Q (.bl (decide (x = y))) H
def rNe : R2 := fun x y H Q => scal x y = true ∧ Q (.bl (!decide (x = y))) H
theorem dec_int {i j : Int} : decide (V.int i = V.int j) = (i == j) := by
  rw [Bool.eq_iff_iff]
  simp
theorem dec_bl {i j : Bool} : decide (V.bl i = V.bl j) = (i == j) := by
  rw [Bool.eq_iff_iff]
  simp
theorem dec_str {i j : Str} : decide (V.str i = V.str j) = (i == j) := by
  rw [Bool.eq_iff_iff]
  simp
theorem dec_byt {i j : Array UInt8} : decide (V.byt i = V.byt j) = (i.toList == j.toList) := by
  rw [Bool.eq_iff_iff]
  cases i
  cases j
  simp
section
variable {X : Cx} {a b c : Expr} {ta tb tc : TE} {pos : Pos}
theorem fin_bl {pins : List (Addr × Obj)} {σ : St} {H : Hp} {s : Shared} {Q : VK} {k k' : Bool} (I : Inv X pins σ H s) (q : Q (.bl k) H) (e : k = k') : EP X pins σ Q (.bool k') s := by
  subst e
  exact ⟨.bl k, H, I, rfl, q⟩
theorem op_eq : OpR X (compareOp .Eq) rEq := by
  intro pins s σ H x y v u Q I rx ry h
  obtain ⟨hs, q⟩ := h
  cases x with
  | non =>
    cases rx
    cases y with
    | non => cases ry; exact PySem.EqNone.eq_none_none (fin_bl I q (by simp))
    | bl j => cases ry; exact PySem.EqNone.eq_none_bool (fin_bl I q (by simp))
    | int j => obtain ⟨t', rfl⟩ := ry; exact PySem.EqNone.eq_none_int (fin_bl I q (by simp))
    | str j => obtain ⟨t', rfl⟩ := ry; exact PySem.EqNone.eq_none_str (fin_bl I q (by simp))
    | _ => exact absurd (show false = true from hs) Bool.false_ne_true
  | bl i =>
    cases rx
    cases y with
    | non => cases ry; exact PySem.EqNone.eq_bool_none (fin_bl I q (by simp))
    | bl j => cases ry; exact eq_bool (fin_bl I q dec_bl)
    | str j => obtain ⟨t', rfl⟩ := ry; exact PySem.EqMixed.eq_bool_str (fin_bl I q (by simp))
    | _ => exact absurd (show false = true from hs) Bool.false_ne_true
  | int i =>
    obtain ⟨t, rfl⟩ := rx
    cases y with
    | non => cases ry; exact PySem.EqNone.eq_int_none (fin_bl I q (by simp))
    | int j => obtain ⟨t', rfl⟩ := ry; exact eq_int (fin_bl I q dec_int)
    | str j => obtain ⟨t', rfl⟩ := ry; exact PySem.EqMixed.eq_int_str (fin_bl I q (by simp))
    | _ => exact absurd (show false = true from hs) Bool.false_ne_true
  | str i =>
    obtain ⟨t, rfl⟩ := rx
    cases y with
    | non => cases ry; exact PySem.EqNone.eq_str_none (fin_bl I q (by simp))
    | bl j => cases ry; exact PySem.EqMixed.eq_str_bool (fin_bl I q (by simp))
    | int j => obtain ⟨t', rfl⟩ := ry; exact PySem.EqMixed.eq_str_int (fin_bl I q (by simp))
    | str j => obtain ⟨t', rfl⟩ := ry; exact eq_str (fin_bl I q dec_str)
    | _ => exact absurd (show false = true from hs) Bool.false_ne_true
  | byt i =>
    obtain ⟨t, rfl⟩ := rx
    cases y with
    | byt j => obtain ⟨t', rfl⟩ := ry; exact PySem.W.eq_bytes (fin_bl I q dec_byt)
    | _ => exact absurd (show false = true from hs) Bool.false_ne_true
  | _ => cases y <;> exact absurd (show false = true from hs) Bool.false_ne_true
theorem op_ne : OpR X (compareOp .NotEq) rNe := by
  intro pins s σ H x y v u Q I rx ry h
  obtain ⟨hs, q⟩ := h
  cases x with
  | non =>
    cases rx
    cases y with
    | non => cases ry; exact PySem.EqNone.ne_none_none (fin_bl I q (by simp))
    | bl j => cases ry; exact PySem.EqNone.ne_none_bool (fin_bl I q (by simp))
    | int j => obtain ⟨t', rfl⟩ := ry; exact PySem.EqNone.ne_none_int (fin_bl I q (by simp))
    | str j => obtain ⟨t', rfl⟩ := ry; exact PySem.EqNone.ne_none_str (fin_bl I q (by simp))
    | _ => exact absurd (show false = true from hs) Bool.false_ne_true
  | bl i =>
    cases rx
    cases y with
    | non => cases ry; exact PySem.EqNone.ne_bool_none (fin_bl I q (by simp))
    | bl j => cases ry; exact ne_bool (fin_bl I q (congrArg not dec_bl))
    | str j => obtain ⟨t', rfl⟩ := ry; exact PySem.EqMixed.ne_bool_str (fin_bl I q (by simp))
    | _ => exact absurd (show false = true from hs) Bool.false_ne_true
  | int i =>
    obtain ⟨t, rfl⟩ := rx
    cases y with
    | non => cases ry; exact PySem.EqNone.ne_int_none (fin_bl I q (by simp))
    | int j => obtain ⟨t', rfl⟩ := ry; exact ne_int (fin_bl I q (congrArg not dec_int))
    | str j => obtain ⟨t', rfl⟩ := ry; exact PySem.EqMixed.ne_int_str (fin_bl I q (by simp))
    | _ => exact absurd (show false = true from hs) Bool.false_ne_true
  | str i =>
    obtain ⟨t, rfl⟩ := rx
    cases y with
    | non => cases ry; exact PySem.EqNone.ne_str_none (fin_bl I q (by simp))
    | bl j => cases ry; exact PySem.EqMixed.ne_str_bool (fin_bl I q (by simp))
    | int j => obtain ⟨t', rfl⟩ := ry; exact PySem.EqMixed.ne_str_int (fin_bl I q (by simp))
    | str j => obtain ⟨t', rfl⟩ := ry; exact ne_str (fin_bl I q (congrArg not dec_str))
    | _ => exact absurd (show false = true from hs) Bool.false_ne_true
  | byt i =>
    obtain ⟨t, rfl⟩ := rx
    cases y with
    | byt j => obtain ⟨t', rfl⟩ := ry; exact PySem.W.ne_bytes (fin_bl I q (congrArg not dec_byt))
    | _ => exact absurd (show false = true from hs) Bool.false_ne_true
  | _ => cases y <;> exact absurd (show false = true from hs) Bool.false_ne_true
theorem op_lt : OpR X (compareOp .Lt) (rI0 fun i j => .bl (decide (i < j))) := opB0 fun _ _ _ _ _ _ _ q => lt_int q
theorem op_le : OpR X (compareOp .LtE) (rI0 fun i j => .bl (decide (i ≤ j))) := opB0 fun _ _ _ _ _ _ _ q => le_int q
theorem op_gt : OpR X (compareOp .Gt) (rI0 fun i j => .bl (decide (j < i))) := opB0 fun _ _ _ _ _ _ _ q => gt_int q
theorem op_ge : OpR X (compareOp .GtE) (rI0 fun i j => .bl (decide (j ≤ i))) := opB0 fun _ _ _ _ _ _ _ q => ge_int q
def isObj : HO → Bool
  | .lst _ => true
  | .ins _ _ _ => true
  | _ => false
theorem OpR.or {f : Value → Value → Sem Value} {r r' : R2} (h : OpR X f r) (h' : OpR X f r') : OpR X f (fun x y H Q => r x y H Q ∨ r' x y H Q) := by
  intro pins s σ H x y v u Q I rx ry q
  rcases q with q | q
  · exact h pins s σ H x y v u Q I rx ry q
  · exact h' pins s σ H x y v u Q I rx ry q
theorem nomark (b : Expr) {op : CmpOp} (h : op ≠ .In := by decide) (h2 : op ≠ .NotIn := by decide) : behindInMarks op b = false := by
  have e1 : (op == CmpOp.In) = false := by cases op <;> first | rfl | exact absurd rfl h
  have e2 : (op == CmpOp.NotIn) = false := by cases op <;> first | rfl | exact absurd rfl h2
  cases b <;> simp [behindInMarks, e1, e2]
theorem pe_cmpR {op : CmpOp} {r : R2} (ho : OpR X (compareOp op) r) (ha : PE X a ta) (hb : PE X b tb) (hm : behindInMarks op b = false) : PE X (.Compare a [op] [b] pos) (tOp r ta tb) := by
  intro pins s σ H Q I h
  exact wpAny_Compare1 (binT ha hb I h fun v u s2 x y H2 I2 rx ry q => ho pins s2 σ H2 x y v u Q I2 rx ry q) hm
def tTest (t : TE) : TT := fun σ H Q => t σ H fun x H' => ∃ k, x = .bl k ∧ Q k H'
theorem pt_cmpR {op : CmpOp} {r : R2} (ho : OpR X (compareOp op) r) (ha : PE X a ta) (hb : PE X b tb) (hm : behindInMarks op b = false) : PT X (.Compare a [op] [b] pos) (tTest (tOp r ta tb)) := by
  intro pins s σ H Q I h
  refine wpAny_isTrue_Compare1 (thn (ha pins s σ H _ I h) fun v s1 ⟨x, H1, I1, r1, q1⟩ => thn (hb pins s1 σ H1 _ I1 q1) fun u s2 ⟨y, H2, I2, r2, q2⟩ =>
    thn (ho pins s2 σ H2 x y v u _ I2 r1 r2 q2) fun c s3 ⟨z, H3, I3, r3, k, e, q3⟩ => ?_) hm
  subst e
  cases r3
  exact wpAny_truthy_bool ⟨H3, I3, q3⟩
def tChain (r r' : R2) (ta tb tc : TE) : TE := fun σ H Q => ta σ H fun x H1 => tb σ H1 fun y H2 => r x y H2 fun z H3 => ∃ k, z = .bl k ∧
  (if k = true then tc σ H3 fun w' H4 => r' y w' H4 Q else Q (.bl false) H3)
def TruV (K : PySem.W.Frag) (x : V) (H : Hp) (k : Bool) : Prop :=
  match x with
  | .non => k = false
  | .bl b => k = b
  | .int i => k = (i != 0)
  | .str y => y.length ≤ sizeLine ∧ k = ((y.length : Int) != 0)
  | .byt y => y.size ≤ sizeLine ∧ k = ((y.size : Int) != 0)
  | .ref p => (∃ xs, SqL K H p xs ∧ k = !xs.isEmpty) ∨ (∃ xs, SqT K H p xs ∧ k = !xs.isEmpty) ∨ ∃ kvs, H p = some (.dK kvs) ∧ k = !kvs.isEmpty
  | _ => False
theorem line63 : (sizeLine : Nat) < 2 ^ 63 := by rw [sizeLine_eq]; decide
def PlainIxT (b : Expr) : Prop := ∀ o i, subscripted b false o i = operate [o, i] (getItem o i)
theorem vals1 {x : V} {us : List Value} (r : Vals [x] us) : ∃ u, us = [u] ∧ RelV x u := by
  cases r with
  | cons r1 r2 => cases r2; exact ⟨_, rfl, r1⟩
def LenV (K : PySem.W.Frag) (x : V) (H : Hp) (n : Nat) : Prop :=
  match x with
  | .str y => y.length ≤ sizeLine ∧ n = y.length
  | .byt y => y.size ≤ sizeLine ∧ n = y.size
  | .ref p => (∃ xs, SqL K H p xs ∧ n = xs.length) ∨ ∃ xs, SqT K H p xs ∧ n = xs.length
  | _ => False
end
end L2
namespace L2
open PySem PySem.Spec PyProof.Rows
structure ObjM (h : Heap) (x dx C : Addr) (mA : Str → Option Value) : Prop where
  obj : h.get? x = some (PySem.W.instObj C dx)
  ns : h.Ns1 dx mA
  ne : dx ≠ x
theorem lookIn_ns {h : Heap} {dx : Addr} {mA : Str → Option Value} (n : h.Ns1 dx mA) : ∃ od, h.get? dx = some od ∧ ∀ name, PySem.W.lookIn name od = some (mA name) := by
  obtain ⟨o, es, ep, ho, hd, hk, _, hm⟩ := n
  refine ⟨o, ho, fun name => ?_⟩
  have e := hm name
  unfold nsFind findBy at e
  rw [← Array.find?_toList] at e
  unfold PySem.W.lookIn
  rw [hd]
  dsimp only
  split
  · rename_i y q
    rw [q] at e
    exact congrArg some e
  · rename_i q
    rw [q] at e
    have a : es.toList.any (·.refKey) = false := by
      rw [List.any_eq_false]
      intro y hy
      obtain ⟨z, t, hkey⟩ := hk y (Array.mem_toList_iff.mp hy)
      simp [DictEntry.refKey, hkey]
    have a' : ¬ es.toList.any (·.refKey) = true := by rw [a]; exact Bool.false_ne_true
    rw [if_neg a']
    exact congrArg some e
theorem ObjM.look {h : Heap} {x dx C : Addr} {mA : Str → Option Value} (I : ObjM h x dx C mA) : ∃ od, PySem.W.InstAt h x (PySem.W.instObj C dx) C (some od) ∧ ∀ name, PySem.W.lookIn name od = some (mA name) :=
  let ⟨od, ho, hl⟩ := lookIn_ns I.ns
  ⟨od, ⟨I.obj, rfl, rfl, ho⟩, hl⟩
section
variable {prog : Program} {w : World} {A : Around} {E : Value → Shared → Prop} {s : Shared} {K : PySem.W.Frag} {x dx C f : Addr} {mA : Str → Option Value} {name : Str} {v : Value}
theorem get_map {expr : Bool} {Q : Value → Shared → Prop} (X : K.In s.heap) (I : ObjM s.heap x dx C mA) (hg : PySem.W.plainGet K C name = true) (hh : PySem.W.hasDictIn K C = true)
    (ha : PySem.W.findIn K (.ref C) name = some none) (hv : mA name = some v) (hv' : PySem.W.handedIn v = true) (h : Q v { s with toks := s.toks + 1 }) :
    wpAny (model prog w) A (getAttr (.ref x) name expr) Q E s := by
  obtain ⟨od, J, hl⟩ := I.look
  exact PySem.W.get_value X J (PySem.W.plainGet_of hg).1 (PySem.W.findObj_own hh ha rfl (by rw [hl, hv])) hv' h
theorem get_meth {pl : Sem Bool} {Q : Value × List Value → Shared → Prop} (X : K.In s.heap) (I : ObjM s.heap x dx C mA) (hg : PySem.W.plainGet K C name = true)
    (hf : PySem.W.findIn K (.ref C) name = some (some (.ref f))) (ht : PySem.W.isFn K (.ref f) = true) (hv : mA name = none) (h : Q (.ref f, [.ref x]) s) :
    wpAny (model prog w) A (getMethod (.ref x) name pl) Q E s := by
  obtain ⟨od, J, hl⟩ := I.look
  exact PySem.W.method_fn X J (PySem.W.plainGet_of hg).1 (PySem.W.plainGet_of hg).2 hf (beq_iff_eq.mp ht) (by show (PySem.W.lookIn name od).map (·.isSome) = some false; rw [hl, hv]; rfl) h
theorem set_map {ns : List Str} {Q : Unit → Shared → Prop} (X : K.In s.heap) (I : ObjM s.heap x dx C mA)
    (hs : PySem.W.findIn K (.ref C) "__setattr__" = some (some (.builtin "object.__setattr__"))) (hp : PySem.W.plainOver K C = true) (ht : PySem.W.takerIn K C name = some none) (hh : PySem.W.hasDictIn K C = true)
    (hw : PySem.Within mA ns) (hsz : ns.length ≤ sizeLine)
    (h : ∀ h', ObjM h' x dx C (fun y => if y = name then some v else mA y) → Heap.SameBut dx s.heap h' → Q () { s with heap := h', toks := s.toks + 2 }) :
    wpAny (model prog w) A (setAttr (.ref x) name v) Q E s := by
  obtain ⟨od, J, hl⟩ := I.look
  refine PySem.W.set_plain X J hs (PySem.W.osa_open (s := { s with toks := s.toks + 1 }) (r := none) X J hp ht fun b => ?_)
  obtain ⟨cd, hc, hd'⟩ := PySem.W.any_some hh
  have hx : s.heap.get? x = some ⟨.ref C, some dx, .plain, #[]⟩ := I.obj
  refine wpAny_bind (wpAny_pure (wpAny_bind (wpAny_bind (wpAny_loadPart hx (wpAny_bind (PySem.W.Looks.here (s := { s with toks := s.toks + 1 }) (PySem.W.looks_clsIn X hc) ?_))))))
  rw [hd']
  refine wpAny_pure (a := some dx) (wpAny_bind (wpAny_pure (wpAny_bind ?_)))
  refine wpAny_nsSet1 (s := { s with toks := s.toks + 1 }) I.ns fun h' hn2 hs2 => ?_
  obtain ⟨oD, esD, epD, hoD, hdD, hcD⟩ := hn2.count (PySem.Within.cons name v hw)
  refine wpAny_bind (wpAny_lookBehind hoD (by rw [hdD]; exact pastItsLine_dict (Nat.le_trans hcD (by rw [List.length_cons]; omega))) ?_)
  exact wpAny_pure (h _ ⟨(hs2.2 _ (Ne.symm I.ne)).trans I.obj, hn2, I.ne⟩ hs2)
theorem make_map {R : Result → Shared → Prop} {vs : List Value} {kw : List (Str × Value)} (X : K.In s.heap) (hm : PySem.W.makesIn K C = true)
    (hi : PySem.W.findIn K (.ref C) "__init__" = some (some (.ref f))) (hf : PySem.W.typeIn K (.ref f) = some (.type "function"))
    (h : codeAny (model prog w) (A.under (.builtin "type.__call__" ⟨.ref C :: vs, kw⟩)) (.call (.ref f) ⟨.ref (s.heap.objs.size + 1) :: vs, kw⟩) (PySem.W.InitBack (s.heap.objs.size + 1) R)
      { s with heap := (s.heap.push PySem.W.emptyDict).push (PySem.W.instObj C s.heap.objs.size) }) :
    codeAny (model prog w) A (.call (.ref C) ⟨vs, kw⟩) R s := by
  obtain ⟨hh, g, d, t, os⟩ := s
  exact PySem.W.make_core (PySem.W.makes_of X hm) (PySem.W.looks_findIn X hi) (fun self => PySem.W.bind_fn X self hf) (.inl rfl) h
end
def putF (f : Str) (v : V) : List (Str × V) → List (Str × V)
  | [] => [(f, v)]
  | (g, x) :: r => if g = f then (g, v) :: r else (g, x) :: putF f v r
theorem lookup_putF (f g : Str) (v : V) : ∀ fs : List (Str × V), (putF f v fs).lookup g = if g = f then some v else fs.lookup g
  | [] => by
    show List.lookup g [(f, v)] = _
    by_cases h : g = f
    · have hb : (g == f) = true := beq_iff_eq.mpr h
      simp only [List.lookup, hb, if_pos h]
    · have hb : (g == f) = false := beq_eq_false_iff_ne.mpr h
      simp only [List.lookup, hb, if_neg h]
  | (k, x) :: r => by
    have ih := lookup_putF f g v r
    rw [show putF f v ((k, x) :: r) = (if k = f then (k, v) :: r else (k, x) :: putF f v r) from rfl]
    by_cases hk : k = f
    · rw [if_pos hk]
      by_cases h : g = k
      · have hb : (g == k) = true := beq_iff_eq.mpr h
        simp only [List.lookup, hb, if_pos (h.trans hk)]
      · have hb : (g == k) = false := beq_eq_false_iff_ne.mpr h
        simp only [List.lookup, hb, if_neg (fun e : g = f => h (e.trans hk.symm))]
    · rw [if_neg hk]
      by_cases h : g = k
      · have hb : (g == k) = true := beq_iff_eq.mpr h
        simp only [List.lookup, hb, if_neg (fun e : g = f => hk (h.symm.trans e))]
      · have hb : (g == k) = false := beq_eq_false_iff_ne.mpr h
        simp only [List.lookup, hb]
        exact ih
theorem keys_putF (f : Str) (v : V) : ∀ fs : List (Str × V), f ∈ (putF f v fs).map (·.1) ∧ ∀ g, g ∈ fs.map (·.1) → g ∈ (putF f v fs).map (·.1)
  | [] => ⟨by simp [putF], fun g h => by simp at h⟩
  | (k, x) :: r => by
    obtain ⟨i1, i2⟩ := keys_putF f v r
    rw [show putF f v ((k, x) :: r) = (if k = f then (k, v) :: r else (k, x) :: putF f v r) from rfl]
    by_cases hk : k = f
    · rw [if_pos hk]
      subst hk
      exact ⟨by simp, fun g h => by simpa using h⟩
    · rw [if_neg hk]
      refine ⟨?_, fun g h => ?_⟩
      · rw [List.map_cons]
        exact List.mem_cons_of_mem _ i1
      · rw [List.map_cons] at h ⊢
        rcases List.mem_cons.mp h with e | e
        · exact List.mem_cons.mpr (.inl e)
        · exact List.mem_cons_of_mem _ (i2 g e)
theorem length_putF (f : Str) (v : V) : ∀ fs : List (Str × V), (putF f v fs).length ≤ fs.length + 1
  | [] => by simp [putF]
  | (k, x) :: r => by
    have ih := length_putF f v r
    rw [show putF f v ((k, x) :: r) = (if k = f then (k, v) :: r else (k, x) :: putF f v r) from rfl]
    by_cases hk : k = f
    · rw [if_pos hk, List.length_cons, List.length_cons]; omega
    · rw [if_neg hk, List.length_cons, List.length_cons]; omega
theorem RelO.some_of {v : V} {o : Option Value} (r : RelO (some v) o) : ∃ u, o = some u ∧ RelV v u := by
  cases o with
  | none => exact (show False from r).elim
  | some u => exact ⟨u, rfl, r⟩
theorem RelO.none_of {o : Option Value} (r : RelO none o) : o = none := by
  cases o with
  | none => rfl
  | some u => exact (show False from r).elim
theorem handed_of {v : V} {u : Value} (r : RelV v u) : PySem.W.handedIn u = true := by
  cases v with
  | non => cases (show u = Value.none from r); rfl
  | bl b => cases (show u = Value.bool b from r); rfl
  | int i => obtain ⟨t, e⟩ := (show ∃ t, u = Value.int i t from r); cases e; rfl
  | str x => obtain ⟨t, e⟩ := (show ∃ t, u = Value.str x t from r); cases e; rfl
  | byt b => obtain ⟨t, e⟩ := (show ∃ t, u = Value.bytes b t from r); cases e; rfl
  | flt b => obtain ⟨t, e⟩ := (show ∃ t, u = Value.float b t from r); cases e; rfl
  | ref a => cases (show u = Value.ref a from r); rfl
  | ty n => cases (show u = Value.type n from r); rfl
section
variable {P : Program} {w : World} {H H' : Hp} {h h' : Heap} {a C dx : Addr} {fs fs' : List (Str × V)}
theorem ins_get (hok : HOk P w H h) (e : H a = some (.ins C dx fs)) : ∃ mA, ObjM h a dx C mA ∧ (∀ f, RelO (fs.lookup f) (mA f)) ∧ PySem.Within mA (fs.map (·.1)) ∧ fs.length ≤ 1000 ∧ H dx = some (.own a) := by
  obtain ⟨d, z, ne, ob, mA, n, r, q⟩ := (show ObjOk P w H h a (.ins C dx fs) from hok a _ e)
  exact ⟨mA, ⟨ob, n, ne⟩, r, q, z, d⟩
end
structure Cls (K : PySem.W.Frag) (C : Addr) : Prop where
  pg : PySem.W.plainGet K C Str.empty = true
  hd : PySem.W.hasDictIn K C = true
  po : PySem.W.plainOver K C = true
  sa : PySem.W.findIn K (.ref C) "__setattr__" = some (some (.builtin "object.__setattr__"))
theorem Cls.get {K : PySem.W.Frag} {C : Addr} (c : Cls K C) (f : Str) : PySem.W.plainGet K C f = true := c.pg
def NoAttr (K : PySem.W.Frag) (C : Addr) (f : Str) : Prop := PySem.W.findIn K (.ref C) f = some none
theorem NoAttr.taker {K : PySem.W.Frag} {C : Addr} {f : Str} (n : NoAttr K C f) : PySem.W.takerIn K C f = some none := by
  unfold PySem.W.takerIn
  rw [show PySem.W.findIn K (.ref C) f = some none from n]
  rfl
structure Con (K : PySem.W.Frag) (C : Addr) (f : Str) (v : V) (u : Value) : Prop where
  at_ : PySem.W.findIn K (.ref C) f = some (some u)
  rel : RelV v u
  get : PySem.W.specialIn K u "__get__" = some none
  cp : PySem.W.copiedNames.contains f = false
structure Meth (K : PySem.W.Frag) (C : Addr) (m : Str) (f : Addr) : Prop where
  at_ : PySem.W.findIn K (.ref C) m = some (some (.ref f))
  fn : PySem.W.isFn K (.ref f) = true
  kp : PySem.W.keepIn K (.ref f) = true
section
variable {X : Cx} {pins : List (Addr × Obj)} {σ : St} {H : Hp} {s : Shared} {a C dx : Addr} {fs : List (Str × V)} {f : Str} {v : V} {A : Around} {E : Value → Shared → Prop}
theorem getattr_ok {b : Bool} {Q : Value → Shared → Prop} (I : Inv X pins σ H s) (e : H a = some (.ins C dx fs)) (c : Cls X.K C) (n : NoAttr X.K C f) (l : fs.lookup f = some v)
    (h : ∀ u s', Inv X pins σ H s' → RelV v u → Q u s') : wpAny (model X.prog X.w) A (getAttr (.ref a) f b) Q E s := by
  obtain ⟨mA, O, r, _, _, _⟩ := ins_get I.hok e
  obtain ⟨u, hu, ru⟩ := RelO.some_of (v := v) (o := mA f) (by rw [← l]; exact r f)
  exact get_map I.kIn O (c.get f) c.hd n hu (handed_of ru) (h u _ (I.tok _) ru)
theorem getmeth_ok {m : Str} {g : Addr} {pl : Sem Bool} {Q : Value × List Value → Shared → Prop} (I : Inv X pins σ H s) (e : H a = some (.ins C dx fs)) (c : Cls X.K C) (k : Meth X.K C m g) (l : fs.lookup m = none)
    (h : Q (.ref g, [.ref a]) s) : wpAny (model X.prog X.w) A (getMethod (.ref a) m pl) Q E s := by
  obtain ⟨mA, O, r, _, _, _⟩ := ins_get I.hok e
  have hn : mA m = none := RelO.none_of (by rw [← l]; exact r m)
  exact get_meth I.kIn O (c.get m) k.at_ k.fn hn h
theorem setattr_ok {y : V} {u : Value} {Q : Unit → Shared → Prop} (I : Inv X pins σ H s) (e : H a = some (.ins C dx fs)) (c : Cls X.K C) (n : NoAttr X.K C f) (hl : fs.length < 1000) (ry : RelV y u)
    (h : ∀ s', Inv X pins σ (upd H a (.ins C dx (putF f y fs))) s' → Q () s') : wpAny (model X.prog X.w) A (setAttr (.ref a) f u) Q E s := by
  obtain ⟨mA, O, r, wi, _, ho⟩ := ins_get I.hok e
  have hz : (fs.map (·.1)).length ≤ sizeLine := by rw [List.length_map, sizeLine_eq]; omega
  refine set_map I.kIn O c.sa c.po n.taker c.hd wi hz fun h' O' sb => h _ ?_
  have hd : ∃ o, h'.get? dx = some o := let ⟨o, _, _, e', _⟩ := O'.ns; ⟨o, e'⟩
  refine I.write (x := a) (e := dx) (by rw [e]; exact True.intro) (.inr ho) (fun b q hb z => (sb.2 b hb).trans z) hd ?_
  refine ⟨by rw [upd_ne O.ne]; exact ho, ?_, O.ne, O'.obj, _, O'.ns, fun g => ?_, fun g hg => ?_⟩
  · have := length_putF f y fs; omega
  · show RelO ((putF f y fs).lookup g) (if g = f then some u else mA g)
    rw [lookup_putF]
    by_cases q : g = f
    · rw [if_pos q, if_pos q]; exact ry
    · rw [if_neg q, if_neg q]; exact r g
  · by_cases q : g = f
    · rw [q]; exact (keys_putF f y fs).1
    · refine (keys_putF f y fs).2 g (wi g fun z => hg ?_)
      show (if g = f then some u else mA g) = none
      rw [if_neg q]; exact z
theorem Inv.made (I : Inv X pins σ H s) : Inv X pins σ (upd (upd H s.heap.objs.size (.own (s.heap.objs.size + 1))) (s.heap.objs.size + 1) (.ins C s.heap.objs.size []))
    { s with heap := (s.heap.push PySem.W.emptyDict).push (PySem.W.instObj C s.heap.objs.size) } := by
  have e1 : (s.heap.push PySem.W.emptyDict).get? s.heap.objs.size = some PySem.W.emptyDict := Heap.get?_push_size s.heap rfl
  have e2 : ((s.heap.push PySem.W.emptyDict).push (PySem.W.instObj C s.heap.objs.size)).get? (s.heap.objs.size + 1) = some (PySem.W.instObj C s.heap.objs.size) := by
    have := Heap.get?_push_size (s.heap.push PySem.W.emptyDict) (o := PySem.W.instObj C s.heap.objs.size) rfl
    rwa [Heap.size_push] at this
  have e3 : (s.heap.push PySem.W.emptyDict).Ns s.heap.objs.size (fun _ => none) := ⟨PySem.W.emptyDict, #[], _, e1, rfl, (fun e he => absurd he (by simp)), fun _ => rfl⟩
  have I1 := I.laid (a := s.heap.objs.size) (o := .own (s.heap.objs.size + 1)) (h' := s.heap.push PySem.W.emptyDict) (t' := s.toks) (fun b u q => Heap.get?_push_of_some _ q) (Nat.le_refl _) ⟨_, e1⟩
  refine I1.laid (a := s.heap.objs.size + 1) (o := .ins C s.heap.objs.size []) (t' := s.toks) (fun b u q => Heap.get?_push_of_some _ q) (Nat.le_of_eq (Heap.size_push _ _)) ?_
  have ne : s.heap.objs.size ≠ s.heap.objs.size + 1 := Nat.ne_of_lt (Nat.lt_succ_self _)
  refine ⟨by rw [upd_ne ne, upd_same], Nat.zero_le _, ne, e2, fun _ => none, (Heap.Ns1.of_empty e3).at fun o q => Heap.get?_push_of_some _ q, fun _ => True.intro, fun y hy => absurd rfl hy⟩
theorem attr_of {prog : Program} {w : World} {env : Env} {e : Expr} {f : Str} {pos : Pos} {s : Shared} {Q : Value → Shared → Prop} (hb : attributeBase e f env (eval e env) = eval e env)
    (h : wpAny (model prog w) A (eval e env) (fun o s₁ => wpAny (model prog w) A (getAttr o f true) Q E s₁) E s) : wpAny (model prog w) A (eval (.Attribute e f pos) env) Q E s :=
  Attribute_any_ h (by rw [arm_eval_Attribute, hb])
end
def tFld (K : PySem.W.Frag) (ta : TE) (f : Str) : TE := fun σ H Q => ta σ H fun x H1 => ∃ a C dx fs v, x = .ref a ∧ H1 a = some (.ins C dx fs) ∧ Cls K C ∧ NoAttr K C f ∧ fs.lookup f = some v ∧ Q v H1
def tCon (K : PySem.W.Frag) (ta : TE) (f : Str) : TE := fun σ H Q => ta σ H fun x H1 => ∃ a C dx fs v u, x = .ref a ∧ H1 a = some (.ins C dx fs) ∧ Cls K C ∧ Con K C f v u ∧ fs.lookup f = none ∧ Q v H1
def sFld (K : PySem.W.Frag) (ta tv : TE) (f : Str) : TS := fun D σ H => tv σ H fun y H1 => ta σ H1 fun x H2 => ∃ a C dx fs, x = .ref a ∧ H2 a = some (.ins C dx fs) ∧ Cls K C ∧ NoAttr K C f ∧ fs.length < 1000 ∧
  D.nx σ (upd H2 a (.ins C dx (putF f y fs)))
def InOp (X : Cx) (op : Operator) (rd : V → V → Hp → VK → Prop) : Prop :=
  ∀ (pins : List (Addr × Obj)) (s : Shared) (σ : St) (H : Hp) (x y : V) (u v : Value) (Q : VK), Inv X pins σ H s → RelV x u → RelV y v → rd x y H Q → wpAny (model X.prog X.w) X.A (inplaceOp op u v) (EP X pins σ Q) X.xe s
def sFldAug (K : PySem.W.Frag) (ta tv : TE) (rd : V → V → Hp → VK → Prop) (f : Str) : TS := fun D σ H => ta σ H fun x H1 => ∃ a C dx fs v, x = .ref a ∧ H1 a = some (.ins C dx fs) ∧ Cls K C ∧ NoAttr K C f ∧ fs.lookup f = some v ∧
  tv σ H1 fun y H2 => rd v y H2 fun z H3 => ∃ dx' fs', H3 a = some (.ins C dx' fs') ∧ fs'.length < 1000 ∧ D.nx σ (upd H3 a (.ins C dx' (putF f z fs')))
section
variable {X : Cx} {o e value : Expr} {f : Str} {pos pos' tpos : Pos} {ta tv : TE}
theorem pe_fld (he : PE X e ta) (hb : attributeBase e f X.env (eval e X.env) = eval e X.env) : PE X (.Attribute e f pos) (tFld X.K ta f) := by
  intro pins s σ H Q I h
  refine attr_of hb (thn (he pins s σ H _ I h) fun u s1 ⟨x, H1, I1, rx, a, C, dx, fs, v, ex, ea, c, n, l, q⟩ => ?_)
  subst ex
  obtain rfl : u = Value.ref a := rx
  exact getattr_ok I1 ea c n l fun u' s2 I2 ru => ⟨v, H1, I2, ru, q⟩
theorem ps_fld (ha : PE X o ta) (hv : PE X value tv) (hs : swapsWith value (some (.Attribute o f pos')) pos.line X.env = pure false) : PS X (.Assign [.Attribute o f pos'] value pos) (sFld X.K ta tv f) := by
  intro pins s σ H D I h
  refine plainObj_wpAny_Assign_Attribute (thn (hv pins s σ H _ I h) fun u s1 ⟨y, H1, I1, ry, q⟩ => thn (ha pins s1 σ H1 _ I1 q) fun ov s2 ⟨x, H2, I2, rx, a, C, dx, fs, ex, ea, c, n, l, q2⟩ => ?_) hs
  subst ex
  obtain rfl : ov = Value.ref a := rx
  exact setattr_ok I2 ea c n l ry fun s3 I3 => ⟨σ, _, I3, q2⟩
def rAdd : V → V → Hp → VK → Prop := fun x y H Q => ∃ i j, x = .int i ∧ y = .int j ∧ Q (.int (i + j)) H
def rSub : V → V → Hp → VK → Prop := fun x y H Q => ∃ i j, x = .int i ∧ y = .int j ∧ Q (.int (i - j)) H
end
section
variable {X : Cx} {pins : List (Addr × Obj)} {σ : St} {H : Hp} {s : Shared} {A : Around} {E : Value → Shared → Prop} {Q : Value → Shared → Prop} {c : Value} {b : Bool}
inductive TyOf (K : PySem.W.Frag) (H : Hp) : V → Value → Prop where
  | non : TyOf K H .non (.type "NoneType")
  | bl (x : Bool) : TyOf K H (.bl x) (.type "bool")
  | int (i : Int) : TyOf K H (.int i) (.type "int")
  | str (x : Str) : TyOf K H (.str x) (.type "str")
  | flt (x : UInt64) : TyOf K H (.flt x) (.type "float")
  | lst {a : Addr} {xs : List V} (e : H a = some (.lst xs)) : TyOf K H (.ref a) (.type "list")
  | frz {a : Addr} {o : Obj} {xs : List V} (e : H a = some (.frz o (.lst xs))) : TyOf K H (.ref a) (.type "list")
  | tup {a : Addr} {xs : List V} (e : H a = some (.tup xs)) : TyOf K H (.ref a) (.type "tuple")
  | dK {a : Addr} {kvs : List (Key × V)} (e : H a = some (.dK kvs)) : TyOf K H (.ref a) (.type "dict")
  | dT {a : Addr} {kvs : List (List Key × V)} (e : H a = some (.dT kvs)) : TyOf K H (.ref a) (.type "dict")
  | ins {a C dx : Addr} {fs : List (Str × V)} (e : H a = some (.ins C dx fs)) (cl : Cls K C) (ha : PySem.W.findIn K (.ref C) "__class__" = some (some (.builtin "object.__class__")))
      (hn : PySem.W.specialIn K (.builtin "object.__class__") "__get__" = some (some (.builtin "getset_descriptor.__get__"))) (htk : PySem.W.takesIn K (.builtin "object.__class__") = some true)
      (hm : PySem.W.mroIn K C (.type "object") = some true) : TyOf K H (.ref a) (.ref C)
end
end L2
namespace L2
open PySem PySem.Spec PyProof.Rows
structure Room (k : Nat) (A : Around) : Prop where
  hd : A.handled = none
  dp : A.depth + 3 * k + 5 < recursionLimit
  un : A.units + 16 * k + 200 < cLine
theorem Room.mono {j k : Nat} {A : Around} (r : Room k A) (h : j ≤ k) : Room j A := ⟨r.hd, by have := r.dp; omega, by have := r.un; omega⟩
theorem Room.deeper {k : Nat} {A : Around} (r : Room (k + 1) A) (env : Env) : Room k (A.deeper env) :=
  ⟨r.hd, by have := r.dp; show A.depth + 1 + 3 * k + 5 < _; omega, by have := r.un; show A.units + 3 + 16 * k + 200 < _; omega⟩
theorem Room.in1 {k : Nat} {A : Around} (r : Room (k + 1) A) : Room k A.in1 :=
  ⟨r.hd, by have := r.dp; show A.depth + 3 * k + 5 < _; omega, by have := r.un; show A.units + 1 + 16 * k + 200 < _; omega⟩
theorem make_depth {A : Around} {C : Addr} {us : List Value} {kw : List (Str × Value)} : (A.under (.builtin "type.__call__" ⟨.ref C :: us, kw⟩)).depth = A.depth + 1 := by
  first | rfl | simp [Around.under, Code.weight, Code.isCreation, Code.isGuard, Code.isCaller, Code.frames, Code.isFrame, guardIds]
theorem make_units {A : Around} {C : Addr} {us : List Value} {kw : List (Str × Value)} : (A.under (.builtin "type.__call__" ⟨.ref C :: us, kw⟩)).units = A.units + 1 := by
  first | rfl | simp [Around.under, Code.cUnits, Code.frames, Code.isFrame]
theorem Room.make {k : Nat} {A : Around} (r : Room (k + 1) A) (C : Addr) (us : List Value) (kw : List (Str × Value)) : Room k (A.under (.builtin "type.__call__" ⟨.ref C :: us, kw⟩)) :=
  ⟨r.hd, by have := r.dp; rw [make_depth]; omega, by have := r.un; rw [make_units]; omega⟩
theorem Room.depth {k : Nat} {A : Around} (r : Room k A) : A.depth < recursionLimit := by have := r.dp; omega
theorem Room.units {k : Nat} {A : Around} (r : Room k A) : A.units + 64 < cLine := by have := r.un; omega
def tNil : TA := fun _ H Q => Q [] H
def tCons (ta : TE) (tr : TA) : TA := fun σ H Q => ta σ H fun x H1 => tr σ H1 fun xs H2 => Q (x :: xs) H2
section
variable {X : Cx} {e : Expr} {es : List Expr} {te : TE} {t : TA} {pos : Pos}
theorem pa_nil : PA X [] tNil := fun _ _ _ _ H Q I h => Calls.spliced_nil ⟨[], H, I, .nil, h⟩
theorem pa_cons (ha : PE X e te) (hr : PA X es t) (hs : starEach (e :: es) X.env = (false, eval e X.env) :: starEach es X.env := by rfl) : PA X (e :: es) (tCons te t) := by
  intro pos pins s σ H Q I h
  rw [hs]
  show wpAny _ _ (spliced ((false, eval e X.env) :: backTo pos (starEach es X.env))) _ _ s
  refine Calls.spliced_cons (thn (ha pins s σ H _ I h) fun u s1 ⟨x, H1, I1, r1, q1⟩ => ?_)
  exact thn (hr pos pins s1 σ H1 _ I1 q1) fun us s2 ⟨xs, H2, I2, r2, q2⟩ => ⟨x :: xs, H2, I2, .cons r1 r2, q2⟩
def tTup (t : TA) : TE := fun σ H Q => t σ H fun xs H1 => xs.length ≤ sizeLine ∧ ∀ p, H1 p = none → Q (.ref p) (upd H1 p (.tup xs))
def tLst (t : TA) : TE := fun σ H Q => t σ H fun xs H1 => xs.length ≤ sizeLine ∧ ∀ p, H1 p = none → Q (.ref p) (upd H1 p (.lst xs))
theorem pe_tup {x1} (h : PA X es t) : PE X (.Tuple es x1 pos) (tTup t) := by
  intro pins s σ H Q I hq
  refine wpAny_Tuple_spliced (thn (h pos pins s σ H _ I hq) fun us s1 ⟨xs, H1, I1, r, z, q⟩ => ⟨by rw [← r.length]; exact z, ?_⟩)
  have hf : H1 s1.heap.objs.size = none := I1.hok.fresh (Nat.le_refl _)
  refine ⟨.ref s1.heap.objs.size, upd H1 s1.heap.objs.size (.tup xs), I1.laid (t' := s1.toks) (fun b u e => Heap.get?_push_of_some _ e) (Nat.le_refl _) ?_, rfl, q _ hf⟩
  exact ⟨z, us, r, ⟨_, Heap.get?_push_size _ rfl, rfl, _, rfl⟩⟩
theorem pe_lst (h : PA X es t) : PE X (.List es pos) (tLst t) := by
  intro pins s σ H Q I hq
  refine wpAny_List_spliced (thn (h pos pins s σ H _ I hq) fun us s1 ⟨xs, H1, I1, r, z, q⟩ => ⟨by rw [← r.length]; exact z, ?_⟩)
  have hf : H1 s1.heap.objs.size = none := I1.hok.fresh (Nat.le_refl _)
  refine ⟨.ref s1.heap.objs.size, upd H1 s1.heap.objs.size (.lst xs), I1.laid (t' := s1.toks) (fun b u e => Heap.get?_push_of_some _ e) (Nat.le_refl _) ?_, rfl, q _ hf⟩
  exact ⟨z, us, 0, r, Heap.get?_push_size _ rfl⟩
end
abbrev Sp := List V → Hp → VK → XK → Prop
abbrev CXT := List Env → Hp → Shared → XK → Value → Shared → Prop
structure Env0 (P : Program) (w : World) (K : PySem.W.Frag) (mg : Str → Option Value) (base : Heap) (A : Around) (outer : List Env) (s : Shared) (H : Hp) : Prop where
  frames : A.frames = some outer
  mod : Mod K mg base
  bs : ∀ b o, base.get? b = some o → s.heap.get? b = some o ∧ H b = none
  bsz : base.objs.size ≤ s.heap.objs.size
  funs : s.heap.FunFrames base outer
  frf : ∀ b ∈ frs outer, H b = none
  hok : HOk P w H s.heap
  bare : AllBare s.gens
def CE (outer : List Env) (P : Program) (w : World) (H : Hp) (s : Shared) (Q : VK) (u : Value) (s' : Shared) : Prop :=
  ∃ v H', s'.os = s.os ∧ AllBare s'.gens ∧ Un (frs outer) [] H H' s.heap s'.heap ∧ HOk P w H' s'.heap ∧ RelV v u ∧ Q v H'
def CR (CX : CXT) (outer : List Env) (P : Program) (w : World) (H : Hp) (s : Shared) (Q : VK) (E : XK) (r : Result) (s' : Shared) : Prop :=
  match r with
  | .ok (.ret u) => CE outer P w H s Q u s'
  | .ok _ => False
  | .error e => CX outer H s E e s'
structure FnOk (P : Program) (w : World) (K : PySem.W.Frag) (mg : Str → Option Value) (base : Heap) (CX : CXT) (k : Nat) (f : Addr) (fd : FuncData) (ps : List Str) (sp : Sp) : Prop where
  len : ∀ vs H Q E, sp vs H Q E → vs.length = ps.length
  run : ∀ (A : Around) (outer : List Env) (s : Shared) (H : Hp) (args : Args) (us : List Value) (vs : List V) (Q : VK) (E : XK), Room k A → Env0 P w K mg base A outer s H → BindsTo s fd args (ps.zip us) → Vals vs us → sp vs H Q E →
    codeAny (model P w) A (.call (.ref f) args) (CR CX outer P w H s Q E) s
theorem FnOk.mono {P : Program} {w : World} {K : PySem.W.Frag} {mg : Str → Option Value} {base : Heap} {CX : CXT} {j k : Nat} {f : Addr} {fd : FuncData} {ps : List Str} {sp : Sp} (F : FnOk P w K mg base CX j f fd ps sp) (h : j ≤ k) :
    FnOk P w K mg base CX k f fd ps sp := ⟨F.len, fun A outer s H args us vs Q E hr => F.run A outer s H args us vs Q E (hr.mono h)⟩
theorem FnOk.imp {P : Program} {w : World} {K : PySem.W.Frag} {mg : Str → Option Value} {base : Heap} {CX : CXT} {k : Nat} {f : Addr} {fd : FuncData} {ps : List Str} {sp sp' : Sp} (F : FnOk P w K mg base CX k f fd ps sp)
    (h : ∀ vs H Q E, sp' vs H Q E → sp vs H Q E) : FnOk P w K mg base CX k f fd ps sp' :=
  ⟨fun vs H Q E q => F.len vs H Q E (h _ _ _ _ q), fun A outer s H args us vs Q E hr he hb hv hs => F.run A outer s H args us vs Q E hr he hb hv (h _ _ _ _ hs)⟩
theorem Env0.make {P : Program} {w : World} {K : PySem.W.Frag} {mg : Str → Option Value} {base : Heap} {A : Around} {outer : List Env} {s : Shared} {H : Hp} (e : Env0 P w K mg base A outer s H) (C : Addr) (us : List Value) (kw : List (Str × Value)) :
    Env0 P w K mg base (A.under (.builtin "type.__call__" ⟨.ref C :: us, kw⟩)) outer s H := ⟨by first | exact e.frames | (simpa [Around.under, Code.envs, Code.isFrame, pushEnvs] using e.frames), e.mod, e.bs, e.bsz, e.funs, e.frf, e.hok, e.bare⟩
theorem Env0.in1 {P : Program} {w : World} {K : PySem.W.Frag} {mg : Str → Option Value} {base : Heap} {A : Around} {outer : List Env} {s : Shared} {H : Hp} (e : Env0 P w K mg base A outer s H) :
    Env0 P w K mg base A.in1 outer s H := ⟨e.frames, e.mod, e.bs, e.bsz, e.funs, e.frf, e.hok, e.bare⟩
section
variable {X : Cx} {pins : List (Addr × Obj)} {σ : St} {H : Hp} {s s' : Shared}
theorem Inv.env0 (I : Inv X pins σ H s) : Env0 X.prog X.w X.K X.mg X.base X.A X.stack s H :=
  ⟨I.ok.frames, I.ok.mod, I.bs, Nat.le_trans I.ok.bsz I.sz, I.stack, I.stkFree, I.hok, I.bare⟩
theorem Inv.after {Q : VK} {u : Value} (I : Inv X pins σ H s) (h : CE X.stack X.prog X.w H s Q u s') : EP X pins σ Q u s' := by
  obtain ⟨v, H', os, bare, un, hok, r, q⟩ := h
  obtain ⟨hh, g, d, t, os'⟩ := s'
  obtain rfl : os' = s.os := os
  exact ⟨v, H', I.call (h' := hh) (g' := g) (d' := d) (t' := t) (ch := []) un hok bare (fun b z => absurd z (by simp)), r, q⟩
end
def tCall (sp : Sp) (dvs : List V) (E : XK) (t : TA) : TE := fun σ H Q => t σ H fun vs H1 => sp (vs ++ dvs) H1 Q E
def tMeth (C : Addr) (m : Str) (sp : Sp) (dvs : List V) (E : XK) (ta : TE) (t : TA) : TE := fun σ H Q => ta σ H fun x H1 => ∃ a dx fs, x = .ref a ∧ H1 a = some (.ins C dx fs) ∧ fs.lookup m = none ∧
  t σ H1 fun vs H2 => sp (x :: (vs ++ dvs)) H2 Q E
def tMake (C : Addr) (sp : Sp) (dvs : List V) (E : XK) (t : TA) : TE := fun σ H Q => t σ H fun vs H1 => ∀ x dx, H1 x = none → H1 dx = none → dx ≠ x →
  sp (.ref x :: (vs ++ dvs)) (upd (upd H1 dx (.own x)) x (.ins C dx [])) (fun v H2 => v = .non ∧ Q (.ref x) H2) E
def Binds (K : PySem.W.Frag) (fd : FuncData) (ps : List Str) (ds : List Value) : Prop :=
  ∀ (s : Shared) (us : List Value), K.In s.heap → (us ++ ds).length = ps.length → BindsTo s fd ⟨us, []⟩ (ps.zip (us ++ ds))
theorem Binds.all {K : PySem.W.Frag} {fd : FuncData} {ps : List Str} (h : ∀ us : List Value, us.length = ps.length → bindArgs fd ⟨us, []⟩ = pure (ps.zip us)) : Binds K fd ps [] := fun s us _ hl => by
  rw [List.append_nil] at hl ⊢
  exact .of_eq (h us hl)
def Passes (CX : CXT) (X : Cx) (E : XK) : Prop := ∀ (pins : List (Addr × Obj)) (σ : St) (H : Hp) (s : Shared) (e : Value) (s' : Shared), Inv X pins σ H s → CX X.stack H s E e s' → X.xe e s'
section
variable {X : Cx} {CX : CXT} {k : Nat} {f C : Addr} {fd : FuncData} {ps : List Str} {sp : Sp} {dvs : List V} {ds : List Value} {E : XK} {x m : Str} {p pos apos : Pos} {e o : Expr} {es : List Expr} {ta : TE} {t : TA}
theorem run_fn {pins : List (Addr × Obj)} {σ : St} {H : Hp} {s : Shared} {Q : VK} {us : List Value} {vs : List V} (F : FnOk X.prog X.w X.K X.mg X.base CX k f fd ps sp) (hr : Room k X.A) (hb : Binds X.K fd ps ds) (hd : Vals dvs ds) (hx : Passes CX X E)
    (I : Inv X pins σ H s) (r : Vals vs us) (h : sp (vs ++ dvs) H Q E) : wpAny (model X.prog X.w) X.A (call (.ref f) us) (EP X pins σ Q) X.xe s := by
  have r2 : Vals (vs ++ dvs) (us ++ ds) := r.append hd
  have hl : (us ++ ds).length = ps.length := by rw [← r2.length]; exact F.len _ _ _ _ h
  refine wpAny_call (codeAny_mono (F.run X.A X.stack s H ⟨us, []⟩ (us ++ ds) (vs ++ dvs) Q E hr I.env0 (hb s us I.kIn hl) r2 h) fun r s' hq => ?_)
  cases r with
  | error e => exact hx pins σ H s e s' I hq
  | ok fl =>
    cases fl with
    | ret u => exact I.after hq
    | next => exact False.elim hq
    | brk => exact False.elim hq
    | cont => exact False.elim hq
theorem pe_call (F : FnOk X.prog X.w X.K X.mg X.base CX k f fd ps sp) (hr : Room k X.A) (hg : Gl X x) (hm : X.mg x = some (.ref f)) (hk : PySem.W.keepIn X.K (.ref f) = true) (hb : Binds X.K fd ps ds) (hd : Vals dvs ds) (hx : Passes CX X E)
    (ha : PA X (e :: es) t) (hdb : (x == ("__debug__" : Str)) = false := by decide) (he : starEach (e :: es) X.env = (false, eval e X.env) :: starEach es X.env := by rfl) (hpl : (backTo pos (starEach es X.env)).any (·.1) = false := by rfl) :
    PE X (.Call (.Name x p) (e :: es) [] pos) (tCall sp dvs E t) := by
  intro pins s σ H Q I h
  refine wpAny_Call_Name_kw (ld_glob I hg hm ?_ hdb)
  refine PySem.W.callWith_K (h₀ := X.base) I.ok.mod.kin hk (thn (ha pos pins s σ H _ I h) fun us s1 ⟨vs, H1, I1, r, q⟩ => ⟨I1.kIn, ?_⟩) he hpl
  exact run_fn F hr hb hd hx I1 r q
theorem pe_call0 (F : FnOk X.prog X.w X.K X.mg X.base CX k f fd ps sp) (hr : Room k X.A) (hg : Gl X x) (hm : X.mg x = some (.ref f)) (hk : PySem.W.keepIn X.K (.ref f) = true) (hb : Binds X.K fd ps ds) (hd : Vals dvs ds) (hx : Passes CX X E)
    (hdb : (x == ("__debug__" : Str)) = false := by decide) : PE X (.Call (.Name x p) [] [] pos) (tCall sp dvs E tNil) := by
  intro pins s σ H Q I h
  refine wpAny_Call_Name_kw (ld_glob I hg hm ?_ hdb)
  exact PySem.W.callWith_K0 I.kIn hk (run_fn (us := []) F hr hb hd hx I .nil h)
theorem pe_meth {pl : Sem Bool} (he : PE X o ta) (c : Cls X.K C) (hm : Meth X.K C m f) (F : FnOk X.prog X.w X.K X.mg X.base CX k f fd ps sp) (hr : Room k X.A) (hb : Binds X.K fd ps ds) (hd : Vals dvs ds) (hx : Passes CX X E) (ha : PA X (e :: es) t)
    (hst : starEach (e :: es) X.env = (false, eval e X.env) :: starEach es X.env := by rfl) (hpl : (backTo pos (starEach es X.env)).any (·.1) = false := by rfl)
    (ht : eval (.Call (.Attribute o m apos) (e :: es) [] pos) X.env = (do
      let ov ← eval o X.env
      standAt apos.atName
      let (f, first) ← holding [ov] (getMethod ov m pl)
      callWith pos f first (backTo pos (starEach (e :: es) X.env)) (backToKw pos (keywordEach [] X.env))) := by rfl) :
    PE X (.Call (.Attribute o m apos) (e :: es) [] pos) (tMeth C m sp dvs E ta t) := by
  intro pins s σ H Q I h
  refine PySem.W.methodCall_KW (pl := pl) (thn (he pins s σ H _ I h) fun u s1 ⟨x, H1, I1, rx, a, dx, fs, ex, ea, l, q⟩ => ?_) ht
  subst ex
  obtain rfl : u = Value.ref a := rx
  refine getmeth_ok I1 ea c hm l ?_
  refine PySem.W.callWith_K (first := [.ref a]) (h₀ := X.base) I.ok.mod.kin hm.kp (thn (ha pos pins s1 σ H1 _ I1 q) fun us s2 ⟨vs, H2, I2, r, q2⟩ => ⟨I2.kIn, ?_⟩) hst hpl
  exact run_fn (us := .ref a :: us) (vs := .ref a :: vs) F hr hb hd hx I2 (.cons rfl r) q2
theorem pe_meth0 {pl : Sem Bool} (he : PE X o ta) (c : Cls X.K C) (hm : Meth X.K C m f) (F : FnOk X.prog X.w X.K X.mg X.base CX k f fd ps sp) (hr : Room k X.A) (hb : Binds X.K fd ps ds) (hd : Vals dvs ds) (hx : Passes CX X E)
    (ht : eval (.Call (.Attribute o m apos) [] [] pos) X.env = (do
      let ov ← eval o X.env
      standAt apos.atName
      let (f, first) ← holding [ov] (getMethod ov m pl)
      callWith pos f first (backTo pos (starEach [] X.env)) (backToKw pos (keywordEach [] X.env))) := by rfl) :
    PE X (.Call (.Attribute o m apos) [] [] pos) (tMeth C m sp dvs E ta tNil) := by
  intro pins s σ H Q I h
  refine PySem.W.methodCall_KW (pl := pl) (thn (he pins s σ H _ I h) fun u s1 ⟨x, H1, I1, rx, a, dx, fs, ex, ea, l, q⟩ => ?_) ht
  subst ex
  obtain rfl : u = Value.ref a := rx
  refine getmeth_ok I1 ea c hm l ?_
  exact PySem.W.callWith_K0 (first := [.ref a]) I1.kIn hm.kp (run_fn (us := [.ref a]) (vs := [.ref a]) F hr hb hd hx I1 (.cons rfl .nil) q)
structure Mk (K : PySem.W.Frag) (C f : Addr) : Prop where
  makes : PySem.W.makesIn K C = true
  init : PySem.W.findIn K (.ref C) "__init__" = some (some (.ref f))
  fn : PySem.W.isFn K (.ref f) = true
  kp : PySem.W.keepIn K (.ref C) = true
theorem run_make {pins : List (Addr × Obj)} {σ : St} {H : Hp} {s : Shared} {Q : VK} {us : List Value} {vs : List V} (M : Mk X.K C f) (F : FnOk X.prog X.w X.K X.mg X.base CX k f fd ps sp) (hr : Room (k + 1) X.A) (hb : Binds X.K fd ps ds) (hd : Vals dvs ds)
    (hx : Passes CX X E) (I : Inv X pins σ H s) (r : Vals vs us)
    (h : ∀ x dx, H x = none → H dx = none → dx ≠ x → sp (.ref x :: (vs ++ dvs)) (upd (upd H dx (.own x)) x (.ins C dx [])) (fun v H2 => v = .non ∧ Q (.ref x) H2) E) :
    wpAny (model X.prog X.w) X.A (call (.ref C) us) (EP X pins σ Q) X.xe s := by
  have hq := h (s.heap.objs.size + 1) s.heap.objs.size (I.hok.fresh (Nat.le_succ _)) (I.hok.fresh (Nat.le_refl _)) (Nat.ne_of_lt (Nat.lt_succ_self _))
  have I2 := Inv.made (C := C) I
  have r2 : Vals (V.ref (s.heap.objs.size + 1) :: (vs ++ dvs)) (Value.ref (s.heap.objs.size + 1) :: (us ++ ds)) := .cons rfl (r.append hd)
  have hl : (Value.ref (s.heap.objs.size + 1) :: us ++ ds).length = ps.length := by
    have e := r2.length
    rw [F.len _ _ _ _ hq] at e
    exact e.symm
  refine wpAny_call (make_map (f := f) I.kIn M.makes M.init (beq_iff_eq.mp M.fn) (codeAny_mono (F.run _ X.stack _ _ ⟨Value.ref (s.heap.objs.size + 1) :: us, []⟩ (Value.ref (s.heap.objs.size + 1) :: (us ++ ds)) _ _ E (hr.make C us [])
    (I2.env0.make C us []) (hb _ (Value.ref (s.heap.objs.size + 1) :: us) I2.kIn hl) r2 hq) fun r s' hq' => ?_))
  cases r with
  | error e => exact hx pins σ _ _ e s' I2 hq'
  | ok fl =>
    cases fl with
    | ret u =>
      obtain ⟨v, H', I3, rv, ev, q3⟩ := I2.after hq'
      subst ev
      exact ⟨rv, ⟨V.ref (s.heap.objs.size + 1), H', I3, rfl, q3⟩⟩
    | next => exact False.elim hq'
    | brk => exact False.elim hq'
    | cont => exact False.elim hq'
theorem pe_make (M : Mk X.K C f) (F : FnOk X.prog X.w X.K X.mg X.base CX k f fd ps sp) (hr : Room (k + 1) X.A) (hg : Gl X x) (hm : X.mg x = some (.ref C)) (hb : Binds X.K fd ps ds) (hd : Vals dvs ds) (hx : Passes CX X E)
    (ha : PA X (e :: es) t) (hdb : (x == ("__debug__" : Str)) = false := by decide) (he : starEach (e :: es) X.env = (false, eval e X.env) :: starEach es X.env := by rfl) (hpl : (backTo pos (starEach es X.env)).any (·.1) = false := by rfl) :
    PE X (.Call (.Name x p) (e :: es) [] pos) (tMake C sp dvs E t) := by
  intro pins s σ H Q I h
  refine wpAny_Call_Name_kw (ld_glob I hg hm ?_ hdb)
  refine PySem.W.callWith_K (h₀ := X.base) I.ok.mod.kin M.kp (thn (ha pos pins s σ H _ I h) fun us s1 ⟨vs, H1, I1, r, q⟩ => ⟨I1.kIn, ?_⟩) he hpl
  exact run_make M F hr hb hd hx I1 r q
theorem pe_make0 (M : Mk X.K C f) (F : FnOk X.prog X.w X.K X.mg X.base CX k f fd ps sp) (hr : Room (k + 1) X.A) (hg : Gl X x) (hm : X.mg x = some (.ref C)) (hb : Binds X.K fd ps ds) (hd : Vals dvs ds) (hx : Passes CX X E)
    (hdb : (x == ("__debug__" : Str)) = false := by decide) : PE X (.Call (.Name x p) [] [] pos) (tMake C sp dvs E tNil) := by
  intro pins s σ H Q I h
  refine wpAny_Call_Name_kw (ld_glob I hg hm ?_ hdb)
  exact PySem.W.callWith_K0 I.kIn M.kp (run_make (us := []) M F hr hb hd hx I .nil h)
end
def PK (X : Cx) (kws : List Keyword) (t : TA) : Prop :=
  ∀ (pos : Pos) (pins : List (Addr × Obj)) (s : Shared) (σ : St) (H : Hp) (Q : List V → Hp → Prop), Inv X pins σ H s → t σ H Q → wpAny (model X.prog X.w) X.A (evalAll ((backToKw pos (keywordEach kws X.env)).map (·.2))) (AP X pins σ Q) X.xe s
section
variable {X : Cx} {CX : CXT} {k : Nat} {f C : Addr} {fd : FuncData} {ps ks : List Str} {sp : Sp} {E : XK} {x m : Str} {p pos apos kpos : Pos} {e o : Expr} {es : List Expr} {kws : List Keyword} {te ta : TE} {t tk : TA} {nm : Option Str}
structure KBinds (K : PySem.W.Frag) (fd : FuncData) (ps ks : List Str) (g : List Value → List Value → List Value) (gV : List V → List V → List V) : Prop where
  to : ∀ (s : Shared) (us ws : List Value), K.In s.heap → (g us ws).length = ps.length → BindsTo s fd ⟨us, ks.zip ws⟩ (ps.zip (g us ws))
  rel : ∀ {vs : List V} {us : List Value} {zs : List V} {ws : List Value}, Vals vs us → Vals zs ws → Vals (gV vs zs) (g us ws)
def tCallK (sp : Sp) (gV : List V → List V → List V) (E : XK) (t tk : TA) : TE := fun σ H Q => t σ H fun vs H1 => tk σ H1 fun zs H2 => sp (gV vs zs) H2 Q E
variable {g : List Value → List Value → List Value} {gV : List V → List V → List V}
end
structure FnScope (N P : List Str) (sc : Scope) : Prop where
  kind : sc.kind = .function
  co : sc.isCoroutine = false
  gen : sc.isGenerator = false
  nd : N.Nodup
  pre : N.take P.length = P
  par : ∀ x ∈ P, sc.names.lookup x = some .local ∨ sc.names.lookup x = some .cell
  nofree : ∀ y ∈ sc.names, y.2 ≠ .free
theorem bindL_out {kindOf : Str → Option NameKind} {x : Str} : ∀ {binds : List (Str × Value)} {m : Str → Option Value}, (∀ v, (x, v) ∉ binds) → bindL kindOf binds m x = m x
  | [], _, _ => rfl
  | (n, v) :: r, m, h => by
    unfold bindL
    rw [bindL_out fun w hw => h w (List.mem_cons_of_mem _ hw)]
    split
    · have : x ≠ n := by rintro rfl; exact h v List.mem_cons_self
      simp [this]
    · rfl
theorem bindC_out {kindOf : Str → Option NameKind} {x : Str} : ∀ {binds : List (Str × Value)} {m : Str → Option Value}, (∀ v, (x, v) ∉ binds) → bindC kindOf binds m x = m x
  | [], _, _ => rfl
  | (n, v) :: r, m, h => by
    unfold bindC
    rw [bindC_out fun w hw => h w (List.mem_cons_of_mem _ hw)]
    split
    · rfl
    · have : x ≠ n := by rintro rfl; exact h v List.mem_cons_self
      simp [this]
theorem bindL_get {kindOf : Str → Option NameKind} {x : Str} {v : Value} : ∀ {P : List Str} {vs : List Value} {i : Nat} {m : Str → Option Value}, P.Nodup → P[i]? = some x → vs[i]? = some v → kindOf x = some .local →
    bindL kindOf (P.zip vs) m x = some v
  | [], _, _, _, _, h, _, _ => by simp at h
  | _ :: _, [], _, _, _, _, h, _ => by simp at h
  | p :: P, w :: vs, 0, m, nd, h1, h2, hk => by
    simp at h1 h2; subst h1; subst h2
    show bindL kindOf ((p, w) :: P.zip vs) m p = _
    unfold bindL
    rw [bindL_out fun v hv => (List.nodup_cons.mp nd).1 (List.of_mem_zip hv).1, if_pos hk]
    simp
  | p :: P, w :: vs, i + 1, m, nd, h1, h2, hk => by
    show bindL kindOf ((p, w) :: P.zip vs) m x = _
    unfold bindL
    exact bindL_get (i := i) (List.nodup_cons.mp nd).2 (by simpa using h1) (by simpa using h2) hk
theorem bindC_get {kindOf : Str → Option NameKind} {x : Str} {v : Value} : ∀ {P : List Str} {vs : List Value} {i : Nat} {m : Str → Option Value}, P.Nodup → P[i]? = some x → vs[i]? = some v → kindOf x ≠ some .local →
    bindC kindOf (P.zip vs) m x = some v
  | [], _, _, _, _, h, _, _ => by simp at h
  | _ :: _, [], _, _, _, _, h, _ => by simp at h
  | p :: P, w :: vs, 0, m, nd, h1, h2, hk => by
    simp at h1 h2; subst h1; subst h2
    show bindC kindOf ((p, w) :: P.zip vs) m p = _
    unfold bindC
    rw [bindC_out fun v hv => (List.nodup_cons.mp nd).1 (List.of_mem_zip hv).1, if_neg hk]
    simp
  | p :: P, w :: vs, i + 1, m, nd, h1, h2, hk => by
    show bindC kindOf ((p, w) :: P.zip vs) m x = _
    unfold bindC
    exact bindC_get (i := i) (List.nodup_cons.mp nd).2 (by simpa using h1) (by simpa using h2) hk
def start (N : List Str) (vs : List V) : St := vs.map some ++ List.replicate (N.length - vs.length) none
def cxOf (CX : CXT) (P : Program) (w : World) (K : PySem.W.Frag) (mg : Str → Option Value) (base : Heap) (N : List Str) (qual : Str) (scope : Scope) (f : Addr) (cd : Value) (A : Around) (outer : List Env) (s : Shared) (H : Hp) (E : XK) : Cx where
  prog := P
  w := w
  K := K
  mg := mg
  base := base
  A := A.deeper (envOfC qual scope s.heap.objs.size f cd)
  N := N
  s_0 := s
  H_0 := H
  env := envOfC qual scope s.heap.objs.size f cd
  outer := outer
  stack := envOfC qual scope s.heap.objs.size f cd :: outer
  ex := []
  calm := true
  fn := fun _ => true
  pn := []
  xe := fun e s' => wpAny (model P w) (A.deeper (envOfC qual scope s.heap.objs.size f cd)) (leaving (envOfC qual scope s.heap.objs.size f cd) e) (fun _ s'' => CX outer H s E e s'') (fun e' s'' => CX outer H s E e' s'') s'
theorem cell_has {sc : Scope} {n : Nat} {x : Str} (h : sc.names.lookup x = some .cell) : ∃ c, (cellsFrom n sc.names []).lookup x = some c := by
  have q := PySem.W.cellsFrom_some sc.names n [] (.inl h)
  exact Option.isSome_iff_exists.mp q
theorem inv_start {CX : CXT} {P : Program} {w : World} {K : PySem.W.Frag} {mg : Str → Option Value} {base : Heap} {N ps : List Str} {qual : Str} {scope : Scope} {f : Addr} {cd : Value} {A : Around} {outer : List Env} {s s1 : Shared} {H : Hp} {E : XK} {us : List Value} {vs : List V}
    (S : FnScope N ps scope) (hd : A.handled = none) (e0 : Env0 P w K mg base A outer s H) (hl : vs.length = ps.length) (r : Vals vs us)
    (x : InCallC s s.heap.objs.size (bindL (envOfC qual scope s.heap.objs.size f cd).kindOf (ps.zip us) fun _ => none) (cellsFrom (s.heap.objs.size + 1) scope.names []) (bindC (envOfC qual scope s.heap.objs.size f cd).kindOf (ps.zip us) fun _ => none) s1) :
    Inv (cxOf CX P w K mg base N qual scope f cd A outer s H E) [] (start N vs) H s1 := by
  have hpl : ps.length ≤ N.length := by have := congrArg List.length S.pre; rw [List.length_take] at this; omega
  obtain ⟨h1, tk, rfl, hk⟩ := x.done
  have noA : ∀ b : Addr, b ∉ (cxOf CX P w K mg base N qual scope f cd A outer s H E).ex := fun b z => absurd (show b ∈ ([] : List Addr) from z) (by simp)
  refine ⟨⟨e0.mod, S.kind, rfl, rfl, Nat.le_refl _, fun y z c h1 h2 => ?_, fun y hy => ?_, fun y c _ h => ?_, fun _ => hd, Around.frames_deeper e0.frames, .inr ⟨rfl, rfl⟩, fun b z => absurd z (noA b), e0.bs, e0.bsz, fun b _ _ => noA b, fun b z => absurd z (noA b), e0.funs, e0.frf⟩,
    rfl, e0.bare, Un.kept hk, ⟨_, x.toInCall.ns, fun i y v h1 h2 h3 => ?_⟩, fun y c h => ⟨_, x.cell y c h⟩, e0.hok.fresh (Nat.le_refl _), fun y c h => ?_, fun p hp => absurd (show p ∈ ([] : List (Addr × Obj)) from hp) (by simp), e0.hok.kept hk, ?_⟩
  · exact name_of_addr x.apart (PySem.mem_of_lookup h1) (PySem.mem_of_lookup h2)
  · have hy : scope.names.lookup y = some .cell ∨ scope.names.lookup y = some .free := hy
    rcases hy with hy | hy
    · exact cell_has hy
    · exact absurd rfl (S.nofree _ (PySem.mem_of_lookup hy))
  · exact Nat.le_of_lt (x.above y c (PySem.mem_of_lookup h))
  · have hi : i < vs.length := by
      unfold start at h2
      by_cases hi : i < vs.length
      · exact hi
      · rw [List.getElem?_append_right (by simpa using hi)] at h2
        rw [List.getElem?_replicate] at h2
        split at h2 <;> cases h2
    have ha : vs[i]? = some v := by
      unfold start at h2
      rw [List.getElem?_append_left (by simpa using hi), List.getElem?_map] at h2
      cases e : vs[i]? with
      | none => rw [e] at h2; cases h2
      | some a => rw [e] at h2; cases h2; rfl
    obtain ⟨u, hu, rv⟩ := r.get ha
    have hp : ps[i]? = some y := by
      rw [← S.pre, List.getElem?_take_of_lt (by omega)]; exact h1
    have ndP : ps.Nodup := by rw [← S.pre]; exact S.nd.sublist (List.take_sublist _ _)
    refine ⟨u, rv, ?_⟩
    rcases S.par y (List.mem_of_getElem? hp) with k | k
    · exact .inl ⟨k, bindL_get ndP hp hu k⟩
    · obtain ⟨c, e⟩ := cell_has (n := s.heap.objs.size + 1) k
      refine .inr ⟨.inl k, c, e, ?_⟩
      have q := x.cell y c e
      rw [bindC_get ndP hp hu (by show scope.names.lookup y ≠ _; rw [k]; decide)] at q
      exact q
  · exact e0.hok.fresh (Nat.le_of_lt (x.above y c (PySem.mem_of_lookup h)))
  · unfold start
    show _ = N.length
    rw [List.length_append, List.length_map, List.length_replicate]
    omega
theorem fn_of {CX : CXT} {P : Program} {w : World} {K : PySem.W.Frag} {mg : Str → Option Value} {base : Heap} {k : Nat} {f : Addr} {name qual : Str} {params : Arguments} {body : List Stmt} {scope : Scope} {dV kV doc pm cdv ct oc : Value} {an od : Option Addr}
    {osl : Array (Option Value)} {N ps : List Str} {sp : Sp} (lk : K.lookup f = some ⟨oc, od, .func (PySem.W.fnOf name qual params body scope dV kV doc pm an cdv ct), osl⟩) (hcd : PySem.W.codeIn K cdv qual = true) (S : FnScope N ps scope)
    (len : ∀ vs H Q E, sp vs H Q E → vs.length = ps.length)
    (hbody : ∀ (A : Around) (outer : List Env) (s : Shared) (H : Hp) (vs : List V) (Q : VK) (E : XK), Room k (A.deeper (envOfC qual scope s.heap.objs.size f cdv)) → sp vs H Q E →
      ∃ t, PSs (cxOf CX P w K mg base N qual scope f cdv A outer s H E) body t ∧ t { nx := fun _ H' => Q .non H', rt := Q } (start N vs) H) :
    FnOk P w K mg base CX (k + 1) f (PySem.W.fnOf name qual params body scope dV kV doc pm an cdv ct) ps sp := by
  refine ⟨len, fun A outer s H args us vs Q E hr e0 hb r hsp => ?_⟩
  have hl := len _ _ _ _ hsp
  have KX : K.In s.heap := e0.mod.kin.keeps fun b o e => (e0.bs b o e).1
  have lim : s.heap.NoLimit := e0.mod.nolimit.keeps fun b o e => (e0.bs b o e).1
  have hkind : ∀ y ∈ ps.zip us, scope.names.lookup y.1 = some .local ∨ (scope.names.lookup y.1 = some .cell ∧ ((cellsFrom (s.heap.objs.size + 1) scope.names []).lookup y.1).isSome = true) := fun ⟨n, v⟩ hy => by
    rcases S.par n (List.of_mem_zip hy).1 with q | q
    · exact .inl q
    · exact .inr ⟨q, PySem.W.cellsFrom_some _ _ _ (.inl q)⟩
  refine codeAny_call_function hr.depth (KX _ _ lk) rfl S.co S.gen rfl (PySem.W.codeRec_of KX hcd) (hb _ _ _ _ ?_)
  refine wpAny_newFunctionEnv_cells S.kind hkind fun env he s1 x => ?_
  subst he
  refine ⟨lim.keeps x.toInCall.keep, codeAny_func ?_⟩
  obtain ⟨t, ht, hq⟩ := hbody A outer s H vs Q E (hr.deeper _) hsp
  have I : Inv (cxOf CX P w K mg base N qual scope f cdv A outer s H E) [] (start N vs) H s1 := inv_start S hr.hd e0 hl r x
  refine wpAny_mono (ht [] s1 (start N vs) H _ I hq) (fun fl s' hs => ?_) fun e s' hs => hs
  have fin : ∀ {σ' : St} {H' : Hp} {v : V} {u : Value}, Inv (cxOf CX P w K mg base N qual scope f cdv A outer s H E) [] σ' H' s' → RelV v u → Q v H' → CE outer P w H s Q u s' :=
    fun {σ' H' v u} J rv q => ⟨v, H', J.os, J.bare, J.base, J.hok, rv, q⟩
  cases fl with
  | ret u =>
    obtain ⟨v, σ', H', J, rv, q⟩ := hs
    exact fin J rv q
  | next =>
    obtain ⟨σ', H', J, q⟩ := hs
    exact fin (v := V.non) (u := Value.none) J rfl q
  | brk =>
    obtain ⟨_, _, _, q⟩ := hs
    exact False.elim q
  | cont =>
    obtain ⟨_, _, _, q⟩ := hs
    exact False.elim q
end L2
namespace L2
open PySem PySem.Spec PyProof.Rows
section
variable {X : Cx} {x : Str} {p pos : Pos} {e : Expr} {es : List Expr} {t : TA} {id T : String} {r : List V → Hp → VK → Prop}
def tCB (r : List V → Hp → VK → Prop) (t : TA) : TE := fun σ H Q => t σ H fun vs H1 => r vs H1 Q
theorem pe_callB (hc : CallR X (.builtin id) r) (hg : Gl X x) (hm : X.mg x = none) (hv : bootBuiltins x = some (.builtin id)) (ha : PA X (e :: es) t) (hn : x ≠ "__name__" := by decide) (hdb : (x == ("__debug__" : Str)) = false := by decide)
    (he : starEach (e :: es) X.env = (false, eval e X.env) :: starEach es X.env := by rfl) (hpl : (backTo pos (starEach es X.env)).any (·.1) = false := by rfl) : PE X (.Call (.Name x p) (e :: es) [] pos) (tCB r t) := by
  intro pins s σ H Q I h
  refine wpAny_Call_Name_kw (ld_blt I hg hm hv ?_ hn hdb)
  exact PyProof.Rows.callWith_builtin1 (thn (ha pos pins s σ H _ I h) fun us s1 ⟨vs, H1, I1, r1, q1⟩ => hc pins s1 σ H1 vs us Q I1 r1 q1) he hpl
theorem pe_callTy (hc : CallR X (.type T) r) (hg : Gl X x) (hm : X.mg x = none) (hv : bootBuiltins x = some (.type T)) (ha : PA X (e :: es) t) (hn : x ≠ "__name__" := by decide) (hdb : (x == ("__debug__" : Str)) = false := by decide)
    (he : starEach (e :: es) X.env = (false, eval e X.env) :: starEach es X.env := by rfl) (hpl : (backTo pos (starEach es X.env)).any (·.1) = false := by rfl) : PE X (.Call (.Name x p) (e :: es) [] pos) (tCB r t) := by
  intro pins s σ H Q I h
  refine wpAny_Call_Name_kw (ld_blt I hg hm hv ?_ hn hdb)
  exact PyProof.Rows.callWith_type1 (thn (ha pos pins s σ H _ I h) fun us s1 ⟨vs, H1, I1, r1, q1⟩ => hc pins s1 σ H1 vs us Q I1 r1 q1) he hpl
end
end L2
namespace HT
open PySem PyProof.Rows
def lexLt : List Int → List Int → Bool
  | [], [] => false
  | [], _ :: _ => true
  | _ :: _, [] => false
  | x :: xs, y :: ys => if x = y then lexLt xs ys else decide (x < y)
section
open PySem.SeqAt
open PySem.AutoSeq1 (wpAny_loadPart')
open PySem.MeetsSeq PySem.MeetsSeq2 PySem.MeetsSeq3
end
section
variable {prog : Program} {w : World} {A : Around} {E : Value → Shared → Prop} {s : Shared}
def sIx (n d : Nat) : Option Int → Nat
  | none => d
  | some v => if v < 0 then (v + (n : Int)).toNat else min v.toNat n
theorem sIx_none (n d : Nat) : sIx n d none = d := rfl
theorem sIx_nat (n d k : Nat) : sIx n d (some (k : Int)) = min k n := by
  show (if (k : Int) < 0 then ((k : Int) + (n : Int)).toNat else min (k : Int).toNat n) = min k n
  rw [if_neg (by omega), Int.toNat_natCast]
end
end HT
namespace L2
open PySem PySem.Spec PyProof.Rows
abbrev TO := St → Hp → (Option Int → Hp → Prop) → Prop
def PO (X : Cx) (e : Option Expr) (t : TO) : Prop :=
  ∀ (pins : List (Addr × Obj)) (s : Shared) (σ : St) (H : Hp) (Q : Option Int → Hp → Prop), Inv X pins σ H s → t σ H Q →
    wpAny (model X.prog X.w) X.A (evalPart e X.env) (fun u s' => ∃ o H', Inv X pins σ H' s' ∧ IsPart u o ∧ Q o H') X.xe s
def tNoPart : TO := fun _ H Q => Q none H
def tPart (t : TE) : TO := fun σ H Q => t σ H fun x H1 => ∃ i, x = .int i ∧ Q (some i) H1
section
variable {X : Cx} {e : Expr} {te : TE} {lo hi : Option Expr} {tl th : TO} {pos p2 : Pos}
theorem po_none : PO X none tNoPart := by
  intro pins s σ H Q I h
  rw [evalPart_none]
  exact wpAny_pure ⟨none, H, I, .none, h⟩
theorem po_some (h : PE X e te) : PO X (some e) (tPart te) := by
  intro pins s σ H Q I hw
  rw [evalPart_some]
  refine thn (h pins s σ H _ I hw) fun u s1 ⟨x, H1, I1, r1, q1⟩ => ?_
  obtain ⟨i, rfl, q⟩ := q1
  obtain ⟨t, rfl⟩ := r1
  exact ⟨some i, H1, I1, .int i t, q⟩
def SlR (X : Cx) (r : V → Option Int → Option Int → Hp → VK → Prop) : Prop :=
  ∀ (pins : List (Addr × Obj)) (s : Shared) (σ : St) (H : Hp) (x : V) (v vl vu : Value) (lo hi : Option Int) (sl : Addr) (Q : VK), Inv X pins σ H s → RelV x v → s.heap.IsSliceOf sl vl vu .none → IsPart vl lo → IsPart vu hi → r x lo hi H Q →
    ∃ T id, typeLookup (.type T) "__getitem__" = pure (some (.builtin id)) ∧ s.TypeIs v T ∧ wpAny (model X.prog X.w) X.A (getItem v (.ref sl)) (EP X pins σ Q) X.xe s
theorem SlR.or {r r' : V → Option Int → Option Int → Hp → VK → Prop} (h : SlR X r) (h' : SlR X r') : SlR X (fun x lo hi H Q => r x lo hi H Q ∨ r' x lo hi H Q) := by
  intro pins s σ H x v vl vu lo hi sl Q I rx hs pl pu q
  rcases q with q | q
  · exact h pins s σ H x v vl vu lo hi sl Q I rx hs pl pu q
  · exact h' pins s σ H x v vl vu lo hi sl Q I rx hs pl pu q
def tSl (r : V → Option Int → Option Int → Hp → VK → Prop) (te : TE) (tl th : TO) : TE := fun σ H Q => te σ H fun x H1 => tl σ H1 fun l H2 => th σ H2 fun u H3 => r x l u H3 Q
theorem pe_slice {r : V → Option Int → Option Int → Hp → VK → Prop} (hr : SlR X r) (he : PE X e te) (hl : PO X lo tl) (hu : PO X hi th) : PE X (.Subscript e (.Slice lo hi none p2) pos) (tSl r te tl th) := by
  intro pins s σ H Q I h
  refine Subscript_ (thn (he pins s σ H _ I h) fun v s1 ⟨x, H1, I1, r1, q1⟩ => ?_)
  refine wpAny_Slice (thn (hl pins s1 σ H1 _ I1 q1) fun vl s2 ⟨l, H2, I2, pl, q2⟩ => thn (hu pins s2 σ H2 _ I2 q2) fun vu s3 ⟨u, H3, I3, pu, q3⟩ => ?_)
  rw [evalPart_none]
  refine wpAny_pure ?_
  have I4 : Inv X pins σ H3 { s3 with heap := s3.heap.push { cls := .type "slice", data := .fields #[vl, vu, .none] } } := I3.kept (t' := s3.toks) fun b ob q => Heap.get?_push_of_some _ q
  obtain ⟨T, id, hT, ht, hg⟩ := hr pins { s3 with heap := s3.heap.push { cls := .type "slice", data := .fields #[vl, vu, .none] } } σ H3 x v vl vu l u s3.heap.objs.size Q I4 r1 (Heap.IsSliceOf.new ..) pl pu q3
  show wpAny (model X.prog X.w) X.A (subscriptTail e (.Slice lo hi none p2) v (.ref s3.heap.objs.size)) (EP X pins σ Q) X.xe { s3 with heap := s3.heap.push { cls := .type "slice", data := .fields #[vl, vu, .none] } }
  exact tail_any (ops := [.ref s3.heap.objs.size, v]) ht hT hg (by with_unfolding_all rfl)
def cutV (xs : List V) (lo hi : Option Int) : List V := (xs.drop (HT.sIx xs.length 0 lo)).take (HT.sIx xs.length xs.length hi - HT.sIx xs.length 0 lo)
theorem cutV_length (xs : List V) (lo hi : Option Int) : (cutV xs lo hi).length ≤ xs.length := by
  unfold cutV
  rw [List.length_take, List.length_drop]
  omega
def rSlT (K : PySem.W.Frag) : V → Option Int → Option Int → Hp → VK → Prop := fun x lo hi H Q => ∃ a xs, x = .ref a ∧ SqT K H a xs ∧
  ¬ (HT.sIx xs.length 0 lo = 0 ∧ HT.sIx xs.length xs.length hi = xs.length) ∧ ∀ p, H p = none → Q (.ref p) (upd H p (.tup (cutV xs lo hi)))
def rLtT (K : PySem.W.Frag) : R2 := fun x y H Q => ∃ a b ns ms, x = .ref a ∧ y = .ref b ∧ SqT K H a (ns.map V.int) ∧ SqT K H b (ms.map V.int) ∧ Q (.bl (HT.lexLt ns ms)) H
def rCatT (K : PySem.W.Frag) : R2 := fun x y H Q => ∃ a b xs ys, x = .ref a ∧ y = .ref b ∧ SqT K H a xs ∧ SqT K H b ys ∧ xs ≠ [] ∧ xs.length + ys.length ≤ sizeLine ∧
  (ys = [] → Q (.ref a) H) ∧ (ys ≠ [] → ∀ p, H p = none → Q (.ref p) (upd H p (.tup (xs ++ ys))))
end
end L2
namespace L2
open PySem PySem.Spec PyProof.Rows
def ixN (n : Nat) (i : Int) : Option Nat := if 0 ≤ i then (if i < n then some i.toNat else none) else if -(n : Int) ≤ i then some (i + n).toNat else none
def atI {α : Type} (xs : List α) (i : Int) : Option α := (ixN xs.length i).bind fun j => xs[j]?
theorem ixN_seq {n : Nat} {i : Int} {j : Nat} (h : ixN n i = some j) : seqIndex? i n = some j ∧ j < n ∧ -(n : Int) ≤ i ∧ i < n := by
  unfold ixN at h
  by_cases h0 : 0 ≤ i
  · rw [if_pos h0] at h
    by_cases h1 : i < n
    · rw [if_pos h1] at h
      have e : i.toNat = j := Option.some.inj h
      exact ⟨by rw [seqIndex_of h0 h1, e], by omega, by omega, h1⟩
    · rw [if_neg h1] at h; cases h
  · rw [if_neg h0] at h
    by_cases h1 : -(n : Int) ≤ i
    · rw [if_pos h1] at h
      have e : (i + n).toNat = j := Option.some.inj h
      exact ⟨by rw [seqIndex_neg (by omega) h1, e], by omega, h1, by omega⟩
    · rw [if_neg h1] at h; cases h
theorem atI_get {α : Type} {xs : List α} {i : Int} {v : α} (h : atI xs i = some v) : ∃ j, seqIndex? i xs.length = some j ∧ xs[j]? = some v ∧ j < xs.length ∧ -(xs.length : Int) ≤ i ∧ i < xs.length := by
  unfold atI at h
  cases e : ixN xs.length i with
  | none => rw [e] at h; cases h
  | some j =>
    rw [e] at h
    obtain ⟨h1, h2, h3, h4⟩ := ixN_seq e
    exact ⟨j, h1, h, h2, h3, h4⟩
theorem atI_nat {α : Type} {xs : List α} {j : Nat} {v : α} (h : xs[j]? = some v) : atI xs (j : Int) = some v := by
  have hj : j < xs.length := (List.getElem?_eq_some_iff.mp h).1
  have e : ixN xs.length (j : Int) = some j := by
    unfold ixN
    rw [if_pos (by omega), if_pos (by omega)]; simp
  unfold atI; rw [e]; exact h
def PlainIx (b : Expr) : Prop := ∀ o i, subscripted b false o i = operate [o, i] (getItem o i)
def IxR (X : Cx) (r : R2) : Prop :=
  ∀ (value slice : Expr) (pins : List (Addr × Obj)) (s : Shared) (σ : St) (H : Hp) (x y : V) (v u : Value) (Q : VK), Inv X pins σ H s → RelV x v → RelV y u → r x y H Q →
    subscripted slice false v u = operate [v, u] (getItem v u) → wpAny (model X.prog X.w) X.A (subscriptTail value slice v u) (EP X pins σ Q) X.xe s
def MtR (X : Cx) (id : String) (r : V → List V → Hp → VK → Prop) : Prop :=
  ∀ (pins : List (Addr × Obj)) (s : Shared) (σ : St) (H : Hp) (x : V) (xs : List V) (v : Value) (us : List Value) (Q : VK), Inv X pins σ H s → RelV x v → Vals xs us → r x xs H Q →
    wpAny (model X.prog X.w) X.A (call (.builtin id) (v :: us)) (EP X pins σ Q) X.xe s
section
variable {X : Cx} {a b : Expr} {ta tb : TE} {pos : Pos}
theorem IxR.or {r r' : R2} (h : IxR X r) (h' : IxR X r') : IxR X (fun x y H Q => r x y H Q ∨ r' x y H Q) := by
  intro value slice pins s σ H x y v u Q I rx ry q hs
  rcases q with q | q
  · exact h value slice pins s σ H x y v u Q I rx ry q hs
  · exact h' value slice pins s σ H x y v u Q I rx ry q hs
theorem MtR.or {id : String} {r r' : V → List V → Hp → VK → Prop} (h : MtR X id r) (h' : MtR X id r') : MtR X id (fun x xs H Q => r x xs H Q ∨ r' x xs H Q) := by
  intro pins s σ H x xs v us Q I rx rs q
  rcases q with q | q
  · exact h pins s σ H x xs v us Q I rx rs q
  · exact h' pins s σ H x xs v us Q I rx rs q
theorem pe_ix {r : R2} (hr : IxR X r) (ha : PE X a ta) (hb : PE X b tb) (hs : PlainIx b) : PE X (.Subscript a b pos) (tOp r ta tb) := by
  intro pins s σ H Q I h
  exact Subscript_ (binT ha hb I h fun v u s2 x y H2 I2 rx ry q => hr a b pins s2 σ H2 x y v u Q I2 rx ry q (hs _ _))
def rIxL (K : PySem.W.Frag) : R2 := fun x y H Q => ∃ p xs i v, x = .ref p ∧ y = .int i ∧ SqL K H p xs ∧ atI xs i = some v ∧ Q v H
def rIxT (K : PySem.W.Frag) : R2 := fun x y H Q => ∃ p xs i v, x = .ref p ∧ y = .int i ∧ SqT K H p xs ∧ atI xs i = some v ∧ Q v H
def rIxS : R2 := fun x y H Q => ∃ z i c, x = .str z ∧ y = .int i ∧ z.length ≤ sizeLine ∧ atI z.cps.toList i = some c ∧ Q (.str ⟨#[c]⟩) H
theorem ix_list : IxR X (rIxL X.K) := by
  intro value slice pins s σ H x y v u Q I rx ry h hs
  obtain ⟨p, xs, i, z, rfl, rfl, hq, he, q⟩ := h
  cases rx
  obtain ⟨t, rfl⟩ := ry
  obtain ⟨its, r, pl, hz⟩ := I.list hq
  obtain ⟨j, h1, h2, h3, h4, h5⟩ := atI_get he
  obtain ⟨w, ew, rw'⟩ := r.get h2
  have hl := r.length
  have hn := line63
  have fin : EP X pins σ Q w s := ⟨z, H, I, rw', q⟩
  by_cases h0 : 0 ≤ i
  · have hj : i.toNat = j := by
      rw [seqIndex_of h0 h5] at h1
      exact Option.some.inj h1
    exact item_listR pl.isList h0 (by omega) (by rw [hj]; simpa using ew) fin hs
  · have hj : (i + (its.toArray.size : Int)).toNat = j := by
      rw [seqIndex_neg (by omega) h4] at h1
      rw [List.size_toArray, ← hl]
      exact Option.some.inj h1
    exact subscriptTail_builtinR (x := w) pl.isList.typeIs slot_list_getitem.lookup
      (wpAny_getItem_list_neg (Q := fun r s' => r = w ∧ EP X pins σ Q r s') pl.isList (by omega) (by rw [List.size_toArray] <;> omega) (by omega) (by rw [hj]; simpa using ew) ⟨rfl, fin⟩) hs
def rIx (K : PySem.W.Frag) : R2 := fun x y H Q => rIxL K x y H Q ∨ rIxT K x y H Q ∨ rIxS x y H Q
theorem Inv.lst {pins : List (Addr × Obj)} {σ : St} {H : Hp} {s : Shared} {p : Addr} {xs : List V} (I : Inv X pins σ H s) (h : H p = some (.lst xs)) :
    ∃ (its : List Value) (n : Nat), Vals xs its ∧ s.heap.get? p = some { cls := .type "list", data := .seq its.toArray n } ∧ xs.length ≤ sizeLine := by
  obtain ⟨z, its, n, r, e⟩ := I.hok p _ h
  exact ⟨its, n, r, e, z⟩
def rSetL : V → V → V → Hp → (Hp → Prop) → Prop := fun o i v H Q => ∃ p xs k j, o = .ref p ∧ i = .int k ∧ H p = some (.lst xs) ∧ ixN xs.length k = some j ∧ Q (upd H p (.lst (xs.set j v)))
theorem slice_bounds (lo hi : Option Int) (n : Nat) : (sliceBounds lo hi none n).1 = ((HT.sIx n 0 lo : Nat) : Int) ∧ (sliceBounds lo hi none n).2.1 = ((HT.sIx n n hi : Nat) : Int) ∧ (sliceBounds lo hi none n).2.2 = 1 := by
  refine ⟨?_, ?_, rfl⟩
  · cases lo with
    | none => simp [sliceBounds, HT.sIx]
    | some i =>
      simp only [sliceBounds, HT.sIx, Option.getD_none, show (1 : Int) > 0 by decide, if_true]
      by_cases h : i < 0
      · simp only [h, if_true] <;> omega
      · simp only [h, if_false] <;> omega
  · cases hi with
    | none => simp [sliceBounds, HT.sIx]
    | some i =>
      simp only [sliceBounds, HT.sIx, Option.getD_none, show (1 : Int) > 0 by decide, if_true]
      by_cases h : i < 0
      · simp only [h, if_true] <;> omega
      · simp only [h, if_false] <;> omega
theorem slicePick_cut (its : List Value) (lo hi : Option Int) : slicePick its.toArray lo hi none = ((its.drop (HT.sIx its.length 0 lo)).take (HT.sIx its.length its.length hi - HT.sIx its.length 0 lo)).toArray := by
  obtain ⟨h1, h2, h3⟩ := slice_bounds lo hi its.toArray.size
  unfold slicePick
  rw [h1, h2, h3]
  simp only [sliceRange_one, pick_run, List.size_toArray] <;> rfl
def rSlL (K : PySem.W.Frag) : V → Option Int → Option Int → Hp → VK → Prop := fun x lo hi H Q => ∃ a xs, x = .ref a ∧ SqL K H a xs ∧ ∀ p, H p = none → Q (.ref p) (upd H p (.lst (cutV xs lo hi)))
theorem sl_list : SlR X (rSlL X.K) := by
  intro pins s σ H x v vl vu lo hi sl Q I rx hs pl pu h
  obtain ⟨a, xs, rfl, hx, q⟩ := h
  cases rx
  obtain ⟨its, r, ht, hz⟩ := I.list hx
  have hlen := r.length
  refine ⟨"list", _, slot_list_getitem.lookup, ht.isList.typeIs, ?_⟩
  refine wpAny_getItem_list_slice ht.isList hs pl pu .none (by simp) ?_ (by rw [List.size_toArray] <;> omega)
  rw [slicePick_cut, ← hlen]
  refine ⟨.ref s.heap.objs.size, _, I.laid (t' := s.toks) (o := .lst (cutV xs lo hi)) (fun b ob q => Heap.get?_push_of_some _ q) (Nat.le_refl _) ?_, rfl, q _ (I.hok.fresh (Nat.le_refl _))⟩
  exact ⟨Nat.le_trans (cutV_length xs lo hi) hz, _, 0, (r.drop (HT.sIx xs.length 0 lo)).take (HT.sIx xs.length xs.length hi - HT.sIx xs.length 0 lo), Heap.get?_push_size _ rfl⟩
def flatV : V → Bool
  | .non => true
  | .bl _ => true
  | .int _ => true
  | .str _ => true
  | _ => false
def eqV : V → V → Bool
  | .non, .non => true
  | .bl a, .bl b => a == b
  | .bl a, .int b => (if a then 1 else 0) == b
  | .int a, .bl b => a == (if b then 1 else 0)
  | .int a, .int b => a == b
  | .str a, .str b => a == b
  | _, _ => false
def eqU (x : V) (u : Value) : Bool := match u with
  | .none => eqV .non x
  | .bool b => eqV (.bl b) x
  | .int i _ => eqV (.int i) x
  | .str z _ => eqV (.str z) x
  | _ => false
def inV (x : V) (xs : List V) : Bool := xs.any fun y => eqV y x
def rIn (K : PySem.W.Frag) (neg : Bool) : R2 := fun x y H Q => ∃ p xs, y = .ref p ∧ (SqL K H p xs ∨ SqT K H p xs) ∧ flatV x = true ∧ xs.all flatV = true ∧ Q (.bl (if neg then !inV x xs else inV x xs)) H
theorem call_len_seq : CallR X (.builtin "len") (fun xs H Q => ∃ p ys, xs = [.ref p] ∧ (SqL X.K H p ys ∨ SqT X.K H p ys) ∧ Q (.int ys.length) H) := by
  intro pins s σ H xs us Q I r h
  obtain ⟨p, ys, rfl, hq, q⟩ := h
  obtain ⟨u, rfl, rx⟩ := vals1 r
  cases rx
  have hn := line63
  rcases hq with hq | hq
  · obtain ⟨its, r', pl, hz⟩ := I.list hq
    have hlen := r'.length
    exact Calls.call_len_list pl.isList (by simp only [List.size_toArray] <;> omega) ⟨.int ys.length, H, I.tok _, ⟨s.toks + 1, by rw [List.size_toArray, hlen]⟩, q⟩
  · obtain ⟨its, r', pl, hz⟩ := I.tuple hq
    have hlen := r'.length
    exact len_tuple pl (by simp only [List.size_toArray] <;> omega) ⟨.int ys.length, H, I.tok _, ⟨s.toks + 1, by rw [List.size_toArray, hlen]⟩, q⟩
theorem CallR.or {f : Value} {r r' : List V → Hp → VK → Prop} (h : CallR X f r) (h' : CallR X f r') : CallR X f (fun xs H Q => r xs H Q ∨ r' xs H Q) := by
  intro pins s σ H xs us Q I rs q
  rcases q with q | q
  · exact h pins s σ H xs us Q I rs q
  · exact h' pins s σ H xs us Q I rs q
theorem call_list_of : CallR X (.type "list") (fun xs H Q => ∃ p ys, xs = [.ref p] ∧ (SqL X.K H p ys ∨ SqT X.K H p ys) ∧ ∀ l, H l = none → Q (.ref l) (upd H l (.lst ys))) := by
  intro pins s σ H xs us Q I r h
  obtain ⟨p, ys, rfl, hq, q⟩ := h
  obtain ⟨u, rfl, rx⟩ := vals1 r
  cases rx
  have fin : ∀ (its : List Value), Vals ys its → ys.length ≤ sizeLine → ∀ (h' : Heap) (c' : Nat), (∀ b o', s.heap.get? b = some o' → h'.get? b = some o') →
      h'.get? s.heap.objs.size = some { cls := .type "list", dict := none, data := .seq its.toArray c', slots := #[] } → EP X pins σ Q (.ref s.heap.objs.size) { s with heap := h' } := fun its r' hz h' c' kp e =>
    ⟨.ref s.heap.objs.size, _, I.laid (t' := s.toks) kp (Nat.le_refl _) (show ObjOk X.prog X.w _ h' _ (.lst ys) from ⟨hz, its, c', r', e⟩), rfl, q _ (I.hok.fresh (Nat.le_refl _))⟩
  rcases hq with hq | hq
  · obtain ⟨its, r', pl, hz⟩ := I.list hq
    have hlen := r'.length
    obtain ⟨o, ho, hc, n, hd⟩ := pl.isList
    exact call_list_seq p (.inl rfl) ho hc hd (fun h' c' kp e => fin its r' hz h' c' kp e) (by simp only [List.size_toArray] <;> omega)
  · obtain ⟨its, r', pl, hz⟩ := I.tuple hq
    have hlen := r'.length
    obtain ⟨o, ho, hc, n, hd⟩ := pl
    exact call_list_seq p (.inr rfl) ho hc hd (fun h' c' kp e => fin its r' hz h' c' kp e) (by simp only [List.size_toArray] <;> omega)
def tyV (K : PySem.W.Frag) (T : String) (x : V) (H : Hp) : Prop := match x with
  | .str _ => T = "str"
  | .int _ => T = "int"
  | .ref p => (T = "list" ∧ ∃ xs, SqL K H p xs) ∨ (T = "tuple" ∧ ∃ o, K.lookup p = some o ∧ o.cls = .type "tuple" ∧ o.dict = none) ∨
      (T = "dict" ∧ ((∃ kvs, H p = some (.dK kvs)) ∨ ∃ kvs, H p = some (.dT kvs))) ∨ (T = "set" ∧ ∃ S n, H p = some (.set S n))
  | _ => False
theorem tyV_is {pins : List (Addr × Obj)} {σ : St} {H : Hp} {s : Shared} {T : String} {x : V} {v : Value} (I : Inv X pins σ H s) (r : RelV x v) (ty : tyV X.K T x H) :
    s.TypeIs v T ∧ ∀ a, v = .ref a → ∃ ob, s.heap.get? a = some ob ∧ ob.dict = none := by
  cases x with
  | str z =>
    obtain ⟨t, rfl⟩ := r
    cases (show T = "str" from ty)
    exact ⟨typeIs_str s z t, fun _ e => nomatch e⟩
  | int i =>
    obtain ⟨t, rfl⟩ := r
    cases (show T = "int" from ty)
    exact ⟨typeIs_int s i t, fun _ e => nomatch e⟩
  | ref p =>
    cases r
    rcases ty with ⟨rfl, xs, hq⟩ | ⟨rfl, o, hk, hc, hd⟩ | ⟨rfl, hk⟩ | ⟨rfl, S, n, hk⟩
    · obtain ⟨its, _, pl, _⟩ := I.list hq
      refine ⟨pl.isList.typeIs, fun a e => ?_⟩
      cases e
      obtain ⟨o, n, e, c, hd, _⟩ := pl
      exact ⟨o, e, hd⟩
    · refine ⟨⟨o, I.kIn p o hk, hc⟩, fun a e => ?_⟩
      cases e
      exact ⟨o, I.kIn _ o hk, hd⟩
    · have z : ∃ o, s.heap.get? p = some o ∧ o.ExactDict := by
        rcases hk with ⟨kvs, hk⟩ | ⟨kvs, hk⟩
        · obtain ⟨_, _, _, _, o, _, _, e, ex, _⟩ := I.hok p _ hk
          exact ⟨o, e, ex⟩
        · obtain ⟨_, _, _, _, o, _, _, e, ex, _⟩ := I.hok p _ hk
          exact ⟨o, e, ex⟩
      obtain ⟨o, e, ex⟩ := z
      refine ⟨⟨o, e, ex.1⟩, fun a e2 => ?_⟩
      cases e2
      exact ⟨o, e, ex.2.1⟩
    · obtain ⟨o, _, _, _, e, ex, _⟩ := I.hok p _ hk
      refine ⟨⟨o, e, ex.1⟩, fun a e2 => ?_⟩
      cases e2
      exact ⟨o, e, ex.2.1⟩
  | _ => exact False.elim ty
def tBM0 (K : PySem.W.Frag) (T : String) (r : V → List V → Hp → VK → Prop) (to : TE) : TE := fun σ H Q => to σ H fun x H1 => tyV K T x H1 ∧ r x [] H1 Q
def tBM (K : PySem.W.Frag) (T : String) (r : V → List V → Hp → VK → Prop) (to : TE) (t : TA) : TE := fun σ H Q => to σ H fun x H1 => tyV K T x H1 ∧ t σ H1 fun xs H2 => r x xs H2 Q
variable {o e : Expr} {es : List Expr} {to : TE} {t : TA} {name : Str} {apos cpos : Pos} {T id : String} {r : V → List V → Hp → VK → Prop}
theorem pe_bm (pa : PlainAttrs T) (slot : Slot T name id) (hty : typeOf (.builtin id) = pure (.type "method_descriptor")) (hm : MtR X id r) (ho : PE X o to) (ha : PA X (e :: es) t)
    (hbase : attributeBase o name X.env (eval o X.env) = eval o X.env := by rfl)
    (hfew : ((backTo cpos (starEach (e :: es) X.env)).all (fun x => !x.1) && (backToKw cpos (keywordEach [] X.env)).all (fun x => x.1.isSome)
      && decide ((e :: es).length + ([] : List Keyword).length + (if ([] : List Keyword).isEmpty then 0 else 1) < 30)) = true := by rfl)
    (hline : (apos.endLine == cpos.line) = true := by rfl) (hs : starEach (e :: es) X.env = (false, eval e X.env) :: starEach es X.env := by rfl) (hplain : (backTo cpos (starEach es X.env)).any (·.1) = false := by rfl) :
    PE X (.Call (.Attribute o name apos) (e :: es) [] cpos) (tBM X.K T r to t) := by
  intro pins s σ H Q I h
  refine wpAny_Call_method_late hbase hfew hline rfl (thn (ho pins s σ H _ I h) fun v s1 ⟨x, H1, I1, r1, ty, q1⟩ => ?_)
  obtain ⟨h1, h2⟩ := tyV_is I1 r1 ty
  refine ⟨T, id, pa, slot, hty, h1, h2, ?_⟩
  have hA := ha cpos pins s1 σ H1 _ I1 q1
  rw [hs] at hA ⊢
  refine Calls.callWith_builtin (by show (false || (backTo cpos (starEach es X.env)).any (·.1)) = false; rw [hplain] <;> rfl) (Calls.evalArgs_plain ?_)
  exact thn hA fun us s2 ⟨vs, H2, I2, r2, q2⟩ => hm pins s2 σ H2 x vs v us Q I2 r1 r2 q2
end
end L2
namespace L2
open PySem PySem.Spec PyProof.Rows
def MtM (X : Cx) (id : String) (r : V → List V → Hp → VK → Prop) : Prop :=
  ∀ (pins : List (Addr × Obj)) (s : Shared) (σ : St) (H : Hp) (x : V) (xs : List V) (v : Value) (us : List Value) (Q : VK), Inv X pins σ H s → RelV x v → Vals xs us → r x xs H Q →
    wpAny (model X.prog X.w) X.A (call (.builtin id) (v :: us)) (EP X pins σ Q) X.xe s
theorem Vals.one : ∀ {x : V} {us : List Value}, Vals [x] us → ∃ u, us = [u] ∧ RelV x u
  | _, _, .cons r .nil => ⟨_, rfl, r⟩
theorem Vals.two : ∀ {x y : V} {us : List Value}, Vals [x, y] us → ∃ u v, us = [u, v] ∧ RelV x u ∧ RelV y v
  | _, _, _, .cons r (.cons q .nil) => ⟨_, _, rfl, r, q⟩
theorem Vals.zero : ∀ {us : List Value}, Vals [] us → us = []
  | _, .nil => rfl
theorem Vals.dropLast {xs : List V} {us : List Value} (h : Vals xs us) : Vals xs.dropLast us.dropLast := by
  induction h with
  | nil => exact .nil
  | cons r t ih =>
    cases t with
    | nil => exact .nil
    | cons q t' => exact .cons r ih
theorem Vals.eraseIdx : ∀ {xs : List V} {us : List Value} (i : Nat), Vals xs us → Vals (xs.eraseIdx i) (us.eraseIdx i)
  | _, _, _, .nil => .nil
  | _, _, 0, .cons _ t => t
  | _, _, i + 1, .cons r t => .cons r (Vals.eraseIdx i t)
theorem Vals.reverse {xs : List V} {us : List Value} (h : Vals xs us) : Vals xs.reverse us.reverse := by
  induction h with
  | nil => exact .nil
  | cons r t ih => rw [List.reverse_cons, List.reverse_cons]; exact Vals.append ih (.cons r .nil)
section
variable {X : Cx} {pins : List (Addr × Obj)} {σ : St} {H : Hp} {s : Shared} {l b : Addr} {xs ys zs : List V}
theorem Inv.lset {its its' : List Value} {n : Nat} {f : Array Value → Array Value} {t' : Nat} (I : Inv X pins σ H s) (hH : H l = some (.lst xs))
    (e : s.heap.get? l = some { cls := .type "list", data := .seq its.toArray n }) (hf : f its.toArray = its'.toArray) (hv : Vals ys its') (hz : ys.length ≤ sizeLine) :
    Inv X pins σ (upd H l (.lst ys)) { s with heap := s.heap.update l (Obj.mapSeq f), toks := t' } := by
  have q := PySem.IsL.update e f
  rw [hf] at q
  refine I.write (x := l) (e := l) (by rw [hH]; exact trivial) (.inl rfl) (fun b' u hb hu => (Heap.get?_update_other s.heap (Obj.mapSeq f) (Ne.symm hb)).trans hu) ⟨_, q⟩ ?_
  exact ⟨hz, its', _, hv, q⟩
theorem Inv.lnew {its : List Value} {t' : Nat} (I : Inv X pins σ H s) (hv : Vals ys its) (hz : ys.length ≤ sizeLine) :
    Inv X pins σ (upd H s.heap.objs.size (.lst ys)) { s with heap := s.heap.push { cls := .type "list", data := .seq its.toArray }, toks := t' } :=
  I.laid (fun _ _ q => Heap.get?_push_of_some _ q) (Nat.le_refl _) ⟨hz, its, 0, hv, Heap.get?_push_size _ rfl⟩
theorem Inv.fresh (I : Inv X pins σ H s) : H s.heap.objs.size = none := I.hok.fresh (Nat.le_refl _)
theorem Inv.lstM (I : Inv X pins σ H s) (hH : H l = some (.lst xs)) : xs.length ≤ sizeLine ∧ ∃ (its : List Value) (n : Nat), Vals xs its ∧ xs.length = its.length ∧ s.heap.get? l = some { cls := .type "list", data := .seq its.toArray n } := by
  obtain ⟨z, its, n, r, e⟩ := I.hok l _ hH
  exact ⟨z, its, n, r, r.length, e⟩
theorem notLongL {n : Nat} (h : n ≤ sizeLine) : Builtin.List.listTooLong n = false := by
  unfold Builtin.List.listTooLong
  exact decide_eq_false (by omega)
end
section
variable {X : Cx}
def rAppend : V → List V → Hp → VK → Prop := fun x vs H Q => ∃ l xs y, x = .ref l ∧ vs = [y] ∧ H l = some (.lst xs) ∧ xs.length < sizeLine ∧ Q .non (upd H l (.lst (xs ++ [y])))
theorem mt_append : MtM X "list.append" rAppend := by
  intro pins s σ H x vs v us Q I rx rv h
  obtain ⟨l, xs, y, rfl, rfl, hH, hz, q⟩ := h
  cases rx
  obtain ⟨u, rfl, ru⟩ := rv.one
  obtain ⟨z, its, n, r, hl, e⟩ := I.lstM hH
  refine call_meets F.slot_list_append ⟨_, e, rfl⟩ F.entry_list_append (F.args_list_append_2 _ _) (PySem.list_append l its.toArray n u (by rw [List.size_toArray]; omega)) ⟨e, ?_⟩
  refine ⟨.non, _, I.lset (its' := its ++ [u]) hH e (by simp) (r.append (.cons ru .nil)) ?_, rfl, q⟩
  rw [List.length_append, List.length_singleton]
  omega
def rExtend : V → List V → Hp → VK → Prop := fun x vs H Q => ∃ l b xs zs, x = .ref l ∧ vs = [.ref b] ∧ H l = some (.lst xs) ∧ H b = some (.lst zs) ∧ xs.length + zs.length ≤ sizeLine ∧ Q .non (upd H l (.lst (xs ++ zs)))
theorem mt_extend : MtM X "list.extend" rExtend := by
  intro pins s σ H x vs v us Q I rx rv h
  obtain ⟨l, b, xs, zs, rfl, rfl, hH, hB, hz, q⟩ := h
  cases rx
  obtain ⟨u, rfl, ru⟩ := rv.one
  cases ru
  obtain ⟨z, its, n, r, hl, e⟩ := I.lstM hH
  obtain ⟨z2, its2, n2, r2, hl2, e2⟩ := I.lstM hB
  have hsz : its.toArray.size + its2.toArray.size ≤ sizeLine := by rw [List.size_toArray, List.size_toArray]; omega
  have hlong : ¬ (!its.toArray.isEmpty && Builtin.List.listTooLong (its.toArray.size + its2.toArray.size)) = true := by
    rw [notLongL hsz, Bool.and_false]
    exact Bool.false_ne_true
  refine call_meets F.slot_list_extend ⟨_, e, rfl⟩ F.entry_list_extend (F.args_list_extend_2 _ _)
    (AutoSeq1.list_extend_list_list_0 l its.toArray n b its2.toArray n2 hlong (by rw [List.size_toArray]; omega) (by omega)) ⟨e, e2, ?_⟩
  refine ⟨.non, _, I.lset (its' := its ++ its2) hH e (by simp) (r.append r2) ?_, rfl, q⟩
  rw [List.length_append]
  omega
def rPop : V → List V → Hp → VK → Prop := fun x vs H Q => ∃ l xs y, x = .ref l ∧ vs = [] ∧ H l = some (.lst xs) ∧ xs[xs.length - 1]? = some y ∧ Q y (upd H l (.lst xs.dropLast))
def rPopAt : V → List V → Hp → VK → Prop := fun x vs H Q => ∃ l xs i k y, x = .ref l ∧ vs = [.int i] ∧ H l = some (.lst xs) ∧ -(2 ^ 63) ≤ i ∧ i < 2 ^ 63 ∧ seqIndex? i xs.length = some k ∧ xs[k]? = some y ∧ Q y (upd H l (.lst (xs.eraseIdx k)))
def rReverse : V → List V → Hp → VK → Prop := fun x vs H Q => ∃ l xs, x = .ref l ∧ vs = [] ∧ H l = some (.lst xs) ∧ Q .non (upd H l (.lst xs.reverse))
def rClear : V → List V → Hp → VK → Prop := fun x vs H Q => ∃ l xs, x = .ref l ∧ vs = [] ∧ H l = some (.lst xs) ∧ Q .non (upd H l (.lst []))
def rCat : R2 := fun x y H Q => ∃ l b xs zs, x = .ref l ∧ y = .ref b ∧ H l = some (.lst xs) ∧ H b = some (.lst zs) ∧ xs.length + zs.length ≤ sizeLine ∧ ∀ p, H p = none → Q (.ref p) (upd H p (.lst (xs ++ zs)))
theorem op_cat : OpR X (binaryOp .Add) rCat := by
  intro pins s σ H x y v u Q I rx ry h
  obtain ⟨l, b, xs, zs, rfl, rfl, hH, hB, hz, q⟩ := h
  cases rx
  cases ry
  obtain ⟨z, its, n, r, hl, e⟩ := I.lstM hH
  obtain ⟨z2, its2, n2, r2, hl2, e2⟩ := I.lstM hB
  refine PySem.P.add_list e e2 ?_ (by rw [List.size_toArray, List.size_toArray]; omega)
  have ea : its.toArray ++ its2.toArray = (its ++ its2).toArray := by simp
  rw [ea]
  exact ⟨.ref _, _, I.lnew (t' := s.toks) (r.append r2) (by rw [List.length_append]; omega), rfl, q _ I.fresh⟩
def rRep : R2 := fun x y H Q => ∃ l k xs, x = .ref l ∧ y = .int k ∧ H l = some (.lst xs) ∧ -(2 ^ 63) ≤ k ∧ k < 2 ^ 63 ∧ xs.length * k.toNat ≤ sizeLine ∧
  ∀ p, H p = none → Q (.ref p) (upd H p (.lst (List.replicate k.toNat xs).flatten))
end
section
variable {prog : Program} {w : World} {A : Around} {E : Value → Shared → Prop} {s : Shared}
set_option maxRecDepth 100000 in
end
section
variable {X : Cx}
end
end L2
namespace L2
open PySem PySem.Spec PyProof.Rows
theorem Vals.ints : ∀ {ns : List Int} {us : List Value}, Vals (ns.map V.int) us → IntsAre us ns
  | [], us, h => by
    rw [List.map_nil] at h
    cases h
    exact IntsAre.nil
  | n :: ns, us, h => by
    rw [List.map_cons] at h
    cases h with
    | cons r t =>
      obtain ⟨k, rfl⟩ := r
      exact IntsAre.cons n k (Vals.ints t)
theorem vals_of_ints : ∀ {us : List Value} {ns : List Int}, IntsAre us ns → Vals (ns.map V.int) us
  | _, _, .nil => by rw [List.map_nil]; exact Paired.nil
  | _, _, .cons n t h => by rw [List.map_cons]; exact Paired.cons (show RelV (V.int n) (Value.int n t) from ⟨t, rfl⟩) (vals_of_ints h)
theorem Vals.ref1 {a : Addr} {us : List Value} (r : Vals [V.ref a] us) : us = [Value.ref a] := by
  cases r with
  | cons r t =>
    cases t
    cases r
    rfl
section
variable {prog : Program} {w : World} {A : Around} {E : Value → Shared → Prop} {s : Shared} {l : Addr} {its : List Value} {ns : List Int} {Q : Value → Shared → Prop}
end
section
variable {X : Cx}
def rSum (K : PySem.W.Frag) : List V → Hp → VK → Prop := fun vs H Q => ∃ (a : Addr) (ns : List Int), vs = [V.ref a] ∧ SqL K H a (ns.map V.int) ∧ Q (.int ns.sum) H
def rMax (K : PySem.W.Frag) : List V → Hp → VK → Prop := fun vs H Q => ∃ (a : Addr) (ns : List Int), vs = [V.ref a] ∧ SqL K H a (ns.map V.int) ∧ 0 < ns.length ∧ ∀ m, m ∈ ns → (∀ y, y ∈ ns → y ≤ m) → Q (.int m) H
def rMin (K : PySem.W.Frag) : List V → Hp → VK → Prop := fun vs H Q => ∃ (a : Addr) (ns : List Int), vs = [V.ref a] ∧ SqL K H a (ns.map V.int) ∧ 0 < ns.length ∧ ∀ m, m ∈ ns → (∀ y, y ∈ ns → m ≤ y) → Q (.int m) H
def rSorted (K : PySem.W.Frag) : List V → Hp → VK → Prop := fun vs H Q => ∃ (a : Addr) (ns : List Int), vs = [V.ref a] ∧ SqL K H a (ns.map V.int) ∧ ns.length < 64 ∧
  ∀ (ns' : List Int) (p : Addr), ns'.Perm ns → ns'.Pairwise (· ≤ ·) → H p = none → Q (.ref p) (upd H p (.lst (ns'.map V.int)))
def rSortedS (K : PySem.W.Frag) : List V → Hp → VK → Prop := fun vs H Q => ∃ (a : Addr) (xs : List Str), vs = [V.ref a] ∧ SqL K H a (xs.map V.str) ∧ xs.length < 64 ∧
  ∀ (ys : List Str) (p : Addr), ys.Perm xs → sortedS ys = true → H p = none → Q (.ref p) (upd H p (.lst (ys.map V.str)))
def rSort : V → List V → Hp → VK → Prop := fun x xs H Q => ∃ (a : Addr) (ns : List Int), x = V.ref a ∧ xs = [] ∧ H a = some (.lst (ns.map V.int)) ∧ ns.length < 64 ∧
  ∀ ns' : List Int, ns'.Perm ns → ns'.Pairwise (· ≤ ·) → Q .non (upd H a (.lst (ns'.map V.int)))
end
section
variable {X : Cx}
def rIndex (K : PySem.W.Frag) : V → List V → Hp → VK → Prop := fun x xs H Q => ∃ (a : Addr) (ys : List V) (y : V) (j : Nat) (z : V), x = V.ref a ∧ xs = [y] ∧ SqL K H a ys ∧ flatV y = true ∧ ys.all flatV = true ∧ ys[j]? = some z ∧ eqV z y = true ∧
  (∀ (m : Nat) (z' : V), m < j → ys[m]? = some z' → eqV z' y = false) ∧ Q (.int (j : Nat)) H
end
section
variable {X : Cx}
end
section
variable {X : Cx}
def rAny (K : PySem.W.Frag) : List V → Hp → VK → Prop := fun vs H Q => ∃ (a : Addr) (bs : List Bool), vs = [V.ref a] ∧ SqL K H a (bs.map V.bl) ∧ Q (.bl (bs.any id)) H
def rAll (K : PySem.W.Frag) : List V → Hp → VK → Prop := fun vs H Q => ∃ (a : Addr) (bs : List Bool), vs = [V.ref a] ∧ SqL K H a (bs.map V.bl) ∧ Q (.bl (bs.all id)) H
end
mutual
inductive Dp (K : PySem.W.Frag) (H : Hp) : V → PyData → Prop
  | non : Dp K H .non .none
  | bl (b : Bool) : Dp K H (.bl b) (.bool b)
  | int (i : Int) : Dp K H (.int i) (.int i)
  | str (x : Str) : Dp K H (.str x) (.str x)
  | lst {a : Addr} {xs : List V} {ds : List PyData} : SqL K H a xs → DpAll K H xs ds → Dp K H (.ref a) (.list ds)
  | tup {a : Addr} {xs : List V} {ds : List PyData} : SqT K H a xs → DpAll K H xs ds → Dp K H (.ref a) (.tuple ds)
inductive DpAll (K : PySem.W.Frag) (H : Hp) : List V → List PyData → Prop
  | nil : DpAll K H [] []
  | cons {v : V} {vs : List V} {d : PyData} {ds : List PyData} : Dp K H v d → DpAll K H vs ds → DpAll K H (v :: vs) (d :: ds)
end
section
variable {X : Cx} {pins : List (Addr × Obj)} {σ : St} {H : Hp} {s : Shared}
mutual
theorem Dp.reads (I : Inv X pins σ H s) : ∀ (d : PyData) (v : V) (u : Value), Dp X.K H v d → RelV v u → ∃ as, Reads s.heap u d as
  | .none, _, _, h, r => by
    cases h
    cases r
    exact ⟨_, Reads.none⟩
  | .bool b, _, _, h, r => by
    cases h
    cases r
    exact ⟨_, Reads.bool b⟩
  | .int i, _, _, h, r => by
    cases h
    obtain ⟨t, rfl⟩ := r
    exact ⟨_, Reads.int i t⟩
  | .str x, _, _, h, r => by
    cases h
    obtain ⟨t, rfl⟩ := r
    exact ⟨_, Reads.str x t⟩
  | .list ds, _, _, h, r => by
    cases h with
    | lst hs ha =>
      cases r
      obtain ⟨its, rv, ⟨o, n, ho, hc, _, hd⟩, _⟩ := I.list hs
      obtain ⟨as, hr⟩ := Dp.readsAll I ds _ its ha rv
      exact ⟨_, Reads.list ho hc hd hr⟩
  | .tuple ds, _, _, h, r => by
    cases h with
    | tup hs ha =>
      cases r
      obtain ⟨its, rv, ⟨o, ho, hc, n, hd⟩, _⟩ := I.tuple hs
      obtain ⟨as, hr⟩ := Dp.readsAll I ds _ its ha rv
      exact ⟨_, Reads.tuple ho hc hd hr⟩
  | .dict _, _, _, h, _ => by cases h
theorem Dp.readsAll (I : Inv X pins σ H s) : ∀ (ds : List PyData) (vs : List V) (us : List Value), DpAll X.K H vs ds → Vals vs us → ∃ as, ReadsAll s.heap us ds as
  | [], _, _, h, r => by
    cases h
    cases r
    exact ⟨_, ReadsAll.nil⟩
  | d :: ds, _, _, h, r => by
    cases h with
    | cons h1 h2 =>
      cases r with
      | cons r1 r2 =>
        obtain ⟨as, q1⟩ := Dp.reads I d _ _ h1 r1
        obtain ⟨bs, q2⟩ := Dp.readsAll I ds _ _ h2 r2
        exact ⟨_, ReadsAll.cons q1 q2⟩
end
end
section
variable {X : Cx}
def rEqD (K : PySem.W.Frag) : R2 := fun x y H Q => ∃ d e, Dp K H x d ∧ Dp K H y e ∧ SeqAt.shaped d = true ∧ SeqAt.shaped e = true ∧ Q (.bl (PyData.eqv d e)) H
def rNeD (K : PySem.W.Frag) : R2 := fun x y H Q => ∃ d e, Dp K H x d ∧ Dp K H y e ∧ SeqAt.shaped d = true ∧ SeqAt.shaped e = true ∧ Q (.bl (!PyData.eqv d e)) H
end
end L2
namespace L2
open PySem PySem.Spec PyProof.Rows
abbrev CellAt (h : Heap) (c : Addr) (v : Option Value) : Prop := h.IsCell c v
def relS (scope sc : Scope) : Scope :=
  { scope with names := scope.names.map fun (n, k) => if (k == .free && sc.kind == .function && sc.names.lookup n == some .cell) then (n, .cell) else (n, k) }
def cloFrom (cells : List (Str × Addr)) : List (Str × NameKind) → List (Str × Addr) → List (Str × Addr)
  | [], acc => acc
  | (n, k) :: r, acc => if k == .free then cloFrom cells r ((n, (cells.lookup n).getD 0) :: acc) else cloFrom cells r acc
theorem closure_loop (env : Env) (f : Str × NameKind → List (Str × Addr) → Sem (ForInStep (List (Str × Addr))))
    (hf : ∀ n k c, f (n, k) c = if k == .free then (do let a ← cellOf env n; pure (.yield ((n, a) :: c))) else pure (.yield c)) :
    ∀ (names : List (Str × NameKind)) (acc : List (Str × Addr)), (∀ y ∈ names, y.2 = .free → ∃ c, env.cells.lookup y.1 = some c) → forIn names acc f = pure (cloFrom env.cells names acc)
  | [], acc, _ => by rw [List.forIn_nil]; rfl
  | (n, k) :: r, acc, h => by
    rw [List.forIn_cons, hf]
    have ih := fun acc => closure_loop env f hf r acc fun y hy => h y (List.mem_cons_of_mem _ hy)
    unfold cloFrom
    by_cases hk : (k == NameKind.free) = true
    · rw [if_pos hk, if_pos hk]
      obtain ⟨c, hc⟩ := h (n, k) List.mem_cons_self (by simpa using hk)
      have e : cellOf env n = pure c := by unfold cellOf; rw [hc]
      rw [e]
      have e2 : (env.cells.lookup n).getD 0 = c := by rw [hc]; rfl
      rw [e2]
      exact ih _
    · rw [if_neg hk, if_neg hk]
      exact ih _
theorem closure_ok {scope : Scope} {env : Env} (h : ∀ y ∈ scope.names, y.2 = .free → ∃ c, env.cells.lookup y.1 = some c) : closureFor scope env = pure (cloFrom env.cells scope.names []) := by
  simp only [closureFor]
  rw [closure_loop env _ (fun n k c => rfl) scope.names [] h]
  rfl
theorem mem_lookup {α : Type} : ∀ {l : List (Str × α)} {n : Str} {c : α}, (n, c) ∈ l → ∃ c', l.lookup n = some c'
  | (k, v) :: r, n, c, h => by
    rw [List.lookup_cons]
    cases hb : n == k with
    | true => exact ⟨_, rfl⟩
    | false =>
      rcases List.mem_cons.mp h with e | h
      · cases e; simp at hb
      · exact mem_lookup h
theorem cloFrom_mem {cells : List (Str × Addr)} : ∀ {names : List (Str × NameKind)} {acc : List (Str × Addr)} {n : Str} {c : Addr}, (n, c) ∈ cloFrom cells names acc → (n, c) ∈ acc ∨ ((n, .free) ∈ names ∧ c = (cells.lookup n).getD 0)
  | [], _, _, _, h => .inl h
  | (m, k) :: r, acc, n, c, h => by
    unfold cloFrom at h
    split at h
    · rename_i hk
      have hk : k = .free := by simpa using hk
      rcases cloFrom_mem h with h | ⟨h1, h2⟩
      · rcases List.mem_cons.mp h with e | h
        · cases e; exact .inr ⟨hk ▸ List.mem_cons_self, rfl⟩
        · exact .inl h
      · exact .inr ⟨List.mem_cons_of_mem _ h1, h2⟩
    · rcases cloFrom_mem h with h | ⟨h1, h2⟩
      · exact .inl h
      · exact .inr ⟨List.mem_cons_of_mem _ h1, h2⟩
theorem cloFrom_acc {cells : List (Str × Addr)} : ∀ {names : List (Str × NameKind)} {acc : List (Str × Addr)} {p : Str × Addr}, p ∈ acc → p ∈ cloFrom cells names acc
  | [], _, _, h => h
  | (m, k) :: r, acc, p, h => by
    unfold cloFrom
    split
    · exact cloFrom_acc (List.mem_cons_of_mem _ h)
    · exact cloFrom_acc h
theorem cloFrom_has {cells : List (Str × Addr)} : ∀ {names : List (Str × NameKind)} {acc : List (Str × Addr)} {n : Str}, (n, .free) ∈ names → (n, (cells.lookup n).getD 0) ∈ cloFrom cells names acc
  | (m, k) :: r, acc, n, h => by
    unfold cloFrom
    rcases List.mem_cons.mp h with e | h
    · cases e
      exact cloFrom_acc List.mem_cons_self
    · split
      · exact cloFrom_has h
      · exact cloFrom_has h
theorem cells_mem : ∀ {names : List (Str × NameKind)} {h : Heap} {acc : List (Str × Addr)} {x : Str} {c : Addr}, (x, c) ∈ cellsFrom h.objs.size names acc →
    (x, c) ∈ acc ∨ ((x, .cell) ∈ names ∧ h.objs.size ≤ c ∧ CellAt (pushCells h names) c none)
  | [], _, _, _, _, h => .inl h
  | (n, k) :: r, h, acc, x, c, hm => by
    unfold cellsFrom at hm
    unfold pushCells
    split at hm
    · rename_i hk
      rw [if_pos hk]
      have hk : k = .cell := by simpa using hk
      rw [← Heap.size_push h { cls := .type "cell", data := .cell none }] at hm
      rcases cells_mem hm with hm | ⟨h1, h2, h3⟩
      · rcases List.mem_cons.mp hm with e | hm
        · cases e
          exact .inr ⟨hk ▸ List.mem_cons_self, Nat.le_refl _, _, pushCells_keeps r _ _ _ (Heap.get?_push_size _ rfl), rfl⟩
        · exact .inl hm
      · rw [Heap.size_push] at h2
        exact .inr ⟨List.mem_cons_of_mem _ h1, Nat.le_of_succ_le h2, h3⟩
    · rename_i hk
      rw [if_neg hk]
      rcases cells_mem hm with hm | ⟨h1, h2, h3⟩
      · exact .inl hm
      · exact .inr ⟨List.mem_cons_of_mem _ h1, h2, h3⟩
theorem cells_acc : ∀ {names : List (Str × NameKind)} {n : Nat} {acc : List (Str × Addr)} {p : Str × Addr}, p ∈ acc → p ∈ cellsFrom n names acc
  | [], _, _, _, h => h
  | (m, k) :: r, n, acc, p, h => by
    unfold cellsFrom
    split
    · exact cells_acc (List.mem_cons_of_mem _ h)
    · exact cells_acc h
theorem cells_has : ∀ {names : List (Str × NameKind)} {n : Nat} {acc : List (Str × Addr)} {x : Str}, (x, .cell) ∈ names → ∃ c, (x, c) ∈ cellsFrom n names acc
  | (m, k) :: r, n, acc, x, h => by
    unfold cellsFrom
    rcases List.mem_cons.mp h with e | h
    · cases e
      exact ⟨n, cells_acc List.mem_cons_self⟩
    · split
      · exact cells_has h
      · exact cells_has h
theorem cells_inj : ∀ {names : List (Str × NameKind)} {h : Heap} {acc : List (Str × Addr)} {x y : Str} {c : Addr}, (∀ p ∈ acc, p.2 < h.objs.size) → (∀ x y c, (x, c) ∈ acc → (y, c) ∈ acc → x = y) →
    (x, c) ∈ cellsFrom h.objs.size names acc → (y, c) ∈ cellsFrom h.objs.size names acc → x = y
  | [], _, _, _, _, _, _, hi, h1, h2 => hi _ _ _ h1 h2
  | (n, k) :: r, h, acc, x, y, c, hl, hi, h1, h2 => by
    unfold cellsFrom at h1 h2
    split at h1
    · rename_i hk
      rw [if_pos hk] at h2
      rw [← Heap.size_push h { cls := .type "cell", data := .cell none }] at h1 h2
      refine cells_inj (h := h.push _) (fun p hp => ?_) (fun x y c a b => ?_) h1 h2
      · rw [Heap.size_push]
        rcases List.mem_cons.mp hp with rfl | hp
        · exact Nat.lt_succ_self _
        · exact Nat.lt_succ_of_lt (hl p hp)
      · rcases List.mem_cons.mp a with e | a <;> rcases List.mem_cons.mp b with e' | b
        · cases e; cases e'; rfl
        · cases e; exact absurd (hl _ b) (Nat.lt_irrefl _)
        · cases e'; exact absurd (hl _ a) (Nat.lt_irrefl _)
        · exact hi _ _ _ a b
    · rename_i hk
      rw [if_neg hk] at h2
      exact cells_inj hl hi h1 h2
theorem newEnv_comp {M : Model} {A : Around} {E : Value → Shared → Prop} {s : Shared} {scope : Scope} {globals : Addr} {closure : List (Str × Addr)} {qual : Str} {func : Option Addr} {code : Value} {around : Env} {builtins : Addr} {Q : Env → Shared → Prop}
    (h : Q (newEnv scope s.heap.objs.size globals (cellsFrom (s.heap.objs.size + 1) scope.names closure) qual func code (some around) builtins)
      { s with heap := pushCells (s.heap.push { cls := .type "dict", data := .dict #[] }) scope.names }) :
    wpAny M A (newFunctionEnv scope globals closure [] qual func code (some around) builtins) Q E s := by
  simp only [newFunctionEnv, Option.isSome_some, if_true]
  refine wpAny_bind (wpAny_alloc ?_)
  refine wpAny_bind (wpAny_layCells _ (fun n k c => rfl) scope.names closure _ _ ?_)
  rw [show ({ s with heap := s.heap.push { cls := .type "dict", data := .dict #[] } } : Shared).heap.objs.size = s.heap.objs.size + 1 from Heap.size_push ..]
  rw [List.forIn_nil]
  exact wpAny_bind (wpAny_pure (wpAny_pure h))
theorem lookup_relS {sc : Scope} : ∀ {names : List (Str × NameKind)} {x : Str} {k : NameKind},
    (names.map fun (n, k) => if (k == NameKind.free && sc.kind == .function && sc.names.lookup n == some .cell) then (n, NameKind.cell) else (n, k)).lookup x = some k →
    ∃ k', names.lookup x = some k' ∧ (k = k' ∨ (k' = .free ∧ k = .cell))
  | [], _, _, h => by simp at h
  | (n, k₀) :: r, x, k, h => by
    have ih := @lookup_relS sc r x k
    have h' : List.lookup x ((if (k₀ == NameKind.free && sc.kind == .function && sc.names.lookup n == some .cell) = true then (n, NameKind.cell) else (n, k₀)) :: (r.map _)) = some k := h
    cases hx : x == n with
    | true =>
      simp only [List.lookup_cons, hx]
      by_cases hc : (k₀ == NameKind.free && sc.kind == .function && sc.names.lookup n == some .cell) = true
      · rw [if_pos hc] at h'
        simp only [List.lookup_cons, hx] at h'
        cases h'
        simp only [Bool.and_eq_true, beq_iff_eq] at hc
        exact ⟨k₀, rfl, .inr ⟨hc.1.1, rfl⟩⟩
      · rw [if_neg hc] at h'
        simp only [List.lookup_cons, hx] at h'
        cases h'
        exact ⟨_, rfl, .inl rfl⟩
    | false =>
      simp only [List.lookup_cons, hx]
      by_cases hc : (k₀ == NameKind.free && sc.kind == .function && sc.names.lookup n == some .cell) = true
      · rw [if_pos hc] at h'
        simp only [List.lookup_cons, hx] at h'
        exact ih h'
      · rw [if_neg hc] at h'
        simp only [List.lookup_cons, hx] at h'
        exact ih h'
structure BlkOk (N : List Str) (sc scope : Scope) (own : List (Str × Nat)) : Prop where
  kind : scope.kind = .function
  uniq : ∀ y ∈ scope.names, scope.names.lookup y.1 = some y.2
  ix : ∀ p ∈ own, N[p.2]? = some p.1
  free : ∀ y ∈ scope.names, y.2 = .free → sc.names.lookup y.1 = some .cell ∨ sc.names.lookup y.1 = some .free
  own : ∀ y ∈ scope.names, y.2 = .local ∨ y.2 = .cell → y.1 ∈ own.map (·.1) ∨ y.1 ∉ N
def wipe (σ : St) : List Nat → St
  | [] => σ
  | v :: vs => (wipe σ vs).set v none
theorem wipe_length (σ : St) : ∀ vs : List Nat, (wipe σ vs).length = σ.length
  | [] => rfl
  | v :: vs => by unfold wipe; rw [List.length_set, wipe_length σ vs]
theorem wipe_some {σ : St} {i : Nat} {x : V} : ∀ {vs : List Nat}, (wipe σ vs)[i]? = some (some x) → σ[i]? = some (some x) ∧ i ∉ vs
  | [], h => ⟨h, by simp⟩
  | v :: vs, h => by
    unfold wipe at h
    by_cases hi : v = i
    · subst hi
      by_cases hv : v < (wipe σ vs).length
      · rw [List.getElem?_set_self hv] at h; cases h
      · rw [List.getElem?_eq_none (by simpa using hv)] at h; cases h
    · rw [List.getElem?_set_ne hi] at h
      obtain ⟨h1, h2⟩ := wipe_some h
      exact ⟨h1, by simp only [List.mem_cons, not_or]; exact ⟨fun e => hi e.symm, h2⟩⟩
abbrev Cx.blk (X : Cx) (s : Shared) (H : Hp) (scope : Scope) (cenv : Env) (fp : List Addr) : Cx := { X with s_0 := s, H_0 := H, env := cenv, outer := X.stack, ex := fp, fn := fun x => scope.names.lookup x == some .cell, pn := [], xe := fun _ _ => False }
section
variable {X : Cx} {pins : List (Addr × Obj)} {σ : St} {H : Hp} {s : Shared}
theorem block_start {scope : Scope} {own : List (Str × Nat)} {fp : List Addr} (I : Inv X pins σ H s) (ok : BlkOk X.N X.env.scope scope own) (hN : X.N.Nodup) (hfp : ∀ b ∈ fp, FpOk X pins H b ∧ b < s.heap.objs.size) :
    Inv (X.blk s H scope (compEnvC scope (cellsFrom (s.heap.objs.size + 1) scope.names (cloFrom X.env.cells scope.names [])) s.heap.objs.size X.env) fp) [] (wipe σ (own.map (·.2))) H { s with heap := pushCells (s.heap.push { cls := .type "dict", data := .dict #[] }) scope.names } := by
  have hfree : ∀ y ∈ scope.names, y.2 = .free → ∃ c, X.env.cells.lookup y.1 = some c := fun y hy e => by
    rcases ok.free y hy e with k | k
    · exact I.ok.has _ (.inl k)
    · exact I.ok.has _ (.inr k)
  generalize hcenv : compEnvC scope (cellsFrom (s.heap.objs.size + 1) scope.names (cloFrom X.env.cells scope.names [])) s.heap.objs.size X.env = cenv
  have kp : ∀ b o, s.heap.get? b = some o → (pushCells (s.heap.push { cls := .type "dict", data := .dict #[] }) scope.names).get? b = some o := fun b o e => pushCells_keeps _ _ _ _ (Heap.get?_push_of_some _ e)
  have hL : cenv.locals = s.heap.objs.size := by rw [← hcenv]; rfl
  have hcl : cenv.cells = cellsFrom (s.heap.objs.size + 1) scope.names (cloFrom X.env.cells scope.names []) := by rw [← hcenv]; rfl
  have hsc : cenv.scope = relS scope X.env.scope := by rw [← hcenv]; rfl
  rw [← Heap.size_push s.heap { cls := .type "dict", data := .dict #[] }] at hcl
  have cm : ∀ {y c}, (y, c) ∈ cloFrom X.env.cells scope.names [] → X.env.cells.lookup y = some c ∧ c < s.heap.objs.size := fun {y c} hm => by
    rcases cloFrom_mem hm with hm | ⟨h1, rfl⟩
    · cases hm
    · obtain ⟨c, hc⟩ := hfree _ h1 rfl
      rw [hc]
      obtain ⟨w, z⟩ := I.cell _ _ hc
      exact ⟨rfl, z.lt⟩
  have mem : ∀ {y c}, cenv.cells.lookup y = some c → (X.env.cells.lookup y = some c ∧ c < s.heap.objs.size) ∨ (s.heap.objs.size + 1 ≤ c ∧ CellAt (pushCells (s.heap.push { cls := .type "dict", data := .dict #[] }) scope.names) c none) := fun {y c} e => by
    rw [hcl] at e
    rcases cells_mem (PySem.mem_of_lookup e) with hm | ⟨_, h2, h3⟩
    · exact .inl (cm hm)
    · rw [Heap.size_push] at h2; exact .inr ⟨h2, h3⟩
  have look : ∀ {y}, scope.names.lookup y = some .free → ∃ c, cenv.cells.lookup y = some c ∧ X.env.cells.lookup y = some c := fun {y} hl => by
    have hy : (y, NameKind.free) ∈ scope.names := PySem.mem_of_lookup hl
    obtain ⟨c', e'⟩ := mem_lookup (cells_acc (names := scope.names) (n := (s.heap.push { cls := .type "dict", data := .dict #[] }).objs.size) (cloFrom_has (cells := X.env.cells) (acc := []) hy))
    rw [← hcl] at e'
    refine ⟨c', e', ?_⟩
    rw [hcl] at e'
    rcases cells_mem (PySem.mem_of_lookup e') with hm | ⟨h1, _, _⟩
    · exact (cm hm).1
    · have := ok.uniq _ h1
      rw [hl] at this; cases this
  have okB : (X.blk s H scope cenv fp).Ok := by
    refine ⟨I.ok.mod, by show cenv.scope.kind = _; rw [hsc]; exact ok.kind, by show cenv.globals = _; rw [← hcenv]; exact I.ok.glob, by show cenv.builtins = _; rw [← hcenv]; exact I.ok.blt, by show s.heap.objs.size ≤ cenv.locals; rw [hL]; exact Nat.le_refl _,
      fun y z c e1 e2 => ?_, fun y hy => ?_, fun y c z e => ?_, I.ok.hd, I.ok.frames, .inl rfl, fun b hb => ⟨?_, fun y c e z => ?_⟩, I.bs, Nat.le_trans I.ok.bsz I.sz, fun b o e hb => ?_, fun b hb z => ?_, I.stack, I.stkFree⟩
    · have e1 : cenv.cells.lookup y = some c := e1
      have e2 : cenv.cells.lookup z = some c := e2
      rw [hcl] at e1 e2
      refine cells_inj (fun p hp => ?_) (fun y z c a b => I.ok.inj y z c (cm a).1 (cm b).1) (PySem.mem_of_lookup e1) (PySem.mem_of_lookup e2)
      rw [Heap.size_push]
      exact Nat.lt_succ_of_lt (cm (y := p.1) (c := p.2) hp).2
    · show ∃ c, cenv.cells.lookup y = some c
      have key : ∀ k, cenv.kindOf y = some k → (k = .cell ∨ k = .free) → ∃ c, cenv.cells.lookup y = some c := fun k hk hk' => by
        unfold Env.kindOf at hk
        rw [hsc] at hk
        obtain ⟨k', e, r⟩ := lookup_relS hk
        have : k' = .cell ∨ k' = .free := by
          rcases r with rfl | ⟨rfl, _⟩
          · exact hk'
          · exact .inr rfl
        rcases this with rfl | rfl
        · obtain ⟨c, hm⟩ := cells_has (n := (s.heap.push { cls := .type "dict", data := .dict #[] }).objs.size) (acc := cloFrom X.env.cells scope.names []) (PySem.mem_of_lookup e)
          obtain ⟨c', e'⟩ := mem_lookup hm
          exact ⟨c', by rw [hcl]; exact e'⟩
        · obtain ⟨c, h1, _⟩ := look e
          exact ⟨c, h1⟩
      rcases hy with hy | hy
      · exact key _ hy (.inl rfl)
      · exact key _ hy (.inr rfl)
    · have z : (scope.names.lookup y == some NameKind.cell) = true := z
      have z : scope.names.lookup y = some .cell := by simpa using z
      have e : cenv.cells.lookup y = some c := e
      rw [hcl] at e
      rcases cells_mem (PySem.mem_of_lookup e) with hm | ⟨_, h2, _⟩
      · rcases cloFrom_mem hm with hm | ⟨h1, _⟩
        · cases hm
        · have q := ok.uniq _ h1
          rw [z] at q; cases q
      · rw [Heap.size_push] at h2
        exact Nat.le_of_succ_le h2
    · show b ≠ cenv.locals
      rw [hL]; exact Nat.ne_of_lt (hfp b hb).2
    · have e : cenv.cells.lookup y = some c := e
      rcases mem e with ⟨h1, _⟩ | ⟨h1, _⟩
      · exact (hfp b hb).1.2.2.2.2.1 y c h1 z
      · have h2 : s.heap.objs.size + 1 ≤ b := by rw [← z]; exact h1
        exact absurd (Nat.lt_of_lt_of_le (hfp b hb).2 (Nat.le_of_succ_le h2)) (Nat.lt_irrefl _)
    · rcases (hfp b hb).1.2.2.2.1 with z | z
      · exact I.ok.noex b o e z
      · exact absurd (Nat.lt_of_lt_of_le (Heap.lt_size e) (Nat.le_trans I.ok.bsz z)) (Nat.lt_irrefl _)
    · rcases List.mem_cons.mp (I.stkSub b z) with z | z
      · exact (hfp b hb).1.2.1 z
      · exact (hfp b hb).1.2.2.1 z
  refine ⟨okB, rfl, I.bare, Un.kept kp, ⟨fun _ => none, ?_, fun i y av e1 e2 e3 => ?_⟩, fun y c e => ?_, ?_, fun y c e => ?_, fun p hp => ?_, I.hok.kept kp, by rw [wipe_length]; exact I.len⟩
  · show Heap.Ns _ cenv.locals _
    rw [hL]
    exact Heap.Ns.keeps (Heap.Ns.new ..) fun b o e => pushCells_keeps _ _ _ _ e
  · obtain ⟨e2, hne⟩ := wipe_some e2
    have hfr : scope.names.lookup y = some .free ∧ (cenv.kindOf y = some .cell ∨ cenv.kindOf y = some .free) := by
      have key : ∀ k, cenv.scope.names.lookup y = some k → k = .local ∨ k = .cell ∨ k = .free → scope.names.lookup y = some .free ∧ (cenv.kindOf y = some .cell ∨ cenv.kindOf y = some .free) := fun k hk hk' => by
        have hk0 := hk
        rw [hsc] at hk
        obtain ⟨k', e, r⟩ := lookup_relS hk
        have no : ¬ (k' = .local ∨ k' = .cell) := fun hh => by
          rcases ok.own _ (PySem.mem_of_lookup e) hh with e' | e'
          · obtain ⟨p, hp, hpy⟩ := List.mem_map.mp e'
            have e3 := ok.ix p hp
            have : p.1 = y := hpy
            rw [this] at e3
            exact hne (List.mem_map.mpr ⟨p, hp, nodup_ix hN e3 e1⟩)
          · exact e' (List.mem_of_getElem? e1)
        rcases r with rfl | ⟨rfl, rfl⟩
        · rcases hk' with rfl | rfl | rfl
          · exact absurd (.inl rfl) no
          · exact absurd (.inr rfl) no
          · exact ⟨e, .inr hk0⟩
        · exact ⟨e, .inl hk0⟩
      have e3 : Vis cenv.scope y := e3
      rcases e3 with e3 | e3 | e3
      · exact key _ e3 (.inl rfl)
      · exact key _ e3 (.inr (.inl rfl))
      · exact key _ e3 (.inr (.inr rfl))
    obtain ⟨m, hn, hl⟩ := I.loc
    have hvis : Vis X.env.scope y := (ok.free _ (PySem.mem_of_lookup hfr.1) rfl).elim (fun k => .inr (.inl k)) (fun k => .inr (.inr k))
    obtain ⟨w, r, q⟩ := hl i y av e1 e2 hvis
    refine ⟨w, r, .inr ⟨hfr.2, ?_⟩⟩
    obtain ⟨c, h1, h2⟩ := look hfr.1
    rcases q with ⟨k, _⟩ | ⟨_, c', e', z⟩
    · have k : X.env.scope.names.lookup y = some .local := k
      rcases ok.free _ (PySem.mem_of_lookup hfr.1) rfl with k' | k' <;> rw [show X.env.scope.names.lookup y = _ from k'] at k <;> cases k
    · rw [h2] at e'; cases e'
      exact ⟨c, h1, z.keeps kp⟩
  · have e : cenv.cells.lookup y = some c := e
    rcases mem e with ⟨h1, _⟩ | ⟨_, z⟩
    · obtain ⟨w, z⟩ := I.cell y c h1
      exact ⟨w, z.keeps kp⟩
    · exact ⟨_, z⟩
  · show H cenv.locals = none
    rw [hL]; exact I.hok.fresh (Nat.le_refl _)
  · have e : cenv.cells.lookup y = some c := e
    rcases mem e with ⟨h1, _⟩ | ⟨h1, _⟩
    · exact I.freeC y c h1
    · exact I.hok.fresh (Nat.le_of_succ_le h1)
  · exact absurd (show p ∈ ([] : List (Addr × Obj)) ++ [] from hp) (by simp)
theorem app_ok {E : Value → Shared → Prop} {D : Addr} {xs : List V} {y : V} {v : Value} {Q : Value → Shared → Prop} (I : Inv X pins σ H s) (hD : H D = some (.lst xs)) (hz : xs.length < sizeLine) (r : RelV y v)
    (h : ∀ s', Inv X pins σ (upd H D (.lst (xs ++ [y]))) s' → Q .none s') : wpAny (model X.prog X.w) X.A (call (.builtin "list.append") [.ref D, v]) Q E s := by
  obtain ⟨hz', its, n, ri, e⟩ := I.hok D _ hD
  have hl := ri.length
  refine append_at (hsz := by rw [List.size_toArray]; omega) e fun h' sb ho' => ?_
  refine h { s with heap := h' } (I.write (t' := s.toks) (by rw [hD]; trivial) (.inl rfl) (fun b u hb q => (sb.2 b hb).trans q) ⟨_, ho'⟩ ⟨by rw [List.length_append]; exact hz, its ++ [v], n + 1, ri.append (.cons r .nil), ?_⟩)
  rw [ho']
  simp
def PTs (X : Cx) (ifs : List Expr) (t : TT) : Prop :=
  ∀ (pins : List (Addr × Obj)) (s : Shared) (σ : St) (H : Hp) (Q : Bool → Hp → Prop), Inv X pins σ H s → t σ H Q →
    wpAny (model X.prog X.w) X.A (forIn ifs true fun c r => if r = true then do let ok ← isTrue c X.env (eval c X.env); pure (ForInStep.yield ok) else pure (ForInStep.yield r)) (TP X pins σ Q) X.xe s
def tYes : TT := fun _ H Q => Q true H
theorem pts_nil : PTs X [] tYes := fun _ _ _ H _ I h => wpAny_tests_nil ⟨H, I, h⟩
theorem pts_one {c : Expr} {t : TT} (h : PT X c t) : PTs X [c] t := fun pins s σ H Q I hw => wpAny_tests_one (h pins s σ H Q I hw)
end
theorem thnF {α : Type} {t : Sem α} {Q Q' : α → Shared → Prop} {M : Model} {A : Around} {E : Value → Shared → Prop} {s : Shared} (h : wpAny M A t Q (fun _ _ => False) s) (hQ : ∀ a s, Q a s → Q' a s) : wpAny M A t Q' E s := wpAny_mono h hQ fun _ _ z => False.elim z
theorem compLoop_any {prog : Program} {w : World} {A : Around} {R : Result → Shared → Prop} {s : Shared} {elt target iter : Expr} {ifs : List Expr} {scope : Scope} {pos : Pos} {it acc : Value} {env : Env} (I : Nat → Shared → Prop)
    (turn : ∀ n s, I n s → wpAny (model prog w) A (pyNext it) (fun r s₁ => match r with
      | none => R (.ok .next) s₁
      | some v => wpAny (model prog w) A (letOwnedTupleGo target it v) (fun _ s₁' => wpAny (model prog w) A (assign target env v) (fun _ s₂ =>
          wpAny (model prog w) A (forIn ifs true fun c r => if r = true then do let ok ← isTrue c env (eval c env); pure (ForInStep.yield ok) else pure (ForInStep.yield r)) (fun ok s₃ =>
            if ok = true then wpAny (model prog w) A (eval elt env) (fun x s₄ =>
              wpAny (model prog w) A (call (.builtin "list.append") [acc, x]) (fun _ s₅ => ∃ m, m < n ∧ I m s₅) (notedBy (model prog w) A env fun e s' => R (.error e) s') s₄) (notedBy (model prog w) A env fun e s' => R (.error e) s') s₃
            else ∃ m, m < n ∧ I m s₃) (notedBy (model prog w) A env fun e s' => R (.error e) s') s₂) (notedBy (model prog w) A env fun e s' => R (.error e) s') s₁') (notedBy (model prog w) A env fun e s' => R (.error e) s') s₁) (notedBy (model prog w) A env fun e s' => R (.error e) s') s)
    (n : Nat) (h : I n s) :
    codeAny (model prog w) A (.compLoop (.ListComp elt [⟨target, iter, ifs, 0⟩] scope pos) 0 it acc env) R s := by
  refine codeAny_loop rfl I (fun n s hI => ?_) n h
  show wpAny _ A ((compTurn (.ListComp elt [⟨target, iter, ifs, 0⟩] scope pos) 0 it acc env).onRaise (fun x => do noteFrame x env; theTreesLotGoes x)) _ _ s
  refine wpAny_noted ?_
  rw [compTurn_list]
  refine wpAny_bind (wpAny_standAt (wpAny_bind (wpAny_mono (turn n s hI) (fun r s₁ h₁ => ?_) fun _ _ h' => h')))
  cases r with
  | none => exact wpAny_pure h₁
  | some v =>
    refine wpAny_bind (wpAny_mono h₁ (fun _ s₁' h₁' => ?_) fun _ _ h' => h')
    refine wpAny_bind (wpAny_mono h₁' (fun _ s₂ h₂ => wpAny_bind (wpAny_mono h₂ (fun ok s₃ h₃ => ?_) fun _ _ h' => h')) fun _ _ h' => h')
    cases ok with
    | false => exact wpAny_pure ⟨rfl, h₃⟩
    | true =>
      exact wpAny_bind (wpAny_bind (wpAny_mono h₃ (fun x s₄ h₄ => wpAny_bind (wpAny_mono h₄ (fun _ s₅ h₅ => wpAny_pure (wpAny_pure ⟨rfl, h₅⟩)) fun _ _ h' => h')) fun _ _ h' => h'))
section
variable {X : Cx}
def tLc (wi : TI) (g : TG) (tt : TT) (te : TE) (vs : List Nat) : TE := fun σ H Q => wi σ H fun J H1 => ∀ D, H1 D = none → ∃ W : Nat → Nat → Hp → Prop, (∃ m, W 0 m (upd H1 D (.lst []))) ∧ ∀ i m H, W i m H →
  (J.stop i H ∧ Q (.ref D) H) ∨ (J.go i H ∧ ∃ Nx : Hp → Prop, (∀ H', Nx H' → ∃ m', m' < m ∧ W (i + 1) m' H') ∧ ∀ x H', J.yld i H x H' → g x (wipe σ vs) H' fun σ2 H2 => wipe σ2 vs = wipe σ vs ∧ tt σ2 H2 fun b H3 =>
    if b = true then te σ2 H3 fun y H4 => ∃ acc, H4 D = some (.lst acc) ∧ acc.length < sizeLine ∧ Nx (upd H4 D (.lst (acc ++ [y]))) else Nx H3)
theorem lc_core {pins : List (Addr × Obj)} {s : Shared} {σ : St} {H : Hp} {Q : VK} {elt tg iter : Expr} {ifs : List Expr} {scope : Scope} {own : List (Str × Nat)} {pos pos' : Pos} {wi : TI} {g : TG} {tt : TT} {te : TE} {use : Option (Value → Sem Unit)} {Qf : Value → Shared → Prop}
    (hc : X.calm = true) (hN : X.N.Nodup) (I : Inv X pins σ H s) (hi : PI X tg iter wi) (ok : BlkOk X.N X.env.scope scope own)
    (hg : ∀ (s : Shared) (H : Hp) (C : Addr) (cl : List (Str × Addr)) (fp : List Addr), PG (X.blk s H scope (compEnvC scope cl C X.env) fp) tg g) (ht : ∀ (s : Shared) (H : Hp) (C : Addr) (cl : List (Str × Addr)) (fp : List Addr), PTs (X.blk s H scope (compEnvC scope cl C X.env) fp) ifs tt)
    (he : ∀ (s : Shared) (H : Hp) (C : Addr) (cl : List (Str × Addr)) (fp : List Addr), PE (X.blk s H scope (compEnvC scope cl C X.env) fp) elt te) (hs : ∀ x, foldedSetIterable iter X.env x = pure x)
    (h : tLc wi g tt te (own.map (·.2)) σ H Q)
    (hRR : ∀ D C s' m H', Inv X pins σ H' s' → Q (.ref D) H' → s'.heap.Ns C m → FpOk X pins H' C → compPost (model X.prog X.w) X.A X.xe use Qf (.ref D) C (.ok .next) s') :
    wpAny (model X.prog X.w) X.A (comprehension (.ListComp elt [⟨tg, iter, ifs, 0⟩] scope pos) scope X.env pos' (newList []) false (eval iter X.env) use) Qf X.xe s := by
  have hfree : ∀ y ∈ scope.names, y.2 = .free → ∃ c, X.env.cells.lookup y.1 = some c := fun y hy e => by
    rcases ok.free y hy e with k | k
    · exact I.ok.has _ (.inl k)
    · exact I.ok.has _ (.inr k)
  refine wpAny_comprehension_free (use := use) rfl hs (closure_ok hfree) ok.kind (fun y hy e => by rw [ok.uniq y hy, e])
    (thn (hi pins s σ H _ I h) fun xv s1 hx => thn hx fun itv s2 h2 => ?_)
  obtain ⟨it, fp, tn, J, H2, e, I2, T, st2, f2, q⟩ := h2
  subst e
  refine wpAny_newObj_type (newEnv_comp ?_) (by show 0 ≤ sizeLine; decide)
  generalize hD : s2.heap.objs.size = D
  have hDn : H2 D = none := I2.hok.fresh (Nat.le_of_eq hD)
  obtain ⟨W, ⟨m0, w0⟩, turn⟩ := q D hDn
  -- the new list
  generalize hs3 : ({ s2 with heap := s2.heap.push { cls := .type "list", data := .seq ([] : List Value).toArray } } : Shared) = s3
  have I3 : Inv X pins σ (upd H2 D (.lst [])) s3 := by
    rw [← hs3]
    refine I2.laid (t' := s2.toks) (fun b o e => Heap.get?_push_of_some _ e) (Nat.le_of_eq hD) ⟨Nat.zero_le _, [], 0, .nil, ?_⟩
    rw [← hD]
    exact Heap.get?_push_size _ rfl
  have h3 : s3.heap = s2.heap.push { cls := .type "list", data := .seq ([] : List Value).toArray } := by rw [← hs3]
  have sz : ∀ b ∈ fp, b < s2.heap.objs.size := fun b hb => by
    obtain ⟨o, e, _⟩ := T.obj _ _ st2 b hb
    exact Heap.lt_size e
  have f3 : ∀ b ∈ fp, FpOk X pins (upd H2 D (.lst [])) b ∧ b < s3.heap.objs.size := fun b hb => by
    have hlt := sz b hb
    refine ⟨⟨?_, (f2 b hb).2⟩, by rw [h3, Heap.size_push]; exact Nat.lt_succ_of_lt hlt⟩
    rw [upd_ne (by rw [← hD]; exact Nat.ne_of_lt hlt)]
    exact (f2 b hb).1
  have st3 : tn 0 s3.heap := T.keep _ _ _ st2 fun b _ o e => by rw [h3]; exact Heap.get?_push_of_some _ e
  have I4 := block_start I3 ok hN f3
  have pg := hg s3 (upd H2 D (.lst [])) s3.heap.objs.size (cellsFrom (s3.heap.objs.size + 1) scope.names (cloFrom X.env.cells scope.names [])) fp
  have pt := ht s3 (upd H2 D (.lst [])) s3.heap.objs.size (cellsFrom (s3.heap.objs.size + 1) scope.names (cloFrom X.env.cells scope.names [])) fp
  have pe := he s3 (upd H2 D (.lst [])) s3.heap.objs.size (cellsFrom (s3.heap.objs.size + 1) scope.names (cloFrom X.env.cells scope.names [])) fp
  show codeAny _ _ (.compStart (.ListComp elt [⟨tg, iter, ifs, 0⟩] scope pos) 0 (.ref it) (.ref D) (compEnvC scope (cellsFrom (s3.heap.objs.size + 1) scope.names (cloFrom X.env.cells scope.names [])) s3.heap.objs.size X.env)) (compPost (model X.prog X.w) X.A X.xe use Qf (.ref D) s3.heap.objs.size) { s3 with heap := pushCells (s3.heap.push { cls := .type "dict", data := .dict #[] }) scope.names }
  have nfp : ∀ b ∈ fp, (upd H2 D (.lst [])) b = none := fun b hb => (f3 b hb).1.1
  generalize hce : compEnvC scope (cellsFrom (s3.heap.objs.size + 1) scope.names (cloFrom X.env.cells scope.names [])) s3.heap.objs.size X.env = ce at I4 pg pt pe ⊢
  have cL : ce.locals = s3.heap.objs.size := by subst hce; rfl
  generalize hH3 : upd H2 D (.lst []) = H3 at I3 I4 pg pt pe w0 nfp f3
  generalize hs4 : ({ s3 with heap := pushCells (s3.heap.push { cls := .type "dict", data := .dict #[] }) scope.names } : Shared) = s4 at I4 ⊢
  have st4 : tn 0 s4.heap := T.keep _ _ _ st3 fun b _ o e => by rw [← hs4]; exact pushCells_keeps _ _ _ _ (Heap.get?_push_of_some _ e)
  have stat : ∀ {σ' : St} {H' : Hp} {s' : Shared}, Inv (X.blk s3 H3 scope ce fp) [] σ' H' s' → (∀ b ∈ fp, H' b = none) → ∀ b ∈ fp, FpOk (X.blk s3 H3 scope ce fp) [] H' b := fun {σ' H' s'} I' hn b hb =>
    ⟨hn b hb, (I'.ok.exf b hb).1, I'.ok.exfs b hb, .inl hb, fun x c e => (I'.ok.exf b hb).2 x c e, fun p hp => absurd (show p ∈ ([] : List (Addr × Obj)) ++ [] from hp) (by simp)⟩
  have loop : codeAny (model X.prog X.w) X.A (.compLoop (.ListComp elt [⟨tg, iter, ifs, 0⟩] scope pos) 0 (.ref it) (.ref D) ce) (compPost (model X.prog X.w) X.A X.xe use Qf (.ref D) s3.heap.objs.size) s4 := by
    refine compLoop_any (fun n s' => ∃ i H', Inv (X.blk s3 H3 scope ce fp) [] (wipe σ (own.map (·.2))) H' s' ∧ tn i s'.heap ∧ (∀ b ∈ fp, H' b = none) ∧ W i n H') ?_ m0 ⟨0, H3, I4, st4, nfp, w0⟩
    rintro n s5 ⟨i, H5, I5, st5, n5, w5⟩
    rcases turn i n H5 w5 with ⟨stop, qq⟩ | ⟨go, Nx, hNx, step⟩
    · have td := T.done (X.blk s3 H3 scope ce fp) rfl rfl rfl hc i [] s5 _ H5 (fun _ _ => False) I5 (stat I5 n5) st5 stop
      refine thnF td fun r s6 ⟨hr, I6⟩ => ?_
      subst hr
      -- back in the def's context
      have I7 : Inv X pins σ H5 s6 := I3.call' (ch := fp) I6.os I6.base I6.hok I6.bare fun b hb => ⟨(f3 b hb).1.2.2.2.1, (f3 b hb).1.2.1, (f3 b hb).1.2.2.2.2.1, (f3 b hb).1.2.2.2.2.2⟩
      have nC : H5 s3.heap.objs.size = none := by
        have z : H5 ce.locals = none := I6.free
        rw [cL] at z
        exact z
      obtain ⟨m, hn, _⟩ := I6.loc
      have hn : s6.heap.Ns ce.locals m := hn
      rw [cL] at hn
      exact hRR D s3.heap.objs.size s6 m H5 I7 qq hn (I3.fpOk (Nat.le_refl _) nC)
    · have ti := T.item (X.blk s3 H3 scope ce fp) rfl rfl rfl hc i [] s5 _ H5 (fun _ _ => False) I5 (stat I5 n5) st5 go
      refine thnF ti fun r s6 ⟨u, hr, h6⟩ => ?_
      subst hr
      refine thnF h6 fun _ s7 ⟨x, H7, I7, r7, y7, st7, n7⟩ => ?_
      have I7' := I7.pinned (stat I7 n7) (T.obj _ _ st7)
      refine thnF (pg _ s7 _ H7 x u _ I7' r7 (step x H7 y7)) fun _ s8 ⟨σ8, H8, I8, hw8, q8⟩ => ?_
      refine thnF (pt _ s8 σ8 H8 _ I8 q8) fun b s9 ⟨H9, I9, q9⟩ => ?_
      -- the turn's end
      have fin : ∀ {s' : Shared} {H' : Hp}, Inv (X.blk s3 H3 scope ce fp) ([] ++ pinsAt fp s7.heap) σ8 H' s' → Nx H' → ∃ m, m < n ∧ ∃ i H', Inv (X.blk s3 H3 scope ce fp) [] (wipe σ (own.map (·.2))) H' s' ∧ tn i s'.heap ∧ (∀ b ∈ fp, H' b = none) ∧ W i m H' := fun {s' H'} I' nx => by
        obtain ⟨m', hm, w'⟩ := hNx H' nx
        have pin' : ∀ b ∈ fp, ∀ o, s7.heap.get? b = some o → s'.heap.get? b = some o ∧ H' b = none := fun b hb o e =>
          let z := I'.pin (b, o) (List.mem_append_right _ (List.mem_append_right _ (mem_pinsAt hb e)))
          ⟨z.1, z.2.1⟩
        have hl : (wipe σ (own.map (·.2))).length = σ8.length := by rw [← hw8, wipe_length]
        refine ⟨m', hm, i + 1, H', (I'.unpinned (pins := [])).weak hl (fun j v e => ?_), T.keep _ _ _ st7 fun b hb o e => (pin' b hb o e).1, fun b hb => ?_, w'⟩
        · rw [← hw8] at e
          exact (wipe_some e).1
        · obtain ⟨o, e, _⟩ := T.obj _ _ st7 b hb
          exact (pin' b hb o e).2
      cases b with
      | false =>
        simp only [Bool.false_eq_true, if_false] at q9 ⊢
        exact fin I9 q9
      | true =>
        simp only [if_true] at q9 ⊢
        refine thnF (pe _ s9 σ8 H9 _ I9 q9) fun z s10 ⟨yv, H10, I10, r10, acc, hD10, hz10, nx⟩ => ?_
        exact app_ok (X := X.blk s3 H3 scope ce fp) I10 hD10 hz10 r10 fun s11 I11 => fin I11 nx
  exact codeAny_compStart_list loop (T.self X.A 0 _ _ _ st4 loop)
theorem pe_lc {elt tg iter : Expr} {ifs : List Expr} {scope : Scope} {own : List (Str × Nat)} {pos : Pos} {wi : TI} {g : TG} {tt : TT} {te : TE} (hc : X.calm = true) (hN : X.N.Nodup) (hi : PI X tg iter wi) (ok : BlkOk X.N X.env.scope scope own)
    (hg : ∀ (s : Shared) (H : Hp) (C : Addr) (cl : List (Str × Addr)) (fp : List Addr), PG (X.blk s H scope (compEnvC scope cl C X.env) fp) tg g) (ht : ∀ (s : Shared) (H : Hp) (C : Addr) (cl : List (Str × Addr)) (fp : List Addr), PTs (X.blk s H scope (compEnvC scope cl C X.env) fp) ifs tt)
    (he : ∀ (s : Shared) (H : Hp) (C : Addr) (cl : List (Str × Addr)) (fp : List Addr), PE (X.blk s H scope (compEnvC scope cl C X.env) fp) elt te) (hs : ∀ x, foldedSetIterable iter X.env x = pure x := by intro _; rfl) :
    PE X (.ListComp elt [⟨tg, iter, ifs, 0⟩] scope pos) (tLc wi g tt te (own.map (·.2))) := by
  intro pins s σ H Q I h
  rw [eval_ListComp]
  refine lc_core hc hN I hi ok hg ht he hs h fun D C s' m H' I' q hn f => ⟨m, hn, fun h'' sb => ?_⟩
  obtain ⟨f0, f1, f2, f3, f4, f5⟩ := f
  exact ⟨.ref D, H', I'.turned (t' := s'.toks) (fun b o hb e => (sb.2 b hb).trans e) f0 f1 f3 f4 f5, rfl, q⟩
theorem ps_setLc {i : Nat} {y : Str} {py : Pos} {elt tg iter : Expr} {ifs : List Expr} {scope : Scope} {own : List (Str × Nat)} {pos spos : Pos} {wi : TI} {g : TG} {tt : TT} {te : TE} (hc : X.calm = true) (hN : X.N.Nodup) (hy : X.N[i]? = some y) (hyl : X.env.scope.names.lookup y = some .local)
    (hsw : swapsWith (.ListComp elt [⟨tg, iter, ifs, 0⟩] scope pos) (some (.Name y py)) spos.line X.env = pure true) (hi : PI X tg iter wi) (ok : BlkOk X.N X.env.scope scope own)
    (hg : ∀ (s : Shared) (H : Hp) (C : Addr) (cl : List (Str × Addr)) (fp : List Addr), PG (X.blk s H scope (compEnvC scope cl C X.env) fp) tg g) (ht : ∀ (s : Shared) (H : Hp) (C : Addr) (cl : List (Str × Addr)) (fp : List Addr), PTs (X.blk s H scope (compEnvC scope cl C X.env) fp) ifs tt)
    (he : ∀ (s : Shared) (H : Hp) (C : Addr) (cl : List (Str × Addr)) (fp : List Addr), PE (X.blk s H scope (compEnvC scope cl C X.env) fp) elt te) (hs : ∀ x, foldedSetIterable iter X.env x = pure x := by intro _; rfl) :
    PS X (.Assign [.Name y py] (.ListComp elt [⟨tg, iter, ifs, 0⟩] scope pos) spos) (tAsg (tLc wi g tt te (own.map (·.2))) (gName i)) := by
  intro pins s σ H D I h
  rw [exec_Assign_Name_used _ _ _ _ hsw]
  refine wpAny_bind (wpAny_standAt (wpAny_bind ?_))
  show wpAny _ X.A (do let _ ← comprehension (.ListComp elt [⟨tg, iter, ifs, 0⟩] scope pos) scope X.env (firstIterPos [⟨tg, iter, ifs, 0⟩] pos) (newList []) false (eval iter X.env) (some (assign (.Name y py) X.env))) _ _ s
  have h : tLc wi g tt te (own.map (·.2)) σ H (fun x H1 => gName i x σ H1 D.nx) := h
  refine wpAny_bind (thn (lc_core (Qf := fun _ s' => SP X pins D .next s') hc hN I hi ok hg ht he hs h fun L C s' m H' I' q hn f => ?_) fun _ s' hq => wpAny_pure (wpAny_pure hq))
  show wpAny _ _ (assign (.Name y py) X.env (.ref L)) _ _ _
  refine wpAny_assign_Name (store_ok2 (v := V.ref L) I' hN hy (.inl hyl) rfl (fun s2 I2 ⟨a, sb, ha⟩ => ?_) (.inr hyl))
  obtain ⟨f0, f1, f2, f3, f4, f5⟩ := f
  have haC : C ≠ a := by
    rcases ha with z | z
    · rw [z]; exact f1
    · exact fun e => f4 y a z e.symm
  refine ⟨m, hn.sameBut sb haC, fun h3 sb3 => ?_⟩
  exact ⟨_, H', I2.turned (t' := s2.toks) (fun b o hb e => (sb3.2 b hb).trans e) f0 f1 f3 f4 f5, q⟩
theorem sw_true {elt : Expr} {gs : List Comprehension} {scope : Scope} {pos py : Pos} {y : Str} {l : Nat} {env : Env} (hk : env.scope.kind = .function) (hy : env.scope.names.lookup y = some .local) (hl : (py.line == pos.line) = true)
    (ha : (scope.names.any fun (n, k) => n == y && (k == .local || k == .cell)) = false) : swapsWith (.ListComp elt gs scope pos) (some (.Name y py)) l env = pure true := by
  have ky : env.kindOf y = some .local := hy
  have hb : env.blockKind = .function := by unfold Env.blockKind; rw [hk]; rfl
  unfold swapsWith
  simp only [hb, ky, ha, Expr.pos, hl]
  rfl
end
theorem lc_list {K : PySem.W.Frag} {a : Addr} {xs : List V} {g : TG} {tt : TT} {te : TE} {vs : List Nat} {σ : St} {H1 : Hp} {D : Addr} {Qd : Hp → Prop} (Pv : Nat → Hp → Prop) (h0 : Pv 0 (upd H1 D (.lst []))) (hl : ∀ i H, i ≤ xs.length → Pv i H → SqL K H a xs)
    (hs : ∀ i x H, xs[i]? = some x → Pv i H → g x (wipe σ vs) H fun σ2 H2 => wipe σ2 vs = wipe σ vs ∧ tt σ2 H2 fun b H3 =>
      if b = true then te σ2 H3 fun y H4 => ∃ acc, H4 D = some (.lst acc) ∧ acc.length < sizeLine ∧ Pv (i + 1) (upd H4 D (.lst (acc ++ [y]))) else Pv (i + 1) H3) (hd : ∀ H, Pv xs.length H → Qd H) :
    ∃ W : Nat → Nat → Hp → Prop, (∃ m, W 0 m (upd H1 D (.lst []))) ∧ ∀ i m H, W i m H →
      ((Itl K a).stop i H ∧ Qd H) ∨ ((Itl K a).go i H ∧ ∃ Nx : Hp → Prop, (∀ H', Nx H' → ∃ m', m' < m ∧ W (i + 1) m' H') ∧ ∀ x H', (Itl K a).yld i H x H' → g x (wipe σ vs) H' fun σ2 H2 => wipe σ2 vs = wipe σ vs ∧ tt σ2 H2 fun b H3 =>
        if b = true then te σ2 H3 fun y H4 => ∃ acc, H4 D = some (.lst acc) ∧ acc.length < sizeLine ∧ Nx (upd H4 D (.lst (acc ++ [y]))) else Nx H3) := by
  refine ⟨fun i m H => m = xs.length - i ∧ i ≤ xs.length ∧ Pv i H, ⟨xs.length, by simp, Nat.zero_le _, h0⟩, ?_⟩
  rintro i m H ⟨rfl, hi, p⟩
  have q := hl i H hi p
  by_cases hlt : i < xs.length
  · refine .inr ⟨⟨xs, xs[i], q, by simp [hlt]⟩, Pv (i + 1), fun H' p' => ⟨xs.length - (i + 1), by omega, rfl, hlt, p'⟩, fun x H' y => ?_⟩
    obtain ⟨e, y⟩ := y
    subst e
    exact hs i x _ (y xs q) p
  · have e : i = xs.length := by omega
    subst e
    exact .inl ⟨⟨xs, q, Nat.le_refl _⟩, hd H p⟩
def blkC (N : List Str) (sc scope : Scope) (own : List (Str × Nat)) : Bool :=
  (match scope.kind with | .function => true | _ => false) && (scope.names.all fun y => decide (scope.names.lookup y.1 = some y.2)) && (own.all fun p => decide (N[p.2]? = some p.1)) &&
    (scope.names.all fun y => match y.2 with
      | .free => (match sc.names.lookup y.1 with | some .cell => true | some .free => true | _ => false)
      | .local => decide (y.1 ∈ own.map (·.1)) || decide (y.1 ∉ N)
      | .cell => decide (y.1 ∈ own.map (·.1)) || decide (y.1 ∉ N)
      | _ => true)
theorem blkOk_by {N : List Str} {sc scope : Scope} {own : List (Str × Nat)} (h : blkC N sc scope own = true) : BlkOk N sc scope own := by
  unfold blkC at h
  simp only [Bool.and_eq_true, List.all_eq_true, decide_eq_true_eq] at h
  obtain ⟨⟨⟨h1, h2⟩, h3⟩, h4⟩ := h
  refine ⟨?_, h2, h3, fun y hy e => ?_, fun y hy e => ?_⟩
  · split at h1
    · assumption
    · cases h1
  · have q := h4 y hy
    simp only [e] at q
    split at q <;> first | exact .inl (by assumption) | exact .inr (by assumption) | cases q
  · have q := h4 y hy
    rcases e with e | e <;> (simp only [e, Bool.or_eq_true, decide_eq_true_eq] at q; exact q)
end L2
namespace L2
open PySem PySem.Spec PyProof.Rows
section
variable {prog : Program} {w : World} {A : Around} {R : Result → Shared → Prop} {s : Shared} {elt t0 i0 t1 i1 : Expr} {ifs0 ifs1 : List Expr} {scope : Scope} {pos : Pos} {it acc : Value} {env : Env}
end
section
variable {X : Cx}
def tLc2 (wi : TI) (g : TG) (tt : TT) (wi1 : TI) (g1 : TG) (tt1 : TT) (te : TE) (vs vs1 : List Nat) : TE := fun σ H Q => wi σ H fun J H1 => ∀ D, H1 D = none → ∃ W : Nat → Nat → Hp → Prop, (∃ m, W 0 m (upd H1 D (.lst []))) ∧ ∀ i m H, W i m H →
  (J.stop i H ∧ Q (.ref D) H) ∨ (J.go i H ∧ ∃ Nx : Hp → Prop, (∀ H', Nx H' → ∃ m', m' < m ∧ W (i + 1) m' H') ∧ ∀ x H', J.yld i H x H' → g x (wipe σ vs) H' fun σ2 H2 => wipe σ2 vs = wipe σ vs ∧ tt σ2 H2 fun b H3 =>
    if b = true then wi1 σ2 H3 fun J1 H4 => ∃ W1 : Nat → Nat → Hp → Prop, (∃ m, W1 0 m H4) ∧ ∀ j k H, W1 j k H →
      (J1.stop j H ∧ Nx H) ∨ (J1.go j H ∧ ∃ Nx1 : Hp → Prop, (∀ H', Nx1 H' → ∃ k', k' < k ∧ W1 (j + 1) k' H') ∧ ∀ x H', J1.yld j H x H' → g1 x (wipe σ2 vs1) H' fun σ3 H5 => wipe σ3 vs1 = wipe σ2 vs1 ∧ tt1 σ3 H5 fun b H6 =>
        if b = true then te σ3 H6 fun y H7 => ∃ acc, H7 D = some (.lst acc) ∧ acc.length < sizeLine ∧ Nx1 (upd H7 D (.lst (acc ++ [y]))) else Nx1 H6)
    else Nx H3)
end
end L2
namespace L2
open PySem PySem.Spec PyProof.Rows
section
variable {κ : Type} [DecidableEq κ]
def valV (kvs : List (κ × V)) (k : κ) : Option V := (kvs.find? fun kv => decide (kv.1 = k)).map (·.2)
def putK (kvs : List (κ × V)) (k : κ) (v : V) : List (κ × V) :=
  if (kvs.any fun kv => decide (kv.1 = k)) = true then kvs.map (fun kv => if kv.1 = k then (kv.1, v) else kv) else kvs ++ [(k, v)]
def dropK (kvs : List (κ × V)) (k : κ) : List (κ × V) := kvs.filter fun kv => decide (kv.1 ≠ k)
theorem valV_pos {p : κ × V} {r : List (κ × V)} {k : κ} (e : p.1 = k) : valV (p :: r) k = some p.2 := by simp [valV, List.find?_cons, e]
theorem valV_neg {p : κ × V} {r : List (κ × V)} {k : κ} (e : ¬ p.1 = k) : valV (p :: r) k = valV r k := by simp [valV, List.find?_cons, e]
theorem valV_any (k : κ) : ∀ kvs : List (κ × V), (kvs.any fun kv => decide (kv.1 = k)) = (valV kvs k).isSome
  | [] => rfl
  | p :: r => by
    rw [List.any_cons]
    by_cases e : p.1 = k
    · simp only [valV_pos e, decide_eq_true e, Bool.true_or, Option.isSome_some]
    · rw [valV_neg e, decide_eq_false e, Bool.false_or]; exact valV_any k r
theorem valV_map (k j : κ) (y : V) : ∀ kvs : List (κ × V), valV (kvs.map fun kv => if kv.1 = k then (kv.1, y) else kv) j = (valV kvs j).map fun x => if j = k then y else x
  | [] => rfl
  | p :: r => by
    have ih := valV_map k j y r
    rw [List.map_cons]
    by_cases h : p.1 = k
    · rw [if_pos h]
      by_cases e : p.1 = j
      · rw [valV_pos (p := (p.1, y)) e, valV_pos e, Option.map_some, if_pos (e.symm.trans h)]
      · rw [valV_neg (p := (p.1, y)) e, valV_neg e, ih]
    · rw [if_neg h]
      by_cases e : p.1 = j
      · rw [valV_pos (p := p) e, valV_pos e, Option.map_some, if_neg (fun z => h (e.trans z))]
      · rw [valV_neg (p := p) e, valV_neg e, ih]
theorem valV_snoc (k j : κ) (y : V) : ∀ kvs : List (κ × V), valV kvs k = none → valV (kvs ++ [(k, y)]) j = if j = k then some y else valV kvs j
  | [], _ => by
    by_cases e : k = j
    · rw [if_pos e.symm]; exact valV_pos (p := (k, y)) e
    · rw [if_neg (fun z => e z.symm)]; exact valV_neg (p := (k, y)) e
  | p :: r, hn => by
    rw [List.cons_append]
    have hk : ¬ p.1 = k := fun z => by rw [valV_pos z] at hn; cases hn
    rw [valV_neg hk] at hn
    have ih := valV_snoc k j y r hn
    by_cases e : p.1 = j
    · rw [valV_pos e, valV_pos e, if_neg (fun z => hk (e.trans z))]
    · rw [valV_neg e, valV_neg e, ih]
theorem valV_put (kvs : List (κ × V)) (k j : κ) (y : V) : valV (putK kvs k y) j = if j = k then some y else valV kvs j := by
  unfold putK
  by_cases a : (kvs.any fun kv => decide (kv.1 = k)) = true
  · rw [if_pos a, valV_map]
    rw [valV_any] at a
    by_cases e : j = k
    · obtain ⟨x, hx⟩ := Option.isSome_iff_exists.mp a
      rw [if_pos e, e, hx, Option.map_some, if_pos rfl]
    · rw [if_neg e]
      cases valV kvs j with
      | none => rfl
      | some x => rw [Option.map_some, if_neg e]
  · rw [if_neg a]
    refine valV_snoc k j y kvs ?_
    rw [valV_any] at a
    cases q : valV kvs k with
    | none => rfl
    | some x => rw [q] at a; exact (a rfl).elim
theorem length_putK (kvs : List (κ × V)) (k : κ) (v : V) : (putK kvs k v).length ≤ kvs.length + 1 := by
  unfold putK
  split
  · rw [List.length_map]; omega
  · rw [List.length_append, List.length_cons, List.length_nil]; omega
theorem putK_new {kvs : List (κ × V)} {k : κ} (v : V) (h : valV kvs k = none) : putK kvs k v = kvs ++ [(k, v)] := by
  unfold putK
  rw [valV_any, h]
  exact if_neg (by decide)
theorem RelO.isSome_eq {o : Option V} {u : Option Value} (r : RelO o u) : o.isSome = u.isSome := by
  cases o with
  | none => cases u with
    | none => rfl
    | some _ => exact (show False from r).elim
  | some _ => cases u with
    | none => exact (show False from r).elim
    | some _ => rfl
theorem RelO.getD {o : Option V} {u : Option Value} {d : V} {d' : Value} (r : RelO o u) (rd : RelV d d') : RelV (o.getD d) (u.getD d') := by
  cases o with
  | none => cases u with
    | none => exact rd
    | some _ => exact (show False from r).elim
  | some _ => cases u with
    | none => exact (show False from r).elim
    | some _ => exact r
theorem KV.val {kvs : List (κ × V)} {vs : List (κ × Value)} (r : KV kvs vs) (k : κ) : RelO (valV kvs k) (valueAt vs k) := by
  unfold KV at r
  induction r with
  | nil => exact True.intro
  | @cons p q ps qs h t ih =>
    obtain ⟨h1, h2⟩ := h
    by_cases e : p.1 = k
    · have e' : q.1 = k := h1.symm.trans e
      have b : valueAt (q :: qs) k = some q.2 := by simp [valueAt, List.find?_cons, e']
      rw [valV_pos e, b]; exact h2
    · have e' : ¬ q.1 = k := fun z => e (h1.trans z)
      have b : valueAt (q :: qs) k = valueAt qs k := by simp [valueAt, List.find?_cons, e']
      rw [valV_neg e, b]; exact ih
theorem KV.any {kvs : List (κ × V)} {vs : List (κ × Value)} (r : KV kvs vs) (k : κ) : (kvs.any fun kv => decide (kv.1 = k)) = vs.any fun kv => decide (kv.1 = k) := by
  unfold KV at r
  induction r with
  | nil => rfl
  | cons h t ih => rw [List.any_cons, List.any_cons, ih, h.1]
theorem KV.repl {kvs : List (κ × V)} {vs : List (κ × Value)} (r : KV kvs vs) (k : κ) {y : V} {u : Value} (ry : RelV y u) :
    KV (kvs.map fun kv => if kv.1 = k then (kv.1, y) else kv) (vs.map fun kv => if kv.1 = k then (kv.1, u) else kv) := by
  unfold KV at r ⊢
  induction r with
  | nil => exact .nil
  | @cons p q ps qs h t ih =>
    rw [List.map_cons, List.map_cons]
    refine .cons ?_ ih
    obtain ⟨h1, h2⟩ := h
    by_cases e : p.1 = k
    · rw [if_pos e, if_pos (h1.symm.trans e)]; exact ⟨h1, ry⟩
    · rw [if_neg e, if_neg (fun z => e (h1.trans z))]; exact ⟨h1, h2⟩
theorem KV.put {kvs : List (κ × V)} {vs : List (κ × Value)} (r : KV kvs vs) (k : κ) {y : V} {u : Value} (ry : RelV y u) : KV (putK kvs k y) (stored vs k u) := by
  unfold putK stored
  rw [r.any k]
  by_cases e : (vs.any fun kv => decide (kv.1 = k)) = true
  · rw [if_pos e, if_pos e]; exact r.repl k ry
  · rw [if_neg e, if_neg e]; exact Paired.snoc r ⟨rfl, ry⟩
theorem KV.drop {kvs : List (κ × V)} {vs : List (κ × Value)} (r : KV kvs vs) (k : κ) : KV (dropK kvs k) (without vs k) := by
  unfold KV at r ⊢
  unfold dropK without
  induction r with
  | nil => exact .nil
  | @cons p q ps qs h t ih =>
    obtain ⟨h1, h2⟩ := h
    rw [List.filter_cons, List.filter_cons]
    by_cases e : p.1 = k
    · have a : ¬ decide (p.1 ≠ k) = true := by simp [e]
      have b : ¬ decide (q.1 ≠ k) = true := by simp [h1.symm.trans e]
      rw [if_neg a, if_neg b]; exact ih
    · have e' : ¬ q.1 = k := fun z => e (h1.trans z)
      have a : decide (p.1 ≠ k) = true := by simp [e]
      have b : decide (q.1 ≠ k) = true := by simp [e']
      rw [if_pos a, if_pos b]; exact .cons ⟨h1, h2⟩ ih
theorem KV.keys {kvs : List (κ × V)} {vs : List (κ × Value)} (r : KV kvs vs) : kvs.map (·.1) = vs.map (·.1) := by
  unfold KV at r
  induction r with
  | nil => rfl
  | cons h t ih => rw [List.map_cons, List.map_cons, ih, h.1]
theorem KV.length {kvs : List (κ × V)} {vs : List (κ × Value)} (r : KV kvs vs) : kvs.length = vs.length := Paired.length r
theorem dropK_le (kvs : List (κ × V)) (k : κ) : (dropK kvs k).length ≤ kvs.length := List.length_filter_le _ _
end
theorem kV_is {P : Program} {w : World} {k : Key} {u : Value} (r : RelV (kV k) u) : (mixKind P w).is k u = true := by
  cases k with
  | inl i => obtain ⟨t, e⟩ := (show ∃ t, u = Value.int i t from r); subst e; exact mixKind_int P w i t
  | inr x => obtain ⟨t, e⟩ := (show ∃ t, u = Value.str x t from r); subst e; exact mixKind_str P w x t
theorem items_are {P : Program} {w : World} : ∀ {ks : List Key} {us : List Value}, Vals (ks.map kV) us → ItemsAre (mixKind P w) ks us
  | [], _, r => by rw [List.map_nil] at r; cases r; exact .nil
  | k :: ks, _, r => by
    rw [List.map_cons] at r
    cases r with
    | cons h t => exact .cons (kV_is h) (items_are t)
abbrev KT (H : Hp) : List (List Key × V) → List (List Key × Addr × Value) → Prop := Paired fun p q => p.1 = q.1 ∧ H q.2.1 = some (.tup (p.1.map kV)) ∧ RelV p.2 q.2.2
theorem KT.val {H : Hp} {kvs : List (List Key × V)} {xs : List (List Key × Addr × Value)} (r : KT H kvs xs) (k : List Key) : RelO (valV kvs k) ((atKey xs k).map (·.2)) := by
  induction r with
  | nil => exact True.intro
  | @cons p q ps qs h t ih =>
    obtain ⟨h1, _, h2⟩ := h
    by_cases e : p.1 = k
    · have e' : q.1 = k := h1.symm.trans e
      have b : atKey (q :: qs) k = some q.2 := by simp [atKey, List.find?_cons, e']
      rw [valV_pos e, b]; exact h2
    · have e' : ¬ q.1 = k := fun z => e (h1.trans z)
      have b : atKey (q :: qs) k = atKey qs k := by simp [atKey, List.find?_cons, e']
      rw [valV_neg e, b]; exact ih
theorem KT.repl {H : Hp} {kvs : List (List Key × V)} {xs : List (List Key × Addr × Value)} (r : KT H kvs xs) (k : List Key) {y : V} {u : Value} (ry : RelV y u) :
    KT H (kvs.map fun kv => if kv.1 = k then (kv.1, y) else kv) (xs.map (putAt k u)) := by
  induction r with
  | nil => exact .nil
  | @cons p q ps qs h t ih =>
    rw [List.map_cons, List.map_cons]
    refine .cons ?_ ih
    obtain ⟨h1, h2, h3⟩ := h
    unfold putAt
    by_cases e : p.1 = k
    · rw [if_pos e, if_pos (h1.symm.trans e)]; exact ⟨h1, h2, ry⟩
    · rw [if_neg e, if_neg (fun z => e (h1.trans z))]; exact ⟨h1, h2, h3⟩
theorem KT.put {H : Hp} {kvs : List (List Key × V)} {xs : List (List Key × Addr × Value)} (r : KT H kvs xs) (k : List Key) {b : Addr} {y : V} {u : Value} (hb : H b = some (.tup (k.map kV))) (ry : RelV y u) :
    KT H (putK kvs k y) (storedH xs k b u) := by
  have e : (kvs.any fun kv => decide (kv.1 = k)) = (atKey xs k).isSome := by
    rw [valV_any, (r.val k).isSome_eq, Option.isSome_map]
  unfold putK storedH
  rw [e]
  by_cases q : (atKey xs k).isSome = true
  · rw [if_pos q, if_pos q]; exact r.repl k ry
  · rw [if_neg q, if_neg q]; exact Paired.snoc r ⟨rfl, hb, ry⟩
theorem KT.keeps {H H' : Hp} {kvs : List (List Key × V)} {xs : List (List Key × Addr × Value)} (r : KT H kvs xs) (ht : ∀ b ys, H b = some (.tup ys) → H' b = some (.tup ys)) : KT H' kvs xs :=
  Paired.mapP r fun _ _ z => ⟨z.1, ht _ _ z.2.1, z.2.2⟩
section
variable {P : Program} {w : World} {H : Hp} {h : Heap} {a : Addr}
theorem rd_of {u : HO} (ok : HOk P w H h) (e : Rd H a u) : ObjOk P w H h a u := e.ok ok
theorem dk_rd {kvs : List (Key × V)} (ok : HOk P w H h) (e : Rd H a (.dK kvs)) : kvs.length ≤ sizeLine ∧ (a == sysModules) = false ∧ ∃ vs, KV kvs vs ∧ h.DictOf (mixKind P w) a vs :=
  show ObjOk P w H h a (.dK kvs) from rd_of ok e
theorem dk_of {kvs : List (Key × V)} (ok : HOk P w H h) (e : H a = some (.dK kvs)) : kvs.length ≤ sizeLine ∧ (a == sysModules) = false ∧ ∃ vs, KV kvs vs ∧ h.DictOf (mixKind P w) a vs := dk_rd ok (.inl e)
theorem key_of {ks : List Key} (ok : HOk P w H h) (e : H a = some (.tup (ks.map kV))) : (tupleKind (mixKind P w)).is h ks a := by
  obtain ⟨_, its, r, o, h1, h2, n, h3⟩ := (show ObjOk P w H h a (.tup (ks.map kV)) from ok a _ e)
  exact ⟨o, its.toArray, n, h1, h2, h3, by simpa using items_are r⟩
theorem dt_rd {kvs : List (List Key × V)} (ok : HOk P w H h) (e : Rd H a (.dT kvs)) : kvs.length ≤ sizeLine ∧ (a == sysModules) = false ∧
    ∃ xs, KT H kvs xs ∧ h.DictOfH (tupleKind (mixKind P w)) a xs := by
  obtain ⟨z, y, xs, r, o, es, ep, h1, h2, h3, h4, h5⟩ := (show ObjOk P w H h a (.dT kvs) from rd_of ok e)
  refine ⟨z, y, xs, r, o, es, ep, h1, h2, h3, h4, fun x hx => ?_, h5⟩
  have all : ∀ {l : List (List Key × V)} {m : List (List Key × Addr × Value)}, KT H l m → ∀ x ∈ m, (tupleKind (mixKind P w)).is h x.1 x.2.1 := by
    intro l m q
    induction q with
    | nil => intro x hx; exact nomatch hx
    | @cons p q ps qs hq t ih =>
      intro x hx
      rcases List.mem_cons.mp hx with e | hx
      · subst e
        exact key_of ok (by rw [← hq.1]; exact hq.2.1)
      · exact ih x hx
  exact all r x hx
theorem dt_of {kvs : List (List Key × V)} (ok : HOk P w H h) (e : H a = some (.dT kvs)) : kvs.length ≤ sizeLine ∧ (a == sysModules) = false ∧
    ∃ xs, KT H kvs xs ∧ h.DictOfH (tupleKind (mixKind P w)) a xs := dt_rd ok (.inl e)
end
def DGet (H : Hp) (a : Addr) (y : V) (r : Option V) : Prop :=
  (∃ kvs k, Rd H a (.dK kvs) ∧ y = kV k ∧ r = valV kvs k) ∨ ∃ kvs k b, Rd H a (.dT kvs) ∧ y = .ref b ∧ H b = some (.tup (k.map kV)) ∧ r = valV kvs k
def DPut (H : Hp) (a : Addr) (y v : V) (H' : Hp) : Prop :=
  (∃ kvs k, H a = some (.dK kvs) ∧ y = kV k ∧ kvs.length < sizeLine ∧ H' = upd H a (.dK (putK kvs k v))) ∨
  ∃ kvs k b, H a = some (.dT kvs) ∧ y = .ref b ∧ H b = some (.tup (k.map kV)) ∧ kvs.length < sizeLine ∧ H' = upd H a (.dT (putK kvs k v))
theorem DGet.k {H : Hp} {a : Addr} {kvs : List (Key × V)} {k : Key} (e : H a = some (.dK kvs)) : DGet H a (kV k) (valV kvs k) := .inl ⟨kvs, k, .inl e, rfl, rfl⟩
theorem DGet.t {H : Hp} {a b : Addr} {kvs : List (List Key × V)} {k : List Key} (e : H a = some (.dT kvs)) (eb : H b = some (.tup (k.map kV))) : DGet H a (.ref b) (valV kvs k) := .inr ⟨kvs, k, b, .inl e, rfl, eb, rfl⟩
theorem DPut.k {H : Hp} {a : Addr} {kvs : List (Key × V)} {k : Key} {v : V} (e : H a = some (.dK kvs)) (hl : kvs.length < sizeLine) : DPut H a (kV k) v (upd H a (.dK (putK kvs k v))) := .inl ⟨kvs, k, e, rfl, hl, rfl⟩
theorem DPut.t {H : Hp} {a b : Addr} {kvs : List (List Key × V)} {k : List Key} {v : V} (e : H a = some (.dT kvs)) (eb : H b = some (.tup (k.map kV))) (hl : kvs.length < sizeLine) :
    DPut H a (.ref b) v (upd H a (.dT (putK kvs k v))) := .inr ⟨kvs, k, b, e, rfl, eb, hl, rfl⟩
section
variable {X : Cx} {pins : List (Addr × Obj)} {σ : St} {H : Hp} {s : Shared} {a : Addr} {y v : V} {u r : Value} {o : Option V} {A : Around} {E : Value → Shared → Prop}
theorem Inv.big (I : Inv X pins σ H s) : sysModules < s.heap.objs.size := by
  have h : mainGlobals < s.heap.objs.size := (I.mod.glob.keeps I.bk).lt
  exact Nat.lt_trans (by decide) h
theorem d_getItem {Q : Value → Shared → Prop} (hu : A.units + 1 < cLine) (I : Inv X pins σ H s) (g : DGet H a y (some v)) (ry : RelV y u) (h : ∀ w' s', Inv X pins σ H s' → RelV v w' → Q w' s') :
    wpAny (model X.prog X.w) A (getItem (.ref a) u) Q E s := by
  rcases g with ⟨kvs, k, e, ey, l⟩ | ⟨kvs, k, b, e, ey, eb, l⟩
  · subst ey
    obtain ⟨z, hd, vs, rel, dd⟩ := dk_rd I.hok e
    obtain ⟨w', hw, rw'⟩ := RelO.some_of (v := v) (o := valueAt vs k) (by rw [l]; exact rel.val k)
    exact wpAny_getItem_of (kV_is ry) dd.mapOf hw (h w' _ (I.tok _) rw')
  · subst ey
    cases (show u = Value.ref b from ry)
    obtain ⟨z, hd, xs, rel, dd⟩ := dt_rd I.hok e
    obtain ⟨w', hw, rw'⟩ := RelO.some_of (v := v) (o := (atKey xs k).map (·.2)) (by rw [l]; exact rel.val k)
    obtain ⟨p, hp, hp2⟩ := Option.map_eq_some_iff.mp hw
    refine wpAny_getItem_heap (tupleKind_room_in1 hu) (key_of I.hok eb) dd hp ?_
    rw [hp2]
    exact h w' _ (I.tok _) rw'
theorem d_in {Q : Value → Shared → Prop} (hu : A.units + 1 < cLine) (I : Inv X pins σ H s) (g : DGet H a y o) (ry : RelV y u) (h : ∀ s', Inv X pins σ H s' → Q (.bool o.isSome) s') :
    wpAny (model X.prog X.w) A (compareOp .In u (.ref a)) Q E s := by
  rcases g with ⟨kvs, k, e, ey, l⟩ | ⟨kvs, k, b, e, ey, eb, l⟩
  · subst ey
    obtain ⟨z, hd, vs, rel, dd⟩ := dk_rd I.hok e
    refine wpAny_in_of (kV_is ry) hd dd.mapOf ?_
    rw [← (rel.val k).isSome_eq, ← l]
    exact h _ (I.tok _)
  · subst ey
    cases (show u = Value.ref b from ry)
    obtain ⟨z, hd, xs, rel, dd⟩ := dt_rd I.hok e
    refine wpAny_in_heap (tupleKind_room_in1 hu) (key_of I.hok eb) hd dd ?_
    have q := (rel.val k).isSome_eq
    rw [Option.isSome_map] at q
    rw [← q, ← l]
    exact h _ (I.tok _)
theorem d_notIn {Q : Value → Shared → Prop} (hu : A.units + 1 < cLine) (I : Inv X pins σ H s) (g : DGet H a y o) (ry : RelV y u) (h : ∀ s', Inv X pins σ H s' → Q (.bool (!o.isSome)) s') :
    wpAny (model X.prog X.w) A (compareOp .NotIn u (.ref a)) Q E s := by
  rcases g with ⟨kvs, k, e, ey, l⟩ | ⟨kvs, k, b, e, ey, eb, l⟩
  · subst ey
    obtain ⟨z, hd, vs, rel, dd⟩ := dk_rd I.hok e
    refine wpAny_notIn_of (kV_is ry) hd dd.mapOf ?_
    rw [← (rel.val k).isSome_eq, ← l]
    exact h _ (I.tok _)
  · subst ey
    cases (show u = Value.ref b from ry)
    obtain ⟨z, hd, xs, rel, dd⟩ := dt_rd I.hok e
    refine wpAny_notIn_heap (tupleKind_room_in1 hu) (key_of I.hok eb) hd dd ?_
    have q := (rel.val k).isSome_eq
    rw [Option.isSome_map] at q
    rw [← q, ← l]
    exact h _ (I.tok _)
theorem d_write {h' : Heap} {t' : Nat} {ob : HO} (I : Inv X pins σ H s) (mu : Mut (H a)) (hs : Heap.SameBut a s.heap h') (he : ∃ q, h'.get? a = some q) (new : ObjOk X.prog X.w (upd H a ob) h' a ob) :
    Inv X pins σ (upd H a ob) { s with heap := h', toks := t' } :=
  I.write (x := a) (e := a) mu (.inl rfl) (fun b q hb z => (hs.2 b hb).trans z) he new
theorem dk_new {P : Program} {w : World} {H' : Hp} {h' : Heap} {kvs : List (Key × V)} {vs : List (Key × Value)} (z : kvs.length ≤ sizeLine) (hd : (a == sysModules) = false) (rel : KV kvs vs) (dd : h'.DictOf (mixKind P w) a vs) :
    ObjOk P w H' h' a (.dK kvs) := ⟨z, hd, vs, rel, dd⟩
theorem d_setItem {H' : Hp} {Q : Unit → Shared → Prop} (hu : A.units + 1 < cLine) (I : Inv X pins σ H s) (g : DPut H a y v H') (ry : RelV y u) (rv : RelV v r) (h : ∀ s', Inv X pins σ H' s' → Q () s') :
    wpAny (model X.prog X.w) A (setItem (.ref a) u r) Q E s := by
  rcases g with ⟨kvs, k, e, ey, l, eH⟩ | ⟨kvs, k, b, e, ey, eb, l, eH⟩
  · subst ey eH
    obtain ⟨z, hd, vs, rel, dd⟩ := dk_of I.hok e
    have hz : vs.length ≤ sizeLine := by rw [← rel.length]; exact z
    have hl : (putK kvs k v).length ≤ sizeLine := by have := length_putK kvs k v; omega
    refine wpAny_setItem_pairs (hsz := hz) (kV_is ry) dd fun h' dd' hs => h _ ?_
    have he : ∃ q, h'.get? a = some q := let ⟨q, _, _, hq, _⟩ := dd'; ⟨q, hq⟩
    exact d_write I (by rw [e]; exact True.intro) hs he (dk_new hl hd (rel.put k rv) dd')
  · subst ey eH
    cases (show u = Value.ref b from ry)
    obtain ⟨z, hd, xs, rel, dd⟩ := dt_of I.hok e
    have hz : xs.length ≤ sizeLine := by rw [← Paired.length rel]; exact z
    have hl : (putK kvs k v).length ≤ sizeLine := by have := length_putK kvs k v; omega
    refine wpAny_setItem_heap (hsz := hz) (tupleKind_room_in1 hu) (key_of I.hok eb) dd fun h' dd' hs => h _ ?_
    obtain ⟨q, es, ep, hq, h2, h3, h4, _, h5⟩ := dd'
    refine d_write I (by rw [e]; exact True.intro) hs ⟨q, hq⟩ ⟨hl, hd, _, (rel.put k eb rv).keeps fun c ys ec => ?_, q, es, ep, hq, h2, h3, h4, h5⟩
    rw [upd_ne (ne_of ec e (fun z => nomatch z))]
    exact ec
end
section
variable {X : Cx} {pins : List (Addr × Obj)} {σ : St} {H : Hp} {s : Shared} {a : Addr} {kvs : List (Key × V)} {k : Key} {u : Value} {A : Around} {E : Value → Shared → Prop}
theorem d_pop {v : V} {more : List Value} {Q : Value → Shared → Prop} (I : Inv X pins σ H s) (e : H a = some (.dK kvs)) (ry : RelV (kV k) u) (l : valV kvs k = some v) (hm : more = [] ∨ ∃ x, more = [x])
    (h : ∀ w' s', Inv X pins σ (upd H a (.dK (dropK kvs k))) s' → RelV v w' → Q w' s') : wpAny (model X.prog X.w) A (call (.builtin "dict.pop") (.ref a :: u :: more)) Q E s := by
  obtain ⟨z, hd, vs, rel, dd⟩ := dk_of I.hok e
  obtain ⟨w', hw, rw'⟩ := RelO.some_of (v := v) (o := valueAt vs k) (by rw [← l]; exact rel.val k)
  have hp : (keyPart u).isSome = true := by
    cases k with
    | inl i => obtain ⟨t, q⟩ := (show ∃ t, u = Value.int i t from ry); subst q; rfl
    | inr x => obtain ⟨t, q⟩ := (show ∃ t, u = Value.str x t from ry); subst q; rfl
  have ha : argsOk "dict.pop" ⟨.ref a :: u :: more, []⟩ := by
    rcases hm with q | ⟨x, q⟩
    · subst q; exact PySem.F.args_dict_pop_2 _ _
    · subst q; exact PySem.F.args_dict_pop_3 _ _ _
  refine call_meetsIn PySem.F.slot_dict_pop dd.typeIs PySem.F.entry_dict_pop ha (meets_dict_pop_there (mixKind X.prog X.w) a (kV_is ry) more hm hp)
    ⟨vs, w', dd, by rw [← rel.length]; exact z, hw, fun h' dd' hs => h w' _ ?_ rw'⟩
  have he : ∃ q, h'.get? a = some q := let ⟨q, _, _, hq, _⟩ := dd'; ⟨q, hq⟩
  exact d_write I (by rw [e]; exact True.intro) hs he (dk_new (Nat.le_trans (dropK_le kvs k) z) hd (rel.drop k) dd')
theorem d_len {Q : Value → Shared → Prop} (I : Inv X pins σ H s) (e : Rd H a (.dK kvs)) (h : ∀ t s', Inv X pins σ H s' → Q (.int kvs.length t) s') : wpAny (model X.prog X.w) A (call (.builtin "len") [.ref a]) Q E s := by
  obtain ⟨z, hd, vs, rel, dd⟩ := dk_rd I.hok e
  refine call_len_dict hd dd (by rw [← rel.length]; rw [sizeLine_eq] at z; omega) ?_
  rw [← rel.length]
  exact h _ _ (I.tok _)
end
def NoSl (i : Expr) : Prop := ∀ ov iv, subscripted i false ov iv = operate [ov, iv] (getItem ov iv)
theorem subD_of {prog : Program} {w : World} {A : Around} {E : Value → Shared → Prop} {s : Shared} {env : Env} {value slice : Expr} {pos : Pos} {T id : String} {Q : Value → Shared → Prop}
    (hl : typeLookup (.type T) "__getitem__" = pure (some (.builtin id))) (hs : NoSl slice)
    (h : wpAny (model prog w) A (eval value env) (fun o s₁ => wpAny (model prog w) A (eval slice env) (fun i s₂ => s₂.TypeIs o T ∧ wpAny (model prog w) A (getItem o i) Q E s₂) E s₁) E s) :
    wpAny (model prog w) A (eval (.Subscript value slice pos) env) Q E s := by
  refine Subscript_ (wpAny_mono h (fun o s₁ h₁ => wpAny_mono h₁ (fun i s₂ h₂ => ?_) fun _ _ x => x) fun _ _ x => x)
  obtain ⟨hT, h₂⟩ := h₂
  unfold subscriptTail
  refine wpAny_bind ?_
  rw [getitemInPython_of_ne hT.not_modules]
  refine wpAny_bind (wpAny_specialOf hT hl ?_)
  have fin : wpAny (model prog w) A (subscripted slice false o i) (fun r s₃ => wpAny (model prog w) A (letTemporaryGo value o r >>= fun _ => pure r) Q E s₃) E s₂ := by
    rw [hs o i]
    exact wpAny_operating (wpAny_mono h₂ (fun r s₃ h₃ => wpAny_bind (wpAny_letTemporaryGo (wpAny_pure h₃))) fun _ _ x => x)
  first
    | exact wpAny_pure (wpAny_bind fin)
    | exact wpAny_bind (wpAny_pure (wpAny_bind fin))
    | exact wpAny_bind fin
theorem dict_typeIs {X : Cx} {pins : List (Addr × Obj)} {σ : St} {H : Hp} {s : Shared} {a : Addr} {y : V} {o : Option V} (I : Inv X pins σ H s) (g : DGet H a y o) : s.TypeIs (.ref a) "dict" := by
  rcases g with ⟨kvs, k, e, _, _⟩ | ⟨kvs, k, b, e, _, _, _⟩
  · obtain ⟨_, _, vs, _, dd⟩ := dk_rd I.hok e
    exact dd.typeIs
  · obtain ⟨_, _, xs, _, dd⟩ := dt_rd I.hok e
    exact dd.typeIs
def tDGet (td ty : TE) : TE := fun σ H Q => td σ H fun x H1 => ty σ H1 fun y H2 => ∃ a v, x = .ref a ∧ DGet H2 a y (some v) ∧ Q v H2
def tDIn (ty td : TE) : TE := fun σ H Q => ty σ H fun y H1 => td σ H1 fun x H2 => ∃ a o, x = .ref a ∧ DGet H2 a y o ∧ Q (.bl o.isSome) H2
def tDNotIn (ty td : TE) : TE := fun σ H Q => ty σ H fun y H1 => td σ H1 fun x H2 => ∃ a o, x = .ref a ∧ DGet H2 a y o ∧ Q (.bl (!o.isSome)) H2
def sDPut (td ty tv : TE) : TS := fun D σ H => tv σ H fun v H1 => td σ H1 fun x H2 => ty σ H2 fun y H3 => ∃ a H4, x = .ref a ∧ DPut H3 a y v H4 ∧ D.nx σ H4
def sDAug (td ty tv : TE) (rd : V → V → Hp → VK → Prop) : TS := fun D σ H => td σ H fun x H1 => ty σ H1 fun y H2 => ∃ a v, x = .ref a ∧ DGet H2 a y (some v) ∧
  tv σ H2 fun y2 H3 => rd v y2 H3 fun z H4 => ∃ H5, DPut H4 a y z H5 ∧ D.nx σ H5
def sDDel (td ty : TE) : TS := fun D σ H => td σ H fun x H1 => ty σ H1 fun y H2 => ∃ a kvs k, x = .ref a ∧ H2 a = some (.dK kvs) ∧ y = kV k ∧ (valV kvs k).isSome = true ∧ D.nx σ (upd H2 a (.dK (dropK kvs k)))
section
variable {X : Cx} {o i e value : Expr} {pos pos' tpos : Pos} {td ty tv : TE}
theorem pe_dget (hu : X.A.units + 1 < cLine) (ho : PE X o td) (hi : PE X i ty) (hs : NoSl i) : PE X (.Subscript o i pos) (tDGet td ty) := by
  intro pins s σ H Q I h
  refine subD_of PySem.F.slot_dict_getitem.lookup hs (thn (ho pins s σ H _ I h) fun u s1 ⟨x, H1, I1, rx, q1⟩ => thn (hi pins s1 σ H1 _ I1 q1) fun iv s2 ⟨y, H2, I2, ry, a, v, ex, g, q2⟩ => ?_)
  subst ex
  obtain rfl : u = Value.ref a := rx
  exact ⟨dict_typeIs I2 g, d_getItem hu I2 g ry fun w' s3 I3 rw' => ⟨v, H2, I3, rw', q2⟩⟩
theorem pc_din (hu : X.A.units + 1 < cLine) (hi : PE X i ty) (ho : PE X o td) : PC X .In i o (tDIn ty td) := by
  intro pins s σ H Q I h
  refine thn (hi pins s σ H _ I h) fun iv s1 ⟨y, H1, I1, ry, q1⟩ => thn (ho pins s1 σ H1 _ I1 q1) fun u s2 ⟨x, H2, I2, rx, a, ov, ex, g, q2⟩ => ?_
  subst ex
  obtain rfl : u = Value.ref a := rx
  exact d_in hu I2 g ry fun s3 I3 => ⟨.bl ov.isSome, H2, I3, rfl, q2⟩
theorem pc_dnotin (hu : X.A.units + 1 < cLine) (hi : PE X i ty) (ho : PE X o td) : PC X .NotIn i o (tDNotIn ty td) := by
  intro pins s σ H Q I h
  refine thn (hi pins s σ H _ I h) fun iv s1 ⟨y, H1, I1, ry, q1⟩ => thn (ho pins s1 σ H1 _ I1 q1) fun u s2 ⟨x, H2, I2, rx, a, ov, ex, g, q2⟩ => ?_
  subst ex
  obtain rfl : u = Value.ref a := rx
  exact d_notIn hu I2 g ry fun s3 I3 => ⟨.bl (!ov.isSome), H2, I3, rfl, q2⟩
theorem ps_dput (hu : X.A.units + 1 < cLine) (ho : PE X o td) (hi : PE X i ty) (hv : PE X value tv) (hs : swapsWith value (some (.Subscript o i pos')) pos.line X.env = pure false) :
    PS X (.Assign [.Subscript o i pos'] value pos) (sDPut td ty tv) := by
  intro pins s σ H D I h
  refine wpAny_Assign_Subscript (thn (hv pins s σ H _ I h) fun r s1 ⟨v, H1, I1, rv, q1⟩ => thn (ho pins s1 σ H1 _ I1 q1) fun u s2 ⟨x, H2, I2, rx, q2⟩ => thn (hi pins s2 σ H2 _ I2 q2) fun iv s3 ⟨y, H3, I3, ry, a, H4, ex, g, q3⟩ => ?_) hs
  subst ex
  obtain rfl : u = Value.ref a := rx
  exact d_setItem hu I3 g ry rv fun s4 I4 => ⟨σ, H4, I4, q3⟩
end
theorem dk_empty {P : Program} {w : World} {H : Hp} (h : Heap) (hb : sysModules < h.objs.size) : ObjOk P w H (h.push { cls := .type "dict", data := .dict #[] }) h.objs.size (.dK []) :=
  ⟨Nat.zero_le _, beq_eq_false_iff_ne.mpr (Ne.symm (Nat.ne_of_lt hb)), [], .nil, Heap.DictOf.new h⟩
def tDNewK : TE := fun _ H Q => ∀ p, H p = none → Q (.ref p) (upd H p (.dK []))
def tDNewT : TE := fun _ H Q => ∀ p, H p = none → Q (.ref p) (upd H p (.dT []))
section
variable {X : Cx} {pos : Pos}
theorem pe_dnewK : PE X (.Dict [] [] pos) tDNewK := fun pins s σ H Q I h =>
  wpAny_Dict_empty ⟨.ref s.heap.objs.size, _, I.laid (a := s.heap.objs.size) (o := .dK []) (t' := s.toks) (fun _ _ q => Heap.get?_push_of_some _ q) (Nat.le_refl _) (dk_empty s.heap I.big), rfl, h _ (I.hok.fresh (Nat.le_refl _))⟩
end
def tPairs : List (TE × TE) → St → Hp → (List (V × V) → Hp → Prop) → Prop
  | [], _, H, Q => Q [] H
  | (tk, tv) :: r, σ, H, Q => tk σ H fun x H1 => tv σ H1 fun y H2 => tPairs r σ H2 fun ps H3 => Q ((x, y) :: ps) H3
abbrev VV : List (V × V) → List (Value × Value) → Prop := Paired fun p q => RelV p.1 q.1 ∧ RelV p.2 q.2
def PPs (X : Cx) (pos : Pos) (keys : List (Option Expr)) (values : List Expr) (trs : List (TE × TE)) : Prop :=
  ∀ (pins : List (Addr × Obj)) (s : Shared) (σ : St) (H : Hp) (Q : List (V × V) → Hp → Prop), Inv X pins σ H s → tPairs trs σ H Q →
    wpAny (model X.prog X.w) X.A (evalPairs (pairTrees keys values X.env pos)) (fun vs s' => ∃ ps H', Inv X pins σ H' s' ∧ VV ps vs ∧ Q ps H') X.xe s
def mergeK (kvs more : List (Key × V)) : List (Key × V) := more.foldl (fun acc kv => putK acc kv.1 kv.2) kvs
def tDisp (trs : List (TE × TE)) : TE := fun σ H Q => ∀ p, H p = none → tPairs trs σ (upd H p (.dK [])) fun ps H2 => H2 p = some (.dK []) ∧ ∃ kvs : List (Key × V), ps = kvs.map (fun kv => (kV kv.1, kv.2)) ∧ kvs.length ≤ 15 ∧ Q (.ref p) (upd H2 p (.dK (mergeK [] kvs)))
structure M1 (X : Cx) (o : Expr) (m : Str) (apos : Pos) (e : Expr) (cpos : Pos) : Prop where
  base : attributeBase o m X.env (eval o X.env) = eval o X.env
  few : ((backTo cpos (starEach [e] X.env)).all (fun x => !x.1) && (backToKw cpos (keywordEach [] X.env)).all (fun x => x.1.isSome)
    && decide (([e] : List Expr).length + ([] : List Keyword).length + (if ([] : List Keyword).isEmpty then 0 else 1) < 30)) = true
  line : (apos.endLine == cpos.line) = true
  trees : backTo cpos (starEach [e] X.env) = [(false, eval e X.env)]
structure M2 (X : Cx) (o : Expr) (m : Str) (apos : Pos) (e f : Expr) (cpos : Pos) : Prop where
  base : attributeBase o m X.env (eval o X.env) = eval o X.env
  few : ((backTo cpos (starEach [e, f] X.env)).all (fun x => !x.1) && (backToKw cpos (keywordEach [] X.env)).all (fun x => x.1.isSome)
    && decide (([e, f] : List Expr).length + ([] : List Keyword).length + (if ([] : List Keyword).isEmpty then 0 else 1) < 30)) = true
  line : (apos.endLine == cpos.line) = true
  trees : backTo cpos (starEach [e, f] X.env) = [(false, eval e X.env), (false, eval f X.env)]
def IsD (H : Hp) (a : Addr) : Prop := (∃ kvs, Rd H a (.dK kvs)) ∨ ∃ kvs, Rd H a (.dT kvs)
theorem isD_at {X : Cx} {pins : List (Addr × Obj)} {σ : St} {H : Hp} {s : Shared} {a : Addr} (I : Inv X pins σ H s) (d : IsD H a) :
    s.TypeIs (.ref a) "dict" ∧ (∀ b, Value.ref a = .ref b → ∃ ob, s.heap.get? b = some ob ∧ ob.dict = none) ∧ (a == sysModules) = false := by
  rcases d with ⟨kvs, e⟩ | ⟨kvs, e⟩
  · obtain ⟨_, hd, vs, _, dd⟩ := dk_rd I.hok e
    refine ⟨dd.typeIs, fun b q => ?_, hd⟩
    cases q
    obtain ⟨ob, _, _, h1, h2, _⟩ := dd
    exact ⟨ob, h1, h2.2.1⟩
  · obtain ⟨_, hd, xs, _, dd⟩ := dt_rd I.hok e
    refine ⟨dd.typeIs, fun b q => ?_, hd⟩
    cases q
    obtain ⟨ob, _, _, h1, h2, _⟩ := dd
    exact ⟨ob, h1, h2.2.1⟩
section
variable {X : Cx} {pins : List (Addr × Obj)} {σ : St} {H : Hp} {s : Shared} {a : Addr} {y d : V} {u r : Value} {o : Option V} {A : Around} {E : Value → Shared → Prop}
end
def tDGet1 (td ty : TE) : TE := fun σ H Q => td σ H fun x H1 => ∃ a, x = .ref a ∧ IsD H1 a ∧ ty σ H1 fun y H2 => ∃ o, DGet H2 a y o ∧ Q (o.getD .non) H2
def tDGet2 (td ty tx : TE) : TE := fun σ H Q => td σ H fun x H1 => ∃ a, x = .ref a ∧ IsD H1 a ∧ ty σ H1 fun y H2 => tx σ H2 fun z H3 => ∃ o, DGet H3 a y o ∧ Q (o.getD z) H3
def tDPop1 (td ty : TE) : TE := fun σ H Q => td σ H fun x H1 => ∃ a, x = .ref a ∧ IsD H1 a ∧ ty σ H1 fun y H2 => ∃ kvs k v, H2 a = some (.dK kvs) ∧ y = kV k ∧ valV kvs k = some v ∧ Q v (upd H2 a (.dK (dropK kvs k)))
def tDPop2 (td ty tx : TE) : TE := fun σ H Q => td σ H fun x H1 => ∃ a, x = .ref a ∧ IsD H1 a ∧ ty σ H1 fun y H2 => tx σ H2 fun z H3 => ∃ kvs k, H3 a = some (.dK kvs) ∧ y = kV k ∧
  (∀ v, valV kvs k = some v → Q v (upd H3 a (.dK (dropK kvs k)))) ∧ (valV kvs k = none → Q z H3)
section
variable {X : Cx} {o e f : Expr} {apos cpos : Pos} {td ty tx : TE}
theorem pe_dpop1 (ho : PE X o td) (he : PE X e ty) (m : M1 X o "pop" apos e cpos) : PE X (.Call (.Attribute o "pop" apos) [e] [] cpos) (tDPop1 td ty) := by
  intro pins s σ H Q I h
  refine wpAny_Call_method m.base m.few m.line PySem.F.plainAttrs_dict PySem.F.slot_dict_pop PySem.F.type_dict_pop (thn (ho pins s σ H _ I h) fun u s1 ⟨x, H1, I1, rx, a, ex, d, q1⟩ => ?_)
  subst ex
  obtain rfl : u = Value.ref a := rx
  obtain ⟨t1, t2, _⟩ := isD_at I1 d
  refine ⟨t1, t2, ?_⟩
  rw [m.trees]
  refine Calls.callWith_builtin rfl (Calls.evalArgs_plain (Calls.spliced_cons (thn (he pins s1 σ H1 _ I1 q1) fun iv s2 ⟨y, H2, I2, ry, kvs, k, v, ea, ey, l, q2⟩ => Calls.spliced_nil ?_)))
  subst ey
  exact d_pop I2 ea ry l (.inl rfl) fun w' s3 I3 rw' => ⟨v, _, I3, rw', q2⟩
end
section
variable {X : Cx} {pins : List (Addr × Obj)} {σ : St} {H : Hp} {s : Shared} {a : Addr} {kvs : List (Key × V)} {A : Around} {E : Value → Shared → Prop}
end
section
variable {X : Cx} {pins : List (Addr × Obj)} {σ : St} {H : Hp} {s : Shared} {a : Addr} {y : V} {u : Value} {A : Around} {E : Value → Shared → Prop}
end
end L2
namespace L2
open PySem PySem.Spec PyProof.Rows
section
variable {prog : Program} {w : World} {A : Around} {E : Value → Shared → Prop}
end
section
variable {X : Cx}
end
end L2
namespace L2
open PySem PySem.Spec PyProof.Rows
section
variable {X : Cx} {pins : List (Addr × Obj)} {σ : St} {H : Hp} {s : Shared} {h' : Heap}
theorem Inv.lock {d : Addr} {u : HO} (I : Inv X pins σ H s) (h : H d = some u) (mu : Mut (some u)) : ∃ od, Inv X pins σ (upd H d (.frz od u)) s := by
  have x := I.hok d u h
  have ex : ∃ od, s.heap.get? d = some od := by
    cases u with
    | lst xs => obtain ⟨_, _, _, _, e⟩ := x; exact ⟨_, e⟩
    | dK kvs => obtain ⟨_, _, _, _, o, _, _, e, _⟩ := x; exact ⟨o, e⟩
    | dT kvs => obtain ⟨_, _, _, _, o, _, _, e, _⟩ := x; exact ⟨o, e⟩
    | set S n => obtain ⟨o, _, _, _, e, _⟩ := x; exact ⟨o, e⟩
    | ins C dx fs => obtain ⟨_, _, _, e, _⟩ := x; exact ⟨_, e⟩
    | ext φ => obtain ⟨_, ⟨_, e⟩, _⟩ := x; exact ⟨_, e⟩
    | _ => exact False.elim mu
  obtain ⟨od, e⟩ := ex
  have new : ObjOk X.prog X.w (upd H d (.frz od u)) s.heap d (.frz od u) := by
    refine ⟨e, x.stay (fun b v _ q => q) (fun b q => ?_) fun b xs q => ?_⟩
    · rw [upd_ne (fun z => by rw [z, h] at q; cases q; exact mu)]; exact q
    · rw [upd_ne (fun z => by rw [z, h] at q; cases q; exact mu)]; exact q
  exact ⟨od, I.write (x := d) (e := d) (t' := s.toks) (h' := s.heap) (by rw [h]; exact mu) (.inl rfl) (fun b v _ q => q) ⟨od, e⟩ new⟩
theorem Inv.nofrz {d : Addr} {u : HO} (I : Inv X pins σ H s) (h : H d = some u) (mu : Mut (some u)) : ∀ o' u', X.H_0 d ≠ some (.frz o' u') := fun o' u' e => by
  have q := I.base.frzs d o' u' e
  rw [h] at q
  cases q
  exact mu
theorem Inv.unlock {d : Addr} {od : Obj} {u : HO} (I : Inv X pins σ H s) (h : H d = some (.frz od u)) (hn : ∀ o' u', X.H_0 d ≠ some (.frz o' u')) : Inv X pins σ (upd H d u) s := by
  have neH : ∀ b o, H b = some o → (∀ o' u', o ≠ .frz o' u') → b ≠ d := fun b o e hne z => by
    rw [z, h] at e
    cases e
    exact hne _ _ rfl
  have neN : ∀ b, H b = none → b ≠ d := fun b e z => by rw [z, h] at e; cases e
  refine ⟨I.ok, I.os, I.bare, ⟨I.base.keep, I.base.slot, fun b o e n hx => ?_, I.base.there, fun b xs e => ?_, fun b o x e => ?_, fun b ps e => ?_⟩, I.loc, I.cell, ?_, fun x c e => ?_, fun p hp => ?_, fun b o e => ?_, I.len⟩
  · rw [upd_ne (neN b (I.base.free b o e n hx))]; exact I.base.free b o e n hx
  · have q := I.base.tups b xs e
    rw [upd_ne (neH b _ q (fun _ _ z => nomatch z))]; exact q
  · have q := I.base.frzs b o x e
    rw [upd_ne (fun z => by rw [z] at e; exact hn _ _ e)]; exact q
  · obtain ⟨m, q⟩ := I.base.tbls b ps e
    exact ⟨m, by rw [upd_ne (neH b _ q (fun _ _ z => nomatch z))]; exact q⟩
  · rw [upd_ne (neN _ I.free)]; exact I.free
  · rw [upd_ne (neN c (I.freeC x c e))]; exact I.freeC x c e
  · obtain ⟨e, n, r⟩ := I.pin p hp
    exact ⟨e, by rw [upd_ne (neN _ n)]; exact n, r⟩
  · by_cases hb : b = d
    · rw [hb, upd_same] at e
      cases e
      rw [hb]
      obtain ⟨_, x⟩ := I.hok d _ h
      exact x.stay (fun c v _ q => q) (fun c q => by rw [upd_ne (neH c _ q (fun _ _ z => nomatch z))]; exact q) fun c xs q => by rw [upd_ne (neH c _ q (fun _ _ z => nomatch z))]; exact q
    · rw [upd_ne hb] at e
      exact (I.hok b o e).stay (fun c v _ q => q) (fun c q => by rw [upd_ne (neH c _ q (fun _ _ z => nomatch z))]; exact q) fun c xs q => by rw [upd_ne (neH c _ q (fun _ _ z => nomatch z))]; exact q
end
def tLock (t : TS) : TS := fun D σ H => ∃ d u, H d = some u ∧ Mut (some u) ∧ ∀ od, t ⟨fun σ' H' => H' d = some (.frz od u) ∧ D.nx σ' (upd H' d u), fun v H' => H' d = some (.frz od u) ∧ D.rt v (upd H' d u), fun σ' H' => H' d = some (.frz od u) ∧ D.bk σ' (upd H' d u), fun σ' H' => H' d = some (.frz od u) ∧ D.ct σ' (upd H' d u)⟩ σ (upd H d (.frz od u))
def tLockE (t : TE) : TE := fun σ H Q => ∃ d u, H d = some u ∧ Mut (some u) ∧ ∀ od, t σ (upd H d (.frz od u)) fun v H' => H' d = some (.frz od u) ∧ Q v (upd H' d u)
section
variable {X : Cx}
theorem ps_lock {st : Stmt} {t : TS} (h : PS X st t) : PS X st (tLock t) := by
  intro pins s σ H D I hw
  obtain ⟨d, u, hd, mu, hw⟩ := hw
  obtain ⟨od, I1⟩ := I.lock hd mu
  refine thn (h pins s σ _ _ I1 (hw od)) fun f s1 q => ?_
  cases f with
  | next => obtain ⟨σ', H', I2, e, q⟩ := q; exact ⟨σ', _, I2.unlock e (I.nofrz hd mu), q⟩
  | brk => obtain ⟨σ', H', I2, e, q⟩ := q; exact ⟨σ', _, I2.unlock e (I.nofrz hd mu), q⟩
  | cont => obtain ⟨σ', H', I2, e, q⟩ := q; exact ⟨σ', _, I2.unlock e (I.nofrz hd mu), q⟩
  | ret v => obtain ⟨x, σ', H', I2, r, e, q⟩ := q; exact ⟨x, σ', _, I2.unlock e (I.nofrz hd mu), r, q⟩
theorem pi_one {tg : Expr} {pins : List (Addr × Obj)} {σ : St} {H : Hp} {s : Shared} {R : It → Hp → Prop} {J : It} {tn : Nat → Heap → Prop} {tk : Nat} (I : Inv X pins σ H s) (o : Obj)
    (T : Turn X.prog X.w X.K tg J [s.heap.objs.size] s.heap.objs.size tn) (st : tn 0 (s.heap.push o)) (q : R J H) : PIE X pins σ tg R (.ref s.heap.objs.size) { s with heap := s.heap.push o, toks := tk } := by
  refine ⟨s.heap.objs.size, [s.heap.objs.size], tn, J, H, rfl, I.kept fun b ob e => Heap.get?_push_of_some _ e, T, st, fun b hb => ?_, q⟩
  have e : b = s.heap.objs.size := by simpa using hb
  subst e
  exact I.fpOk (Nat.le_refl _) (I.hok.fresh (Nat.le_refl _))
end
def Itc (lo c : Int) (n : Nat) : It := ⟨fun i _ => i < n, fun i H x H' => H' = H ∧ x = .int (lo + (i : Nat) * c), fun i _ => n ≤ i⟩
def RgC (i j c : Int) (n : Nat) : Prop := c ≠ 0 ∧ c.natAbs < 1073741824 ∧ Builtin.Range.small i j c = true ∧ Builtin.Range.rangeSize i j c = n
theorem RgC.neg {i j : Int} (ha : -(2 ^ 62) ≤ i) (ha' : i < 2 ^ 62) (hb : -(2 ^ 62) ≤ j) (hb' : j < 2 ^ 62) : RgC i j (-1) (i - j).toNat :=
  ⟨by decide, by decide, PySem.W.small_down ha ha' hb hb', PySem.W.rangeSize_downNat i j⟩
def iRng3 (ta : TA) : TI := fun σ H R => ta σ H fun vs H1 => ∃ (i j c : Int) (n : Nat), vs = [.int i, .int j, .int c] ∧ RgC i j c n ∧ R (Itc i c n) H1
section
variable {X : Cx} {tg : Expr}
end
def Itv (K : PySem.W.Frag) (a : Addr) (n : Nat) : It :=
  ⟨fun i H => i < n ∧ ∃ (xs : List V) (x : V), SqL K H a xs ∧ xs[n - 1 - i]? = some x, fun i H x H' => H' = H ∧ ∀ xs, SqL K H a xs → xs[n - 1 - i]? = some x, fun i _ => n ≤ i⟩
def iRev (K : PySem.W.Frag) (ta : TA) : TI := fun σ H R => ta σ H fun vs H1 => ∃ (a : Addr) (xs : List V), vs = [.ref a] ∧ SqL K H1 a xs ∧ R (Itv K a xs.length) H1
section
variable {X : Cx} {tg : Expr}
end
def Its (x : Str) : It := ⟨fun i _ => i < x.cps.size, fun i H v H' => H' = H ∧ ∃ c, x.cps[i]? = some c ∧ v = .str ⟨#[c]⟩, fun i _ => x.cps.size ≤ i⟩
def iStr (te : TE) : TI := fun σ H R => te σ H fun v H1 => ∃ x, v = .str x ∧ R (Its x) H1
section
variable {prog : Program} {w : World} {A : Around} {E : Value → Shared → Prop} {s : Shared}
theorem iter_keys {d : Addr} {o : Obj} {es : Array DictEntry} {ep : Nat} {Q : Value → Shared → Prop} (hd : (d == sysModules) = false) (ho : s.heap.get? d = some o) (hc : o.ExactDict) (hdat : o.data = .dict es ep)
    (hQ : Q (.ref s.heap.objs.size) { s with heap := s.heap.push { cls := .type "dict_keyiterator", data := .fields #[.ref d, .int 0 0, .int es.size 0, .int ep 0] } }) :
    wpAny (model prog w) A (pyIter (.ref d)) Q E s := by
  have hT : s.TypeIs (.ref d) "dict" := ⟨o, ho, hc.1⟩
  refine wpAny_pyIter_slot hT F.slot_dict_iter (wpAny_call_entry F.slot_dict_iter hT F.entry_dict_iter ?_ (F.args_dict_iter_1 _))
  unfold Builtin.«dict.__iter__»
  refine wpAny_bind ?_
  unfold Builtin.Dict.dictSlotNone
  refine wpAny_bind (wpAny_notOrdered_dict hT ?_)
  show wpAny _ _ (pure (Value.ref d)) _ _ s
  refine wpAny_pure ?_
  show wpAny _ _ (Builtin.Dict.showsAll d >>= _) _ _ s
  unfold Builtin.Dict.showsAll
  rw [if_neg (by rw [hd]; exact Bool.false_ne_true)]
  refine wpAny_bind (wpAny_pure ?_)
  refine wpAny_bind (wpAny_dictEntries ho hdat ?_)
  refine wpAny_bind (wpAny_dictEpoch ho hdat ?_)
  refine wpAny_bind (wpAny_newObj_type (wpAny_pure ⟨_, rfl, "dict_keyiterator", _, ⟨_, Heap.get?_push_size _ rfl, rfl⟩, F.slot_dict_keyiterator_next.lookup, ?_⟩))
  simpa [rawInt] using hQ
theorem next_key_item {it d : Addr} {i n ep : Nat} {od : Obj} {es : Array DictEntry} {en : DictEntry} {Q : Option Value → Shared → Prop} (hit : s.heap.IsKeyIter it d i n ep) (hod : s.heap.get? d = some od) (hdd : od.data = .dict es ep)
    (hsz : es.size = n) (hx : es[i]? = some en) (hQ : ∀ h', h'.IsKeyIter it d (i + 1) n ep → Heap.SameBut it s.heap h' → Q (some en.key) { s with heap := h' }) : wpAny (model prog w) A (pyNext (.ref it)) Q E s := by
  obtain ⟨o, ho, hc, hd⟩ := id hit
  unfold pyNext
  refine wpAny_bind (wpAny_attempt (wpAny_callSpecial?_slot (name := Str.ofString "__next__") hit.typeIs F.slot_dict_keyiterator_next
    (wpAny_call_entry F.slot_dict_keyiterator_next hit.typeIs F.entry_dict_keyiterator_next ?_ (F.args_dict_keyiterator_next_1 _))))
  refine wpAny_bind (wpAny_pure ?_)
  refine wpAny_bind ?_
  refine wpAny_bind ?_
  first | refine wpAny_bind (wpAny_typeNameOfWhole_keyiter hit.typeIs (wpAny_pure ?_)) | refine wpAny_bind (wpAny_typeNameOf_keyiter hit.typeIs (wpAny_pure ?_))
  refine wpAny_bind (wpAny_fieldsOf ho hd ?_)
  have hown : Builtin.Dict_items.ownsTuple "dict_keyiterator" = false := by decide
  simp only [hown, Bool.false_eq_true, if_false]
  show wpAny _ _ (if (Value.ref d == Value.none) = true then _ else _) _ _ s
  rw [if_neg (show ¬ ((Value.ref d == Value.none) = true) from Bool.false_ne_true)]
  refine wpAny_bind (wpAny_pure ?_)
  refine wpAny_bind (wpAny_dictEntries hod hdd ?_)
  rw [if_neg (by rw [hsz]; simp)]
  refine wpAny_bind (wpAny_pure ?_)
  refine wpAny_bind (wpAny_dictEpoch hod hdd ?_)
  rw [if_neg (by simp)]
  refine wpAny_pure ?_
  obtain ⟨hlt', hen⟩ := Array.getElem?_eq_some_iff.mp hx
  simp only [show ¬ ((i : Int) < 0) from by omega, if_false, Int.toNat_natCast, Array.getElem?_eq_getElem hlt']
  refine wpAny_bind ?_
  first | refine wpAny_bind (wpAny_typeNameOfWhole_keyiter hit.typeIs (wpAny_pure ?_)) | refine wpAny_bind (wpAny_typeNameOf_keyiter hit.typeIs (wpAny_pure ?_))
  refine wpAny_bind (wpAny_isOneOf_keyiter hit.typeIs ?_)
  show wpAny _ _ (setField (.ref it) 1 (rawInt ((i : Int) + 1)) >>= _) _ _ s
  refine wpAny_bind (wpAny_setField ho hd (by simp) ?_)
  have hit' : (s.heap.update it (Obj.mapFields (·.setIfInBounds 1 (rawInt ((i : Int) + 1))))).IsKeyIter it d (i + 1) n ep :=
    ⟨_, Heap.get?_update_self _ ho (Obj.isFreed_of_fields (Obj.data_mapFields hd _)), (Obj.cls_mapFields ..).trans hc, by rw [Obj.data_mapFields hd]; simp [rawInt]⟩
  refine wpAny_bind (wpAny_holding ?_)
  refine wpAny_bind (wpAny_isOneOf_keyiter (s := { s with heap := s.heap.update it (Obj.mapFields (·.setIfInBounds 1 (rawInt ((i : Int) + 1)))) }) hit'.typeIs ?_)
  show wpAny _ _ (pure es[i].key) _ _ _
  rw [hen]
  exact wpAny_pure (wpAny_pure ⟨_, rfl, wpAny_pure (hQ _ hit' (Heap.SameBut.update ..))⟩)
theorem next_key_end {it d : Addr} {i n ep : Nat} {od : Obj} {es : Array DictEntry} {Q : Option Value → Shared → Prop} (hh : A.handled = none) (hit : s.heap.IsKeyIter it d i n ep) (hod : s.heap.get? d = some od) (hdd : od.data = .dict es ep)
    (hsz : es.size = n) (hge : n ≤ i) (hQ : ∀ h', Heap.ExtBut it s.heap h' → Q none { s with heap := h' }) : wpAny (model prog w) A (pyNext (.ref it)) Q E s := by
  obtain ⟨o, ho, hc, hd⟩ := id hit
  unfold pyNext
  refine wpAny_bind (wpAny_attempt (wpAny_callSpecial?_slot (name := Str.ofString "__next__") hit.typeIs F.slot_dict_keyiterator_next
    (wpAny_call_entry F.slot_dict_keyiterator_next hit.typeIs F.entry_dict_keyiterator_next ?_ (F.args_dict_keyiterator_next_1 _))))
  refine wpAny_bind (wpAny_pure ?_)
  refine wpAny_bind ?_
  refine wpAny_bind ?_
  first | refine wpAny_bind (wpAny_typeNameOfWhole_keyiter hit.typeIs (wpAny_pure ?_)) | refine wpAny_bind (wpAny_typeNameOf_keyiter hit.typeIs (wpAny_pure ?_))
  refine wpAny_bind (wpAny_fieldsOf ho hd ?_)
  have hown : Builtin.Dict_items.ownsTuple "dict_keyiterator" = false := by decide
  simp only [hown, Bool.false_eq_true, if_false]
  show wpAny _ _ (if (Value.ref d == Value.none) = true then _ else _) _ _ s
  rw [if_neg (show ¬ ((Value.ref d == Value.none) = true) from Bool.false_ne_true)]
  refine wpAny_bind (wpAny_pure ?_)
  refine wpAny_bind (wpAny_dictEntries hod hdd ?_)
  rw [if_neg (by rw [hsz]; simp)]
  refine wpAny_bind (wpAny_pure ?_)
  refine wpAny_bind (wpAny_dictEpoch hod hdd ?_)
  rw [if_neg (by simp)]
  refine wpAny_pure ?_
  have hge' : es.size ≤ i := by rw [hsz]; exact hge
  simp only [show ¬ ((i : Int) < 0) from by omega, if_false, Int.toNat_natCast, Array.getElem?_eq_none hge']
  refine wpAny_bind ?_
  first | refine wpAny_bind (wpAny_typeNameOfWhole_keyiter hit.typeIs (wpAny_pure ?_)) | refine wpAny_bind (wpAny_typeNameOf_keyiter hit.typeIs (wpAny_pure ?_))
  show wpAny _ _ (setField (.ref it) 0 .none >>= _) _ _ s
  refine wpAny_bind (wpAny_setField ho hd (by simp) ?_)
  show wpAny _ _ (newExc (.type "StopIteration") [] >>= _) _ _ _
  refine wpAny_bind ?_
  simp only [newExc, newTuple]
  refine wpAny_bind (wpAny_newObj_type ?_ (by size_fits))
  refine wpAny_bind (m := firstArgMember _ _) (wpAny_of_eq (a := Value.none) (by first | rfl | (simp only [firstArgMember]; rfl)) ?_)
  refine wpAny_newObj_type ?_ (by size_fits)
  simp only [raiseNew]
  refine wpAny_bind (wpAny_handled ?_)
  rw [show A.in1.handled = none from hh]
  refine wpAny_bind (wpAny_pure (wpAny_throw ?_))
  refine wpAny_bind (wpAny_isInstance (T := "StopIteration") (b := true) ⟨_, Heap.get?_push_size _ rfl, rfl⟩ isSubtype_stop ?_)
  exact wpAny_pure (hQ _ (((Heap.SameBut.update ..).extBut.push _).push _))
end
theorem kv_get {κ : Type} {kvs : List (κ × V)} {vs : List (κ × Value)} (h : KV kvs vs) : ∀ {i : Nat} {k : κ} {v : V}, kvs[i]? = some (k, v) → ∃ u, vs[i]? = some (k, u) ∧ RelV v u := by
  unfold KV at h
  induction h with
  | nil => intro i k v e; simp at e
  | @cons a b l₁ l₂ r t ih =>
    intro i k v e
    cases i with
    | zero =>
      simp only [List.getElem?_cons_zero, Option.some.injEq] at e
      subst e
      refine ⟨b.2, ?_, r.2⟩
      simp only [List.getElem?_cons_zero]
      exact congrArg some (Prod.ext r.1.symm rfl)
    | succ j =>
      simp only [List.getElem?_cons_succ] at e ⊢
      exact ih e
theorem paired_get {α β : Type} {G : α → β → Prop} {l₁ : List α} {l₂ : List β} (h : Paired G l₁ l₂) : ∀ {i : Nat} {a : α}, l₁[i]? = some a → ∃ b, l₂[i]? = some b ∧ G a b := by
  induction h with
  | nil => intro i a e; simp at e
  | @cons a b l₁ l₂ r t ih =>
    intro i a' e
    cases i with
    | zero =>
      simp only [List.getElem?_cons_zero, Option.some.injEq] at e
      subst e
      exact ⟨b, rfl, r⟩
    | succ j =>
      simp only [List.getElem?_cons_succ] at e ⊢
      exact ih e
theorem relV_key {k : Key} {u : Value} (h : keyIs k u = true) : RelV (kV k) u := by
  rcases keyIs_shape h with ⟨i, t, rfl, rfl⟩ | ⟨x, t, rfl, rfl⟩
  · exact ⟨t, rfl⟩
  · exact ⟨t, rfl⟩
section
variable {X : Cx} {pins : List (Addr × Obj)} {σ : St} {H : Hp} {s : Shared} {d : Addr} {o : Obj}
theorem Inv.frzK {kvs : List (Key × V)} (I : Inv X pins σ H s) (h : H d = some (.frz o (.dK kvs))) :
    (d == sysModules) = false ∧ s.heap.get? d = some o ∧ o.ExactDict ∧ ∃ (es : Array DictEntry) (ep : Nat) (vs : List (Key × Value)), o.data = .dict es ep ∧ es.size = kvs.length ∧ KV kvs vs ∧ s.heap.DictAt (mixKind X.prog X.w) d vs ep := by
  obtain ⟨hd, z, hs, vs, kv, o', es, ep, ho, hx, hdt, r⟩ := I.hok d _ h
  rw [hd] at ho
  cases ho
  refine ⟨hs, hd, hx, es, ep, vs, hdt, ?_, kv, o, es, hd, hx, hdt, r⟩
  have l1 := r.2.1.length
  have l2 : kvs.length = vs.length := Paired.length kv
  rw [Array.length_toList] at l1
  omega
theorem Inv.frzT {kvs : List (List Key × V)} (I : Inv X pins σ H s) (h : H d = some (.frz o (.dT kvs))) :
    (d == sysModules) = false ∧ s.heap.get? d = some o ∧ o.ExactDict ∧ ∃ (es : Array DictEntry) (ep : Nat), o.data = .dict es ep ∧ es.size = kvs.length ∧
      ∀ (i : Nat) (k : List Key) (v : V), kvs[i]? = some (k, v) → ∃ (en : DictEntry) (q : Addr), es[i]? = some en ∧ en.key = .ref q ∧ H q = some (.tup (k.map kV)) := by
  obtain ⟨hd, z, hs, xs, pr, o', es, ep, ho, hx, hdt, he, _⟩ := I.hok d _ h
  rw [hd] at ho
  cases ho
  refine ⟨hs, hd, hx, es, ep, hdt, ?_, fun i k v e => ?_⟩
  · have l1 : es.size = xs.length := size_of_entries he
    have l2 : kvs.length = xs.length := Paired.length pr
    omega
  · obtain ⟨b, hb, e1, e2, _⟩ := paired_get pr e
    have q := entry_at he i
    rw [hb] at q
    exact ⟨_, b.2.1, q, rfl, e2⟩
end
def Itk (d : Addr) (o : Obj) (kvs : List (Key × V)) : It :=
  ⟨fun i H => H d = some (.frz o (.dK kvs)) ∧ i < kvs.length, fun i H x H' => H' = H ∧ ∃ k v, kvs[i]? = some (k, v) ∧ x = kV k, fun i H => H d = some (.frz o (.dK kvs)) ∧ kvs.length ≤ i⟩
def Itkt (d : Addr) (o : Obj) (kvs : List (List Key × V)) : It :=
  ⟨fun i H => H d = some (.frz o (.dT kvs)) ∧ i < kvs.length, fun i H x H' => H' = H ∧ ∃ (k : List Key) (v : V) (q : Addr), kvs[i]? = some (k, v) ∧ x = .ref q ∧ H q = some (.tup (k.map kV)), fun i H => H d = some (.frz o (.dT kvs)) ∧ kvs.length ≤ i⟩
def Itd (d : Addr) (o : Obj) (kvs : List (Key × V)) : It :=
  ⟨fun i H => H d = some (.frz o (.dK kvs)) ∧ i < kvs.length, fun i H x H' => H' = H ∧ ∃ k, kvs[i]? = some (k, x), fun i H => H d = some (.frz o (.dK kvs)) ∧ kvs.length ≤ i⟩
def Iti (d : Addr) (o : Obj) (kvs : List (Key × V)) : It :=
  ⟨fun i H => H d = some (.frz o (.dK kvs)) ∧ i < kvs.length, fun i H x H' => ∃ T k v, kvs[i]? = some (k, v) ∧ x = .ref T ∧ H T = none ∧ H' = upd H T (.tup [kV k, v]), fun i H => H d = some (.frz o (.dK kvs)) ∧ kvs.length ≤ i⟩
theorem dict_ep {o : Obj} {es es' : Array DictEntry} {ep ep' : Nat} (h : o.data = .dict es ep) (h' : o.data = .dict es' ep') : es' = es ∧ ep' = ep := by
  rw [h] at h'
  cases h'
  exact ⟨rfl, rfl⟩
section
variable {P : Program} {w : World} {K : PySem.W.Frag} {tg : Expr} {d : Addr} {o : Obj} {es : Array DictEntry} {ep : Nat}
theorem turn_keys {kvs : List (Key × V)} (it : Addr) (hod : o.data = .dict es ep) : Turn P w K tg (Itk d o kvs) [it] it (fun i h => h.IsKeyIter it d i kvs.length ep) where
  mem := by simp
  obj := fun i h st b hb => by
    have e : b = it := by simpa using hb
    subst e
    obtain ⟨oi, e, c, dd⟩ := st
    exact ⟨oi, e, fun v z => by rw [dd] at z; cases z⟩
  keep := fun i h h' st k => st.at fun oi e => k it (by simp) oi e
  item := by
    intro X hP hw hK hc i pins s σ H E I hf st hg
    subst hP hw hK
    obtain ⟨hd, hi⟩ := hg
    obtain ⟨f0, f1, f2, f3, f4, f5⟩ := hf it (by simp)
    obtain ⟨hs, hgd, hx, es', ep', vs, hdt, hsz, kv, hm⟩ := I.frzK hd
    obtain ⟨rfl, rfl⟩ := dict_ep hod hdt
    obtain ⟨⟨k, v⟩, hkv⟩ : ∃ p, kvs[i]? = some p := ⟨kvs[i], List.getElem?_eq_getElem hi⟩
    obtain ⟨u, hu, ru⟩ := kv_get kv hkv
    have hl : kvs.length = vs.length := Paired.length kv
    rw [hl] at st
    refine wpAny_pyNext_dict_item st hm hu fun key h' hkey st' sb => ?_
    have I1 : Inv X pins σ H { s with heap := h' } := I.turned (t' := s.toks) (fun b ob hb e => (sb.2 b hb).trans e) f0 f1 f3 f4 f5
    obtain ⟨oi, e, c, dd⟩ := id st'
    refine ⟨key, rfl, go_of (s := { s with heap := h' }) e c dd (by decide) ⟨kV k, H, I1, relV_key (show keyIs k key = true from hkey), ⟨rfl, k, v, hkv, rfl⟩, ?_, fun b hb => (hf b hb).1⟩⟩
    show h'.IsKeyIter it d (i + 1) kvs.length _
    rw [hl]
    exact st'
  done := by
    intro X hP hw hK hc i pins s σ H E I hf st hg
    subst hP hw hK
    obtain ⟨hd, hi⟩ := hg
    obtain ⟨f0, f1, f2, f3, f4, f5⟩ := hf it (by simp)
    obtain ⟨hs, hgd, hx, es', ep', vs, hdt, hsz, kv, hm⟩ := I.frzK hd
    obtain ⟨rfl, rfl⟩ := dict_ep hod hdt
    exact next_key_end (I.ok.hd hc) st hgd hdt hsz hi fun h' eb => ⟨rfl, I.turned (t' := s.toks) (fun b ob hb e => eb b ob hb e) f0 f1 f3 f4 f5⟩
  self := fun A i s Q E st h => wpAny_pyIter_keyiter st h
theorem turn_keysT {kvs : List (List Key × V)} (it : Addr) (hod : o.data = .dict es ep) : Turn P w K tg (Itkt d o kvs) [it] it (fun i h => h.IsKeyIter it d i kvs.length ep) where
  mem := by simp
  obj := fun i h st b hb => by
    have e : b = it := by simpa using hb
    subst e
    obtain ⟨oi, e, c, dd⟩ := st
    exact ⟨oi, e, fun v z => by rw [dd] at z; cases z⟩
  keep := fun i h h' st k => st.at fun oi e => k it (by simp) oi e
  item := by
    intro X hP hw hK hc i pins s σ H E I hf st hg
    subst hP hw hK
    obtain ⟨hd, hi⟩ := hg
    obtain ⟨f0, f1, f2, f3, f4, f5⟩ := hf it (by simp)
    obtain ⟨hs, hgd, hx, es', ep', hdt, hsz, ent⟩ := I.frzT hd
    obtain ⟨rfl, rfl⟩ := dict_ep hod hdt
    obtain ⟨⟨k, v⟩, hkv⟩ : ∃ p, kvs[i]? = some p := ⟨kvs[i], List.getElem?_eq_getElem hi⟩
    obtain ⟨en, q, hen, hkey, hq⟩ := ent i k v hkv
    refine next_key_item st hgd hdt hsz hen fun h' st' sb => ?_
    have I1 : Inv X pins σ H { s with heap := h' } := I.turned (t' := s.toks) (fun b ob hb e => (sb.2 b hb).trans e) f0 f1 f3 f4 f5
    obtain ⟨oi, e, c, dd⟩ := id st'
    exact ⟨en.key, rfl, go_of (s := { s with heap := h' }) e c dd (by decide) ⟨.ref q, H, I1, hkey, ⟨rfl, k, v, q, hkv, rfl, hq⟩, st', fun b hb => (hf b hb).1⟩⟩
  done := by
    intro X hP hw hK hc i pins s σ H E I hf st hg
    subst hP hw hK
    obtain ⟨hd, hi⟩ := hg
    obtain ⟨f0, f1, f2, f3, f4, f5⟩ := hf it (by simp)
    obtain ⟨hs, hgd, hx, es', ep', hdt, hsz, ent⟩ := I.frzT hd
    obtain ⟨rfl, rfl⟩ := dict_ep hod hdt
    exact next_key_end (I.ok.hd hc) st hgd hdt hsz hi fun h' eb => ⟨rfl, I.turned (t' := s.toks) (fun b ob hb e => eb b ob hb e) f0 f1 f3 f4 f5⟩
  self := fun A i s Q E st h => by
    refine wpAny_pyIter_slot st.typeIs F.slot_dict_keyiterator_iter (wpAny_call_entry F.slot_dict_keyiterator_iter st.typeIs F.entry_dict_keyiterator_iter ?_ (F.args_dict_keyiterator_iter_1 _))
    show wpAny _ _ (ret (.ref it)) _ _ s
    exact wpAny_pure ⟨_, rfl, "dict_keyiterator", _, st.typeIs, F.slot_dict_keyiterator_next.lookup, h⟩
end
def iKeys (td : TE) : TI := fun σ H R => td σ H fun x H1 => ∃ d o, x = .ref d ∧ ((∃ kvs, H1 d = some (.frz o (.dK kvs)) ∧ R (Itk d o kvs) H1) ∨ ∃ kvs, H1 d = some (.frz o (.dT kvs)) ∧ R (Itkt d o kvs) H1)
def iVals (td : TE) : TI := fun σ H R => td σ H fun x H1 => ∃ d o kvs, x = .ref d ∧ H1 d = some (.frz o (.dK kvs)) ∧ R (Itd d o kvs) H1
def iItems (td : TE) : TI := fun σ H R => td σ H fun x H1 => ∃ d o kvs, x = .ref d ∧ H1 d = some (.frz o (.dK kvs)) ∧ R (Iti d o kvs) H1
def iKeysM (td : TE) : TI := fun σ H R => td σ H fun x H1 => ∃ d o kvs, x = .ref d ∧ H1 d = some (.frz o (.dK kvs)) ∧ R (Itk d o kvs) H1
section
variable {X : Cx} {tg e : Expr} {td : TE} {apos cpos : Pos}
theorem pi_keys (he : PE X e td) : PI X tg e (iKeys td) := by
  intro pins s σ H R I h
  refine thn (he pins s σ H _ I h) fun u s1 ⟨x, H1, I1, rx, d, o, ex, q⟩ => ?_
  subst ex
  obtain rfl : u = Value.ref d := rx
  rcases q with ⟨kvs, hd, q⟩ | ⟨kvs, hd, q⟩
  · obtain ⟨hs, hgd, hx, es, ep, vs, hdt, hsz, kv, hm⟩ := I1.frzK hd
    refine iter_keys hs hgd hx hdt (pi_one (tk := s1.toks) I1 _ (turn_keys _ hdt) ⟨_, Heap.get?_push_size _ rfl, rfl, ?_⟩ q)
    rw [hsz] <;> rfl
  · obtain ⟨hs, hgd, hx, es, ep, hdt, hsz, ent⟩ := I1.frzT hd
    refine iter_keys hs hgd hx hdt (pi_one (tk := s1.toks) I1 _ (turn_keysT _ hdt) ⟨_, Heap.get?_push_size _ rfl, rfl, ?_⟩ q)
    rw [hsz] <;> rfl
end
def Ite (K : PySem.W.Frag) (a : Addr) : It :=
  ⟨fun i H => ∃ (xs : List V) (x : V), SqL K H a xs ∧ xs[i]? = some x, fun i H v H' => ∃ T x, v = .ref T ∧ H T = none ∧ H' = upd H T (.tup [.int (i : Nat), x]) ∧ ∀ xs, SqL K H a xs → xs[i]? = some x, fun i H => ∃ xs : List V, SqL K H a xs ∧ xs.length ≤ i⟩
def iEnum (K : PySem.W.Frag) (ta : TA) : TI := fun σ H R => ta σ H fun vs H1 => ∃ a xs, vs = [.ref a] ∧ SqL K H1 a xs ∧ R (Ite K a) H1
def Itz (K : PySem.W.Frag) (a b : Addr) : It :=
  ⟨fun i H => ∃ (xs ys : List V) (x y : V), SqL K H a xs ∧ SqL K H b ys ∧ xs[i]? = some x ∧ ys[i]? = some y,
    fun i H v H' => ∃ T x y, v = .ref T ∧ H T = none ∧ H' = upd H T (.tup [x, y]) ∧ (∀ xs, SqL K H a xs → xs[i]? = some x) ∧ ∀ ys, SqL K H b ys → ys[i]? = some y,
    fun i H => ∃ xs ys : List V, SqL K H a xs ∧ SqL K H b ys ∧ (xs.length ≤ i ∨ ys.length ≤ i)⟩
def iZip (K : PySem.W.Frag) (ta : TA) : TI := fun σ H R => ta σ H fun vs H1 => ∃ a b xs ys, vs = [.ref a, .ref b] ∧ SqL K H1 a xs ∧ SqL K H1 b ys ∧ R (Itz K a b) H1
end L2
section 
namespace Bits
open PySem PyProof.Rows
end Bits
end 
section 
namespace TL
open PySem PySem.Builtin PySem.Builtin.Str PySem.StrLaws
abbrev tl (x : Str) : List Nat := x.cps.toList
def pre (S l : List Nat) : Bool := l.take S.length == S
def spl (S : List Nat) : Nat → List Nat → List Nat → List (List Nat)
  | _, acc, [] => [acc]
  | 0, acc, c :: r => if pre S (c :: r) = true then acc :: spl S (S.length - 1) [] r else spl S 0 (acc ++ [c]) r
  | k + 1, acc, _ :: r => spl S k acc r
def par (S : List Nat) : List Nat → List Nat → Option (List Nat × List Nat)
  | _, [] => none
  | acc, c :: r => if pre S (c :: r) = true then some (acc, (c :: r).drop S.length) else par S (acc ++ [c]) r
def joinL (S : List Nat) : List (List Nat) → List Nat
  | [] => []
  | [p] => p
  | p :: q :: r => p ++ (S ++ joinL S (q :: r))
def numL (n : Nat) : List Nat := (Nat.toDigits 10 n).map Char.toNat
def wstep (st : List (List Nat) × List Nat) (c : Nat) : List (List Nat) × List Nat :=
  if Unicode.isSpace c = true then (if st.2 = [] then st else (st.1 ++ [st.2], [])) else (st.1, st.2 ++ [c])
def wfin (st : List (List Nat) × List Nat) : List (List Nat) := if st.2 = [] then st.1 else st.1 ++ [st.2]
end TL
end 
namespace L2
open PySem PySem.Spec PyProof.Rows
def rNewStrs (ys : List Str) : Hp → VK → Prop := fun H Q => ∀ p, H p = none → Q (.ref p) (upd H p (.lst (ys.map V.str)))
section
variable {X : Cx} {pins : List (Addr × Obj)} {σ : St} {H : Hp} {s : Shared} {Q : VK}
end
section
variable {X : Cx}
end
section
variable {X : Cx} {o e : Expr} {to te : TE}
def tM0 (r : V → List V → Hp → VK → Prop) (to : TE) : TE := fun σ H Q => to σ H fun x H1 => (∃ a, x = .str a) ∧ r x [] H1 Q
def tM1 (r : V → List V → Hp → VK → Prop) (to te : TE) : TE := fun σ H Q => to σ H fun x H1 => (∃ a, x = .str a) ∧ te σ H1 fun y H2 => r x [y] H2 Q
end
end L2
namespace L2
open PySem PySem.Spec PyProof.Rows
section
variable {X : Cx}
end
def clipS (n d : Nat) : Option Int → Int
  | none => (d : Int)
  | some i => max 0 (min (if i < 0 then i + (n : Int) else i) (n : Int))
def cutS (z : Str) (lo hi : Option Int) : Str :=
  ⟨((z.cps.toList.drop (HT.sIx z.length 0 lo)).take (HT.sIx z.length z.length hi - HT.sIx z.length 0 lo)).toArray⟩
def rSlS : V → Option Int → Option Int → Hp → VK → Prop := fun x lo hi H Q => ∃ z, x = .str z ∧ z.length ≤ sizeLine ∧ Q (.str (cutS z lo hi)) H
end L2
namespace Att
open PySem PySem.W PySem.Calls PyProof.Rows
section
variable {prog : Program} {w : World} {A : Around} {E : Value → Shared → Prop} {s : Shared} {K : Frag}
def noObjs (h : Heap) : Heap := { h with objs := #[] }
def ledger (h : Heap) (L d : Addr) : List (Addr × Obj) := (List.range h.objs.size).filterMap fun a => if a = L ∨ a = d then none else (h.get? a).map fun o => (a, o)
end
end Att
namespace L2
open PySem PySem.Spec PyProof.Rows
def Only (H : Hp) : Prop := ∀ b, H b = none ∨ ∃ o xs, H b = some (.frz o (.lst xs))
end L2
namespace L2
open PySem PySem.Spec PyProof.Rows
abbrev KOf {K : PySem.W.Frag} {h : Heap} (_ : K.In h) : PySem.W.Frag := K
end L2
namespace L2
open PySem PySem.Spec PyProof.Rows
def inClass (s : Stmt) (j : Nat) : Stmt := match s with
  | .ClassDef _ _ _ body _ _ _ _ _ _ _ => body.getD j (.Pass ⟨0, 0, 0, 0⟩)
  | _ => .Pass ⟨0, 0, 0, 0⟩
def defArgs (s : Stmt) : Arguments := match s with
  | .FunctionDef _ a _ _ _ _ _ _ _ _ => a
  | _ => { posonlyargs := [], args := [], vararg := none, kwonlyargs := [], kw_defaults := [], kwarg := none, defaults := [] }
def defBody (s : Stmt) : List Stmt := match s with
  | .FunctionDef _ _ b _ _ _ _ _ _ _ => b
  | _ => []
def defScope (s : Stmt) : Scope := match s with
  | .FunctionDef _ _ _ _ _ _ sc _ _ _ => sc
  | _ => { kind := .function, names := [], isGenerator := false, isCoroutine := false }
abbrev CX0 : CXT := fun _ _ _ _ _ _ => False
abbrev E0 : XK := fun _ _ _ => False
theorem pass0 {X : Cx} : Passes CX0 X E0 := fun _ _ _ _ _ _ _ h => h.elim
structure Fun (K : PySem.W.Frag) (x qual : Str) (st : Stmt) (f : Addr) (fd : FuncData) : Prop where
  ex : ∃ (oc : Value) (od : Option Addr) (kV doc pm : Value) (an : Option Addr) (cdv ct : Value) (osl : Array (Option Value)),
    fd = PySem.W.fnOf x qual (defArgs st) (defBody st) (defScope st) .none kV doc pm an cdv ct ∧ K.lookup f = some ⟨oc, od, .func fd, osl⟩ ∧ PySem.W.codeIn K cdv qual = true
  kp : PySem.W.keepIn K (.ref f) = true
section
variable {P : Program} {w : World} {K : PySem.W.Frag} {mg : Str → Option Value} {base : Heap}
theorem Fun.ok {x qual : Str} {st : Stmt} {f : Addr} {fd : FuncData} {N ps : List Str} {k : Nat} {sp : Sp} (F : Fun K x qual st f fd) (S : FnScope N ps (defScope st)) (len : ∀ vs H Q E, sp vs H Q E → vs.length = ps.length)
    (hbody : ∀ (cdv : Value) (A : Around) (outer : List Env) (s : Shared) (H : Hp) (vs : List V) (Q : VK) (E : XK), Room k (A.deeper (envOfC qual (defScope st) s.heap.objs.size f cdv)) → sp vs H Q E →
      ∃ t, PSs (cxOf CX0 P w K mg base N qual (defScope st) f cdv A outer s H E).nox (defBody st) t ∧ t { nx := fun _ H' => Q .non H', rt := Q } (start N vs) H) : FnOk P w K mg base CX0 (k + 1) f fd ps sp := by
  obtain ⟨oc, od, kV, doc, pm, an, cdv, ct, osl, rfl, lk, hcd⟩ := F.ex
  refine fn_of lk hcd S len fun A outer s H vs Q E hr hsp => ?_
  obtain ⟨t, h, q⟩ := hbody cdv A outer s H vs Q E hr hsp
  exact ⟨t, h.nox, q⟩
theorem Fun.binds {x qual : Str} {st : Stmt} {f : Addr} {fd : FuncData} {ps : List Str} (F : Fun K x qual st f fd)
    (h : ∀ (kV doc pm : Value) (an : Option Addr) (cdv ct : Value) (us : List Value), us.length = ps.length → bindArgs (PySem.W.fnOf x qual (defArgs st) (defBody st) (defScope st) .none kV doc pm an cdv ct) ⟨us, []⟩ = pure (ps.zip us)) : Binds K fd ps [] := by
  obtain ⟨oc, od, kV, doc, pm, an, cdv, ct, osl, rfl, lk, hcd⟩ := F.ex
  exact .all (h kV doc pm an cdv ct)
theorem fun_mk {x qual : Str} {st : Stmt} {f : Addr} {oc : Value} {od an : Option Addr} {osl : Array (Option Value)} {kV doc pm cdv ct : Value} (l : K.lookup f = some ⟨oc, od, .func (PySem.W.fnOf x qual (defArgs st) (defBody st) (defScope st) .none kV doc pm an cdv ct), osl⟩)
    (c : PySem.W.codeIn K cdv qual = true) (k : PySem.W.keepIn K (.ref f) = true) : Fun K x qual st f (PySem.W.fnOf x qual (defArgs st) (defBody st) (defScope st) .none kV doc pm an cdv ct) := ⟨⟨oc, od, kV, doc, pm, an, cdv, ct, osl, rfl, l, c⟩, k⟩
end
theorem hu_of {A : Around} {k : Nat} (hr : Room k A) : A.units + 1 < cLine := Nat.lt_of_le_of_lt (Nat.add_le_add_left (by decide : 1 ≤ 64) _) hr.units
theorem small1000 {n : Nat} (h : n ≤ 1000) : n < sizeLine := Nat.lt_of_le_of_lt h (by decide)
section
variable {X : Cx}
theorem pv (i : Nat) {x : Str} {pos : Pos} (hN : X.N[i]? = some x := by rfl) (hv : Vis X.env.scope x := by first | exact Or.inl rfl | exact Or.inr (Or.inl rfl) | exact Or.inr (Or.inr rfl)) (hd : (x == ("__debug__" : Str)) = false := by decide)
    (hcd : (x == ("__classdict__" : Str)) = false := by decide) : PE X (.Name x pos) (tVar i) := pe_var hN hv hd hcd
theorem call_lenD : CallR X (.builtin "len") (fun xs H Q => ∃ a kvs, xs = [V.ref a] ∧ H a = some (.dK kvs) ∧ Q (.int kvs.length) H) := by
  intro pins s σ H xs us Q I r h
  obtain ⟨a, kvs, rfl, ha, q⟩ := h
  obtain ⟨u, rfl, ru⟩ := vals1 r
  cases ru
  exact d_len I (.inl ha) fun t s' I' => ⟨.int kvs.length, H, I', ⟨t, rfl⟩, q⟩
end
theorem iteF {A B : Prop} (h : B) : if false = true then A else B := by
  rw [if_neg Bool.false_ne_true]
  exact h
theorem iteT {A B : Prop} (h : A) : if true = true then A else B := by
  rw [if_pos rfl]
  exact h
theorem ite2 {c A B : Prop} [Decidable c] (h1 : c → A) (h2 : ¬ c → B) : if c then A else B := by
  by_cases h : c
  · rw [if_pos h]
    exact h1 h
  · rw [if_neg h]
    exact h2 h
def Same (H H' : Hp) : Prop := ∀ b o, H b = some o → H' b = some o
theorem Same.refl (H : Hp) : Same H H := fun _ _ h => h
theorem Same.trans {H H1 H2 : Hp} (a : Same H H1) (b : Same H1 H2) : Same H H2 := fun c o h => b c o (a c o h)
theorem Same.free {H H' : Hp} (e : Same H H') {l : Addr} (h : H' l = Option.none) : H l = Option.none := by
  cases q : H l with
  | none => rfl
  | some o =>
    rw [e l o q] at h
    cases h
theorem Same.seq {K : PySem.W.Frag} {H H' : Hp} {a : Addr} {xs : List V} (e : Same H H') (h : SqL K H a xs) : SqL K H' a xs := by
  rcases h with (h | ⟨o, h⟩) | h
  · exact .inl (.inl (e _ _ h))
  · exact .inl (.inr ⟨o, e _ _ h⟩)
  · exact .inr h
section
variable {κ : Type} [DecidableEq κ]
theorem valV_not {kvs : List (κ × V)} {k : κ} (h : valV kvs k = none) : ¬ k ∈ kvs.map (·.1) := by
  intro m
  obtain ⟨p, hp, e⟩ := List.mem_map.mp m
  have q : (kvs.any fun kv => decide (kv.1 = k)) = true := List.any_eq_true.mpr ⟨p, hp, decide_eq_true e⟩
  rw [valV_any, h] at q
  exact absurd q (by simp)
theorem nd_snoc : ∀ {l : List κ} {k : κ}, l.Nodup → ¬ k ∈ l → (l ++ [k]).Nodup
  | [], k, _, _ => by simp
  | a :: r, k, h, hk => by
    obtain ⟨h1, h2⟩ := List.nodup_cons.mp h
    show (a :: (r ++ [k])).Nodup
    refine List.nodup_cons.mpr ⟨fun m => ?_, nd_snoc h2 fun m => hk (List.mem_cons.mpr (Or.inr m))⟩
    rcases List.mem_append.mp m with q | q
    · exact h1 q
    · exact hk (List.mem_cons.mpr (Or.inl (List.mem_singleton.mp q).symm))
theorem nd_putK {kvs : List (κ × V)} {k : κ} (v : V) (hn : (kvs.map (·.1)).Nodup) (h : valV kvs k = none) : ((putK kvs k v).map (·.1)).Nodup := by
  rw [putK_new v h, List.map_append]
  exact nd_snoc hn (valV_not h)
theorem dropK_pos {p : κ × V} {r : List (κ × V)} {k : κ} (e : p.1 = k) : dropK (p :: r) k = dropK r k := by
  unfold dropK
  rw [List.filter_cons, if_neg (by simp [e])]
theorem dropK_neg {p : κ × V} {r : List (κ × V)} {k : κ} (e : ¬ p.1 = k) : dropK (p :: r) k = p :: dropK r k := by
  unfold dropK
  rw [List.filter_cons, if_pos (by simp [e])]
theorem dropK_mem {kvs : List (κ × V)} {k : κ} {p : κ × V} (h : p ∈ dropK kvs k) : p ∈ kvs := (List.mem_filter.mp h).1
theorem nd_dropK : ∀ {kvs : List (κ × V)} {k : κ}, (kvs.map (·.1)).Nodup → ((dropK kvs k).map (·.1)).Nodup
  | [], _, _ => List.nodup_nil
  | p :: r, k, h => by
    have h : (p.1 :: r.map (·.1)).Nodup := h
    obtain ⟨h1, h2⟩ := List.nodup_cons.mp h
    by_cases e : p.1 = k
    · rw [dropK_pos e]
      exact nd_dropK h2
    · rw [dropK_neg e]
      show (p.1 :: (dropK r k).map (·.1)).Nodup
      refine List.nodup_cons.mpr ⟨fun m => h1 ?_, nd_dropK h2⟩
      obtain ⟨q, hq, eq⟩ := List.mem_map.mp m
      exact List.mem_map.mpr ⟨q, dropK_mem hq, eq⟩
end
theorem at_of {xs : List V} {z : Int} {j : Nat} {v : V} (e : z = (j : Int)) (h : xs[j]? = some v) : atI xs z = some v := by
  rw [e]
  exact atI_nat h
theorem Same.made {H H1 : Hp} {x dx C : Addr} (nx : H x = Option.none) (nd : H dx = Option.none) (k : ∀ b o, (upd (upd H dx (.own x)) x (.ins C dx [])) b = some o → b ≠ x → H1 b = some o) : Same H H1 := fun b o e =>
  k b o (by rw [upd_ne (ne_of_none e nx), upd_ne (ne_of_none e nd)]; exact e) (ne_of_none e nx)
end L2
section
set_option Elab.async false
set_option linter.all false
set_option maxRecDepth 100000
set_option maxHeartbeats 2000000
namespace L2
open PySem PySem.Spec PyProof.Rows
open PySem.W (WData Codec OpenSpec Well WellAll ReadsW ReadsAllW)
mutual
inductive Dw (K : PySem.W.Frag) (H : Hp) : V → WData → Prop
  | non : Dw K H .non .none
  | bl (b : Bool) : Dw K H (.bl b) (.bool b)
  | int (i : Int) : Dw K H (.int i) (.int i)
  | str (x : Str) : Dw K H (.str x) (.str x)
  | byt (b : Array UInt8) : Dw K H (.byt b) (.bytes b.toList)
  | lst {a : Addr} {xs : List V} {ds : List WData} : SqL K H a xs → DwAll K H xs ds → Dw K H (.ref a) (.list ds)
  | tup {a : Addr} {xs : List V} {ds : List WData} : SqT K H a xs → DwAll K H xs ds → Dw K H (.ref a) (.tuple ds)
inductive DwAll (K : PySem.W.Frag) (H : Hp) : List V → List WData → Prop
  | nil : DwAll K H [] []
  | cons {v : V} {vs : List V} {d : WData} {ds : List WData} : Dw K H v d → DwAll K H vs ds → DwAll K H (v :: vs) (d :: ds)
end
theorem dw_ints {K : PySem.W.Frag} {H : Hp} : ∀ ns : List Int, DwAll K H (ns.map V.int) (ns.map WData.int)
  | [] => .nil
  | n :: r => .cons (.int n) (dw_ints r)
theorem ints_dw {K : PySem.W.Frag} {H : Hp} : ∀ (ns : List Int) (xs : List V), DwAll K H xs (ns.map WData.int) → xs = ns.map V.int
  | [], xs, h => by
    cases h
    rfl
  | n :: r, xs, h => by
    cases h with
    | cons h1 h2 =>
      cases h1
      rw [ints_dw r _ h2] <;> rfl
section
variable {P : Program} {w : World} {K : PySem.W.Frag} {H : Hp} {h : Heap} {R : PySem.W.WRecords} {cl : Str → Option Addr}
theorem sqL_at {a : Addr} {xs : List V} (hok : HOk P w H h) (KX : K.In h) (q : SqL K H a xs) : ∃ (its : List Value) (o : Obj) (n : Nat), Vals xs its ∧ h.get? a = some o ∧ o.cls = .type "list" ∧ o.data = .seq its.toArray n := by
  rcases q with q | ⟨o, its, n, e, hc, _, hd, _, hv⟩
  · obtain ⟨_, its, n, hv, e⟩ := (show ObjOk P w H h a (.lst xs) from q.ok hok)
    exact ⟨its, _, n, hv, e, rfl, rfl⟩
  · exact ⟨its.toList, o, n, hv, KX _ _ e, hc, by simp [hd]⟩
theorem sqT_at {a : Addr} {xs : List V} (hok : HOk P w H h) (KX : K.In h) (q : SqT K H a xs) : ∃ (its : List Value) (o : Obj) (n : Nat), Vals xs its ∧ h.get? a = some o ∧ o.cls = .type "tuple" ∧ o.data = .seq its.toArray n := by
  rcases q with q | ⟨o, its, n, e, hc, hd, _, hv⟩
  · obtain ⟨_, its, hv, o, e, hc, n, hd⟩ := (show ObjOk P w H h a (.tup xs) from q.ok hok)
    exact ⟨its, o, n, hv, e, hc, hd⟩
  · exact ⟨its.toList, o, n, hv, KX _ _ e, hc, by simp [hd]⟩
mutual
theorem Dw.reads (hok : HOk P w H h) (KX : K.In h) : ∀ (d : WData) (v : V) (u : Value), Dw K H v d → RelV v u → ∃ as, ReadsW R cl h u d as
  | .none, _, _, x, r => by
    cases x
    cases r
    exact ⟨_, ReadsW.none⟩
  | .bool b, _, _, x, r => by
    cases x
    cases r
    exact ⟨_, ReadsW.bool b⟩
  | .int i, _, _, x, r => by
    cases x
    obtain ⟨t, rfl⟩ := r
    exact ⟨_, ReadsW.int i t⟩
  | .str s, _, _, x, r => by
    cases x
    obtain ⟨t, rfl⟩ := r
    exact ⟨_, ReadsW.str s t⟩
  | .bytes b, _, _, x, r => by
    cases x
    obtain ⟨t, rfl⟩ := r
    exact ⟨_, ReadsW.bytes _ t⟩
  | .list ds, _, _, x, r => by
    cases x with
    | lst hs ha =>
      cases r
      obtain ⟨its, o, n, rv, ho, hc, hd⟩ := sqL_at hok KX hs
      obtain ⟨as, hr⟩ := Dw.readsAll hok KX ds _ its ha rv
      exact ⟨_, ReadsW.list ho hc hd hr⟩
  | .tuple ds, _, _, x, r => by
    cases x with
    | tup hs ha =>
      cases r
      obtain ⟨its, o, n, rv, ho, hc, hd⟩ := sqT_at hok KX hs
      obtain ⟨as, hr⟩ := Dw.readsAll hok KX ds _ its ha rv
      exact ⟨_, ReadsW.tuple ho hc hd hr⟩
  | .float _, _, _, x, _ => by cases x
  | .dict _, _, _, x, _ => by cases x
  | .bytearray _, _, _, x, _ => by cases x
  | .set _, _, _, x, _ => by cases x
  | .frozenset _, _, _, x, _ => by cases x
  | .obj _ _, _, _, x, _ => by cases x
theorem Dw.readsAll (hok : HOk P w H h) (KX : K.In h) : ∀ (ds : List WData) (vs : List V) (us : List Value), DwAll K H vs ds → Vals vs us → ∃ as, ReadsAllW R cl h us ds as
  | [], _, _, x, r => by
    cases x
    cases r
    exact ⟨_, ReadsAllW.nil⟩
  | d :: ds, _, _, x, r => by
    cases x with
    | cons h1 h2 =>
      cases r with
      | cons r1 r2 =>
        obtain ⟨as, q1⟩ := Dw.reads hok KX d _ _ h1 r1
        obtain ⟨bs, q2⟩ := Dw.readsAll hok KX ds _ _ h2 r2
        exact ⟨_, ReadsAllW.cons q1 q2⟩
end
end
mutual
def plW : WData → Bool
  | .none => true
  | .bool _ => true
  | .int _ => true
  | .str _ => true
  | .bytes _ => true
  | .list xs => plWs xs
  | .tuple xs => plWs xs
  | _ => false
def plWs : List WData → Bool
  | [] => true
  | x :: r => plW x && plWs r
end
theorem plWs_map {α : Type} {f : α → WData} (h : ∀ a, plW (f a) = true) : ∀ l : List α, plWs (l.map f) = true
  | [] => rfl
  | x :: r => by
    show (plW (f x) && plWs (r.map f)) = true
    rw [h x, plWs_map h r] <;> rfl
theorem pl_enc : ∀ (c : Codec) (a : c.denote), plW (c.enc a) = true
  | .unit, _ => rfl
  | .bool, _ => rfl
  | .int _ _, _ => rfl
  | .nat _ _, _ => rfl
  | .u8, _ => rfl
  | .bytes _ _, _ => rfl
  | .text _ _ _ _, _ => rfl
  | .list _ _ c, a => plWs_map (fun x => pl_enc c x) a
  | .pair c d, a => by
    show (plW (c.enc a.1) && (plW (d.enc a.2) && true)) = true
    rw [pl_enc c a.1, pl_enc d a.2] <;> rfl
  | .triple c d e, a => by
    show (plW (c.enc a.1) && (plW (d.enc a.2.1) && (plW (e.enc a.2.2) && true))) = true
    rw [pl_enc c a.1, pl_enc d a.2.1, pl_enc e a.2.2] <;> rfl
  | .option c, none => rfl
  | .option c, some x => pl_enc c x
theorem pl_encAll : ∀ (cs : List Codec) (a : Codec.denoteAll cs), plWs (Codec.encAll cs a) = true
  | [], _ => rfl
  | c :: cs, a => by
    show (plW (c.enc a.1) && plWs (Codec.encAll cs a.2)) = true
    rw [pl_enc c a.1, pl_encAll cs a.2] <;> rfl
theorem weight_mem : ∀ {xs : List WData} {d : WData}, d ∈ xs → d.weight ≤ WData.weightAll xs
  | [], d, h => absurd h (by simp)
  | x :: r, d, h => by
    show d.weight ≤ x.weight + 1 + WData.weightAll r
    rcases List.mem_cons.mp h with e | m
    · rw [e]
      omega
    · have z := weight_mem m
      omega
def toV : Value → V
  | .none => .non
  | .bool b => .bl b
  | .int i _ => .int i
  | .str x _ => .str x
  | .bytes b _ => .byt b
  | .ref a => .ref a
  | _ => .non
def OkU (A : List Addr) : Value → Prop
  | .none => True
  | .bool _ => True
  | .int _ _ => True
  | .str _ _ => True
  | .bytes _ _ => True
  | .ref a => a ∈ A
  | _ => False
theorem OkU.mono {A B : List Addr} (h : ∀ a ∈ A, a ∈ B) : ∀ {u : Value}, OkU A u → OkU B u := fun {u} x => by
  cases u with
  | ref a => exact h a x
  | none => trivial
  | bool b => trivial
  | int i t => trivial
  | str s t => trivial
  | bytes b t => trivial
  | _ => exact False.elim x
theorem relV_toV {A : List Addr} {u : Value} (x : OkU A u) : RelV (toV u) u := by
  cases u with
  | ref a => rfl
  | none => rfl
  | bool b => rfl
  | int i t => exact ⟨t, rfl⟩
  | str s t => exact ⟨t, rfl⟩
  | bytes b t => exact ⟨t, rfl⟩
  | _ => exact False.elim x
theorem vals_toV {A : List Addr} : ∀ {vs : List Value}, (∀ u ∈ vs, OkU A u) → Vals (vs.map toV) vs
  | [], _ => .nil
  | u :: r, h => .cons (relV_toV (h u (List.mem_cons_self ..))) (vals_toV fun x hx => h x (List.mem_cons_of_mem _ hx))
def ArgOb (h : Heap) (A : List Addr) (a : Addr) : Prop := ∃ vs : List Value, vs.length ≤ sizeLine ∧ (∀ u ∈ vs, OkU A u) ∧
  (h.get? a = some { cls := .type "list", data := .seq vs.toArray } ∨ h.get? a = some { cls := .type "tuple", data := .seq vs.toArray })
theorem ArgOb.mono {h : Heap} {A B : List Addr} {a : Addr} (k : ∀ a ∈ A, a ∈ B) (x : ArgOb h A a) : ArgOb h B a := by
  obtain ⟨vs, h1, h2, h3⟩ := x
  exact ⟨vs, h1, fun u hu => (h2 u hu).mono k, h3⟩
theorem wellAll_len {P : Params} {h : Heap} : ∀ {vs : List Value} {ds : List WData}, WellAll P h vs ds → vs.length = ds.length
  | _, _, .nil => rfl
  | _, _, .cons _ b => by
    show _ + 1 = _ + 1
    rw [wellAll_len b]
theorem well_list {P : Params} {h : Heap} {v : Value} {ds : List WData} (x : Well P h v (.list ds)) : ∃ (a : Addr) (vs : List Value), v = .ref a ∧ h.get? a = some { cls := .type "list", data := .seq vs.toArray } ∧ WellAll P h vs ds := by
  cases x with
  | list ho hall => exact ⟨_, _, rfl, ho, hall⟩
theorem well_tuple {P : Params} {h : Heap} {v : Value} {ds : List WData} (x : Well P h v (.tuple ds)) : ∃ (a : Addr) (vs : List Value), v = .ref a ∧ h.get? a = some { cls := .type "tuple", data := .seq vs.toArray } ∧ WellAll P h vs ds := by
  cases x with
  | tuple ho hall => exact ⟨_, _, rfl, ho, hall⟩
theorem well_cons {P : Params} {h : Heap} {us : List Value} {d : WData} {ds : List WData} (x : WellAll P h us (d :: ds)) : ∃ (v : Value) (vs : List Value), us = v :: vs ∧ Well P h v d ∧ WellAll P h vs ds := by
  cases x with
  | cons a b => exact ⟨_, _, rfl, a, b⟩
theorem line_of {n : Nat} (h : n ≤ 1048576) : n ≤ sizeLine := Nat.le_trans h (by decide)
section
variable {P : Params} {h : Heap}
mutual
theorem area_one : ∀ (d : WData) (v : Value), Well P h v d → plW d = true → d.weight ≤ 1048576 → ∃ A : List Addr, OkU A v ∧ ∀ a ∈ A, ArgOb h A a
  | .none, _, x, _, _ => by
    cases x
    exact ⟨[], trivial, fun a m => absurd m (by simp)⟩
  | .bool b, _, x, _, _ => by
    cases x
    exact ⟨[], trivial, fun a m => absurd m (by simp)⟩
  | .int i, _, x, _, _ => by
    cases x
    exact ⟨[], trivial, fun a m => absurd m (by simp)⟩
  | .str s, _, x, _, _ => by
    cases x
    exact ⟨[], trivial, fun a m => absurd m (by simp)⟩
  | .bytes b, _, x, _, _ => by
    cases x
    exact ⟨[], trivial, fun a m => absurd m (by simp)⟩
  | .list ds, _, x, p, z => by
    obtain ⟨a, vs, rfl, ho, hall⟩ := well_list x
    have z2 : WData.weightAll ds ≤ 1048576 := z
    obtain ⟨A, h1, h2⟩ := area_all ds _ hall p fun d hd => Nat.le_trans (weight_mem hd) z2
    have k : ∀ b ∈ A, b ∈ a :: A := fun b hb => List.mem_cons_of_mem _ hb
    refine ⟨a :: A, List.mem_cons_self .., fun b hb => ?_⟩
    rcases List.mem_cons.mp hb with e | m
    · rw [e]
      exact ⟨vs, line_of (by rw [wellAll_len hall]; exact Nat.le_trans (PySem.W.length_le_weightAllW ds) z2), fun u hu => (h1 u hu).mono k, .inl ho⟩
    · exact (h2 b m).mono k
  | .tuple ds, _, x, p, z => by
    obtain ⟨a, vs, rfl, ho, hall⟩ := well_tuple x
    have z2 : WData.weightAll ds ≤ 1048576 := z
    obtain ⟨A, h1, h2⟩ := area_all ds _ hall p fun d hd => Nat.le_trans (weight_mem hd) z2
    have k : ∀ b ∈ A, b ∈ a :: A := fun b hb => List.mem_cons_of_mem _ hb
    refine ⟨a :: A, List.mem_cons_self .., fun b hb => ?_⟩
    rcases List.mem_cons.mp hb with e | m
    · rw [e]
      exact ⟨vs, line_of (by rw [wellAll_len hall]; exact Nat.le_trans (PySem.W.length_le_weightAllW ds) z2), fun u hu => (h1 u hu).mono k, .inr ho⟩
    · exact (h2 b m).mono k
  | .float _, _, _, p, _ => Bool.noConfusion (show false = true from p)
  | .dict _, _, _, p, _ => Bool.noConfusion (show false = true from p)
  | .bytearray _, _, _, p, _ => Bool.noConfusion (show false = true from p)
  | .set _, _, _, p, _ => Bool.noConfusion (show false = true from p)
  | .frozenset _, _, _, p, _ => Bool.noConfusion (show false = true from p)
  | .obj _ _, _, _, p, _ => Bool.noConfusion (show false = true from p)
theorem area_all : ∀ (ds : List WData) (vs : List Value), WellAll P h vs ds → plWs ds = true → (∀ d ∈ ds, d.weight ≤ 1048576) → ∃ A : List Addr, (∀ u ∈ vs, OkU A u) ∧ ∀ a ∈ A, ArgOb h A a
  | [], _, x, _, _ => by
    cases x
    exact ⟨[], fun u m => absurd m (by simp), fun a m => absurd m (by simp)⟩
  | d :: ds, _, x, p, z => by
    obtain ⟨v, vs, rfl, x1, x2⟩ := well_cons x
    have q : plW d = true ∧ plWs ds = true := Bool.and_eq_true_iff.mp p
    obtain ⟨A, a1, a2⟩ := area_one d v x1 q.1 (z d (List.mem_cons_self ..))
    obtain ⟨B, b1, b2⟩ := area_all ds vs x2 q.2 fun e he => z e (List.mem_cons_of_mem _ he)
    have kA : ∀ b ∈ A, b ∈ A ++ B := fun b hb => List.mem_append.mpr (.inl hb)
    have kB : ∀ b ∈ B, b ∈ A ++ B := fun b hb => List.mem_append.mpr (.inr hb)
    refine ⟨A ++ B, fun u hu => ?_, fun b hb => ?_⟩
    · rcases List.mem_cons.mp hu with e | m
      · rw [e]
        exact a1.mono kA
      · exact (b1 u m).mono kB
    · rcases List.mem_append.mp hb with m | m
      · exact (a2 b m).mono kA
      · exact (b2 b m).mono kB
end
end
def hoOf (o : Obj) : Option HO := match o.data with
  | .seq vs _ => if (o.cls == Value.type "list") = true then some (.frz o (.lst (vs.toList.map toV))) else some (.frz o (.tup (vs.toList.map toV)))
  | _ => none
def argH (K : PySem.W.Frag) (h : Heap) (A : List Addr) : Hp := fun b => if b ∈ A then (if (K.lookup b).isNone = true then (h.get? b).bind hoOf else none) else none
def OnlyF (H : Hp) : Prop := ∀ b, H b = none ∨ ∃ o u, H b = some (.frz o u)
theorem hoOf_lst (vs : List Value) : hoOf { cls := .type "list", data := .seq vs.toArray } = some (.frz { cls := .type "list", data := .seq vs.toArray } (.lst (vs.map toV))) := by
  show (if (Value.type "list" == Value.type "list") = true then some (HO.frz { cls := .type "list", data := .seq vs.toArray } (.lst (vs.toArray.toList.map toV))) else some (HO.frz { cls := .type "list", data := .seq vs.toArray } (.tup (vs.toArray.toList.map toV)))) = _
  rw [if_pos (beq_self_eq_true _)]
theorem hoOf_tup (vs : List Value) : hoOf { cls := .type "tuple", data := .seq vs.toArray } = some (.frz { cls := .type "tuple", data := .seq vs.toArray } (.tup (vs.map toV))) := by
  show (if (Value.type "tuple" == Value.type "list") = true then some (HO.frz { cls := .type "tuple", data := .seq vs.toArray } (.lst (vs.toArray.toList.map toV))) else some (HO.frz { cls := .type "tuple", data := .seq vs.toArray } (.tup (vs.toArray.toList.map toV)))) = _
  rw [if_neg (by decide)]
section
variable {P : Program} {w : World} {K : PySem.W.Frag} {h : Heap} {A : List Addr}
theorem argH_at {b : Addr} {o : Obj} (hb : b ∈ A) (hk : K.lookup b = none) (e : h.get? b = some o) : argH K h A b = hoOf o := by
  unfold argH
  rw [if_pos hb, hk, if_pos (show (none : Option Obj).isNone = true from rfl), e] <;> rfl
theorem of_argH {b : Addr} {u : HO} (q : argH K h A b = some u) : b ∈ A ∧ K.lookup b = none := by
  unfold argH at q
  by_cases hb : b ∈ A
  · rw [if_pos hb] at q
    cases hk : K.lookup b with
    | none => exact ⟨hb, rfl⟩
    | some o =>
      rw [hk, if_neg (by simp)] at q
      cases q
  · rw [if_neg hb] at q
    cases q
theorem argH_is (ar : ∀ a ∈ A, ArgOb h A a) {b : Addr} {u : HO} (q : argH K h A b = some u) : K.lookup b = none ∧ ∃ vs : List Value, vs.length ≤ sizeLine ∧ (∀ u ∈ vs, OkU A u) ∧
    ((h.get? b = some { cls := .type "list", data := .seq vs.toArray } ∧ u = .frz { cls := .type "list", data := .seq vs.toArray } (.lst (vs.map toV))) ∨
     (h.get? b = some { cls := .type "tuple", data := .seq vs.toArray } ∧ u = .frz { cls := .type "tuple", data := .seq vs.toArray } (.tup (vs.map toV)))) := by
  obtain ⟨hb, hk⟩ := of_argH q
  obtain ⟨vs, h1, h2, h3⟩ := ar b hb
  refine ⟨hk, vs, h1, h2, ?_⟩
  rcases h3 with e | e
  · rw [argH_at hb hk e, hoOf_lst] at q
    exact .inl ⟨e, (Option.some.inj q).symm⟩
  · rw [argH_at hb hk e, hoOf_tup] at q
    exact .inr ⟨e, (Option.some.inj q).symm⟩
theorem argH_only (ar : ∀ a ∈ A, ArgOb h A a) : OnlyF (argH K h A) := fun b => by
  cases q : argH K h A b with
  | none => exact .inl rfl
  | some u =>
    obtain ⟨_, vs, _, _, ⟨_, e⟩ | ⟨_, e⟩⟩ := argH_is ar q
    · exact .inr ⟨_, _, by rw [e]⟩
    · exact .inr ⟨_, _, by rw [e]⟩
theorem argH_ok (ar : ∀ a ∈ A, ArgOb h A a) : HOk P w (argH K h A) h := fun b u q => by
  obtain ⟨_, vs, h1, h2, ⟨e, rfl⟩ | ⟨e, rfl⟩⟩ := argH_is ar q
  · exact ⟨e, by rw [List.length_map]; exact h1, vs, _, vals_toV h2, e⟩
  · exact ⟨e, by rw [List.length_map]; exact h1, vs, vals_toV h2, _, e, rfl, _, rfl⟩
theorem seq_inj {c c' : Value} {vs us : List Value} (e : (some { cls := c, data := .seq vs.toArray } : Option Obj) = some { cls := c', data := .seq us.toArray }) : c = c' ∧ vs = us := by
  have e1 := Option.some.inj e
  have e2 : c = c' := congrArg Obj.cls e1
  have e3 : Data.seq vs.toArray = Data.seq us.toArray := congrArg Obj.data e1
  injection e3 with e4
  refine ⟨e2, ?_⟩
  have e5 := congrArg Array.toList e4
  simpa using e5
theorem argL (KX : K.In h) (ar : ∀ a ∈ A, ArgOb h A a) {a : Addr} {vs : List Value} (ha : a ∈ A) (e : h.get? a = some { cls := .type "list", data := .seq vs.toArray }) : (∀ u ∈ vs, OkU A u) ∧ SqL K (argH K h A) a (vs.map toV) := by
  obtain ⟨us, h1, h2, h3⟩ := ar a ha
  have hu : us = vs := by
    rcases h3 with q | q
    · rw [e] at q
      exact (seq_inj q).2.symm
    · rw [e] at q
      exact absurd (Value.type.inj (seq_inj q).1) (by decide)
  subst hu
  refine ⟨h2, ?_⟩
  cases hk : K.lookup a with
  | none => exact .inl (.inr ⟨_, by rw [argH_at ha hk e, hoOf_lst]⟩)
  | some o =>
    have e2 := KX a o hk
    rw [e] at e2
    obtain rfl := Option.some.inj e2
    exact .inr ⟨_, us.toArray, _, hk, rfl, rfl, rfl, by rw [List.size_toArray]; exact h1, by simpa using vals_toV h2⟩
theorem argT (KX : K.In h) (ar : ∀ a ∈ A, ArgOb h A a) {a : Addr} {vs : List Value} (ha : a ∈ A) (e : h.get? a = some { cls := .type "tuple", data := .seq vs.toArray }) : (∀ u ∈ vs, OkU A u) ∧ SqT K (argH K h A) a (vs.map toV) := by
  obtain ⟨us, h1, h2, h3⟩ := ar a ha
  have hu : us = vs := by
    rcases h3 with q | q
    · rw [e] at q
      exact absurd (Value.type.inj (seq_inj q).1) (by decide)
    · rw [e] at q
      exact (seq_inj q).2.symm
  subst hu
  refine ⟨h2, ?_⟩
  cases hk : K.lookup a with
  | none => exact .inl (.inr ⟨_, by rw [argH_at ha hk e, hoOf_tup]⟩)
  | some o =>
    have e2 := KX a o hk
    rw [e] at e2
    obtain rfl := Option.some.inj e2
    exact .inr ⟨_, us.toArray, _, hk, rfl, rfl, by rw [List.size_toArray]; exact h1, by simpa using vals_toV h2⟩
mutual
theorem dw_one {Pm : Params} (KX : K.In h) (ar : ∀ a ∈ A, ArgOb h A a) : ∀ (d : WData) (v : Value), Well Pm h v d → plW d = true → OkU A v → Dw K (argH K h A) (toV v) d
  | .none, _, x, _, _ => by
    cases x
    exact .non
  | .bool b, _, x, _, _ => by
    cases x
    exact .bl b
  | .int i, _, x, _, _ => by
    cases x
    exact .int i
  | .str s, _, x, _, _ => by
    cases x
    exact .str s
  | .bytes b, _, x, _, _ => by
    cases x
    have z := Dw.byt (K := K) (H := argH K h A) b.toArray
    exact z
  | .list ds, _, x, p, hu => by
    obtain ⟨a, vs, rfl, ho, hall⟩ := well_list x
    obtain ⟨h2, hs⟩ := argL KX ar hu ho
    exact .lst hs (dw_all KX ar ds _ hall p h2)
  | .tuple ds, _, x, p, hu => by
    obtain ⟨a, vs, rfl, ho, hall⟩ := well_tuple x
    obtain ⟨h2, hs⟩ := argT KX ar hu ho
    exact .tup hs (dw_all KX ar ds _ hall p h2)
  | .float _, _, _, p, _ => Bool.noConfusion (show false = true from p)
  | .dict _, _, _, p, _ => Bool.noConfusion (show false = true from p)
  | .bytearray _, _, _, p, _ => Bool.noConfusion (show false = true from p)
  | .set _, _, _, p, _ => Bool.noConfusion (show false = true from p)
  | .frozenset _, _, _, p, _ => Bool.noConfusion (show false = true from p)
  | .obj _ _, _, _, p, _ => Bool.noConfusion (show false = true from p)
theorem dw_all {Pm : Params} (KX : K.In h) (ar : ∀ a ∈ A, ArgOb h A a) : ∀ (ds : List WData) (vs : List Value), WellAll Pm h vs ds → plWs ds = true → (∀ u ∈ vs, OkU A u) → DwAll K (argH K h A) (vs.map toV) ds
  | [], _, x, _, _ => by
    cases x
    exact .nil
  | d :: ds, _, x, p, hu => by
    obtain ⟨v, vs, rfl, x1, x2⟩ := well_cons x
    have q : plW d = true ∧ plWs ds = true := Bool.and_eq_true_iff.mp p
    exact .cons (dw_one KX ar d v x1 q.1 (hu _ (List.mem_cons_self ..))) (dw_all KX ar ds vs x2 q.2 fun u m => hu u (List.mem_cons_of_mem _ m))
end
end
theorem spec_call {P : Program} {w : World} {K : PySem.W.Frag} {mg mb : Str → Option Value} {CX : CXT} {k : Nat} {fa : Addr} {fd : FuncData} {ps : List Str} {sp : Sp} {s₁ : Shared} {vals : List Value} {ds : List WData} {R : PySem.W.WRecords} {cl : Str → Option Addr} {d0 : WData}
    (KX : K.In s₁.heap) (hns : s₁.heap.Ns mainGlobals mg) (hb : s₁.heap.Ns builtinsNs mb) (hbb : ∀ x : Str, x ≠ "__name__" → mb x = bootBuiltins x) (hlim : s₁.heap.NoLimit) (hg : s₁.gens = #[])
    (hwl : WellAll w.params s₁.heap vals ds) (hpl : plWs ds = true) (hwt : ∀ d ∈ ds, d.weight ≤ 1048576) (hr : Room k callerA)
    (F : ∀ base : Heap, K.In base → base.Ns mainGlobals mg → FnOk P w K mg base CX k fa fd ps sp) (hbind : ∀ (s : Shared) (us : List Value), us.length = ps.length → BindsTo s fd ⟨us, []⟩ (ps.zip us)) (hlen : ds.length = ps.length)
    (hsp : ∀ (H : Hp) (xs : List V), OnlyF H → DwAll K H xs ds → sp xs H (fun v H' => Dw K H' v d0) fun _ _ _ => False)
    (hCX : ∀ H e s', CX [] H s₁ (fun _ _ _ => False) e s' → False) :
    codeAny (model P w) callerA (.call (.ref fa) ⟨vals, []⟩) (fun r s' => ∃ u as, r = .ok (.ret u) ∧ ReadsW R cl s'.heap u d0 as ∧ OldK s₁.heap s'.heap ∧ s'.os = s₁.os ∧ AllBare s'.gens) s₁ := by
  obtain ⟨A, ho, ar⟩ := area_all ds vals hwl hpl hwt
  have hO : OnlyF (argH K s₁.heap A) := argH_only ar
  have hok : HOk P w (argH K s₁.heap A) s₁.heap := argH_ok ar
  have hS := dw_all KX ar ds vals hwl hpl ho
  have hV := vals_toV ho
  have hK : ∀ b u, argH K s₁.heap A b = some u → K.lookup b = none := fun b u q => (argH_is ar q).1
  have noA : ∀ {b : Addr} {o : Obj} {es : Array DictEntry} {ep : Nat}, s₁.heap.get? b = some o → o.data = .dict es ep → argH K s₁.heap A b = none := fun {b o es ep} e d => by
    cases q : argH K s₁.heap A b with
    | none => rfl
    | some u =>
      obtain ⟨_, vs, _, _, ⟨e2, _⟩ | ⟨e2, _⟩⟩ := argH_is ar q
      · rw [e2] at e
        cases e
        have d' : Data.seq vs.toArray _ = Data.dict es ep := d
        cases d'
      · rw [e2] at e
        cases e
        have d' : Data.seq vs.toArray _ = Data.dict es ep := d
        cases d'
  generalize argH K s₁.heap A = H at hO hok hS hK noA
  have base_of : ∀ {b : Addr} {o : Obj}, s₁.heap.get? b = some o → H b = none → (hidT s₁.heap H).get? b = some o := fun e n => hidT_get e n
  have nsK : ∀ {b : Addr} {m : Str → Option Value}, s₁.heap.Ns b m → (hidT s₁.heap H).Ns b m := fun {b m} ⟨o, es, ep, e, d, r⟩ => ⟨o, es, ep, base_of e (noA e d), d, r⟩
  have nK : ∀ b o, K.lookup b = some o → H b = none := fun b o e => by
    cases q : H b with
    | none => rfl
    | some u =>
      rw [hK b u q] at e
      cases e
  have hKb : K.In (hidT s₁.heap H) := fun b o e => base_of (KX b o e) (nK b o e)
  have hM : Mod K mg (hidT s₁.heap H) := ⟨hKb, nsK hns, ⟨mb, nsK hb, hbb⟩, let ⟨mc, h1, h2⟩ := hlim; ⟨mc, nsK h1, h2⟩⟩
  have e0 : Env0 P w K mg (hidT s₁.heap H) callerA [] s₁ H := ⟨rfl, hM, fun b o e => of_hidT e, Nat.le_of_eq (hidT_size _ _), trivial, fun b hb => absurd (show b ∈ ([] : List Addr) from hb) (by simp), hok, .of_eq hg⟩
  have hl : vals.length = ps.length := by rw [wellAll_len hwl]; exact hlen
  refine codeAny_mono ((F _ hKb (nsK hns)).run callerA [] s₁ H ⟨vals, []⟩ vals (vals.map toV) _ _ hr e0 (hbind s₁ vals hl) hV (hsp H _ hO hS)) fun r s' x => ?_
  cases r with
  | error e => exact (hCX H e s' x).elim
  | ok fl =>
    cases fl with
    | next => exact False.elim x
    | brk => exact False.elim x
    | cont => exact False.elim x
    | ret u =>
      obtain ⟨v, H', os, bare, un, hok', r', q⟩ := x
      have kept : ∀ b o, s₁.heap.get? b = some o → s'.heap.get? b = some o := fun b o e => by
        cases q2 : H b with
        | none => exact un.keep b o e q2 (by intro z; exact absurd (show b ∈ ([] : List Addr) from z) (by simp)) (by simp)
        | some u2 =>
          rcases hO b with z | ⟨ob, u3, z⟩
          · rw [q2] at z
            cases z
          · have z2 := un.frzs b ob _ z
            obtain ⟨e1, _⟩ := hok b _ z
            obtain ⟨e2, _⟩ := hok' b _ z2
            rw [e] at e1
            cases e1
            exact e2
      have KX' : K.In s'.heap := fun b o e => kept b o (KX b o e)
      obtain ⟨as, hrd⟩ := Dw.reads (R := R) (cl := cl) hok' KX' d0 v u q r'
      exact ⟨u, as, rfl, hrd, OldK.of_keep kept, os, bare⟩
theorem layable_weight {ds : List WData} (h : WData.layableAll ds = true) : ∀ d ∈ ds, d.weight ≤ 1048576 := fun d hd =>
  (PySem.W.layableW_iff.mp (List.all_eq_true.mp h d hd)).2.2
theorem encAll_len : ∀ (cs : List Codec) (a : Codec.denoteAll cs), (Codec.encAll cs a).length = cs.length
  | [], _ => rfl
  | c :: cs, a => by
    show (Codec.encAll cs a.2).length + 1 = cs.length + 1
    rw [encAll_len cs a.2]
theorem walk_spec {r : OpenSpec} {k : Nat} {q : Program} {loose : List Str} {XP : (Str → Option Value) → Heap → Prop} {YP : World → Heap → Prop} {d : DefRec} {K : Params → PySem.W.Frag} {CX : World → CXT} {ps : List Str} {sp : World → Sp}
    (hwell : r.wellSaid = true) (hdf : d.params.defaults = []) (hlen : r.args.length = ps.length) (hr : Room k callerA)
    (hY : ∀ (w : World) (h : Heap), YP w h → (K w.params).In h)
    (F : ∀ (w : World) (mg : Str → Option Value) (fa : Addr) (h : Heap), YP w h → (K w.params).In h → h.Ns mainGlobals mg → mg d.name = some (.ref fa) →
      ∃ fd : FuncData, (∀ (s : Shared) (us : List Value), us.length = ps.length → BindsTo s fd ⟨us, []⟩ (ps.zip us)) ∧
        ∀ base : Heap, (K w.params).In base → base.Ns mainGlobals mg → FnOk r.prog w (K w.params) mg base (CX w) k fa fd ps (sp w))
    (hsp : ∀ (w : World) (H : Hp) (xs : List V) (a : Codec.denoteAll r.args), OnlyF H → Codec.withinAll r.args a = true → Codec.app r.args r.asked a = true → DwAll (K w.params) H xs (Codec.encAll r.args a) →
      sp w xs H (fun v H' => Dw (K w.params) H' v (r.ret.enc (Codec.app r.args r.f a))) fun _ _ _ => False)
    (hCX : ∀ (w : World) (H : Hp) (s : Shared) (e : Value) (s' : Shared), CX w [] H s (fun _ _ _ => False) e s' → False) :
    PySem.W.WalkOS q loose XP YP r d [] (fun f vs => PySem.call f vs) := by
  intro w s_0 s₁ mg mb G Y fa o pm cd doc dV kV ho hd hcd hD hmg hg args vals as hpre hlay hrd hwl hlo
  obtain ⟨a, e1, e2⟩ := PySem.W.os_pre_some hpre
  obtain ⟨e3, hwi⟩ := Codec.encAll_of_decAll r.args args a e1
  subst e3
  have KX := hY w _ Y
  obtain ⟨fd, hb, hF⟩ := F w mg fa _ Y KX G.T.g hmg
  refine PySem.W.enter_call (codeAny_mono (spec_call (R := []) (cl := classAt s_0.heap) (d0 := r.ret.enc (Codec.app r.args r.f a)) KX G.T.g G.T.b G.T.builtins G.T.nolimit hg hwl (pl_encAll _ _) (layable_weight hlay) hr hF hb (by rw [encAll_len]; exact hlen)
    (fun H xs hO hS => hsp w H xs a hO hwi e2 hS) fun H e s' => hCX w H s₁ e s') fun r' s' hq => ?_)
  obtain ⟨u, as', rfl, h1, h2, h3, h4⟩ := hq
  exact ⟨.inl ⟨u, _, as', rfl, fun _ => rfl, h1, (OpenSpec.post_iff hwell hwi _ _).mpr rfl, fun z => Bool.noConfusion (show false = true from z)⟩, h2, h3, h4⟩
theorem walk_specK {r : OpenSpec} {k : Nat} {q : Program} {loose : List Str} {XP : (Str → Option Value) → Heap → Prop} {YP : World → Heap → Prop} {d : DefRec} {K : Params → PySem.W.Frag} {CX : CXT} {ps : List Str} {sp : PySem.W.Frag → Sp}
    (hwell : r.wellSaid = true) (hdf : d.params.defaults = []) (hlen : r.args.length = ps.length) (hr : Room k callerA)
    (hY : ∀ (w : World) (h : Heap), YP w h → (K w.params).In h)
    (F : ∀ (w : World) (mg : Str → Option Value) (fa : Addr) (h : Heap), YP w h → (K w.params).In h → h.Ns mainGlobals mg → mg d.name = some (.ref fa) →
      ∃ fd : FuncData, (∀ (s : Shared) (us : List Value), us.length = ps.length → BindsTo s fd ⟨us, []⟩ (ps.zip us)) ∧
        ∀ base : Heap, (K w.params).In base → base.Ns mainGlobals mg → FnOk r.prog w (K w.params) mg base CX k fa fd ps (sp (K w.params)))
    (hsp : ∀ (K : PySem.W.Frag) (H : Hp) (xs : List V) (a : Codec.denoteAll r.args), OnlyF H → Codec.withinAll r.args a = true → Codec.app r.args r.asked a = true → DwAll K H xs (Codec.encAll r.args a) →
      sp K xs H (fun v H' => Dw K H' v (r.ret.enc (Codec.app r.args r.f a))) fun _ _ _ => False)
    (hCX : ∀ (H : Hp) (s : Shared) (e : Value) (s' : Shared), CX [] H s (fun _ _ _ => False) e s' → False) :
    PySem.W.WalkOS q loose XP YP r d [] (fun f vs => PySem.call f vs) :=
  walk_spec (K := K) (CX := fun _ => CX) (sp := fun w => sp (K w.params)) hwell hdf hlen hr hY F (fun w H xs a h1 h2 h3 h4 => hsp (K w.params) H xs a h1 h2 h3 h4) fun _ H s e s' => hCX H s e s'
end L2
-- rests on (row put in by the clerk, for the bench that shows a file only what it spells): KE.SpHead KE.OsShapes
end

set_option autoImplicit false
set_option Elab.async false
namespace Sp
open IhSpan

/-! ### the request: its calls -/
def flat1 : IhSpans.Call → List Int
  | .begin_ n => [1, (n : Int)]
  | .length => [2]
  | .pages l => 3 :: (l.length : Int) :: SpNeutral.ints l
  | .start p => [4, (p : Int)]
  | .put s => [5, (s.from_ : Int), (s.to_ : Int), (s.kind : Int), (if s.main = true then 1 else 0), (s.note : Int)]
  | .drop i => [6, (i : Int)]
  | .get i => [7, (i : Int)]
  | .edit a c p => [8, (a : Int), (c : Int), (p : Int)]
  | .place i => [9, (i : Int)]
  | .holds a => [10, (a : Int)]
  | .on p => [11, (p : Int)]
def flat : List IhSpans.Call → List Int
  | [] => []
  | x :: xs => flat1 x ++ flat xs
def nums (d : Desk) (x : IhSpans.Call) : List Int := SpNeutral.numbers (IhSpans.step d x).2
def next (d : Desk) (x : IhSpans.Call) : Desk := (IhSpans.step d x).1
def out : Desk → List IhSpans.Call → List Int
  | _, [] => []
  | d, x :: xs => ((nums d x).length : Int) :: (nums d x ++ out (next d x) xs)

theorem whole_id (c : List (List Int)) : PyWqakbd.whole c = c := by
  unfold PyWqakbd.whole
  split <;> rfl
theorem w32 {z : Int} (h : SpNeutral.whole32 z = true) : ∃ n : Nat, z = (n : Int) ∧ IhSpans.few n = true := by
  unfold SpNeutral.whole32 at h
  rw [Bool.and_eq_true] at h
  have h1 : 0 ≤ z := of_decide_eq_true h.1
  have h2 : z < 4294967296 := of_decide_eq_true h.2
  refine ⟨z.toNat, (Int.toNat_of_nonneg h1).symm, ?_⟩
  unfold IhSpans.few
  apply decide_eq_true
  have e : (2 : Nat) ^ 32 = 4294967296 := by decide
  rw [e]
  omega
theorem w32s : ∀ {l : List Int}, l.all SpNeutral.whole32 = true → ∃ m : List Nat, l = SpNeutral.ints m ∧ m.all IhSpans.few = true
  | [], _ => ⟨[], rfl, rfl⟩
  | z :: l, h => by
    rw [List.all_cons, Bool.and_eq_true] at h
    obtain ⟨n, rfl, hn⟩ := w32 h.1
    obtain ⟨m, rfl, hm⟩ := w32s h.2
    exact ⟨n :: m, rfl, by rw [List.all_cons, hn, hm]; rfl⟩
theorem whole_rows (x : IhSpans.Call) : SpNeutral.whole (SpNeutral.rowsOf x) = true := by
  unfold SpNeutral.whole
  cases x with
  | pages l =>
    show ((([3] : List Int).all fun n => decide (0 ≤ n)) && (((SpNeutral.ints l).all fun n => decide (0 ≤ n)) && true)) = true
    have e : ((SpNeutral.ints l).all fun n => decide (0 ≤ n)) = true := by
      unfold SpNeutral.ints
      rw [List.all_map]
      rw [List.all_eq_true]
      intro n _
      show decide ((0 : Int) ≤ (n : Int)) = true
      exact decide_eq_true (Int.natCast_nonneg n)
    rw [e]
    rfl
  | put s =>
    obtain ⟨a, b, k, m, n⟩ := s
    cases m <;> simp [SpNeutral.rowsOf]
  | _ => simp [SpNeutral.rowsOf]
theorem nats_ints (l : List Nat) : SpNeutral.nats (SpNeutral.ints l) = l := by
  unfold SpNeutral.nats SpNeutral.ints
  rw [List.map_map]
  conv => rhs; rw [← List.map_id l]
  exact List.map_congr_left fun n _ => Int.toNat_natCast n
theorem callOf_rows (x : IhSpans.Call) : SpNeutral.callOf (SpNeutral.rowsOf x) = some x := by
  unfold SpNeutral.callOf
  rw [whole_rows]
  cases x with
  | pages l => simp [SpNeutral.rowsOf, nats_ints]
  | put s =>
    obtain ⟨a, b, k, m, n⟩ := s
    cases m <;> simp [SpNeutral.rowsOf, SpNeutral.bitOf?]
  | _ => simp [SpNeutral.rowsOf]
theorem bit01 {z : Int} (h3 : decide (0 ≤ z) = true) (h4 : decide (z ≤ 1) = true) : z = 0 ∨ z = 1 := by
  have h3 := of_decide_eq_true h3
  have h4 := of_decide_eq_true h4
  omega
theorem typed {c : List (List Int)} (h : SpNeutral.asked1 c = true) : ∃ x : IhSpans.Call, c = SpNeutral.rowsOf x ∧ x.asked = true := by
  unfold SpNeutral.asked1 at h
  split at h
  · obtain ⟨n, rfl, hn⟩ := w32 h
    exact ⟨.begin_ n, rfl, hn⟩
  · exact ⟨.length, rfl, rfl⟩
  · obtain ⟨m, rfl, hm⟩ := w32s h
    exact ⟨.pages m, rfl, hm⟩
  · obtain ⟨n, rfl, hn⟩ := w32 h
    exact ⟨.start n, rfl, hn⟩
  · rw [Bool.and_eq_true, Bool.and_eq_true, Bool.and_eq_true, Bool.and_eq_true, Bool.and_eq_true] at h
    obtain ⟨h0, h1, h2, h3, h4, h5⟩ := h
    obtain ⟨n0, rfl, k0⟩ := w32 h0
    obtain ⟨n1, rfl, k1⟩ := w32 h1
    obtain ⟨n2, rfl, k2⟩ := w32 h2
    obtain ⟨n5, rfl, k5⟩ := w32 h5
    rcases bit01 h3 h4 with rfl | rfl
    · exact ⟨.put ⟨n0, n1, n2, false, n5⟩, rfl, by show (IhSpans.few n0 && (IhSpans.few n1 && (IhSpans.few n2 && IhSpans.few n5))) = true; rw [k0, k1, k2, k5]; rfl⟩
    · exact ⟨.put ⟨n0, n1, n2, true, n5⟩, rfl, by show (IhSpans.few n0 && (IhSpans.few n1 && (IhSpans.few n2 && IhSpans.few n5))) = true; rw [k0, k1, k2, k5]; rfl⟩
  · obtain ⟨n, rfl, hn⟩ := w32 h
    exact ⟨.drop n, rfl, hn⟩
  · obtain ⟨n, rfl, hn⟩ := w32 h
    exact ⟨.get n, rfl, hn⟩
  · rw [Bool.and_eq_true, Bool.and_eq_true] at h
    obtain ⟨h0, h1, h2⟩ := h
    obtain ⟨n0, rfl, k0⟩ := w32 h0
    obtain ⟨n1, rfl, k1⟩ := w32 h1
    obtain ⟨n2, rfl, k2⟩ := w32 h2
    exact ⟨.edit n0 n1 n2, rfl, by show (IhSpans.few n0 && (IhSpans.few n1 && IhSpans.few n2)) = true; rw [k0, k1, k2]; rfl⟩
  · obtain ⟨n, rfl, hn⟩ := w32 h
    exact ⟨.place n, rfl, hn⟩
  · obtain ⟨n, rfl, hn⟩ := w32 h
    exact ⟨.holds n, rfl, hn⟩
  · obtain ⟨n, rfl, hn⟩ := w32 h
    exact ⟨.on n, rfl, hn⟩
  · cases h
theorem put1_rows (x : IhSpans.Call) : PyFlat.put1 (SpNeutral.rowsOf x) = flat1 x := by
  cases x with
  | pages l =>
    show ([3] : List Int) ++ ((((SpNeutral.ints l).length : Int) :: SpNeutral.ints l) ++ []) = 3 :: (l.length : Int) :: SpNeutral.ints l
    rw [List.append_nil]
    have e : (SpNeutral.ints l).length = l.length := List.length_map _
    rw [e]
    rfl
  | _ => rfl
theorem typedAll : ∀ {cs : List (List (List Int))}, cs.all SpNeutral.asked1 = true → ∃ xs : List IhSpans.Call, cs = xs.map SpNeutral.rowsOf ∧ ∀ x ∈ xs, x.asked = true
  | [], _ => ⟨[], rfl, fun x hx => by cases hx⟩
  | c :: cs, h => by
    rw [List.all_cons, Bool.and_eq_true] at h
    obtain ⟨x, rfl, hx⟩ := typed h.1
    obtain ⟨xs, rfl, hxs⟩ := typedAll h.2
    refine ⟨x :: xs, rfl, fun y hy => ?_⟩
    cases hy with
    | head => exact hx
    | tail _ hy => exact hxs y hy
theorem put_rows : ∀ xs : List IhSpans.Call, PyFlat.put (xs.map SpNeutral.rowsOf) = flat xs
  | [] => rfl
  | x :: xs => by
    show PyFlat.put1 (SpNeutral.rowsOf x) ++ PyFlat.put (xs.map SpNeutral.rowsOf) = flat1 x ++ flat xs
    rw [put1_rows, put_rows xs]
theorem step_rows (d : Desk) (x : IhSpans.Call) : SpNeutral.step d (SpNeutral.rowsOf x) = (next d x, nums d x) := by
  unfold SpNeutral.step
  rw [callOf_rows]
  rfl
theorem told_rows : ∀ (d : Desk) (xs : List IhSpans.Call), PyFlat.told (PyFlat.played SpNeutral.step d (xs.map SpNeutral.rowsOf)) = out d xs
  | _, [] => rfl
  | d, x :: xs => by
    show PyFlat.told ((SpNeutral.step d (SpNeutral.rowsOf x)).2 :: PyFlat.played SpNeutral.step (SpNeutral.step d (SpNeutral.rowsOf x)).1 (xs.map SpNeutral.rowsOf)) = _
    rw [step_rows]
    have ih := told_rows (next d x) xs
    show ((nums d x).length : Int) :: nums d x ++ PyFlat.told (PyFlat.played SpNeutral.step (next d x) (xs.map SpNeutral.rowsOf)) = _
    rw [ih]
    rfl
/-- what is asked of a request, and what is due -/
theorem request {l : List Int} (h : PyWqakbd.answers_asked l = true) : ∃ xs : List IhSpans.Call, l = flat xs ∧ xs.length ≤ 400 ∧ (∀ x ∈ xs, x.asked = true) ∧ PyWqakbd.answers l = out SpNeutral.start xs := by
  unfold PyWqakbd.answers_asked at h
  unfold PyWqakbd.answers
  unfold PyWqakbd.calls at h ⊢
  cases e : PyFlat.calls PyWqakbd.shape l.length l with
  | none => rw [e] at h; cases h
  | some cs =>
    rw [e] at h
    have w : cs.map PyWqakbd.whole = cs := by
      conv => rhs; rw [← List.map_id cs]
      exact List.map_congr_left fun c _ => whole_id c
    have h' : (PyFlat.atMost 400 (cs.map PyWqakbd.whole) && SpNeutral.asked (cs.map PyWqakbd.whole)) = true := h
    rw [w, Bool.and_eq_true] at h'
    obtain ⟨a1, a2⟩ := h'
    unfold SpNeutral.asked at a2
    rw [Bool.and_eq_true, Bool.and_eq_true] at a2
    obtain ⟨xs, rfl, hx⟩ := typedAll a2.2.2
    obtain ⟨e1, _⟩ := PyFlat.put_calls _ _ _ e
    refine ⟨xs, e1.trans (put_rows xs), ?_, hx, ?_⟩
    · have q := of_decide_eq_true (show decide ((xs.map SpNeutral.rowsOf).length ≤ 400) = true from a1)
      rwa [List.length_map] at q
    · show PyFlat.told (PyFlat.played SpNeutral.step SpNeutral.start ((xs.map SpNeutral.rowsOf).map PyWqakbd.whole)) = _
      rw [w, told_rows]
end Sp

set_option autoImplicit false
set_option Elab.async false
namespace Sp
open IhSpan

/-! ### spans by their numbers -/
theorem span_lt {d : Desk} {i : Nat} {s : Span} (h : d.span i = some s) : i < d.spans.length := by
  unfold Desk.span at h
  by_cases k : i < d.spans.length
  · exact k
  · rw [List.getElem?_eq_none (Nat.le_of_not_lt k)] at h
    cases h
theorem mem_ids {d : Desk} {i : Nat} : i ∈ d.ids ↔ (d.span i).isSome = true := by
  unfold Desk.ids
  rw [List.mem_filter, List.mem_range]
  constructor
  · exact fun h => h.2
  · intro h
    obtain ⟨s, e⟩ := Option.isSome_iff_exists.mp h
    exact ⟨span_lt e, h⟩
theorem ids_up (d : Desk) : d.ids.Pairwise (· < ·) := List.Pairwise.filter _ List.pairwise_lt_range
theorem free_le (d : Desk) : d.free ≤ d.spans.length := by
  unfold Desk.free
  cases e : (List.range d.spans.length).find? fun (i : Nat) => (d.span i).isNone with
  | none => exact Nat.le_refl _
  | some j =>
    have := List.mem_of_find?_eq_some e
    exact Nat.le_of_lt (List.mem_range.mp this)
theorem free_none (d : Desk) : d.span d.free = none := by
  unfold Desk.free
  cases e : (List.range d.spans.length).find? fun (i : Nat) => (d.span i).isNone with
  | none =>
    show d.span d.spans.length = none
    unfold Desk.span
    rw [List.getElem?_eq_none (Nat.le_refl _)]
    rfl
  | some j =>
    have := List.find?_some e
    exact Option.isNone_iff_eq_none.mp this
theorem free_below {d : Desk} {j : Nat} (h : j < d.free) : (d.span j).isSome = true := by
  unfold Desk.free at h
  cases e : (List.range d.spans.length).find? fun (i : Nat) => (d.span i).isNone with
  | none =>
    rw [e] at h
    have h : j < d.spans.length := h
    have q := List.find?_eq_none.mp e j (List.mem_range.mpr h)
    cases z : d.span j with
    | none => rw [z] at q; exact absurd rfl q
    | some s => rfl
  | some k =>
    rw [e] at h
    have h : j < k := h
    have q := (List.find?_range_eq_some.mp e).2.2 j h
    cases z : d.span j with
    | none => rw [z] at q; cases q
    | some s => rfl
/-- the least number that is free is known by these -/
theorem free_is {d : Desk} {n : Nat} (h : d.span n = none) (k : ∀ j, j < n → (d.span j).isSome = true) : d.free = n := by
  have a : ¬ d.free < n := fun q => by
    have := k _ q
    rw [free_none] at this
    cases this
  have b : ¬ n < d.free := fun q => by
    have := free_below q
    rw [h] at this
    cases this
  omega
theorem span_put {d : Desk} {n : Nat} (hn : n ≤ d.spans.length) (s : Option Span) (i : Nat) : (d.put n s).span i = if i = n then s else d.span i := by
  unfold Desk.put Desk.span
  by_cases h : n < d.spans.length
  · show ((if n < d.spans.length then d.spans.set n s else d.spans ++ [s])[i]?).join = _
    rw [if_pos h, List.getElem?_set]
    by_cases e : n = i
    · subst e
      rw [if_pos rfl, if_pos rfl, if_pos h]
      rfl
    · rw [if_neg e, if_neg fun q => e q.symm]
  · have e : n = d.spans.length := by omega
    show ((if n < d.spans.length then d.spans.set n s else d.spans ++ [s])[i]?).join = _
    rw [if_neg h]
    by_cases q : i = n
    · subst q
      rw [if_pos rfl, e, List.getElem?_append_right (Nat.le_refl _), Nat.sub_self]
      rfl
    · rw [if_neg q]
      by_cases l : i < d.spans.length
      · rw [List.getElem?_append_left l]
      · rw [List.getElem?_eq_none (by rw [List.length_append]; show d.spans.length + 1 ≤ i; omega), List.getElem?_eq_none (by omega)]
theorem put_len (d : Desk) (n : Nat) (s : Option Span) : (d.put n s).spans.length ≤ d.spans.length + 1 := by
  unfold Desk.put
  show (if n < d.spans.length then d.spans.set n s else d.spans ++ [s]).length ≤ _
  by_cases h : n < d.spans.length
  · rw [if_pos h, List.length_set]
    omega
  · rw [if_neg h, List.length_append]
    exact Nat.le_refl _
theorem put_len_lt {d : Desk} {n : Nat} (h : n < d.spans.length) (s : Option Span) : (d.put n s).spans.length = d.spans.length := by
  unfold Desk.put
  show (if n < d.spans.length then d.spans.set n s else d.spans ++ [s]).length = _
  rw [if_pos h, List.length_set]
theorem span_edited (d : Desk) (a c p i : Nat) : (d.edited a c p).1.span i = (d.span i).bind fun s => s.edited a c p := by
  unfold Desk.edited Desk.span
  show ((d.spans.map fun (x : Option Span) => x.bind fun (s : Span) => s.edited a c p)[i]?).join = _
  rw [List.getElem?_map]
  cases d.spans[i]? with
  | none => rfl
  | some o => rfl
theorem edited_len (d : Desk) (a c p : Nat) : (d.edited a c p).1.spans.length = d.spans.length := List.length_map _

/-! ### the invariant of a desk behind n calls -/
structure DOk (d : Desk) (n : Nat) : Prop where
  len : d.length ≤ LONGEST
  first : ∃ r, d.starts = 0 :: r
  rise : d.starts.Pairwise (· ≤ ·)
  within : ∀ s ∈ d.starts, s ≤ d.length
  pages : d.starts.length ≤ PAGES
  right : ∀ i s, d.span i = some s → s.right d.length = true
  few : d.spans.length ≤ n
theorem right_iff {s : Span} {n : Nat} : s.right n = true ↔ s.from_ < s.to_ ∧ s.to_ ≤ n ∧ s.kind ≤ 3 ∧ (s.kind = 0 ∨ s.main = false) ∧ (s.kind = 1 → 1 ≤ s.note ∧ s.note ≤ NOTES) ∧ (s.kind ≠ 1 → s.note = 0) := by
  unfold Span.right
  rw [Bool.and_eq_true, Bool.and_eq_true, Bool.and_eq_true, Bool.and_eq_true, Bool.or_eq_true, decide_eq_true_eq, decide_eq_true_eq, decide_eq_true_eq, beq_iff_eq, Bool.not_eq_true']
  by_cases k : s.kind = 1
  · rw [if_pos k, Bool.and_eq_true, decide_eq_true_eq, decide_eq_true_eq]
    constructor
    · rintro ⟨⟨⟨⟨h1, h2⟩, h3⟩, h4⟩, h5⟩
      exact ⟨h1, h2, h3, h4, fun _ => h5, fun q => absurd k q⟩
    · rintro ⟨h1, h2, h3, h4, h5, _⟩
      exact ⟨⟨⟨⟨h1, h2⟩, h3⟩, h4⟩, h5 k⟩
  · rw [if_neg k, beq_iff_eq]
    constructor
    · rintro ⟨⟨⟨⟨h1, h2⟩, h3⟩, h4⟩, h5⟩
      exact ⟨h1, h2, h3, h4, fun q => absurd q k, fun _ => h5⟩
    · rintro ⟨h1, h2, h3, h4, _, h5⟩
      exact ⟨⟨⟨⟨h1, h2⟩, h3⟩, h4⟩, h5 k⟩
theorem rising_iff : ∀ {l : List Nat}, rising l = true ↔ l.Pairwise (· ≤ ·)
  | [] => ⟨fun _ => .nil, fun _ => rfl⟩
  | [a] => ⟨fun _ => List.pairwise_singleton _ _, fun _ => rfl⟩
  | a :: b :: l => by
    show (decide (a ≤ b) && rising (b :: l)) = true ↔ _
    rw [Bool.and_eq_true, decide_eq_true_eq, rising_iff (l := b :: l), List.pairwise_cons (a := a)]
    constructor
    · rintro ⟨h1, h2⟩
      refine ⟨fun x hx => ?_, h2⟩
      cases hx with
      | head => exact h1
      | tail _ hx => exact Nat.le_trans h1 ((List.pairwise_cons.mp h2).1 x hx)
    · rintro ⟨h1, h2⟩
      exact ⟨h1 b (List.Mem.head _), h2⟩
theorem startsRight_iff {l : List Nat} {n : Nat} : startsRight l n = true ↔ l.length ≤ PAGES ∧ (∃ r, l = 0 :: r) ∧ l.Pairwise (· ≤ ·) ∧ ∀ s ∈ l, s ≤ n := by
  unfold startsRight
  rw [Bool.and_eq_true, Bool.and_eq_true, Bool.and_eq_true, Bool.and_eq_true, decide_eq_true_eq, decide_eq_true_eq, beq_iff_eq, rising_iff, List.all_eq_true]
  constructor
  · rintro ⟨⟨⟨⟨h1, h2⟩, h3⟩, h4⟩, h5⟩
    refine ⟨h2, ?_, h4, fun s hs => of_decide_eq_true (h5 s hs)⟩
    cases l with
    | nil => cases h3
    | cons a r => exact ⟨r, by rw [Option.some.inj h3]⟩
  · rintro ⟨h2, ⟨r, rfl⟩, h4, h5⟩
    exact ⟨⟨⟨⟨Nat.succ_le_succ (Nat.zero_le _), h2⟩, rfl⟩, h4⟩, fun s hs => decide_eq_true (h5 s hs)⟩
theorem moveFrom_mono {a c p x y : Nat} (h : x ≤ y) : moveFrom a c p x ≤ moveFrom a c p y := by
  unfold moveFrom
  repeat' split
  all_goals omega
theorem moveFrom_le {a c p x n : Nat} (h : x ≤ n) (k : a + c ≤ n) : moveFrom a c p x ≤ n - c + p := by
  unfold moveFrom
  repeat' split
  all_goals omega
theorem moveTo_le {a c p x n : Nat} (h : x ≤ n) (k : a + c ≤ n) : moveTo a c p x ≤ n - c + p := by
  unfold moveTo
  repeat' split
  all_goals omega
theorem edited_some {s t : Span} {a c p : Nat} (h : s.edited a c p = some t) : t.from_ = moveFrom a c p s.from_ ∧ t.to_ = moveTo a c p s.to_ ∧ t.kind = s.kind ∧ t.main = s.main ∧ t.note = s.note ∧ t.from_ < t.to_ := by
  unfold Span.edited at h
  by_cases k : moveFrom a c p s.from_ < moveTo a c p s.to_
  · rw [if_pos k] at h
    cases h
    exact ⟨rfl, rfl, rfl, rfl, rfl, k⟩
  · rw [if_neg k] at h
    cases h
theorem start_ok : DOk SpNeutral.start 0 := by
  refine ⟨Nat.zero_le _, ⟨[], rfl⟩, List.pairwise_singleton _ _, fun s hs => ?_, by decide, fun i s h => ?_, Nat.le_refl _⟩
  · cases hs with
    | head => exact Nat.le_refl _
    | tail _ h => cases h
  · have := span_lt h
    exact absurd this (Nat.not_lt_zero _)
theorem DOk.mono {d : Desk} {n m : Nat} (h : DOk d n) (k : n ≤ m) : DOk d m := ⟨h.len, h.first, h.rise, h.within, h.pages, h.right, Nat.le_trans h.few k⟩
theorem edit_ok {d : Desk} {n a c p : Nat} (h : DOk d n) (k1 : ¬ d.length < a + c) (k2 : ¬ LONGEST < d.length - c + p) : DOk (d.edited a c p).1 n := by
  obtain ⟨r, hr⟩ := h.first
  have rise := h.rise
  rw [hr] at rise
  have es : (d.edited a c p).1.starts = 0 :: r.map (moveFrom a c p) := by
    unfold Desk.edited
    rw [hr]
  have el : (d.edited a c p).1.length = d.length - c + p := rfl
  refine ⟨by rw [el]; omega, ⟨_, es⟩, ?_, ?_, ?_, ?_, by rw [edited_len]; exact h.few⟩
  · rw [es]
    rw [List.pairwise_cons] at rise ⊢
    refine ⟨fun x _ => Nat.zero_le _, ?_⟩
    rw [List.pairwise_map]
    exact rise.2.imp fun q => moveFrom_mono q
  · intro s hs
    rw [es] at hs
    cases hs with
    | head => exact Nat.zero_le _
    | tail _ hs =>
      obtain ⟨x, hx, rfl⟩ := List.mem_map.mp hs
      exact moveFrom_le (h.within x (by rw [hr]; exact List.Mem.tail _ hx)) (by omega)
  · rw [es]
    have := h.pages
    rw [hr] at this
    rw [List.length_cons, List.length_map]
    exact this
  · intro i s hs
    rw [span_edited] at hs
    cases e : d.span i with
    | none => rw [e] at hs; cases hs
    | some t =>
      rw [e] at hs
      have hs : t.edited a c p = some s := hs
      obtain ⟨e1, e2, e3, e4, e5, e6⟩ := edited_some hs
      have q := right_iff.mp (h.right i t e)
      refine right_iff.mpr ⟨e6, ?_, by rw [e3]; exact q.2.2.1, by rw [e3, e4]; exact q.2.2.2.1, by rw [e3, e5]; exact q.2.2.2.2.1, by rw [e3, e5]; exact q.2.2.2.2.2⟩
      rw [e2, el]
      exact moveTo_le q.2.1 (by omega)
theorem put_ok {d : Desk} {n : Nat} {s : Span} (h : DOk d n) (q : s.right d.length = true) : DOk (d.put d.free (some s)) (n + 1) := by
  refine ⟨h.len, h.first, h.rise, h.within, h.pages, fun i t ht => ?_, Nat.le_trans (put_len _ _ _) (Nat.succ_le_succ h.few)⟩
  rw [span_put (free_le d)] at ht
  show t.right d.length = true
  by_cases e : i = d.free
  · rw [if_pos e] at ht
    have ht := Option.some.inj ht
    subst ht
    exact q
  · rw [if_neg e] at ht
    exact h.right i t ht
theorem next_ok {d : Desk} {n : Nat} (h : DOk d n) (x : IhSpans.Call) : DOk (next d x) (n + 1) := by
  have m := h.mono (Nat.le_succ n)
  unfold next
  cases x with
  | begin_ k =>
    show DOk (if LONGEST < k then (d, IhSpans.Answer.refused 1) else (⟨k, [0], []⟩, .number 0)).1 (n + 1)
    by_cases q : LONGEST < k
    · rw [if_pos q]; exact m
    · rw [if_neg q]
      refine ⟨Nat.le_of_not_lt q, ⟨[], rfl⟩, List.pairwise_singleton _ _, fun s hs => ?_, by show 1 ≤ PAGES; decide, fun i s h => ?_, Nat.zero_le _⟩
      · cases hs with
        | head => exact Nat.zero_le _
        | tail _ h => cases h
      · exact absurd (span_lt h) (Nat.not_lt_zero _)
  | pages l =>
    show DOk (if startsRight l d.length = true then ({ d with starts := l }, IhSpans.Answer.number 0) else (d, .refused 1)).1 (n + 1)
    by_cases q : startsRight l d.length = true
    · rw [if_pos q]
      obtain ⟨q1, q2, q3, q4⟩ := startsRight_iff.mp q
      exact ⟨m.len, q2, q3, q4, q1, m.right, m.few⟩
    · rw [if_neg q]; exact m
  | put s =>
    show DOk (if s.right d.length = false then (d, IhSpans.Answer.refused 1) else if SPANS ≤ d.free then (d, .refused 2) else (d.put d.free (some s), .number d.free)).1 (n + 1)
    by_cases q : s.right d.length = false
    · rw [if_pos q]; exact m
    · rw [if_neg q]
      by_cases r : SPANS ≤ d.free
      · rw [if_pos r]; exact m
      · rw [if_neg r]
        refine put_ok h ?_
        cases z : s.right d.length with
        | true => rfl
        | false => exact absurd z q
  | drop i =>
    show DOk (match d.span i with
      | some _ => (d.put i none, IhSpans.Answer.number 0)
      | none => (d, .refused 3)).1 (n + 1)
    cases e : d.span i with
    | none => exact m
    | some s =>
      refine ⟨m.len, m.first, m.rise, m.within, m.pages, fun j t ht => ?_, ?_⟩
      · have ht : (d.put i none).span j = some t := ht
        rw [span_put (Nat.le_of_lt (span_lt e))] at ht
        by_cases q : j = i
        · rw [if_pos q] at ht; cases ht
        · rw [if_neg q] at ht
          exact h.right j t ht
      · show (d.put i none).spans.length ≤ n + 1
        rw [put_len_lt (span_lt e)]
        exact m.few
  | edit a c p =>
    show DOk (if d.length < a + c then (d, IhSpans.Answer.refused 1) else if LONGEST < d.length - c + p then (d, .refused 2) else ((d.edited a c p).1, .row (d.edited a c p).2)).1 (n + 1)
    by_cases q : d.length < a + c
    · rw [if_pos q]; exact m
    · rw [if_neg q]
      by_cases r : LONGEST < d.length - c + p
      · rw [if_pos r]; exact m
      · rw [if_neg r]; exact edit_ok m q r
  | _ => exact m

/-! ### rising rows of numbers, and spans in their order -/
theorem up_uniq {l m : List Nat} (hl : l.Pairwise (· < ·)) (hm : m.Pairwise (· < ·)) (h : ∀ x, x ∈ l ↔ x ∈ m) : l = m := by
  have nl : l.Nodup := hl.imp fun q => Nat.ne_of_lt q
  have nm : m.Nodup := hm.imp fun q => Nat.ne_of_lt q
  exact List.Perm.eq_of_pairwise (fun a b _ _ x y => absurd (Nat.lt_trans x y) (Nat.lt_irrefl _)) hl hm ((List.perm_ext_iff_of_nodup nl nm).mpr h)
theorem mem_lost {d : Desk} {a c p i : Nat} : i ∈ (d.edited a c p).2 ↔ ∃ s, d.span i = some s ∧ s.edited a c p = none := by
  show i ∈ (d.ids.filter fun (i : Nat) => (match d.span i with
      | some s => (s.edited a c p).isNone
      | none => false)) ↔ _
  rw [List.mem_filter, mem_ids]
  cases e : d.span i with
  | none => exact ⟨fun h => (by cases h.1), fun ⟨s, h, _⟩ => by cases h⟩
  | some s =>
    constructor
    · exact fun h => ⟨s, rfl, Option.isNone_iff_eq_none.mp h.2⟩
    · rintro ⟨t, ht, q⟩
      cases ht
      exact ⟨rfl, Option.isNone_iff_eq_none.mpr q⟩
theorem lost_up (d : Desk) (a c p : Nat) : (d.edited a c p).2.Pairwise (· < ·) := List.Pairwise.filter _ (ids_up d)
theorem lost_is {d : Desk} {a c p : Nat} {l : List Nat} (hl : l.Pairwise (· < ·)) (h : ∀ i, i ∈ l ↔ ∃ s, d.span i = some s ∧ s.edited a c p = none) : (d.edited a c p).2 = l :=
  up_uniq (lost_up d a c p) hl fun i => by rw [mem_lost, h]
/-- the same order, of all numbers -/
def frm (d : Desk) (i : Nat) : Nat := match d.span i with
  | some a => a.from_
  | none => 0
def too (d : Desk) (i : Nat) : Nat := match d.span i with
  | some a => a.to_
  | none => 0
def le3 (d : Desk) (i j : Nat) : Bool := decide (frm d i < frm d j ∨ (frm d i = frm d j ∧ (too d j < too d i ∨ (too d i = too d j ∧ i ≤ j))))
theorem before_le3 {d : Desk} {i j : Nat} (hi : (d.span i).isSome = true) (hj : (d.span j).isSome = true) : d.before i j = le3 d i j := by
  obtain ⟨a, ea⟩ := Option.isSome_iff_exists.mp hi
  obtain ⟨b, eb⟩ := Option.isSome_iff_exists.mp hj
  unfold Desk.before le3 frm too
  simp only [ea, eb]
  by_cases h1 : a.from_ = b.from_
  · rw [if_neg (fun q => q h1)]
    by_cases h2 : a.to_ = b.to_
    · rw [if_neg (fun q => q h2)]
      exact decide_eq_decide.mpr (by omega)
    · rw [if_pos h2]
      exact decide_eq_decide.mpr (by omega)
  · rw [if_pos h1]
    exact decide_eq_decide.mpr (by omega)
theorem le3_trans (d : Desk) (i j k : Nat) (h1 : le3 d i j = true) (h2 : le3 d j k = true) : le3 d i k = true := by
  unfold le3 at *
  have h1 := of_decide_eq_true h1
  have h2 := of_decide_eq_true h2
  exact decide_eq_true (by omega)
theorem le3_total (d : Desk) (i j : Nat) : (le3 d i j || le3 d j i) = true := by
  unfold le3
  rw [Bool.or_eq_true, decide_eq_true_eq, decide_eq_true_eq]
  omega
theorem le3_anti {d : Desk} {i j : Nat} (h1 : le3 d i j = true) (h2 : le3 d j i = true) : i = j := by
  unfold le3 at *
  have h1 := of_decide_eq_true h1
  have h2 := of_decide_eq_true h2
  omega
def picked (d : Desk) (p : Span → Bool) : List Nat := d.ids.filter fun (i : Nat) => (match d.span i with
  | some s => p s
  | none => false)
theorem mem_picked {d : Desk} {p : Span → Bool} {i : Nat} : i ∈ picked d p ↔ ∃ s, d.span i = some s ∧ p s = true := by
  unfold picked
  rw [List.mem_filter, mem_ids]
  cases e : d.span i with
  | none => exact ⟨fun h => (by cases h.1), fun ⟨s, h, _⟩ => by cases h⟩
  | some s => exact ⟨fun h => ⟨s, rfl, h.2⟩, fun ⟨t, ht, q⟩ => by cases ht; exact ⟨rfl, q⟩⟩
theorem picked_up (d : Desk) (p : Span → Bool) : (picked d p).Pairwise (· < ·) := List.Pairwise.filter _ (ids_up d)
theorem those_le3 (d : Desk) (p : Span → Bool) : d.those p = (picked d p).mergeSort (le3 d) := by
  have h := List.map_mergeSort (r := d.before) (s := le3 d) (f := id) (l := picked d p) (fun a ha b hb => by
    obtain ⟨s, hs, _⟩ := mem_picked.mp ha
    obtain ⟨t, ht, _⟩ := mem_picked.mp hb
    exact before_le3 (by rw [hs]; rfl) (by rw [ht]; rfl))
  rw [List.map_id, List.map_id] at h
  exact h
/-- the spans that are asked for, known by what they are and by their order -/
theorem those_is {d : Desk} {p : Span → Bool} {l : List Nat} (hn : l.Nodup) (hl : l.Pairwise fun i j => le3 d i j = true) (h : ∀ i, i ∈ l ↔ ∃ s, d.span i = some s ∧ p s = true) : d.those p = l := by
  rw [those_le3]
  refine List.Perm.eq_of_pairwise (fun a b _ _ x y => le3_anti x y) (List.pairwise_mergeSort (le3_trans d) (le3_total d) _) hl ?_
  refine (List.mergeSort_perm _ _).trans ?_
  refine (List.perm_ext_iff_of_nodup ((picked_up d p).imp fun q => Nat.ne_of_lt q) hn).mpr fun i => ?_
  rw [mem_picked, h]

/-! ### pages -/
theorem pageOf_cons {l : List Nat} {x : Nat} (h : l.Pairwise (· ≤ ·)) (k : ∃ r, l = 0 :: r) : pageOf l x < l.length ∧ (∀ i s, l[i]? = some s → (s ≤ x ↔ i ≤ pageOf l x)) := by
  have key : ∀ (l : List Nat), l.Pairwise (· ≤ ·) → ∀ i s, l[i]? = some s → (s ≤ x ↔ i < (l.filter fun (s : Nat) => decide (s ≤ x)).length) := by
    intro l
    induction l with
    | nil => intro _ i s h; simp at h
    | cons a l ih =>
      intro h i s hs
      rw [List.pairwise_cons] at h
      by_cases q : a ≤ x
      · rw [List.filter_cons, if_pos (decide_eq_true q), List.length_cons]
        cases i with
        | zero =>
          have e : a = s := Option.some.inj hs
          subst e
          exact ⟨fun _ => Nat.succ_pos _, fun _ => q⟩
        | succ i =>
          rw [ih h.2 i s hs]
          omega
      · have e : (l.filter fun (s : Nat) => decide (s ≤ x)) = [] := by
          rw [List.filter_eq_nil_iff]
          intro b hb z
          have := h.1 b hb
          have := of_decide_eq_true z
          omega
        rw [List.filter_cons, if_neg (by rw [decide_eq_true_eq]; exact q), e]
        constructor
        · intro z
          cases i with
          | zero =>
            have e : a = s := Option.some.inj hs
            omega
          | succ i =>
            have := h.1 s (List.mem_of_getElem? hs)
            omega
        · intro z
          exact absurd z (Nat.not_lt_zero _)
  obtain ⟨r, rfl⟩ := k
  have h0 := (key _ h 0 0 rfl).mp (Nat.zero_le x)
  have hle := List.length_filter_le (fun (s : Nat) => decide (s ≤ x)) (0 :: r)
  unfold pageOf
  refine ⟨by omega, fun i s hs => ?_⟩
  rw [key _ h i s hs]
  omega
/-- a page is known by its own start and the next one's -/
theorem pageOf_is {l : List Nat} {x n s : Nat} (h : l.Pairwise (· ≤ ·)) (k : ∃ r, l = 0 :: r) (h1 : l[n]? = some s) (h2 : s ≤ x) (h3 : ∀ t, l[n + 1]? = some t → x < t) : pageOf l x = n := by
  obtain ⟨a, b⟩ := pageOf_cons (x := x) h k
  have c := (b n s h1).mp h2
  by_cases e : pageOf l x = n
  · exact e
  · have lt : n + 1 < l.length := by omega
    have q := (b (n + 1) _ (List.getElem?_eq_getElem lt)).mpr (by omega)
    have := h3 _ (List.getElem?_eq_getElem lt)
    omega

/-! ### how long an answer may be -/
theorem ids_len (d : Desk) : d.ids.length ≤ d.spans.length := by
  unfold Desk.ids
  refine Nat.le_trans (List.length_filter_le _ _) ?_
  rw [List.length_range]
  exact Nat.le_refl _
theorem those_len (d : Desk) (p : Span → Bool) : (d.those p).length ≤ d.spans.length := by
  unfold Desk.those
  rw [List.length_mergeSort]
  exact Nat.le_trans (List.length_filter_le _ _) (ids_len d)
theorem lost_len (d : Desk) (a c p : Nat) : (d.edited a c p).2.length ≤ d.spans.length := Nat.le_trans (List.length_filter_le _ _) (ids_len d)
theorem numbers_len {n : Nat} : ∀ {y : IhSpans.Answer}, (∀ l, y = .row l → l.length ≤ n) → (SpNeutral.numbers y).length ≤ n + 6
  | .number _, _ => by show 2 ≤ n + 6; omega
  | .row l, h => by
    show (SpNeutral.ints l).length + 1 ≤ n + 6
    have := h l rfl
    unfold SpNeutral.ints
    rw [List.length_map]
    omega
  | .span _, _ => by show 6 ≤ n + 6; omega
  | .refused _, _ => by show 1 ≤ n + 6; omega
theorem nums_len (d : Desk) (x : IhSpans.Call) : (nums d x).length ≤ d.spans.length + 6 := by
  unfold nums
  refine numbers_len fun l h => ?_
  cases x with
  | begin_ n =>
    have h : (if LONGEST < n then (d, IhSpans.Answer.refused 1) else (⟨n, [0], []⟩, .number 0)).2 = .row l := h
    split at h <;> cases h
  | length => cases h
  | pages m =>
    have h : (if startsRight m d.length = true then ({ d with starts := m }, IhSpans.Answer.number 0) else (d, .refused 1)).2 = .row l := h
    split at h <;> cases h
  | start p =>
    have h : (match d.starts[p]? with
      | some s => IhSpans.Answer.number s
      | none => .refused 1) = .row l := h
    split at h <;> cases h
  | put s =>
    have h : (if s.right d.length = false then (d, IhSpans.Answer.refused 1) else if SPANS ≤ d.free then (d, .refused 2) else (d.put d.free (some s), .number d.free)).2 = .row l := h
    split at h
    · cases h
    · split at h <;> cases h
  | drop i =>
    have h : (match d.span i with
      | some _ => (d.put i none, IhSpans.Answer.number 0)
      | none => (d, .refused 3)).2 = .row l := h
    split at h <;> cases h
  | get i =>
    have h : (match d.span i with
      | some s => IhSpans.Answer.span s
      | none => .refused 3) = .row l := h
    split at h <;> cases h
  | edit a c p =>
    have h : (if d.length < a + c then (d, IhSpans.Answer.refused 1) else if LONGEST < d.length - c + p then (d, .refused 2) else ((d.edited a c p).1, .row (d.edited a c p).2)).2 = .row l := h
    split at h
    · cases h
    · split at h
      · cases h
      · cases h
        exact lost_len d a c p
  | place i =>
    have h : (match d.span i with
      | some s => IhSpans.Answer.span { s with from_ := (d.pagesOf s).1, to_ := (d.pagesOf s).2 }
      | none => .refused 3) = .row l := h
    split at h <;> cases h
  | holds a =>
    have h : (if d.length ≤ a then IhSpans.Answer.refused 1 else .row (d.those fun (s : Span) => decide (s.from_ ≤ a) && decide (a < s.to_))) = .row l := h
    split at h
    · cases h
    · cases h
      exact those_len d _
  | on p =>
    have h : (if d.starts.length ≤ p then IhSpans.Answer.refused 1 else .row (d.those fun (s : Span) => decide ((d.pagesOf s).1 ≤ p) && decide (p ≤ (d.pagesOf s).2))) = .row l := h
    split at h
    · cases h
    · cases h
      exact those_len d _
theorem flat_app : ∀ xs ys : List IhSpans.Call, flat (xs ++ ys) = flat xs ++ flat ys
  | [], _ => rfl
  | x :: xs, ys => by
    show flat1 x ++ flat (xs ++ ys) = (flat1 x ++ flat xs) ++ flat ys
    rw [flat_app xs ys, List.append_assoc]
end Sp

set_option autoImplicit false
set_option Elab.async false
set_option linter.all false
set_option maxRecDepth 100000
set_option maxHeartbeats 2000000
namespace Bk
open PySem PySem.Spec PyProof.Rows L2
/-! ### what may be called: a def of the top, a method, a class -/
def Cal (P : Program) (w : World) (K : PySem.W.Frag) (mg : Str → Option Value) (base : Heap) (k : Nat) (x : Str) (ps : List Str) (sp : Sp) : Prop :=
  ∃ (f : Addr) (fd : FuncData), mg x = some (.ref f) ∧ PySem.W.keepIn K (.ref f) = true ∧ Binds K fd ps [] ∧ FnOk P w K mg base CX0 k f fd ps sp
def CalM (P : Program) (w : World) (K : PySem.W.Frag) (mg : Str → Option Value) (base : Heap) (C : Addr) (k : Nat) (m : Str) (ps : List Str) (sp : Sp) : Prop :=
  ∃ (f : Addr) (fd : FuncData), Meth K C m f ∧ Binds K fd ps [] ∧ FnOk P w K mg base CX0 k f fd ps sp
def CalC (P : Program) (w : World) (K : PySem.W.Frag) (mg : Str → Option Value) (base : Heap) (C : Addr) (k : Nat) (x : Str) (ps : List Str) (sp : Sp) : Prop :=
  ∃ (f : Addr) (fd : FuncData), mg x = some (.ref C) ∧ Mk K C f ∧ Binds K fd ps [] ∧ FnOk P w K mg base CX0 k f fd ps sp
section
variable {X : Cx} {k : Nat} {C : Addr} {ps : List Str} {sp : Sp} {x m : Str} {p pos apos : Pos} {e o : Expr} {es : List Expr} {ta : TE} {t : TA}
theorem pe_cal (F : Cal X.prog X.w X.K X.mg X.base k x ps sp) (hr : Room k X.A) (ha : PA X (e :: es) t) (hg : Gl X x := by rfl) (hdb : (x == ("__debug__" : Str)) = false := by decide)
    (he : starEach (e :: es) X.env = (false, eval e X.env) :: starEach es X.env := by rfl) (hpl : (backTo pos (starEach es X.env)).any (·.1) = false := by rfl) : PE X (.Call (.Name x p) (e :: es) [] pos) (tCall sp [] E0 t) := by
  obtain ⟨f, fd, h1, h2, h3, h4⟩ := F
  exact pe_call h4 hr hg h1 h2 h3 .nil pass0 ha hdb he hpl
theorem pe_cal0 (F : Cal X.prog X.w X.K X.mg X.base k x ps sp) (hr : Room k X.A) (hg : Gl X x := by rfl) (hdb : (x == ("__debug__" : Str)) = false := by decide) : PE X (.Call (.Name x p) [] [] pos) (tCall sp [] E0 tNil) := by
  obtain ⟨f, fd, h1, h2, h3, h4⟩ := F
  exact pe_call0 h4 hr hg h1 h2 h3 .nil pass0 hdb
theorem pe_calM {pl : Sem Bool} (F : CalM X.prog X.w X.K X.mg X.base C k m ps sp) (c : Cls X.K C) (hr : Room k X.A) (he : PE X o ta) (ha : PA X (e :: es) t)
    (hst : starEach (e :: es) X.env = (false, eval e X.env) :: starEach es X.env := by rfl) (hpl : (backTo pos (starEach es X.env)).any (·.1) = false := by rfl)
    (ht : eval (.Call (.Attribute o m apos) (e :: es) [] pos) X.env = (do
      let ov ← eval o X.env
      standAt apos.atName
      let (f, first) ← holding [ov] (getMethod ov m pl)
      callWith pos f first (backTo pos (starEach (e :: es) X.env)) (backToKw pos (keywordEach [] X.env))) := by rfl) :
    PE X (.Call (.Attribute o m apos) (e :: es) [] pos) (tMeth C m sp [] E0 ta t) := by
  obtain ⟨f, fd, h1, h2, h3⟩ := F
  exact pe_meth (pl := pl) he c h1 h3 hr h2 .nil pass0 ha hst hpl ht
theorem pe_calM0 {pl : Sem Bool} (F : CalM X.prog X.w X.K X.mg X.base C k m ps sp) (c : Cls X.K C) (hr : Room k X.A) (he : PE X o ta)
    (ht : eval (.Call (.Attribute o m apos) [] [] pos) X.env = (do
      let ov ← eval o X.env
      standAt apos.atName
      let (f, first) ← holding [ov] (getMethod ov m pl)
      callWith pos f first (backTo pos (starEach [] X.env)) (backToKw pos (keywordEach [] X.env))) := by rfl) :
    PE X (.Call (.Attribute o m apos) [] [] pos) (tMeth C m sp [] E0 ta tNil) := by
  obtain ⟨f, fd, h1, h2, h3⟩ := F
  exact pe_meth0 (pl := pl) he c h1 h3 hr h2 .nil pass0 ht
theorem pe_calC (F : CalC X.prog X.w X.K X.mg X.base C k x ps sp) (hr : Room (k + 1) X.A) (ha : PA X (e :: es) t) (hg : Gl X x := by rfl) (hdb : (x == ("__debug__" : Str)) = false := by decide)
    (he : starEach (e :: es) X.env = (false, eval e X.env) :: starEach es X.env := by rfl) (hpl : (backTo pos (starEach es X.env)).any (·.1) = false := by rfl) : PE X (.Call (.Name x p) (e :: es) [] pos) (tMake C sp [] E0 t) := by
  obtain ⟨f, fd, h1, h2, h3, h4⟩ := F
  exact pe_make h2 h4 hr hg h1 h3 .nil pass0 ha hdb he hpl
theorem pe_calC0 (F : CalC X.prog X.w X.K X.mg X.base C k x ps sp) (hr : Room (k + 1) X.A) (hg : Gl X x := by rfl) (hdb : (x == ("__debug__" : Str)) = false := by decide) : PE X (.Call (.Name x p) [] [] pos) (tMake C sp [] E0 tNil) := by
  obtain ⟨f, fd, h1, h2, h3, h4⟩ := F
  exact pe_make0 h2 h4 hr hg h1 h3 .nil pass0 hdb
/-- a number of the top -/
theorem pe_num {i : Int} (h : ∃ t, X.mg x = some (.int i t)) (hg : Gl X x := by rfl) (hd : (x == ("__debug__" : Str)) = false := by decide) : PE X (.Name x pos) (tC (.int i)) := by
  obtain ⟨t, h⟩ := h
  exact pe_glob hg h ⟨t, rfl⟩ hd
end
/-! ### heaps: what a call may change -/
/-- behind a call that may change what is in F: F' is what F was, or new; what was not in F stays -/
structure Step (H : Hp) (F : Addr → Prop) (H' : Hp) (F' : Addr → Prop) : Prop where
  old : ∀ b, F' b → F b ∨ H b = none
  keep : ∀ b o, H b = some o → ¬ F b → H' b = some o
theorem Step.refl (H : Hp) (F : Addr → Prop) : Step H F H F := ⟨fun _ h => .inl h, fun _ _ h _ => h⟩
theorem Step.trans {H H1 H2 : Hp} {F F1 F2 : Addr → Prop} (a : Step H F H1 F1) (b : Step H1 F1 H2 F2) : Step H F H2 F2 := by
  refine ⟨fun c h => ?_, fun c o h n => ?_⟩
  · rcases b.old c h with q | q
    · exact a.old c q
    · cases e : H c with
      | none => exact .inr rfl
      | some o =>
        by_cases z : F c
        · exact .inl z
        · rw [a.keep c o e z] at q
          cases q
  · refine b.keep c o (a.keep c o h n) fun q => ?_
    rcases a.old c q with z | z
    · exact n z
    · rw [h] at z
      cases z
theorem Same.step {H H' : Hp} {F : Addr → Prop} (h : Same H H') : Step H F H' F := ⟨fun _ h => .inl h, fun b o e _ => h b o e⟩
theorem same_new {H : Hp} {p : Addr} {o : HO} (h : H p = none) : Same H (upd H p o) := fun b u e => by
  rw [upd_ne (ne_of_none e h)]
  exact e
theorem Step.new {H : Hp} {F : Addr → Prop} {p : Addr} {o : HO} (h : H p = none) : Step H F (upd H p o) F := Same.step (same_new h)
theorem Step.wr {H : Hp} {F : Addr → Prop} {p : Addr} {o : HO} (h : F p) : Step H F (upd H p o) F := ⟨fun _ h => .inl h, fun b u e n => by
  rw [upd_ne fun q => n (by rw [q]; exact h)]
  exact e⟩
end Bk

set_option autoImplicit false
set_option Elab.async false
set_option linter.all false
set_option maxRecDepth 100000
set_option maxHeartbeats 2000000
namespace Bk
open PySem PySem.Spec PyProof.Rows L2
/-! ### what a sort by keys leaves, told of the pairs alone -/
/-- a tuple's key: its ints -/
def shI : Nat → Bool := fun _ => false
abbrev kyI (is : List Int) : List (Int ⊕ List Nat) := is.map Sum.inl
/-- the order of such keys: y is not below x -/
def notBelow (x y : List Int) : Prop := lexLt itemOrd (kyI y) (kyI x) = false
theorem items_ints : ∀ {is : List Int} {us : List Value} (i : Nat), Vals (is.map V.int) us → tupItems shI i us = some (kyI is)
  | [], _, _, .nil => rfl
  | n :: is, _, i, .cons (b := u) r t => by
    obtain ⟨tk, rfl⟩ := (show ∃ tk, u = Value.int n tk from r)
    show (if shI i = true then none else (tupItems shI (i + 1) _).map (Sum.inl n :: ·)) = _
    rw [items_ints (i + 1) t]
    rfl
theorem vals_nums : ∀ {l : List Keyed}, (∀ p ∈ l, ∃ n t, p.2 = Value.int n t) → Vals ((l.map fun p => numOf p.2).map V.int) (l.map (·.2))
  | [], _ => .nil
  | p :: l, h => by
    obtain ⟨n, t, e⟩ := h p (List.Mem.head _)
    refine .cons ?_ (vals_nums fun q hq => h q (List.Mem.tail _ hq))
    show RelV (V.int (numOf p.2)) p.2
    rw [e]
    exact ⟨t, rfl⟩
/-- every pair is a number and its key -/
def PairOk (κ : KeyKind) (f : List Int → κ.α) (key : Int → List Int) (p : Keyed) : Prop := ∃ n t, p.2 = Value.int n t ∧ κ.keyOf p.1 = some (f (key n))
theorem pairs_out {κ : KeyKind} {f : List Int → κ.α} {key : Int → List Int} {xs ys : Array Keyed} {ns : List Int} (hy : ∀ p ∈ ys.toList, PairOk κ f key p) (hn : ys.toList.map (fun p => numOf p.2) = ns) (hp : xs.Perm ys) (hs : SortedToK κ xs ys.size) :
    ∃ ns' : List Int, Vals (ns'.map V.int) (xs.map (·.2)).toList ∧ ns'.Perm ns ∧ ns'.Pairwise fun i j => κ.kle (f (key i)) (f (key j)) := by
  have hl : xs.toList.Perm ys.toList := Array.perm_iff_toList_perm.mp hp
  have hx : ∀ p ∈ xs.toList, PairOk κ f key p := fun p q => hy p (hl.mem_iff.mp q)
  refine ⟨xs.toList.map fun p => numOf p.2, ?_, by rw [← hn]; exact hl.map _, ?_⟩
  · rw [Array.toList_map]
    exact vals_nums fun p q => let ⟨n, t, e, _⟩ := hx p q; ⟨n, t, e⟩
  · have kk : ∀ i (h : i < xs.size), KK κ xs i = f (key (numOf xs[i].2)) := fun i h => by
      obtain ⟨n, t, e, k⟩ := hx xs[i] (by simp)
      unfold KK
      rw [Array.getElem?_eq_getElem h]
      show (κ.keyOf xs[i].1).getD κ.dflt = _
      rw [k, e]
      rfl
    rw [List.pairwise_iff_getElem]
    intro i j hi hj hij
    have hi' : i < xs.size := by simpa using hi
    have hj' : j < xs.size := by simpa using hj
    have q := hs i j (Nat.le_of_lt hij) (by rw [← hp.size_eq]; exact hj')
    rw [kk i hi', kk j hj'] at q
    simpa using q
/-! ### sorted(d) of a dict whose keys are ints -/
section
variable {X : Cx}
def rSortedD : List V → Hp → VK → Prop := fun vs H Q => ∃ (d : Addr) (kvs : List (Key × V)) (ns : List Int), vs = [V.ref d] ∧ H d = some (.dK kvs) ∧ kvs.map (·.1) = ns.map Sum.inl ∧
  ∀ (ns' : List Int) (p : Addr), ns'.Perm ns → ns'.Pairwise (· ≤ ·) → H p = none → Q (.ref p) (upd H p (.lst (ns'.map V.int)))
theorem ints_keys {P : Program} {w : World} {us : List Value} {ks : List Key} {ns : List Int} (e : ks = ns.map Sum.inl) (hl : us.length = ks.length) (h : ∀ (j : Nat) (u : Value), us[j]? = some u → ∃ k, ks[j]? = some k ∧ (mixKind P w).is k u = true) : IntsAre us ns := by
  subst e
  induction ns generalizing us with
  | nil =>
    cases us with
    | nil => exact .nil
    | cons u us => simp at hl
  | cons n ns ih =>
    cases us with
    | nil => simp at hl
    | cons u us =>
      obtain ⟨k, e1, e2⟩ := h 0 u rfl
      have e1 : Sum.inl n = k := Option.some.inj e1
      subst e1
      rcases keyIs_shape (show keyIs (Sum.inl n) u = true from e2) with ⟨i, t, e3, rfl⟩ | ⟨x, t, e3, _⟩
      · cases e3
        exact .cons _ t (ih (by simpa using hl) fun j v hv => h (j + 1) v hv)
      · cases e3
theorem cr_sortedD (hc : X.calm = true) : CallR X (.builtin "sorted") rSortedD := by
  intro pins s σ H vs us Q I r h
  obtain ⟨d, kvs, ns, rfl, hd, hk, q⟩ := h
  rw [Vals.ref1 r]
  obtain ⟨hz, lo, ws, kv, dd⟩ := dk_of I.hok hd
  obtain ⟨ep, hat⟩ := dd.dictAt
  have hlw : kvs.length = ws.length := Paired.length kv
  refine Calls.call_function_entry kind_sorted plain_sorted entry_sorted (args_sorted1 _) ?_
  unfold Builtin.«sorted»
  refine wpAny_bind (m := checkCount "sorted" 1 1 _) (wpAny_pure (wpAny_bind (PySem.W.kdu_collect (A := X.A.in1) (PySem.W.kdl_dict (knd := mixKind X.prog X.w) (kvs := ws) (ep := ep) lo) (I.ok.hd hc) hat (by rw [← hlw]; exact hz) fun h' tk acc keep hacc => ?_)))
  have hl : acc.toList.length = ws.length := by rw [Array.length_toList]; exact hacc.1
  have hL : acc.toList.length ≤ sizeLine := by rw [hl, ← hlw]; exact hz
  have hi : IntsAre acc.toList ns := by
    refine ints_keys (P := X.prog) (w := X.w) (ks := kvs.map (·.1)) hk (by rw [hl, List.length_map, hlw]) fun j u hu => ?_
    obtain ⟨k, x, e1, e2⟩ := hacc.2 j u (by rw [← Array.getElem?_toList]; exact hu)
    refine ⟨k, ?_, e2⟩
    rw [kv.keys, List.getElem?_map, e1]
    rfl
  refine wpAny_bind (wpAny_newList ?_ hL)
  have hoL : (h'.push (seqObj "list" acc.toList.toArray 0)).get? h'.objs.size = some (seqObj "list" acc.toList.toArray 0) := Heap.get?_push_size _ rfl
  refine wpAny_bind (wpAny_holding (wpAny_call_entry slot_list_sort ⟨_, hoL, rfl⟩ entry_list_sort (list_sort_treeAny hoL hi hL fun out ns' h1 h2 h3 => ⟨_, rfl, wpAny_pure ⟨_, rfl, ?_⟩⟩) (args_list_sort _)))
  obtain ⟨e2, he'⟩ := sortedHeap_at (vs := acc.toList) (out := out) hoL
  have I1 : Inv X pins σ H { s with heap := h', toks := tk } := I.kept keep
  have kp : ∀ b o, h'.get? b = some o → (sortedHeap (h'.push (seqObj "list" acc.toList.toArray 0)) h'.objs.size acc.toList out).get? b = some o := fun b o e => by
    have lt := Heap.lt_size e
    rw [sortedHeap_old (Nat.ne_of_lt lt) (by rw [Heap.size_push]; exact Nat.lt_succ_of_lt lt)]
    exact Heap.get?_push_of_some _ e
  have hlen : (ns'.map V.int).length ≤ sizeLine := by rw [List.length_map, h2.length_eq, ← hi.length]; exact hL
  exact ⟨.ref _, upd H h'.objs.size (.lst (ns'.map V.int)), I1.laid (t' := tk) kp (Nat.le_refl _) ⟨hlen, out.toList, e2, vals_of_ints h1, he'⟩, rfl, q ns' _ h2 h3 (I1.hok.fresh (Nat.le_refl _))⟩
end
end Bk

set_option autoImplicit false
set_option Elab.async false
set_option linter.all false
set_option maxRecDepth 100000
set_option maxHeartbeats 2000000
namespace Bk
open PySem PySem.Spec PyProof.Rows L2
section
variable {X : Cx} {pins : List (Addr × Obj)} {σ : L2.St} {H : Hp} {s : Shared} {A : Around} {E : Value → Shared → Prop}
/-- a list is written anew -/
theorem lst_write {a : Addr} {xs ys : List V} {vs : Array Value} {n t' : Nat} {g : Array Value → Array Value} (I : Inv X pins σ H s) (e : H a = some (.lst xs)) (ho : s.heap.get? a = some (seqObj "list" vs n)) (r : Vals ys (g vs).toList) (hl : ys.length ≤ sizeLine) :
    Inv X pins σ (upd H a (.lst ys)) { s with heap := s.heap.update a (Obj.mapSeq g), toks := t' } := by
  have he := get?_update_seq ho g
  refine I.write (e := a) (by rw [e]; exact True.intro) (.inl rfl) (fun b u hb hu => by rw [Heap.get?_update_ne _ _ _ _ hb]; exact hu) ⟨_, he⟩ ?_
  exact ⟨hl, (g vs).toList, _, r, by rw [Array.toArray_toList]; exact he⟩
theorem lst_obj {a : Addr} {xs : List V} (I : Inv X pins σ H s) (e : H a = some (.lst xs)) : ∃ (us : List Value) (n : Nat), Vals xs us ∧ s.heap.get? a = some (seqObj "list" us.toArray n) ∧ xs.length ≤ sizeLine := by
  obtain ⟨z, us, n, r, h⟩ := I.hok a _ e
  exact ⟨us, n, r, h, z⟩
theorem refs_of : ∀ {ts : List Addr} {us : List Value}, Vals (ts.map V.ref) us → us = ts.map Value.ref
  | [], _, .nil => rfl
  | t :: ts, _, .cons (b := u) r q => by
    have e : u = Value.ref t := r
    rw [e, refs_of q]
    rfl
theorem vals_refs : ∀ (ts : List Addr), Vals (ts.map V.ref) (ts.map Value.ref)
  | [] => .nil
  | t :: ts => .cons rfl (vals_refs ts)
/-- the keys that were made: each number's tuple -/
abbrev Keys (key : Int → List Int) (H : Hp) : List Int → List Addr → Prop := Paired fun n t => H t = some (.tup ((key n).map V.int))
theorem keys_snoc {key : Int → List Int} {H : Hp} {n : Int} {t : Addr} : ∀ {ns : List Int} {ts : List Addr}, Keys key H ns ts → H t = some (.tup ((key n).map V.int)) → Keys key H (ns ++ [n]) (ts ++ [t])
  | _, _, .nil, h => .cons h .nil
  | _, _, .cons r q, h => .cons r (keys_snoc q h)
theorem keys_keep {key : Int → List Int} {H H' : Hp} {ns : List Int} {ts : List Addr} (h : Keys key H ns ts) (k : ∀ b xs, H b = some (.tup xs) → H' b = some (.tup xs)) : Keys key H' ns ts := Paired.mapP h fun _ _ z => k _ _ z
/-- a key's tuple, as the sort takes it -/
theorem key_at {key : List Int} {t : Addr} (I : Inv X pins σ H s) (e : H t = some (.tup (key.map V.int))) : G.tupKeyC s.heap shI (.ref t) = some (kyI key) := by
  obtain ⟨z, us, r, o, ho, hc, n, hd⟩ := I.hok t _ e
  unfold G.tupKeyC
  have e1 : G.isTupObj s.heap (.ref t) = true := by simp [G.isTupObj, ho, hc]
  rw [if_pos e1]
  simp only [tupKey, ho, hd]
  exact items_ints 0 r
theorem key_first {key : List Int} {t : Addr} (I : Inv X pins σ H s) (e : H t = some (.tup (key.map V.int))) (hne : key ≠ []) : ∃ f, TupOf s.heap shI (.ref t) f := by
  obtain ⟨z, us, r, o, ho, hc, n, hd⟩ := I.hok t _ e
  cases key with
  | nil => exact absurd rfl hne
  | cons i is =>
    cases r with
    | @cons _ u _ us r q =>
      obtain ⟨tk, rfl⟩ := (show ∃ tk, u = Value.int i tk from r)
      exact ⟨_, t, o, _, n, rfl, ho, hc, hd, rfl, fun _ => ⟨i, tk, rfl⟩, fun z => by cases z⟩
theorem keys_first {key : Int → List Int} (I : Inv X pins σ H s) (hne : ∀ n, key n ≠ []) : ∀ {ns : List Int} {ts : List Addr}, Keys key H ns ts → ∃ fs, TupsOf s.heap shI (ts.map Value.ref) fs ∧ fs.length = ts.length
  | _, _, .nil => ⟨[], .nil, rfl⟩
  | _, _, .cons r q => by
    obtain ⟨f, hf⟩ := key_first I r (hne _)
    obtain ⟨fs, h1, h2⟩ := keys_first I hne q
    exact ⟨f :: fs, .cons hf h1, by rw [List.length_cons, List.length_cons, h2]⟩
theorem keys_pairs {key : Int → List Int} (I : Inv X pins σ H s) {ns : List Int} {ts : List Addr} (h : Keys key H ns ts) : ∀ {us : List Value}, IntsAre us ns → ∀ p ∈ (ts.map Value.ref).zip us, PairOk (G.tupKindC s.heap shI) kyI key p := by
  induction h with
  | nil => intro us _ p hp; simp at hp
  | cons r q ih =>
    intro us i p hp
    cases i with
    | cons n t i =>
      rcases List.mem_cons.mp hp with rfl | hp
      · exact ⟨_, t, rfl, key_at I r⟩
      · exact ih i p hp
theorem zip_nums : ∀ {ts us : List Value} {ns : List Int}, ts.length = us.length → IntsAre us ns → (ts.zip us).map (fun p : Keyed => numOf p.2) = ns := by
  intro ts us
  induction ts generalizing us with
  | nil =>
    intro ns h i
    cases i with
    | nil => rfl
    | cons n t i => simp at h
  | cons v ts ih =>
    intro ns h i
    cases i with
    | nil => simp at h
    | cons n t i =>
      have q := ih (by simpa using h) i
      exact congrArg (n :: ·) q
/-- list.sort(key = fv): the list at z of ints; fv gives each a new tuple of ints -/
theorem sort_by {fv : Value} {z : Addr} {ns : List Int} {key : Int → List Int} {Q : PySem.Fin → Shared → Prop} (I : Inv X pins σ H s) (hz : H z = some (.lst (ns.map V.int))) (hne : ∀ n, key n ≠ [])
    (turn : ∀ (n : Int) (t : Tok), n ∈ ns → ∀ (H' : Hp) (s' : Shared), Inv X pins σ H' s' → (∀ b o, b ≠ z → H b = some o → H' b = some o) →
      wpAny (model X.prog X.w) A (call fv [.int n t]) (fun v s2 => ∃ (H2 : Hp) (t : Addr), v = .ref t ∧ Inv X pins σ H2 s2 ∧ Same H' H2 ∧ H2 t = some (.tup ((key n).map V.int))) (fun _ _ => False) s')
    (done : ∀ (ns' : List Int) (H' : Hp) (s' : Shared), Inv X pins σ H' s' → ns'.Perm ns → ns'.Pairwise (fun i j => notBelow (key i) (key j)) → (∀ b o, b ≠ z → H b = some o → H' b = some o) → H' z = some (.lst (ns'.map V.int)) → Q (.done (.ret .none)) s') :
    wpAny (model X.prog X.w) A (ksk_tree z fv false) Q E s := by
  obtain ⟨us, n0, rv, ho, hlen⟩ := lst_obj I hz
  have hi := rv.ints
  have hul : us.length ≤ sizeLine := by rw [← rv.length]; exact hlen
  have hnl : ns.length = us.length := hi.length.symm
  obtain ⟨e1, ho1⟩ : ∃ e1, (s.heap.update z (Obj.mapSeq fun _ => #[])).get? z = some (seqObj "list" #[] e1) := ⟨_, get?_update_seq ho fun _ => #[]⟩
  have I1 : Inv X pins σ (upd H z (.lst [])) { s with heap := s.heap.update z (Obj.mapSeq fun _ => #[]) } := lst_write (t' := s.toks) (g := fun _ => #[]) I hz ho .nil (Nat.zero_le _)
  have nf := I1.nofrz upd_same True.intro
  obtain ⟨od, I2⟩ := I1.lock upd_same True.intro
  rw [upd_upd] at I2
  have eod : od = seqObj "list" #[] e1 := by
    obtain ⟨q, _⟩ := I2.hok z _ upd_same
    exact Option.some.inj (q.symm.trans ho1)
  subst eod
  unfold ksk_tree
  refine wpAny_bind (listItems_at ho rfl (wpAny_bind (listUpdate_at ho rfl (wpAny_bind (seqEpoch_at ho1 rfl (wpAny_bind (wpAny_newTuple (wpAny_bind (wpAny_newList (wpAny_holding ?_) (Nat.zero_le _))) ?_)))) ?_ (Nat.zero_le _))))
  rotate_left
  · show us.toArray.toList.length ≤ _; simpa using hul
  · show us.toArray.size ≤ _; simpa using hul
  have I3 := I2.kept (t' := s.toks) (h' := (s.heap.update z (Obj.mapSeq fun _ => #[])).push (seqObj "tuple" us.toArray.toList.toArray 0)) fun b u e => Heap.get?_push_of_some _ e
  generalize hh3 : (s.heap.update z (Obj.mapSeq fun _ => #[])).push (seqObj "tuple" us.toArray.toList.toArray 0) = h3 at I3
  have I4 := I3.laid (a := h3.objs.size) (o := .lst []) (t' := s.toks) (h' := h3.push (seqObj "list" #[] 0)) (fun b u e => Heap.get?_push_of_some _ e) (Nat.le_refl _) ⟨Nat.zero_le _, [], 0, .nil, Heap.get?_push_size _ rfl⟩
  have nS : upd H z (.frz (seqObj "list" #[] e1) (.lst [])) h3.objs.size = none := I3.hok.fresh (Nat.le_refl _)
  generalize h3.objs.size = kS at I4 nS
  have nzS : z ≠ kS := fun q => by rw [← q, upd_same] at nS; cases nS
  have nHS : H kS = none := by rw [upd_ne (Ne.symm nzS)] at nS; exact nS
  -- the keys, one by one
  unfold ksk_rest
  refine wpAny_bind (wpAny_rule ?_)
  rw [List.forIn_toArray]
  refine wpAny_bind (ksk_fold (fun i s' => ∃ (H' : Hp) (ts : List Addr), Inv X pins σ H' s' ∧ (∀ b o, b ≠ z → H b = some o → H' b = some o) ∧ H' z = some (.frz (seqObj "list" #[] e1) (.lst [])) ∧ H' kS = some (.lst (ts.map V.ref)) ∧ Keys key H' (ns.take i) ts) us 0 _ ?_ ?_ ?_)
  · refine ⟨_, [], I4, fun b o hb e => ?_, ?_, upd_same, .nil⟩
    · rw [upd_ne (ne_of_none e nHS), upd_ne hb]
      exact e
    · rw [upd_ne nzS, upd_same]
  · rintro j x s' hx ⟨H', ts, I', g1, g2, g3, pr⟩
    rw [Nat.zero_add] at pr ⊢
    have hj : j < us.length := (List.getElem?_eq_some_iff.mp hx).1
    have hnj : ns[j]? = some ns[j] := List.getElem?_eq_getElem (by omega)
    obtain ⟨t, ht⟩ := hi.get j _ hnj
    rw [ht] at hx
    cases hx
    refine wpAny_bind (wpAny_attempt (wpAny_mono (turn ns[j] t (List.getElem_mem _) H' s' I' g1) (fun v s2 q => ?_) fun _ _ q => q.elim))
    obtain ⟨H2, a, rfl, I'', sm, ha⟩ := q
    obtain ⟨ks, n, r, hok, hkl⟩ := lst_obj I'' (sm _ _ g3)
    have ekl : ts.length = j := by
      have := Paired.length pr
      rw [List.length_take] at this
      omega
    have lj : ts.length + 1 ≤ sizeLine := by omega
    have lk : ks.length = ts.length := by rw [← r.length, List.length_map]
    refine wpAny_bind (listUpdate_at hok rfl (wpAny_pure ⟨rfl, upd H2 kS (.lst ((ts ++ [a]).map V.ref)), ts ++ [a], ?_, fun b o hb e => ?_, ?_, upd_same, ?_⟩) ?_ ?_)
    · refine lst_write (t' := s2.toks) (g := fun ys => ys.push (.ref a)) I'' (sm _ _ g3) hok ?_ (by rw [List.length_map, List.length_append]; exact lj)
      rw [Array.toList_push, List.map_append]
      exact r.append (.cons rfl .nil)
    · rw [upd_ne (ne_of_none e nHS)]
      exact sm _ _ (g1 b o hb e)
    · rw [upd_ne nzS]
      exact sm _ _ g2
    · rw [List.take_add_one, hnj]
      refine keys_keep (keys_snoc (keys_keep pr fun b xs e => sm _ _ e) ha) fun b xs e => ?_
      rw [upd_ne (ne_of e (sm _ _ g3) (by intro z; cases z))]
      exact e
    · show ks.toArray.size ≤ _
      rw [List.size_toArray]
      omega
    · show (ks.toArray.push _).size ≤ _
      rw [Array.size_push, List.size_toArray]
      omega
  · rintro s' ⟨H', ts, I', g1, g2, g3, pr⟩
    have pr : Keys key H' ns ts := by rw [Nat.zero_add, List.take_of_length_le (by omega)] at pr; exact pr
    obtain ⟨ks, n, r, hok, hkl⟩ := lst_obj I' g3
    have eks := refs_of r
    subst eks
    have ltn : ns.length = ts.length := Paired.length pr
    have hzo : s'.heap.get? z = some (seqObj "list" #[] e1) := (I'.hok z _ g2).1
    refine wpAny_bind (listItems_at hok rfl ?_)
    unfold ksk_end
    have fin : ∀ st : SortSt, (arrOf st).Perm ((List.toArray (ts.map Value.ref)).zip us.toArray) → failedOf st = none → SortedToK (G.tupKindC s'.heap shI) (arrOf st) ((List.toArray (ts.map Value.ref)).zip us.toArray).size →
        wpAny (model X.prog X.w) A (ksk_tail z false e1 (.ref kS) st) Q E s' := fun st hp hf hs => by
      have hzl : ((List.toArray (ts.map Value.ref)).zip us.toArray).toList = (ts.map Value.ref).zip us := ksk_zip _ _
      obtain ⟨ns', o1, o2, o3⟩ := pairs_out (f := kyI) (key := key) (ns := ns) (by rw [hzl]; exact keys_pairs I' pr hi) (by rw [hzl]; exact zip_nums (by rw [List.length_map]; omega) hi) hp hs
      have I6 := lst_write (t' := s'.toks) (g := fun _ => #[]) I' g3 hok .nil (Nat.zero_le _)
      have hz6 : (s'.heap.update kS (Obj.mapSeq fun _ => (#[] : Array Value))).get? z = some (seqObj "list" #[] e1) := by rw [Heap.get?_update_ne _ _ _ _ nzS]; exact hzo
      have I7 := I6.unlock (d := z) (by rw [upd_ne nzS]; exact g2) nf
      have hl' : ns'.length = us.length := by rw [o2.length_eq, hnl]
      have hsz : ((arrOf st).map (·.2)).size = us.length := by rw [← Array.length_toList, ← o1.length, List.length_map]; exact hl'
      have I8 := lst_write (t' := s'.toks) (g := fun _ => (arrOf st).map (·.2)) I7 upd_same hz6 o1 (by rw [List.length_map]; omega)
      rw [upd_upd] at I8
      unfold ksk_tail
      dsimp only
      refine wpAny_bind (listUpdate_at hok rfl (wpAny_bind (wpAny_letGo (wpAny_bind (seqEpoch_at hz6 rfl (wpAny_bind (listUpdate_at hz6 rfl ?_ (Nat.zero_le _) ?_)))))) ?_ (Nat.zero_le _))
      · rw [hf]
        simp only [bne_self_eq_false, Bool.false_eq_true, if_false]
        refine wpAny_pure (done ns' _ _ I8 o2 o3 (fun b o hb e => ?_) upd_same)
        rw [upd_ne hb, upd_ne (ne_of_none e nHS)]
        exact g1 b o hb e
      · simp only [Bool.false_eq_true, if_false]
        rw [hsz]
        omega
      · show (ts.map Value.ref).toArray.size ≤ _
        rw [List.size_toArray, List.length_map]
        omega
    simp only [Bool.false_eq_true, if_false]
    by_cases h2 : us.toArray.size < 2
    · rw [if_pos h2, if_pos h2]
      refine wpAny_bind (wpAny_pure ?_)
      rw [StateT.run_pure]
      refine wpAny_bind (wpAny_pure (fin _ (Array.Perm.refl _) rfl fun i j hij hj => ?_))
      have e : i = j := by
        rw [Array.size_zip, List.size_toArray, List.size_toArray, List.length_map] at hj
        rw [List.size_toArray] at h2
        omega
      subst e
      exact KeyOrd.kle_refl _
    · rw [if_neg h2, if_neg h2]
      rw [List.size_toArray] at h2
      obtain ⟨fs, t1, t2⟩ := keys_first I' hne pr
      refine wpAny_bind (tup_kind (s := s') (shape := shI) (by omega) t1 ?_)
      have zs : ((List.toArray (ts.map Value.ref)).zip us.toArray).size = us.length := by rw [Array.size_zip, List.size_toArray, List.size_toArray, List.length_map]; omega
      have hzl : ((List.toArray (ts.map Value.ref)).zip us.toArray).toList = (ts.map Value.ref).zip us := ksk_zip _ _
      refine wpAny_bind (wpAny_mono (G.wpS_sortRunsSt (κ := G.tupKindC s'.heap shI) (kd := tuples' true) (a₀ := (List.toArray (ts.map Value.ref)).zip us.toArray) (st := SortSt.mk' (tuples' true) ((List.toArray (ts.map Value.ref)).zip us.toArray) #[] 7 none)
        (Q := fun _ st' => (arrOf st').Perm ((List.toArray (ts.map Value.ref)).zip us.toArray) ∧ failedOf st' = none ∧ SortedToK (G.tupKindC s'.heap shI) (arrOf st') ((List.toArray (ts.map Value.ref)).zip us.toArray).size)
        (G.tupC_ltAt (s := s') true (G.KeepsTups.refl _)) (fun p hp => ?_) ⟨Array.Perm.refl _, rfl, rfl⟩ rfl (Stable.refl _) (by rw [zs]; omega) fun st' a1 a2 a3 _ => ⟨a1, a2, a3⟩) ?_ fun _ _ e => e)
      · rw [hzl] at hp
        obtain ⟨n, t, _, k⟩ := keys_pairs I' pr hi p hp
        exact ⟨_, k⟩
      · rintro ⟨⟨⟩, st'⟩ s2 ⟨rfl, hp, hf, hs⟩
        exact fin st' hp hf hs
end
end Bk

set_option autoImplicit false
set_option Elab.async false
set_option linter.all false
set_option maxRecDepth 100000
set_option maxHeartbeats 2000000
namespace Bk
open PySem PySem.Spec PyProof.Rows L2
/-- a method that may be handed on, bound -/
def CalB (P : Program) (w : World) (K : PySem.W.Frag) (mg : Str → Option Value) (base : Heap) (C : Addr) (k : Nat) (m : Str) (ps : List Str) (sp : Sp) : Prop :=
  ∃ (f : Addr) (fd : FuncData), Meth K C m f ∧ PySem.W.specialIn K (.ref f) "__get__" = some (some (.builtin "function.__get__")) ∧ PySem.W.takesIn K (.ref f) = some false ∧ Binds K fd ps [] ∧ FnOk P w K mg base CX0 k f fd ps sp
section
variable {X : Cx} {pins : List (Addr × Obj)} {σ : L2.St} {H : Hp} {s : Shared}
/-- o.m as a value -/
theorem getbound_ok {A : Around} {E : Value → Shared → Prop} {m : Str} {g a C dx : Addr} {fs : List (Str × V)} {b : Bool} {Q : Value → Shared → Prop} (I : Inv X pins σ H s) (e : H a = some (.ins C dx fs)) (c : Cls X.K C) (k : Meth X.K C m g)
    (h1 : PySem.W.specialIn X.K (.ref g) "__get__" = some (some (.builtin "function.__get__"))) (h2 : PySem.W.takesIn X.K (.ref g) = some false) (cp : PySem.W.copiedNames.contains m = false) (l : fs.lookup m = none)
    (h : ∀ q s', H q = none → Inv X pins σ (upd H q (.met g a)) s' → Q (.ref q) s') : wpAny (model X.prog X.w) A (getAttr (.ref a) m b) Q E s := by
  obtain ⟨mA, O, r, _, _, _⟩ := ins_get I.hok e
  have hn : mA m = none := RelO.none_of (by rw [← l]; exact r m)
  obtain ⟨od, J, hl⟩ := O.look
  have I2 : Inv X pins σ (upd H s.heap.objs.size (.met g a)) { s with heap := s.heap.push (PySem.W.methodObj (.ref g) (.ref a)), toks := s.toks + 1 } := I.laid (fun b u e => Heap.get?_push_of_some _ e) (Nat.le_refl _) (Heap.get?_push_size _ rfl)
  exact PySem.W.get_bind I.kIn J (PySem.W.plainGet_of (c.get m)).1 (PySem.W.findObj_fn c.hd k.at_ h1 h2 cp (by rw [hl, hn])) (PySem.W.plainGet_of (c.get m)).2
    (wpAny_call (PySem.W.fn_get (s := { s with toks := s.toks + 1 }) I.kIn (beq_iff_eq.mp k.fn) (PySem.W.handed_on rfl (h _ _ (I.hok.fresh (Nat.le_refl _)) I2))))
/-- such a value called, two built-ins deep -/
theorem run_key {k : Nat} {f a q : Addr} {fd : FuncData} {ps : List Str} {sp : Sp} {us : List Value} {vs : List V} {Q : VK} (F : FnOk X.prog X.w X.K X.mg X.base CX0 k f fd ps sp) (hr : Room (k + 2) X.A) (hb : Binds X.K fd ps []) (I : Inv X pins σ H s) (hq : H q = some (.met f a)) (r : Vals vs us)
    (h : sp (.ref a :: vs) H Q E0) : wpAny (model X.prog X.w) X.A.in1.in1 (call (.ref q) us) (EP X pins σ Q) (fun _ _ => False) s := by
  have ho : s.heap.get? q = some (PySem.W.methodObj (.ref f) (.ref a)) := I.hok q _ hq
  have r2 : Vals (.ref a :: vs) (.ref a :: us) := .cons rfl r
  have hl : (Value.ref a :: us).length = ps.length := by rw [← r2.length]; exact F.len _ _ _ _ h
  have bt := hb s (.ref a :: us) I.kIn (by rw [List.append_nil]; exact hl)
  rw [List.append_nil] at bt
  refine wpAny_call (ks_codeAny_call_bound ho (codeAny_mono (F.run X.A.in1.in1 X.stack s H ⟨.ref a :: us, []⟩ (.ref a :: us) (.ref a :: vs) Q E0 hr.in1.in1 I.env0.in1.in1 bt r2 h) fun r s' hq => ?_))
  cases r with
  | error e => exact hq.elim
  | ok fl =>
    cases fl with
    | ret u => exact I.after hq
    | next => exact hq.elim
    | brk => exact hq.elim
    | cont => exact hq.elim
/-- sorted(xs, key = o.m): xs a list of ints, o.m makes of each a new tuple of ints and leaves all else as it is -/
def tSortBy (K : PySem.W.Frag) (C : Addr) (m : Str) (sp : Sp) (tx ta : TE) : TE := fun σ H Q => tx σ H fun x H1 => ta σ H1 fun y H2 => ∃ (l a dx : Addr) (fs : List (Str × V)) (ns : List Int) (key : Int → List Int),
  x = .ref l ∧ SqL K H2 l (ns.map V.int) ∧ y = .ref a ∧ H2 a = some (.ins C dx fs) ∧ fs.lookup m = none ∧ (∀ n, key n ≠ []) ∧
  (∀ n ∈ ns, ∀ H', Same H2 H' → sp [.ref a, .int n] H' (fun v H3 => ∃ t, v = .ref t ∧ Same H' H3 ∧ H3 t = some (.tup ((key n).map V.int))) E0) ∧
  ∀ (ns' : List Int) (p : Addr) (H' : Hp), ns'.Perm ns → ns'.Pairwise (fun i j => notBelow (key i) (key j)) → Same H2 H' → H2 p = none → H' p = some (.lst (ns'.map V.int)) → Q (.ref p) H'
theorem pe_sortedBy {k : Nat} {C : Addr} {m : Str} {ps : List Str} {sp : Sp} {xs o : Expr} {tx ta : TE} {p pos apos kpos : Pos} (F : CalB X.prog X.w X.K X.mg X.base C k m ps sp) (c : Cls X.K C) (hr : Room (k + 2) X.A) (hm : X.mg "sorted" = none) (hx : PE X xs tx) (ho : PE X o ta)
    (hg : Gl X "sorted" := by rfl) (hb : attributeBase o m X.env (eval o X.env) = eval o X.env := by rfl) (cp : PySem.W.copiedNames.contains m = false := by decide +kernel)
    (hst : starEach [xs] X.env = [(false, eval xs X.env)] := by rfl) :
    PE X (.Call (.Name "sorted" p) [xs] [⟨some (Str.ofString "key"), .Attribute o m apos, kpos⟩] pos) (tSortBy X.K C m sp tx ta) := by
  intro pins s σ H Q I h
  obtain ⟨f, fd, hM, hs1, hs2, hbd, hF⟩ := F
  -- what is asked, for one argument
  let R : List V → Hp → Prop := fun vs H1 => match vs with
    | [x] => ta σ H1 fun y H2 => ∃ (l a dx : Addr) (fs : List (Str × V)) (ns : List Int) (key : Int → List Int),
      x = .ref l ∧ SqL X.K H2 l (ns.map V.int) ∧ y = .ref a ∧ H2 a = some (.ins C dx fs) ∧ fs.lookup m = none ∧ (∀ n, key n ≠ []) ∧
      (∀ n ∈ ns, ∀ H', Same H2 H' → sp [.ref a, .int n] H' (fun v H3 => ∃ t, v = .ref t ∧ Same H' H3 ∧ H3 t = some (.tup ((key n).map V.int))) E0) ∧
      ∀ (ns' : List Int) (p : Addr) (H' : Hp), ns'.Perm ns → ns'.Pairwise (fun i j => notBelow (key i) (key j)) → Same H2 H' → H2 p = none → H' p = some (.lst (ns'.map V.int)) → Q (.ref p) H'
    | _ => False
  have h : tCons tx tNil σ H R := h
  refine wpAny_Call_Name_kw (ld_blt I hg hm (u := .builtin "sorted") (by rfl) ?_)
  refine callWith_kw (thn ((pa_cons hx pa_nil hst) pos pins s σ H _ I h) fun us s1 ⟨vs, H1, I1, r1, q1⟩ => ?_) (by show backTo pos (starEach [xs] X.env) = _; rw [hst]; rfl) (by rw [hst]; rfl)
  obtain ⟨x, rfl⟩ : ∃ x, vs = [x] := by
    match vs, q1 with
    | [x], _ => exact ⟨x, rfl⟩
  refine kws_cons (attr_of hb (thn (ho pins s1 σ H1 _ I1 q1) fun u s2 ⟨y, H2, I2, ry, l, a, dx, fs, ns, key, ex, hl, ey, ha, hlk, hne, turn, fin⟩ => ?_))
  subst ex ey
  obtain rfl : u = Value.ref a := ry
  rw [Vals.ref1 r1]
  refine getbound_ok I2 ha c hM hs1 hs2 cp hlk fun q s3 nq I3 => kws_nil ?_
  have sm23 : Same H2 (upd H2 q (.met f a)) := same_new nq
  -- sorted: a list of its own, then list.sort
  obtain ⟨its, rv, hls, hll⟩ := I3.list (sm23.seq hl)
  have hil : its.length ≤ sizeLine := by rw [← rv.length]; exact hll
  show wpAny _ _ (call (.builtin "sorted") [.ref l] [(Str.ofString "key", .ref q)]) _ _ _
  refine call_function_entry_kw kind_sorted plain_sorted entry_sorted (ksk_s1 _ _) ?_
  unfold Builtin.«sorted»
  refine wpAny_bind (m := checkCount "sorted" 1 1 _) (wpAny_pure (wpAny_bind (collect_list hls.isList (wpAny_bind (wpAny_newList ?_ hil)) hil)))
  have keep : ∀ b o, s3.heap.get? b = some o → ((s3.heap.push (seqObj "list" #[] 0)).update s3.heap.objs.size (Obj.mapSeq (· ++ its.toArray))).get? b = some o := fun b o e => by
    have lt := Heap.lt_size e
    rw [Heap.get?_update_ne _ _ _ _ (Nat.ne_of_lt lt)]
    exact Heap.get?_push_of_some _ e
  have I4 : Inv X pins σ (upd H2 q (.met f a)) { s3 with heap := (s3.heap.push (seqObj "list" #[] 0)).update s3.heap.objs.size (Obj.mapSeq (· ++ its.toArray)) } := I3.kept (t' := s3.toks) keep
  generalize (s3.heap.push (seqObj "list" #[] 0)).update s3.heap.objs.size (Obj.mapSeq (· ++ its.toArray)) = h4 at I4
  have hz4 : (h4.push (seqObj "list" its.toArray 0)).get? h4.objs.size = some (seqObj "list" its.toArray 0) := Heap.get?_push_size _ rfl
  have I5 := I4.laid (a := h4.objs.size) (o := .lst (ns.map V.int)) (t' := s3.toks) (h' := h4.push (seqObj "list" its.toArray 0)) (fun b u e => Heap.get?_push_of_some _ e) (Nat.le_refl _) ⟨hll, its, 0, rv, hz4⟩
  have nz : upd H2 q (.met f a) h4.objs.size = none := I4.hok.fresh (Nat.le_refl _)
  show wpAny _ _ _ _ _ { s3 with heap := h4.push (seqObj "list" its.toArray 0) }
  generalize h4.objs.size = z at I5 nz hz4
  have nqz : q ≠ z := fun e => by rw [← e, upd_same] at nz; cases nz
  have nz2 : H2 z = none := by rw [upd_ne (Ne.symm nqz)] at nz; exact nz
  refine wpAny_bind (wpAny_holding (wpAny_call_entry_kw slot_list_sort ⟨_, hz4, rfl⟩ entry_list_sort ?_ (ksk_l1 _ _)))
  show wpAny (model X.prog X.w) X.A.in1.in1 (Builtin.«list.sort» ⟨[.ref z], [(Str.ofString "key", .ref q)]⟩) _ _ _
  rw [ksk_t1]
  have far : ∀ H' : Hp, (∀ b o, b ≠ z → upd (upd H2 q (.met f a)) z (.lst (ns.map V.int)) b = some o → H' b = some o) → Same H2 H' := fun H' k b o e => by
    refine k b o (ne_of_none e nz2) ?_
    rw [upd_ne (ne_of_none e nz2), upd_ne (ne_of_none e nq)]
    exact e
  refine sort_by (key := key) I5 upd_same hne (fun n t hn H' s' I' k => ?_) fun ns' H' s' I' hp hw k hz' => ⟨_, rfl, wpAny_pure ⟨_, rfl, .ref z, H', I', rfl, fin ns' z H' hp hw (far H' k) nz2 hz'⟩⟩
  have hq' : H' q = some (.met f a) := k q _ nqz (by rw [upd_ne nqz, upd_same])
  refine wpAny_mono (run_key (vs := [.int n]) hF hr hbd I' hq' (.cons ⟨t, rfl⟩ .nil) (turn n hn H' (far H' k))) (fun v s6 q6 => ?_) fun _ _ e => e
  obtain ⟨y, H6, I6, ry, t6, rfl, sm6, ht6⟩ := q6
  exact ⟨H6, t6, ry, I6, sm6, ht6⟩
end
end Bk

set_option autoImplicit false
set_option Elab.async false
set_option linter.all false
set_option maxRecDepth 100000
set_option maxHeartbeats 2000000
namespace Bk
open PySem PySem.Spec PyProof.Rows L2
/-! ### a dict of the top: numbers by numbers -/
def TabRow (e : DictEntry) (p : Int × Int) : Prop := e.hash = hashInt p.1 ∧ (∃ t, e.key = .int p.1 t) ∧ ∃ t, e.val = .int p.2 t
def TabK (K : PySem.W.Frag) (a : Addr) (tab : List (Int × Int)) : Prop :=
  ∃ es ep, K.lookup a = some { cls := .type "dict", data := .dict es ep } ∧ Paired TabRow es.toList tab ∧ (tab.map (·.1)).Nodup
theorem tab_pairs {P : Program} {w : World} : ∀ {es : List DictEntry} {tab : List (Int × Int)}, Paired TabRow es tab →
    ∃ kvs : List (Key × Value), Pairs (mixKind P w) es kvs ∧ kvs.map (·.1) = tab.map (fun p => (Sum.inl p.1 : Key)) ∧ ∀ n v, tab.lookup n = some v → ∃ t, valueAt kvs (Sum.inl n) = some (.int v t)
  | _, _, .nil => ⟨[], .nil, rfl, fun n v h => by cases h⟩
  | _, _, .cons (a := e) (b := p) ⟨h1, ⟨t, h2⟩, ⟨u, h3⟩⟩ r => by
    obtain ⟨kvs, k1, k2, k3⟩ := tab_pairs (P := P) (w := w) r
    refine ⟨(Sum.inl p.1, e.val) :: kvs, .cons (by rw [h2]; exact mixKind_int P w p.1 t) rfl k1, by rw [List.map_cons, List.map_cons, k2], fun n v h => ?_⟩
    unfold valueAt
    rw [List.find?_cons]
    by_cases q : n = p.1
    · subst q
      have h : (List.lookup p.1 ((p.1, p.2) :: _)) = some v := h
      rw [List.lookup_cons_self] at h
      rw [decide_eq_true (by rfl)]
      refine ⟨u, ?_⟩
      show some e.val = _
      rw [h3, Option.some.inj h]
    · have z : (n == p.1) = false := beq_eq_false_iff_ne.mpr q
      have h : (List.lookup n ((p.1, p.2) :: _)) = some v := h
      rw [List.lookup_cons, z] at h
      have z2 : decide ((Sum.inl p.1 : Key) = Sum.inl n) = false := decide_eq_false fun y => q (Sum.inl.inj y).symm
      obtain ⟨t', e'⟩ := k3 n v h
      refine ⟨t', ?_⟩
      rw [z2]
      exact e'
theorem tab_keys {P : Program} {w : World} : ∀ {es : List DictEntry} {tab : List (Int × Int)}, Paired TabRow es tab → ∀ e ∈ es, ∃ k, (mixKind P w).is k e.key = true ∧ e.hash = (mixKind P w).hash k
  | _, _, .nil => fun e h => by cases h
  | _, _, .cons (a := e') (b := p) ⟨h1, ⟨t, h2⟩, _⟩ r => fun e h => by
    cases h with
    | head => exact ⟨Sum.inl p.1, by rw [h2]; exact mixKind_int P w p.1 t, h1⟩
    | tail _ h => exact tab_keys r e h
theorem tab_map {P : Program} {w : World} {K : PySem.W.Frag} {h : Heap} {a : Addr} {tab : List (Int × Int)} (T : TabK K a tab) (KX : K.In h) : ∃ f : Key → Option Value, h.MapOf (mixKind P w) a f ∧ ∀ n v, tab.lookup n = some v → ∃ t, f (Sum.inl n) = some (.int v t) := by
  obtain ⟨es, ep, h1, h2, h3⟩ := T
  obtain ⟨kvs, k1, k2, k3⟩ := tab_pairs (P := P) (w := w) h2
  have nd : (kvs.map (·.1)).Nodup := by
    rw [k2]
    have : (tab.map (fun p => (Sum.inl p.1 : Key))) = (tab.map (·.1)).map (fun n => (Sum.inl n : Key)) := by rw [List.map_map]; rfl
    rw [this]
    exact List.Pairwise.map _ (fun a b q z => q (Sum.inl.inj z)) h3
  have dd : h.DictOf (mixKind P w) a kvs := ⟨_, es, ep, KX _ _ h1, ⟨rfl, rfl, rfl⟩, rfl, fun e he => tab_keys h2 e (Array.mem_toList_iff.mpr he), k1, nd⟩
  exact ⟨_, dd.mapOf, k3⟩
def tTab (tab : List (Int × Int)) (ti : TE) : TE := fun σ H Q => ti σ H fun y H1 => ∃ n v, y = .int n ∧ tab.lookup n = some v ∧ Q (.int v) H1
theorem pe_tab {X : Cx} {x : Str} {i : Expr} {p pos : Pos} {ti : TE} {tab : List (Int × Int)} (h : ∃ a, X.mg x = some (.ref a) ∧ TabK X.K a tab) (hi : PE X i ti) (hs : NoSl i) (hg : Gl X x := by rfl) (hd : (x == ("__debug__" : Str)) = false := by decide) :
    PE X (.Subscript (.Name x p) i pos) (tTab tab ti) := by
  obtain ⟨a, hm, T⟩ := h
  intro pins s σ H Q I h
  refine subD_of PySem.F.slot_dict_getitem.lookup hs (ld_glob I hg hm (thn (hi pins s σ H _ I h) fun iv s2 ⟨y, H2, I2, ry, n, v, ey, l, q⟩ => ?_) hd)
  subst ey
  obtain ⟨f, mo, hf⟩ := tab_map (P := X.prog) (w := X.w) T I2.kIn
  obtain ⟨t, e⟩ := hf n v l
  exact ⟨mo.typeIs, wpAny_getItem_of (kV_is (k := Sum.inl n) ry) mo e ⟨.int v, H2, I2.tok _, ⟨t, rfl⟩, q⟩⟩
end Bk

set_option autoImplicit false
set_option Elab.async false
set_option linter.all false
set_option maxRecDepth 100000
set_option maxHeartbeats 2000000
namespace Bk
open PySem PySem.Spec PyProof.Rows L2
def top (i : Nat) : Stmt := PySem.Challenge.pw_bookspans_s01_answers.main.body.getD i (.Pass ⟨0, 0, 0, 0⟩)
abbrev sAnswered : Stmt := top 8
abbrev sRefused : Stmt := top 9
abbrev sAreStarts : Stmt := top 10
abbrev sPageOf : Stmt := top 11
abbrev sSourceAfter : Stmt := top 12
abbrev sToAfter : Stmt := top 13
abbrev sStartsAfter : Stmt := top 14
abbrev sLeastFree : Stmt := top 15
theorem upd_none {H : Hp} {p b : Addr} {o : HO} (h : upd H p o b = none) : H b = none := by
  by_cases e : b = p
  · rw [e, upd_same] at h
    cases h
  · rw [upd_ne e] at h
    exact h
section
variable {P : Program} {w : World} {K : PySem.W.Frag} {mg : Str → Option Value} {base : Heap}
/-- a new list: 0, then what the list that is handed in holds -/
def spAnswered : Sp := fun vs H Q _ => ∃ (a : Addr) (xs : List V), vs = [.ref a] ∧ H a = some (.lst xs) ∧ xs.length < 1000000 ∧ ∀ p H', Same H H' → H p = none → H' p = some (.lst (.int 0 :: xs)) → Q (.ref p) H'
def spRefused : Sp := fun vs H Q _ => ∃ n : Int, vs = [.int n] ∧ ∀ p, H p = none → Q (.ref p) (upd H p (.lst [.int (-n)]))
theorem scAnswered : FnScope ["numbers"] ["numbers"] (defScope sAnswered) := ⟨rfl, rfl, rfl, by decide +kernel, rfl, by decide +kernel, by decide +kernel⟩
theorem ok_answered {f : Addr} {fd : FuncData} (F : Fun K "answered" "answered" sAnswered f fd) : FnOk P w K mg base CX0 1 f fd ["numbers"] spAnswered := by
  refine F.ok scAnswered (fun vs H Q E h => ?_) (fun cdv A outer s H vs Q E hr h => ?_)
  · obtain ⟨a, xs, rfl, _⟩ := h
    rfl
  · obtain ⟨a, xs, rfl, ha, hl, k⟩ := h
    refine ⟨_, pss_one (ps_ret (pe_op op_cat (pe_lst (pa_cons pe_int pa_nil)) (pv 0))), ?_⟩
    refine ⟨(by show 1 ≤ sizeLine; decide), fun q hq => ?_⟩
    refine ⟨_, rfl, q, a, _, xs, rfl, rfl, upd_same, (upd_ne (ne_of_none ha hq)).trans ha, ?_, fun p hp => ?_⟩
    · show 1 + xs.length ≤ 16777216
      omega
    · exact k p _ ((same_new hq).trans (same_new hp)) (upd_none hp) upd_same
theorem scRefused : FnScope ["number"] ["number"] (defScope sRefused) := ⟨rfl, rfl, rfl, by decide +kernel, rfl, by decide +kernel, by decide +kernel⟩
theorem ok_refused {f : Addr} {fd : FuncData} (F : Fun K "refused" "refused" sRefused f fd) : FnOk P w K mg base CX0 1 f fd ["number"] spRefused := by
  refine F.ok scRefused (fun vs H Q E h => ?_) (fun cdv A outer s H vs Q E hr h => ?_)
  · obtain ⟨n, rfl, _⟩ := h
    rfl
  · obtain ⟨n, rfl, k⟩ := h
    refine ⟨_, pss_one (ps_ret (pe_lst (pa_cons (pe_un un_neg (pv 0)) pa_nil))), ?_⟩
    exact ⟨_, rfl, _, rfl, (by show 1 ≤ sizeLine; decide), fun p hp => k p hp⟩
/-- how a from is moved -/
def spSourceAfter : Sp := fun vs H Q _ => ∃ x a c p : Nat, vs = [.int x, .int a, .int c, .int p] ∧ Q (.int (IhSpan.moveFrom a c p x : Nat)) H
theorem scSourceAfter : FnScope ["source", "at", "cut", "put"] ["source", "at", "cut", "put"] (defScope sSourceAfter) := ⟨rfl, rfl, rfl, by decide +kernel, rfl, by decide +kernel, by decide +kernel⟩
theorem ok_sourceAfter {f : Addr} {fd : FuncData} (F : Fun K "source_after" "source_after" sSourceAfter f fd) : FnOk P w K mg base CX0 1 f fd ["source", "at", "cut", "put"] spSourceAfter := by
  refine F.ok scSourceAfter (fun vs H Q E h => ?_) (fun cdv A outer s H vs Q E hr h => ?_)
  · obtain ⟨x, a, c, p, rfl, _⟩ := h
    rfl
  · obtain ⟨x, a, c, p, rfl, k⟩ := h
    refine ⟨_, pss_cons (ps_if (pt_cmpR op_lt (pv 0) (pv 1) (nomark _)) (pss_one (ps_ret (pv 0))) pss_nil)
      (pss_cons (ps_if (pt_cmpR op_ge (pv 0) (pe_op op_add (pv 1) (pv 2)) (nomark _)) (pss_one (ps_ret (pe_op op_add (pe_op op_sub (pv 0) (pv 2)) (pv 3)))) pss_nil)
      (pss_one (ps_ret (pe_op op_add (pv 1) (pv 3))))), ?_⟩
    have go : ∀ z : Int, z = ((IhSpan.moveFrom a c p x : Nat) : Int) → Q (.int z) H := fun z e => by rw [e]; exact k
    refine ⟨_, rfl, _, rfl, _, _, rfl, rfl, _, rfl, ?_⟩
    refine ite2 (fun h1 => ?_) (fun h1 => ?_)
    · have h1 := of_decide_eq_true h1
      refine ⟨_, rfl, go _ ?_⟩
      unfold IhSpan.moveFrom
      rw [if_pos (by omega)]
    · rw [decide_eq_true_eq] at h1
      refine ⟨_, rfl, _, rfl, _, rfl, _, _, rfl, rfl, _, _, rfl, rfl, _, rfl, ?_⟩
      refine ite2 (fun h2 => ?_) (fun h2 => ?_)
      · have h2 := of_decide_eq_true h2
        refine ⟨_, rfl, _, rfl, _, _, rfl, rfl, _, rfl, _, _, rfl, rfl, go _ ?_⟩
        unfold IhSpan.moveFrom
        rw [if_neg (by omega), if_pos (by omega)]
        omega
      · rw [decide_eq_true_eq] at h2
        refine ⟨_, rfl, _, rfl, _, _, rfl, rfl, go _ ?_⟩
        unfold IhSpan.moveFrom
        rw [if_neg (by omega), if_neg (by omega)]
        omega
/-- how a to is moved -/
def spToAfter : Sp := fun vs H Q _ => ∃ x a c p : Nat, vs = [.int x, .int a, .int c, .int p] ∧ Q (.int (IhSpan.moveTo a c p x : Nat)) H
theorem scToAfter : FnScope ["to", "at", "cut", "put"] ["to", "at", "cut", "put"] (defScope sToAfter) := ⟨rfl, rfl, rfl, by decide +kernel, rfl, by decide +kernel, by decide +kernel⟩
theorem ok_toAfter {f : Addr} {fd : FuncData} (F : Fun K "to_after" "to_after" sToAfter f fd) : FnOk P w K mg base CX0 1 f fd ["to", "at", "cut", "put"] spToAfter := by
  refine F.ok scToAfter (fun vs H Q E h => ?_) (fun cdv A outer s H vs Q E hr h => ?_)
  · obtain ⟨x, a, c, p, rfl, _⟩ := h
    rfl
  · obtain ⟨x, a, c, p, rfl, k⟩ := h
    refine ⟨_, pss_cons (ps_if (pt_cmpR op_le (pv 0) (pv 1) (nomark _)) (pss_one (ps_ret (pv 0))) pss_nil)
      (pss_cons (ps_if (pt_cmpR op_gt (pv 0) (pe_op op_add (pv 1) (pv 2)) (nomark _)) (pss_one (ps_ret (pe_op op_add (pe_op op_sub (pv 0) (pv 2)) (pv 3)))) pss_nil)
      (pss_one (ps_ret (pv 1)))), ?_⟩
    have go : ∀ z : Int, z = ((IhSpan.moveTo a c p x : Nat) : Int) → Q (.int z) H := fun z e => by rw [e]; exact k
    refine ⟨_, rfl, _, rfl, _, _, rfl, rfl, _, rfl, ?_⟩
    refine ite2 (fun h1 => ?_) (fun h1 => ?_)
    · have h1 := of_decide_eq_true h1
      refine ⟨_, rfl, go _ ?_⟩
      unfold IhSpan.moveTo
      rw [if_pos (by omega)]
    · rw [decide_eq_true_eq] at h1
      refine ⟨_, rfl, _, rfl, _, rfl, _, _, rfl, rfl, _, _, rfl, rfl, _, rfl, ?_⟩
      refine ite2 (fun h2 => ?_) (fun h2 => ?_)
      · have h2 := of_decide_eq_true h2
        refine ⟨_, rfl, _, rfl, _, _, rfl, rfl, _, rfl, _, _, rfl, rfl, go _ ?_⟩
        unfold IhSpan.moveTo
        rw [if_neg (by omega), if_pos (by omega)]
        omega
      · rw [decide_eq_true_eq] at h2
        refine ⟨_, rfl, go _ ?_⟩
        unfold IhSpan.moveTo
        rw [if_neg (by omega), if_neg (by omega)]
end
end Bk

set_option autoImplicit false
set_option Elab.async false
set_option linter.all false
set_option maxRecDepth 100000
set_option maxHeartbeats 2000000
namespace Bk
open PySem PySem.Spec PyProof.Rows L2
abbrev cSpan : Stmt := top 16
abbrev sSInit : Stmt := inClass cSpan 0
abbrev sFits : Stmt := inClass cSpan 1
abbrev sSound : Stmt := inClass cSpan 2
abbrev sSMain : Stmt := inClass cSpan 3
abbrev sSNote : Stmt := inClass cSpan 4
abbrev sAfter : Stmt := inClass cSpan 5
abbrev sIsLost : Stmt := inClass cSpan 6
abbrev sCovers : Stmt := inClass cSpan 7
abbrev sFirstPage : Stmt := inClass cSpan 8
abbrev sLastPage : Stmt := inClass cSpan 9
abbrev sIsOn : Stmt := inClass cSpan 10
/-- a span's values -/
def spI (a b c d e : Int) : List (Str × V) := [("source", .int a), ("to", .int b), ("kind", .int c), ("main", .int d), ("note", .int e)]
def bit (b : Bool) : Int := if b = true then 1 else 0
def spf (s : IhSpan.Span) : List (Str × V) := spI s.from_ s.to_ s.kind (bit s.main) s.note
def SpanAt (C : Addr) (H : Hp) (a : Addr) (s : IhSpan.Span) : Prop := ∃ dx, H a = some (.ins C dx (spf s))
structure TxtS (K : PySem.W.Frag) (mg : Str → Option Value) (C : Addr) : Prop where
  cl : Cls K C
  nso : NoAttr K C "source"
  nto : NoAttr K C "to"
  nki : NoAttr K C "kind"
  nma : NoAttr K C "main"
  nno : NoAttr K C "note"
  plain : ∃ t, mg "PLAIN" = some (.int 0 t)
  note : ∃ t, mg "NOTE" = some (.int 1 t)
  table : ∃ t, mg "TABLE" = some (.int 3 t)
  most : ∃ t, mg "MOST_NOTE" = some (.int 16777215 t)
section
variable {P : Program} {w : World} {K : PySem.W.Frag} {mg : Str → Option Value} {base : Heap}
def spSInit (C : Addr) : Sp := fun vs H Q _ => ∃ (p dx : Addr) (a b c d e : Int), vs = [.ref p, .int a, .int b, .int c, .int d, .int e] ∧ H p = some (.ins C dx []) ∧ Q .non (upd H p (.ins C dx (spI a b c d e)))
theorem scSInit : FnScope ["self", "source", "to", "kind", "main", "note"] ["self", "source", "to", "kind", "main", "note"] (defScope sSInit) := ⟨rfl, rfl, rfl, by decide +kernel, rfl, by decide +kernel, by decide +kernel⟩
theorem ok_sinit {f C : Addr} {fd : FuncData} (F : Fun K "__init__" "Span.__init__" sSInit f fd) (T : TxtS K mg C) : FnOk P w K mg base CX0 1 f fd ["self", "source", "to", "kind", "main", "note"] (spSInit C) := by
  refine F.ok scSInit (fun vs H Q E h => ?_) (fun cdv A outer s H vs Q E hr h => ?_)
  · obtain ⟨p, dx, a, b, c, d, e, rfl, _⟩ := h
    rfl
  · obtain ⟨p, dx, a, b, c, d, e, rfl, hp, k⟩ := h
    refine ⟨_, pss_cons (ps_fld (pv 0) (pv 1) rfl) (pss_cons (ps_fld (pv 0) (pv 2) rfl) (pss_cons (ps_fld (pv 0) (pv 3) rfl) (pss_cons (ps_fld (pv 0) (pv 4) rfl) (pss_one (ps_fld (pv 0) (pv 5) rfl))))), ?_⟩
    refine ⟨_, rfl, _, rfl, p, C, dx, [], rfl, hp, T.cl, T.nso, (by show 0 < 1000; decide), ?_⟩
    refine ⟨_, rfl, _, rfl, p, C, dx, _, rfl, upd_same, T.cl, T.nto, (by show 1 < 1000; decide), ?_⟩
    refine ⟨_, rfl, _, rfl, p, C, dx, _, rfl, upd_same, T.cl, T.nki, (by show 2 < 1000; decide), ?_⟩
    refine ⟨_, rfl, _, rfl, p, C, dx, _, rfl, upd_same, T.cl, T.nma, (by show 3 < 1000; decide), ?_⟩
    refine ⟨_, rfl, _, rfl, p, C, dx, _, rfl, upd_same, T.cl, T.nno, (by show 4 < 1000; decide), ?_⟩
    rw [upd_upd, upd_upd, upd_upd, upd_upd]
    exact k
/-- a truth value, known by what it says -/
def spFits (C : Addr) : Sp := fun vs H Q _ => ∃ (p dx : Addr) (a b c d e n : Int), vs = [.ref p, .int n] ∧ H p = some (.ins C dx (spI a b c d e)) ∧ ∀ r : Bool, (r = true ↔ a < b ∧ b ≤ n) → Q (.bl r) H
theorem scFits : FnScope ["self", "length"] ["self", "length"] (defScope sFits) := ⟨rfl, rfl, rfl, by decide +kernel, rfl, by decide +kernel, by decide +kernel⟩
theorem ok_fits {f C : Addr} {fd : FuncData} (F : Fun K "fits" "Span.fits" sFits f fd) (T : TxtS K mg C) : FnOk P w K mg base CX0 1 f fd ["self", "length"] (spFits C) := by
  refine F.ok scFits (fun vs H Q E h => ?_) (fun cdv A outer s H vs Q E hr h => ?_)
  · obtain ⟨p, dx, a, b, c, d, e, n, rfl, _⟩ := h
    rfl
  · obtain ⟨p, dx, a, b, c, d, e, n, rfl, hp, k⟩ := h
    refine ⟨_, pss_one (ps_ret (pe_and (pe_cmpR op_lt (pe_fld (pv 0) rfl) (pe_fld (pv 0) rfl) (nomark _)) (pe_one (pe_cmpR op_le (pe_fld (pv 0) rfl) (pv 1) (nomark _))))), ?_⟩
    refine ⟨_, rfl, p, C, dx, _, _, rfl, hp, T.cl, T.nso, rfl, _, rfl, p, C, dx, _, _, rfl, hp, T.cl, T.nto, rfl, _, _, rfl, rfl, _, rfl, ?_⟩
    refine ite2 (fun h1 => ?_) (fun h1 => ?_)
    · refine ⟨_, rfl, p, C, dx, _, _, rfl, hp, T.cl, T.nto, rfl, _, rfl, _, _, rfl, rfl, k _ ?_⟩
      have h1 := of_decide_eq_true h1
      rw [decide_eq_true_eq]
      exact ⟨fun z => ⟨h1, z⟩, fun z => z.2⟩
    · refine k _ ?_
      rw [decide_eq_true_eq] at h1
      exact ⟨fun z => (by cases z), fun z => absurd z.1 h1⟩
def spSMain (C : Addr) : Sp := fun vs H Q _ => ∃ (p dx : Addr) (a b c d e : Int), vs = [.ref p] ∧ H p = some (.ins C dx (spI a b c d e)) ∧ ∀ r : Bool, (r = true ↔ d = 0 ∨ (d = 1 ∧ c = 0)) → Q (.bl r) H
theorem scSMain : FnScope ["self"] ["self"] (defScope sSMain) := ⟨rfl, rfl, rfl, by decide +kernel, rfl, by decide +kernel, by decide +kernel⟩
theorem ok_smain {f C : Addr} {fd : FuncData} (F : Fun K "has_sound_main" "Span.has_sound_main" sSMain f fd) (T : TxtS K mg C) : FnOk P w K mg base CX0 1 f fd ["self"] (spSMain C) := by
  refine F.ok scSMain (fun vs H Q E h => ?_) (fun cdv A outer s H vs Q E hr h => ?_)
  · obtain ⟨p, dx, a, b, c, d, e, rfl, _⟩ := h
    rfl
  · obtain ⟨p, dx, a, b, c, d, e, rfl, hp, k⟩ := h
    refine ⟨_, pss_one (ps_ret (pe_or (pe_cmpR op_eq (pe_fld (pv 0) rfl) pe_int (nomark _)) (pe_one (pe_and (pe_cmpR op_eq (pe_fld (pv 0) rfl) pe_int (nomark _)) (pe_one (pe_cmpR op_eq (pe_fld (pv 0) rfl) (pe_num T.plain) (nomark _))))))), ?_⟩
    refine ⟨_, rfl, p, C, dx, _, _, rfl, hp, T.cl, T.nma, rfl, rfl, _, rfl, ?_⟩
    refine ite2 (fun h1 => ?_) (fun h1 => ?_)
    · refine k _ ⟨fun _ => .inl (V.int.inj (of_decide_eq_true h1)), fun _ => rfl⟩
    · have h1 : ¬ d = 0 := fun z => h1 (decide_eq_true (congrArg V.int z))
      refine ⟨_, rfl, p, C, dx, _, _, rfl, hp, T.cl, T.nma, rfl, rfl, _, rfl, ?_⟩
      refine ite2 (fun h2 => ?_) (fun h2 => ?_)
      · have h2 : d = 1 := V.int.inj (of_decide_eq_true h2)
        refine ⟨_, rfl, p, C, dx, _, _, rfl, hp, T.cl, T.nki, rfl, rfl, k _ ?_⟩
        rw [decide_eq_true_eq]
        exact ⟨fun z => .inr ⟨h2, V.int.inj z⟩, fun z => (by rcases z with z | z; exact absurd z h1; rw [z.2])⟩
      · have h2 : ¬ d = 1 := fun z => h2 (decide_eq_true (congrArg V.int z))
        exact k _ ⟨fun z => (by cases z), fun z => (by rcases z with z | z; exact absurd z h1; exact absurd z.1 h2)⟩
def spSNote (C : Addr) : Sp := fun vs H Q _ => ∃ (p dx : Addr) (a b c d e : Int), vs = [.ref p] ∧ H p = some (.ins C dx (spI a b c d e)) ∧ ∀ r : Bool, (r = true ↔ (c = 1 → 1 ≤ e ∧ e ≤ 16777215) ∧ (c ≠ 1 → e = 0)) → Q (.bl r) H
theorem scSNote : FnScope ["self"] ["self"] (defScope sSNote) := ⟨rfl, rfl, rfl, by decide +kernel, rfl, by decide +kernel, by decide +kernel⟩
theorem ok_snote {f C : Addr} {fd : FuncData} (F : Fun K "has_sound_note" "Span.has_sound_note" sSNote f fd) (T : TxtS K mg C) : FnOk P w K mg base CX0 1 f fd ["self"] (spSNote C) := by
  refine F.ok scSNote (fun vs H Q E h => ?_) (fun cdv A outer s H vs Q E hr h => ?_)
  · obtain ⟨p, dx, a, b, c, d, e, rfl, _⟩ := h
    rfl
  · obtain ⟨p, dx, a, b, c, d, e, rfl, hp, k⟩ := h
    refine ⟨_, pss_cons (ps_if (pt_cmpR op_eq (pe_fld (pv 0) rfl) (pe_num T.note) (nomark _)) (pss_one (ps_ret (pe_and (pe_cmpR op_ge (pe_fld (pv 0) rfl) pe_int (nomark _)) (pe_one (pe_cmpR op_le (pe_fld (pv 0) rfl) (pe_num T.most) (nomark _)))))) pss_nil)
      (pss_one (ps_ret (pe_cmpR op_eq (pe_fld (pv 0) rfl) pe_int (nomark _)))), ?_⟩
    refine ⟨_, rfl, p, C, dx, _, _, rfl, hp, T.cl, T.nki, rfl, rfl, _, rfl, ?_⟩
    refine ite2 (fun h1 => ?_) (fun h1 => ?_)
    · have h1 : c = 1 := V.int.inj (of_decide_eq_true h1)
      refine ⟨_, rfl, p, C, dx, _, _, rfl, hp, T.cl, T.nno, rfl, _, _, rfl, rfl, _, rfl, ?_⟩
      refine ite2 (fun h2 => ?_) (fun h2 => ?_)
      · have h2 := of_decide_eq_true h2
        refine ⟨_, rfl, p, C, dx, _, _, rfl, hp, T.cl, T.nno, rfl, _, _, rfl, rfl, k _ ?_⟩
        rw [decide_eq_true_eq]
        exact ⟨fun z => ⟨fun _ => ⟨h2, z⟩, fun q => absurd h1 q⟩, fun z => (z.1 h1).2⟩
      · rw [decide_eq_true_eq] at h2
        exact k _ ⟨fun z => (by cases z), fun z => absurd (z.1 h1).1 h2⟩
    · have h1 : ¬ c = 1 := fun z => h1 (decide_eq_true (congrArg V.int z))
      refine ⟨_, rfl, p, C, dx, _, _, rfl, hp, T.cl, T.nno, rfl, rfl, k _ ?_⟩
      rw [decide_eq_true_eq]
      exact ⟨fun z => ⟨fun q => absurd q h1, fun _ => V.int.inj z⟩, fun z => congrArg V.int (z.2 h1)⟩
def spSound (C : Addr) : Sp := fun vs H Q _ => ∃ (p dx : Addr) (a b c d e : Int), vs = [.ref p] ∧ H p = some (.ins C dx (spI a b c d e)) ∧
  ∀ r : Bool, (r = true ↔ c ≤ 3 ∧ (d = 0 ∨ (d = 1 ∧ c = 0)) ∧ (c = 1 → 1 ≤ e ∧ e ≤ 16777215) ∧ (c ≠ 1 → e = 0)) → Q (.bl r) H
theorem scSound : FnScope ["self"] ["self"] (defScope sSound) := ⟨rfl, rfl, rfl, by decide +kernel, rfl, by decide +kernel, by decide +kernel⟩
theorem ok_sound {f C : Addr} {fd : FuncData} (F : Fun K "is_sound" "Span.is_sound" sSound f fd) (T : TxtS K mg C) (M : CalM P w K mg base C 1 "has_sound_main" ["self"] (spSMain C)) (N : CalM P w K mg base C 1 "has_sound_note" ["self"] (spSNote C)) :
    FnOk P w K mg base CX0 2 f fd ["self"] (spSound C) := by
  refine F.ok scSound (fun vs H Q E h => ?_) (fun cdv A outer s H vs Q E hr h => ?_)
  · obtain ⟨p, dx, a, b, c, d, e, rfl, _⟩ := h
    rfl
  · obtain ⟨p, dx, a, b, c, d, e, rfl, hp, k⟩ := h
    refine ⟨_, pss_one (ps_ret (pe_and (pe_cmpR op_le (pe_fld (pv 0) rfl) (pe_num T.table) (nomark _)) (pe_and (pe_calM0 M T.cl hr (pv 0)) (pe_one (pe_calM0 N T.cl hr (pv 0)))))), ?_⟩
    refine ⟨_, rfl, p, C, dx, _, _, rfl, hp, T.cl, T.nki, rfl, _, _, rfl, rfl, _, rfl, ?_⟩
    refine ite2 (fun h1 => ?_) (fun h1 => ?_)
    · have h1 := of_decide_eq_true h1
      refine ⟨_, rfl, p, dx, _, rfl, hp, rfl, p, dx, a, b, c, d, e, rfl, hp, fun r hr => ⟨r, rfl, ?_⟩⟩
      refine ite2 (fun h2 => ?_) (fun h2 => ?_)
      · refine ⟨_, rfl, p, dx, _, rfl, hp, rfl, p, dx, a, b, c, d, e, rfl, hp, fun r2 hr2 => k _ ?_⟩
        exact ⟨fun z => ⟨h1, hr.mp h2, hr2.mp z⟩, fun z => hr2.mpr z.2.2⟩
      · exact k _ ⟨fun z => (by cases z), fun z => absurd (hr.mpr z.2.1) h2⟩
    · rw [decide_eq_true_eq] at h1
      exact k _ ⟨fun z => (by cases z), fun z => absurd z.1 h1⟩
end
end Bk

set_option autoImplicit false
set_option Elab.async false
set_option linter.all false
set_option maxRecDepth 100000
set_option maxHeartbeats 2000000
namespace Bk
open PySem PySem.Spec PyProof.Rows L2
/-- whole numbers as values -/
def iv (l : List Nat) : List V := l.map fun (n : Nat) => V.int (n : Int)
theorem iv_len (l : List Nat) : (iv l).length = l.length := List.length_map _
theorem iv_at {l : List Nat} {i : Nat} {y : V} (h : (iv l)[i]? = some y) : ∃ n, l[i]? = some n ∧ y = V.int (n : Int) := by
  unfold iv at h
  rw [List.getElem?_map] at h
  cases e : l[i]? with
  | none => rw [e] at h; cases h
  | some n => rw [e] at h; exact ⟨n, rfl, (Option.some.inj h).symm⟩
theorem iv_get {l : List Nat} {i n : Nat} (h : l[i]? = some n) : (iv l)[i]? = some (V.int (n : Int)) := by
  unfold iv
  rw [List.getElem?_map, h]
  rfl
theorem take_snoc {α : Type} : ∀ {l : List α} {i : Nat} {x : α}, l[i]? = some x → l.take (i + 1) = l.take i ++ [x]
  | [], i, x, h => by simp at h
  | a :: l, 0, x, h => by
    have e : a = x := Option.some.inj h
    subst e
    rfl
  | a :: l, i + 1, x, h => by
    have ih := take_snoc (l := l) (i := i) (x := x) h
    show a :: l.take (i + 1) = a :: l.take i ++ [x]
    rw [ih]
    rfl
/-- the part taken is as it may be, the last one is b -/
structure Good (l : List Nat) (n b : Nat) : Prop where
  up : l.Pairwise (· ≤ ·)
  le : ∀ s ∈ l, s ≤ n
  top : ∀ s ∈ l, s ≤ b
  last : b = 0 ∨ b ∈ l
theorem Good.nil (n : Nat) : Good [] n 0 := ⟨.nil, fun s h => (by cases h), fun s h => (by cases h), .inl rfl⟩
theorem Good.snoc {l : List Nat} {n b x : Nat} (g : Good l n b) (h1 : b ≤ x) (h2 : x ≤ n) : Good (l ++ [x]) n x := by
  refine ⟨List.pairwise_append.mpr ⟨g.up, List.pairwise_singleton _ _, fun s hs t ht => ?_⟩, fun s hs => ?_, fun s hs => ?_, .inr (List.mem_append.mpr (.inr (List.mem_singleton.mpr rfl)))⟩
  · rw [List.mem_singleton.mp ht]
    exact Nat.le_trans (g.top s hs) h1
  · rcases List.mem_append.mp hs with q | q
    · exact g.le s q
    · rw [List.mem_singleton.mp q]; exact h2
  · rcases List.mem_append.mp hs with q | q
    · exact Nat.le_trans (g.top s q) h1
    · rw [List.mem_singleton.mp q]; exact Nat.le_refl _
theorem Good.bad {l : List Nat} {n b x i : Nat} (g : Good (l.take i) n b) (hx : l[i]? = some x) (h : x < b) : ¬ l.Pairwise (· ≤ ·) := by
  intro p
  rcases g.last with z | z
  · omega
  · have e := List.take_append_drop i l
    rw [← e] at p
    have q := (List.pairwise_append.mp p).2.2 b z x (by
      have hl : i < l.length := (List.getElem?_eq_some_iff.mp hx).1
      have : l.drop i = x :: l.drop (i + 1) := by
        rw [List.drop_eq_getElem_cons hl, (List.getElem?_eq_some_iff.mp hx).2]
      rw [this]
      exact List.Mem.head _)
    omega
section
variable {P : Program} {w : World} {K : PySem.W.Frag} {mg : Str → Option Value} {base : Heap}
def spAreStarts (K : PySem.W.Frag) : Sp := fun vs H Q _ => ∃ (a : Addr) (l : List Nat) (n : Nat), vs = [.ref a, .int n] ∧ SqL K H a (iv l) ∧ ∀ r : Bool, (r = true ↔ IhSpan.startsRight l n = true) → Q (.bl r) H
theorem scAreStarts : FnScope ["starts", "length", "before", "place"] ["starts", "length"] (defScope sAreStarts) := ⟨rfl, rfl, rfl, by decide +kernel, rfl, by decide +kernel, by decide +kernel⟩
theorem ok_areStarts {f : Addr} {fd : FuncData} (F : Fun K "are_starts" "are_starts" sAreStarts f fd) (tl : mg "len" = none) (tp : ∃ t, mg "MOST_PAGES" = some (.int 65536 t)) : FnOk P w K mg base CX0 1 f fd ["starts", "length"] (spAreStarts K) := by
  refine F.ok scAreStarts (fun vs H Q E h => ?_) (fun cdv A outer s H vs Q E hr h => ?_)
  · obtain ⟨a, l, n, rfl, _⟩ := h
    rfl
  · obtain ⟨a, l, n, rfl, hS, k⟩ := h
    refine ⟨_, pss_cons (ps_if (PW.pt (pw_or (pt_cmpR op_lt (pe_callB call_len_seq (by rfl) tl PySem.boot_len (pa_cons (pv 0) pa_nil)) pe_int (nomark _)) (pw_or (pt_cmpR op_gt (pe_callB call_len_seq (by rfl) tl PySem.boot_len (pa_cons (pv 0) pa_nil)) (pe_num tp) (nomark _))
        (pw_or1 (pt_cmpR op_ne (pe_ix ix_list (pv 0) pe_int (fun _ _ => rfl)) pe_int (nomark _)))))) (pss_one (ps_ret pe_bl)) pss_nil)
      (pss_cons (ps_set (i := 2) scAreStarts.nd rfl (Or.inl rfl) pe_int)
      (pss_cons (ps_for PassesOwn.never rfl (pi_list (pv 0)) (pg_name (i := 3) scAreStarts.nd rfl (Or.inl rfl))
        (pss_cons (ps_if (PW.pt (pw_or (pt_cmpR op_lt (pv 3) (pv 2) (nomark _)) (pw_or1 (pt_cmpR op_gt (pv 3) (pv 1) (nomark _))))) (pss_one (ps_ret pe_bl)) pss_nil)
          (pss_one (ps_set (i := 2) scAreStarts.nd rfl (Or.inl rfl) (pv 3)))))
      (pss_one (ps_ret pe_bl)))), ?_⟩
    have no : ¬ IhSpan.startsRight l n = true → Q (.bl false) H := fun z => k _ ⟨fun q => (by cases q), fun q => absurd q z⟩
    refine ⟨_, rfl, a, _, rfl, .inl hS, _, _, rfl, rfl, _, rfl, ?_⟩
    rw [iv_len]
    refine ite2 (fun h1 => ?_) (fun h1 => ?_)
    · have h1 := of_decide_eq_true h1
      refine iteT (no fun z => ?_)
      obtain ⟨_, ⟨r, e⟩, _⟩ := Sp.startsRight_iff.mp z
      rw [e, List.length_cons] at h1
      omega
    · rw [decide_eq_true_eq] at h1
      refine ⟨_, rfl, a, _, rfl, .inl hS, _, _, rfl, rfl, _, rfl, ?_⟩
      rw [iv_len]
      refine ite2 (fun h2 => ?_) (fun h2 => ?_)
      · have h2 := of_decide_eq_true h2
        refine iteT (no fun z => ?_)
        obtain ⟨e, _⟩ := Sp.startsRight_iff.mp z
        have : IhSpan.PAGES = 65536 := rfl
        omega
      · rw [decide_eq_true_eq] at h2
        obtain ⟨x, r, e⟩ : ∃ x r, l = x :: r := by
          cases l with
          | nil => exact absurd (show (([] : List Nat).length : Int) < 1 by decide) h1
          | cons x r => exact ⟨x, r, rfl⟩
        refine ⟨_, rfl, a, _, _, _, rfl, rfl, hS, at_of (j := 0) rfl (iv_get (show l[0]? = some x by rw [e]; rfl)), rfl, _, rfl, ?_⟩
        refine ite2 (fun h3 => ?_) (fun h3 => ?_)
        · refine no fun z => ?_
          obtain ⟨_, ⟨r', e'⟩, _⟩ := Sp.startsRight_iff.mp z
          rw [e] at e'
          have e' := (List.cons.inj e').1
          subst e'
          simp at h3
        · have hx : x = 0 := by
            cases q : decide (V.int (x : Int) = V.int 0) with
            | true =>
              have := V.int.inj (of_decide_eq_true q)
              omega
            | false =>
              rw [q] at h3
              exact absurd rfl h3
          -- before = 0; for place in starts
          refine ⟨_, rfl, a, rfl, ⟨_, hS⟩, for_list (K := K) (a := a) (xs := iv l) (fun i σ H' => ∃ (b : Nat) (v : Option V), σ = [some (.ref a), some (.int n), some (.int b), v] ∧ H' = H ∧ Good (l.take i) n b)
            ⟨0, none, rfl, rfl, Good.nil n⟩ (fun i σ H' _ ⟨_, _, _, q, _⟩ => (by rw [q]; exact hS)) ?_ ?_⟩
          · rintro i y σ H' hi ⟨b, v, rfl, rfl, g⟩
            obtain ⟨p, hp, rfl⟩ := iv_at hi
            refine ⟨_, rfl, _, rfl, _, _, rfl, rfl, _, rfl, ?_⟩
            refine ite2 (fun h4 => ?_) (fun h4 => ?_)
            · have h4 := of_decide_eq_true h4
              exact iteT (no fun z => g.bad hp (by omega) (Sp.startsRight_iff.mp z).2.2.1)
            · rw [decide_eq_true_eq] at h4
              refine ⟨_, rfl, _, rfl, _, _, rfl, rfl, _, rfl, ?_⟩
              refine ite2 (fun h5 => ?_) (fun h5 => ?_)
              · have h5 := of_decide_eq_true h5
                refine no fun z => ?_
                have := (Sp.startsRight_iff.mp z).2.2.2 p (List.mem_of_getElem? hp)
                omega
              · rw [decide_eq_true_eq] at h5
                refine ⟨_, rfl, p, _, rfl, rfl, ?_⟩
                rw [take_snoc hp]
                exact g.snoc (by omega) (by omega)
          · rintro σ H' ⟨b, v, rfl, rfl, g⟩
            rw [iv_len, List.take_length] at g
            refine k _ ⟨fun _ => Sp.startsRight_iff.mpr ⟨?_, ⟨r, by rw [e, hx]⟩, g.up, g.le⟩, fun _ => rfl⟩
            have : IhSpan.PAGES = 65536 := rfl
            omega
end
end Bk

set_option autoImplicit false
set_option Elab.async false
set_option linter.all false
set_option maxRecDepth 100000
set_option maxHeartbeats 2000000
namespace Bk
open PySem PySem.Spec PyProof.Rows L2
theorem iv_app (l m : List Nat) : iv (l ++ m) = iv l ++ iv m := List.map_append
theorem cut_from {xs : List V} {i : Nat} (h : i ≤ xs.length) : cutV xs (some (i : Int)) none = xs.drop i := by
  unfold cutV
  rw [HT.sIx_nat, HT.sIx_none, Nat.min_eq_left h]
  exact List.take_of_length_le (by rw [List.length_drop]; exact Nat.le_refl _)
theorem tYes_of {σ : L2.St} {H : Hp} {Q : Bool → Hp → Prop} (h : Q true H) : tYes σ H Q := h
section
variable {P : Program} {w : World} {K : PySem.W.Frag} {mg : Str → Option Value} {base : Heap}
/-- starts as they are kept -/
def Starts (l : List Nat) : Prop := l.Pairwise (· ≤ ·) ∧ ∃ r, l = 0 :: r
def spPageOf (K : PySem.W.Frag) : Sp := fun vs H Q _ => ∃ (a : Addr) (l : List Nat) (x : Nat), vs = [.ref a, .int x] ∧ SqL K H a (iv l) ∧ Starts l ∧ Q (.int (IhSpan.pageOf l x : Nat)) H
theorem scPageOf : FnScope ["starts", "place", "page", "above", "middle"] ["starts", "place"] (defScope sPageOf) := ⟨rfl, rfl, rfl, by decide +kernel, rfl, by decide +kernel, by decide +kernel⟩
theorem ok_pageOf {f : Addr} {fd : FuncData} (F : Fun K "page_of" "page_of" sPageOf f fd) (tl : mg "len" = none) : FnOk P w K mg base CX0 1 f fd ["starts", "place"] (spPageOf K) := by
  refine F.ok scPageOf (fun vs H Q E h => ?_) (fun cdv A outer s H vs Q E hr h => ?_)
  · obtain ⟨a, l, x, rfl, _⟩ := h
    rfl
  · obtain ⟨a, l, x, rfl, hS, ⟨up, r, el⟩, k⟩ := h
    have nd := scPageOf.nd
    refine ⟨_, pss_cons (ps_set (i := 2) nd rfl (Or.inl rfl) pe_int)
      (pss_cons (ps_set (i := 3) nd rfl (Or.inl rfl) (pe_callB call_len_seq (by rfl) tl PySem.boot_len (pa_cons (pv 0) pa_nil)))
      (pss_cons (ps_while PassesOwn.never (pt_cmpR op_gt (pe_op op_sub (pv 3) (pv 2)) pe_int (nomark _))
        (pss_cons (ps_set (i := 4) nd rfl (Or.inl rfl) (pe_op op_fdiv (pe_op op_add (pv 2) (pv 3)) pe_int))
        (pss_one (ps_if (pt_cmpR op_le (pe_ix ix_list (pv 0) (pv 4) (fun _ _ => rfl)) (pv 1) (nomark _))
          (pss_one (ps_set (i := 2) nd rfl (Or.inl rfl) (pv 4))) (pss_one (ps_set (i := 3) nd rfl (Or.inl rfl) (pv 4)))))))
      (pss_one (ps_ret (pv 2))))), ?_⟩
    refine ⟨_, rfl, a, _, rfl, .inl hS, ?_⟩
    rw [iv_len]
    refine while_by (fun σ H' => ∃ (lo hi : Nat) (v : Option V) (s : Nat), σ = [some (.ref a), some (.int x), some (.int lo), some (.int hi), v] ∧ H' = H ∧ lo < hi ∧ hi ≤ l.length ∧ l[lo]? = some s ∧ s ≤ x ∧ ∀ t, l[hi]? = some t → x < t)
      (fun σ _ => match σ with
        | [_, _, some (.int lo), some (.int hi), _] => hi.toNat - lo.toNat
        | _ => 0) ⟨0, l.length, none, 0, rfl, rfl, by rw [el]; exact Nat.succ_pos _, Nat.le_refl _, by rw [el]; rfl, Nat.zero_le _, fun t ht => by rw [List.getElem?_eq_none (Nat.le_refl _)] at ht; cases ht⟩ ?_ ?_
    · rintro σ H' ⟨lo, hi, v, s, rfl, rfl, h1, h2, h3, h4, h5⟩
      refine ⟨_, rfl, _, rfl, _, _, rfl, rfl, _, _, rfl, rfl, _, rfl, ?_⟩
      refine ite2 (fun g => ?_) (fun g => ?_)
      · have g := of_decide_eq_true g
        obtain ⟨m, em⟩ : ∃ m : Nat, ((lo : Int) + (hi : Int)) / 2 = (m : Int) := ⟨(lo + hi) / 2, by omega⟩
        have m1 : lo < m := by omega
        have m2 : m < hi := by omega
        have gm : l[m]? = some l[m] := List.getElem?_eq_getElem (by omega)
        refine ⟨_, rfl, _, rfl, _, _, rfl, rfl, _, _, rfl, rfl, ⟨by decide, by decide⟩, ?_⟩
        refine ⟨_, rfl, _, rfl, a, _, _, _, rfl, rfl, hS, at_of (j := m) em (iv_get gm), _, rfl, _, _, rfl, rfl, _, rfl, ?_⟩
        refine ite2 (fun g2 => ?_) (fun g2 => ?_)
        · have g2 := of_decide_eq_true g2
          refine ⟨_, rfl, ⟨m, hi, _, _, by rw [← em]; rfl, rfl, m2, h2, gm, by omega, h5⟩, ?_⟩
          show (hi : Int).toNat - (((lo : Int) + (hi : Int)) / 2).toNat < (hi : Int).toNat - (lo : Int).toNat
          omega
        · rw [decide_eq_true_eq] at g2
          refine ⟨_, rfl, ⟨lo, m, _, s, by rw [← em]; rfl, rfl, m1, by omega, h3, h4, fun t ht => ?_⟩, ?_⟩
          · rw [gm] at ht
            have := Option.some.inj ht
            omega
          · show (((lo : Int) + (hi : Int)) / 2).toNat - (lo : Int).toNat < (hi : Int).toNat - (lo : Int).toNat
            omega
      · rw [decide_eq_true_eq] at g
        have e : hi = lo + 1 := by omega
        have ep : IhSpan.pageOf l x = lo := Sp.pageOf_is up ⟨r, el⟩ h3 h4 (by rw [← e]; exact h5)
        rw [ep] at k
        exact ⟨_, rfl, k⟩
    · rintro σ H1 Q1 Q2 hq ⟨v1, a1, v2, a2, i, j, a3, a4, i2, j2, a5, a6, c, a7, a8⟩
      exact ⟨v1, a1, v2, a2, i, j, a3, a4, i2, j2, a5, a6, c, a7, hq _ _ a8⟩
/-- the starts behind an edit, a new list -/
def spStartsAfter : Sp := fun vs H Q _ => ∃ (S : Addr) (r : List Nat) (a c p : Nat), vs = [.ref S, .int a, .int c, .int p] ∧ H S = some (.lst (iv (0 :: r))) ∧ r.length < 100000 ∧
  ∀ q H', Same H H' → H q = none → H' q = some (.lst (iv (0 :: r.map (IhSpan.moveFrom a c p)))) → Q (.ref q) H'
theorem scStartsAfter : FnScope ["starts", "at", "cut", "put", "place"] ["starts", "at", "cut", "put"] (defScope sStartsAfter) := ⟨rfl, rfl, rfl, by decide +kernel, rfl, by decide +kernel, by decide +kernel⟩
theorem ok_startsAfter {f : Addr} {fd : FuncData} (F : Fun K "starts_after" "starts_after" sStartsAfter f fd) (cS : Cal P w K mg base 1 "source_after" ["source", "at", "cut", "put"] spSourceAfter) : FnOk P w K mg base CX0 2 f fd ["starts", "at", "cut", "put"] spStartsAfter := by
  refine F.ok scStartsAfter (fun vs H Q E h => ?_) (fun cdv A outer s H vs Q E hr h => ?_)
  · obtain ⟨S, r, a, c, p, rfl, _⟩ := h
    rfl
  · obtain ⟨S, r, a, c, p, rfl, hS, hl, k⟩ := h
    have nd := scStartsAfter.nd
    refine ⟨_, pss_one (ps_ret (pe_op op_cat (pe_lst (pa_cons pe_int pa_nil))
      (pe_lc rfl nd (pi_list (pe_slice sl_list (pv 0) (po_some pe_int) po_none)) (blkOk_by (own := [("place", 4)]) (by show blkC ["starts", "at", "cut", "put", "place"] (defScope sStartsAfter) _ _ = true; decide +kernel)) (fun s H C cl fp => pg_name (i := 4) nd rfl (Or.inl rfl)) (fun s H C cl fp => pts_nil)
        (fun s H C cl fp => pe_cal cS hr (pa_cons (pv 4) (pa_cons (pv 1) (pa_cons (pv 2) (pa_cons (pv 3) pa_nil)))))))), ?_⟩
    refine ⟨(by show 1 ≤ sizeLine; decide), fun q hq => ?_⟩
    have hS1 : upd H q (.lst [.int 0]) S = some (.lst (iv (0 :: r))) := (upd_ne (ne_of_none hS hq)).trans hS
    refine ⟨_, rfl, _, rfl, S, _, rfl, SqL.of hS1, fun t ht => ⟨t, rfl, ⟨_, SqL.of upd_same⟩, fun D hD => ?_⟩⟩
    have ec : cutV (iv (0 :: r)) (some 1) none = iv r := cut_from (xs := iv (0 :: r)) (i := 1) (by rw [iv_len]; exact Nat.succ_le_succ (Nat.zero_le _))
    rw [ec] at hD ⊢
    have nTD : t ≠ D := fun z => by rw [← z, upd_same] at hD; cases hD
    refine lc_list (xs := iv r) (fun i H' => H' = upd (upd (upd H q (.lst [.int 0])) t (.lst (iv r))) D (.lst (iv ((r.take i).map (IhSpan.moveFrom a c p))))) rfl (fun i H' _ e => ?_) (fun i y H' hy e => ?_) (fun H' e => ?_)
    · rw [e]
      exact SqL.of ((upd_ne nTD).trans upd_same)
    · subst e
      obtain ⟨n, hn, rfl⟩ := iv_at hy
      refine ⟨rfl, ?_⟩
      refine tYes_of ?_
      refine iteT ⟨_, rfl, _, rfl, _, rfl, _, rfl, n, a, c, p, rfl, _, upd_same, ?_, ?_⟩
      · rw [iv_len, List.length_map, List.length_take]
        show _ < 16777216
        omega
      · rw [upd_upd, take_snoc hn, List.map_append, iv_app]
        rfl
    · subst e
      rw [iv_len, List.take_of_length_le (Nat.le_refl _)]
      have hq2 : upd (upd (upd H q (.lst [.int 0])) t (.lst (iv r))) D (.lst (iv (r.map (IhSpan.moveFrom a c p)))) q = some (.lst [.int 0]) := by
        have n1 : q ≠ D := fun z => by rw [z] at hq ht hD; exact absurd (upd_none hD) (by rw [upd_same]; intro y; cases y)
        have n2 : q ≠ t := fun z => by rw [← z, upd_same] at ht; cases ht
        rw [upd_ne n1, upd_ne n2, upd_same]
      refine ⟨q, D, _, _, rfl, rfl, hq2, upd_same, ?_, fun z hz => ?_⟩
      · show 1 + (iv (r.map _)).length ≤ 16777216
        rw [iv_len, List.length_map]
        omega
      · exact k z _ ((((same_new hq).trans (same_new ht)).trans (same_new hD)).trans (same_new hz)) (upd_none (upd_none (upd_none hz))) upd_same
end
end Bk

set_option autoImplicit false
set_option Elab.async false
set_option linter.all false
set_option maxRecDepth 100000
set_option maxHeartbeats 2000000
namespace Bk
open PySem PySem.Spec PyProof.Rows L2
section
variable {P : Program} {w : World} {K : PySem.W.Frag} {mg : Str → Option Value} {base : Heap}
/-- a new span, moved -/
def spAfter (C : Addr) : Sp := fun vs H Q _ => ∃ (p dx : Addr) (s : IhSpan.Span) (a c q : Nat), vs = [.ref p, .int a, .int c, .int q] ∧ H p = some (.ins C dx (spf s)) ∧
  ∀ (x dy : Addr) (H' : Hp), Same H H' → H x = none → H' x = some (.ins C dy (spI (IhSpan.moveFrom a c q s.from_ : Nat) (IhSpan.moveTo a c q s.to_ : Nat) s.kind (bit s.main) s.note)) → (∀ b o, H' b = some o → H b = some o ∨ H b = none) → Q (.ref x) H'
theorem scAfter : FnScope ["self", "at", "cut", "put", "source", "to"] ["self", "at", "cut", "put"] (defScope sAfter) := ⟨rfl, rfl, rfl, by decide +kernel, rfl, by decide +kernel, by decide +kernel⟩
theorem ok_after {f C : Addr} {fd : FuncData} (F : Fun K "after" "Span.after" sAfter f fd) (T : TxtS K mg C) (c1 : Cal P w K mg base 1 "source_after" ["source", "at", "cut", "put"] spSourceAfter) (c2 : Cal P w K mg base 1 "to_after" ["to", "at", "cut", "put"] spToAfter)
    (mS : CalC P w K mg base C 1 "Span" ["self", "source", "to", "kind", "main", "note"] (spSInit C)) : FnOk P w K mg base CX0 3 f fd ["self", "at", "cut", "put"] (spAfter C) := by
  refine F.ok scAfter (fun vs H Q E h => ?_) (fun cdv A outer s H vs Q E hr h => ?_)
  · obtain ⟨p, dx, s, a, c, q, rfl, _⟩ := h
    rfl
  · obtain ⟨p, dx, s, a, c, q, rfl, hp, k⟩ := h
    have nd := scAfter.nd
    have hr1 : Room 1 _ := hr.mono (by decide)
    refine ⟨_, pss_cons (ps_set (i := 4) nd rfl (Or.inl rfl) (pe_cal c1 hr1 (pa_cons (pe_fld (pv 0) rfl) (pa_cons (pv 1) (pa_cons (pv 2) (pa_cons (pv 3) pa_nil))))))
      (pss_cons (ps_set (i := 5) nd rfl (Or.inl rfl) (pe_cal c2 hr1 (pa_cons (pe_fld (pv 0) rfl) (pa_cons (pv 1) (pa_cons (pv 2) (pa_cons (pv 3) pa_nil))))))
      (pss_one (ps_ret (pe_calC mS hr (pa_cons (pv 4) (pa_cons (pv 5) (pa_cons (pe_fld (pv 0) rfl) (pa_cons (pe_fld (pv 0) rfl) (pa_cons (pe_fld (pv 0) rfl) pa_nil))))))))), ?_⟩
    refine ⟨_, rfl, p, C, dx, _, _, rfl, hp, T.cl, T.nso, rfl, _, rfl, _, rfl, _, rfl, s.from_, a, c, q, rfl, ?_⟩
    refine ⟨_, rfl, p, C, dx, _, _, rfl, hp, T.cl, T.nto, rfl, _, rfl, _, rfl, _, rfl, s.to_, a, c, q, rfl, ?_⟩
    refine ⟨_, rfl, _, rfl, _, rfl, p, C, dx, _, _, rfl, hp, T.cl, T.nki, rfl, _, rfl, p, C, dx, _, _, rfl, hp, T.cl, T.nma, rfl, _, rfl, p, C, dx, _, _, rfl, hp, T.cl, T.nno, rfl, fun x dy nx ndy ne => ?_⟩
    refine ⟨x, dy, _, _, _, _, _, rfl, upd_same, rfl, k x dy _ (fun b o z => ?_) nx upd_same fun b o z => ?_⟩
    · rw [upd_ne (ne_of_none z nx), upd_ne (ne_of_none z nx), upd_ne (ne_of_none z ndy)]
      exact z
    · by_cases e1 : b = x
      · rw [e1]; exact .inr nx
      · by_cases e2 : b = dy
        · rw [e2]; exact .inr ndy
        · rw [upd_ne e1, upd_ne e1, upd_ne e2] at z
          exact .inl z
def spIsLost (C : Addr) : Sp := fun vs H Q _ => ∃ (p dx : Addr) (a b c d e : Int), vs = [.ref p] ∧ H p = some (.ins C dx (spI a b c d e)) ∧ ∀ r : Bool, (r = true ↔ b ≤ a) → Q (.bl r) H
theorem scIsLost : FnScope ["self"] ["self"] (defScope sIsLost) := ⟨rfl, rfl, rfl, by decide +kernel, rfl, by decide +kernel, by decide +kernel⟩
theorem ok_isLost {f C : Addr} {fd : FuncData} (F : Fun K "is_lost" "Span.is_lost" sIsLost f fd) (T : TxtS K mg C) : FnOk P w K mg base CX0 1 f fd ["self"] (spIsLost C) := by
  refine F.ok scIsLost (fun vs H Q E h => ?_) (fun cdv A outer s H vs Q E hr h => ?_)
  · obtain ⟨p, dx, a, b, c, d, e, rfl, _⟩ := h
    rfl
  · obtain ⟨p, dx, a, b, c, d, e, rfl, hp, k⟩ := h
    refine ⟨_, pss_one (ps_ret (pe_cmpR op_ge (pe_fld (pv 0) rfl) (pe_fld (pv 0) rfl) (nomark _))), ?_⟩
    exact ⟨_, rfl, p, C, dx, _, _, rfl, hp, T.cl, T.nso, rfl, _, rfl, p, C, dx, _, _, rfl, hp, T.cl, T.nto, rfl, _, _, rfl, rfl, k _ decide_eq_true_iff⟩
def spCovers (C : Addr) : Sp := fun vs H Q _ => ∃ (p dx : Addr) (a b c d e n : Int), vs = [.ref p, .int n] ∧ H p = some (.ins C dx (spI a b c d e)) ∧ ∀ r : Bool, (r = true ↔ a ≤ n ∧ n < b) → Q (.bl r) H
theorem scCovers : FnScope ["self", "place"] ["self", "place"] (defScope sCovers) := ⟨rfl, rfl, rfl, by decide +kernel, rfl, by decide +kernel, by decide +kernel⟩
theorem ok_covers {f C : Addr} {fd : FuncData} (F : Fun K "covers" "Span.covers" sCovers f fd) (T : TxtS K mg C) : FnOk P w K mg base CX0 1 f fd ["self", "place"] (spCovers C) := by
  refine F.ok scCovers (fun vs H Q E h => ?_) (fun cdv A outer s H vs Q E hr h => ?_)
  · obtain ⟨p, dx, a, b, c, d, e, n, rfl, _⟩ := h
    rfl
  · obtain ⟨p, dx, a, b, c, d, e, n, rfl, hp, k⟩ := h
    refine ⟨_, pss_one (ps_ret (pe_and (pe_cmpR op_le (pe_fld (pv 0) rfl) (pv 1) (nomark _)) (pe_one (pe_cmpR op_lt (pv 1) (pe_fld (pv 0) rfl) (nomark _))))), ?_⟩
    refine ⟨_, rfl, p, C, dx, _, _, rfl, hp, T.cl, T.nso, rfl, _, rfl, _, _, rfl, rfl, _, rfl, ?_⟩
    refine ite2 (fun h1 => ?_) (fun h1 => ?_)
    · refine ⟨_, rfl, _, rfl, p, C, dx, _, _, rfl, hp, T.cl, T.nto, rfl, _, _, rfl, rfl, k _ ?_⟩
      have h1 := of_decide_eq_true h1
      rw [decide_eq_true_eq]
      exact ⟨fun z => ⟨h1, z⟩, fun z => z.2⟩
    · refine k _ ?_
      rw [decide_eq_true_eq] at h1
      exact ⟨fun z => (by cases z), fun z => absurd z.1 h1⟩
def spFirstPage (K : PySem.W.Frag) (C : Addr) : Sp := fun vs H Q _ => ∃ (p dx S : Addr) (s : IhSpan.Span) (l : List Nat), vs = [.ref p, .ref S] ∧ H p = some (.ins C dx (spf s)) ∧ SqL K H S (iv l) ∧ Starts l ∧ Q (.int (IhSpan.pageOf l s.from_ : Nat)) H
theorem scFirstPage : FnScope ["self", "starts"] ["self", "starts"] (defScope sFirstPage) := ⟨rfl, rfl, rfl, by decide +kernel, rfl, by decide +kernel, by decide +kernel⟩
theorem ok_firstPage {f C : Addr} {fd : FuncData} (F : Fun K "first_page" "Span.first_page" sFirstPage f fd) (T : TxtS K mg C) (cP : Cal P w K mg base 1 "page_of" ["starts", "place"] (spPageOf K)) : FnOk P w K mg base CX0 2 f fd ["self", "starts"] (spFirstPage K C) := by
  refine F.ok scFirstPage (fun vs H Q E h => ?_) (fun cdv A outer s H vs Q E hr h => ?_)
  · obtain ⟨p, dx, S, s, l, rfl, _⟩ := h
    rfl
  · obtain ⟨p, dx, S, s, l, rfl, hp, hS, hl, k⟩ := h
    refine ⟨_, pss_one (ps_ret (pe_cal cP hr (pa_cons (pv 1) (pa_cons (pe_fld (pv 0) rfl) pa_nil)))), ?_⟩
    exact ⟨_, rfl, _, rfl, p, C, dx, _, _, rfl, hp, T.cl, T.nso, rfl, S, l, s.from_, rfl, hS, hl, k⟩
def spLastPage (K : PySem.W.Frag) (C : Addr) : Sp := fun vs H Q _ => ∃ (p dx S : Addr) (s : IhSpan.Span) (l : List Nat), vs = [.ref p, .ref S] ∧ H p = some (.ins C dx (spf s)) ∧ 0 < s.to_ ∧ SqL K H S (iv l) ∧ Starts l ∧ Q (.int (IhSpan.pageOf l (s.to_ - 1) : Nat)) H
theorem scLastPage : FnScope ["self", "starts"] ["self", "starts"] (defScope sLastPage) := ⟨rfl, rfl, rfl, by decide +kernel, rfl, by decide +kernel, by decide +kernel⟩
theorem ok_lastPage {f C : Addr} {fd : FuncData} (F : Fun K "last_page" "Span.last_page" sLastPage f fd) (T : TxtS K mg C) (cP : Cal P w K mg base 1 "page_of" ["starts", "place"] (spPageOf K)) : FnOk P w K mg base CX0 2 f fd ["self", "starts"] (spLastPage K C) := by
  refine F.ok scLastPage (fun vs H Q E h => ?_) (fun cdv A outer s H vs Q E hr h => ?_)
  · obtain ⟨p, dx, S, s, l, rfl, _⟩ := h
    rfl
  · obtain ⟨p, dx, S, s, l, rfl, hp, ht, hS, hl, k⟩ := h
    refine ⟨_, pss_one (ps_ret (pe_cal cP hr (pa_cons (pv 1) (pa_cons (pe_op op_sub (pe_fld (pv 0) rfl) pe_int) pa_nil)))), ?_⟩
    refine ⟨_, rfl, _, rfl, p, C, dx, _, _, rfl, hp, T.cl, T.nto, rfl, _, _, rfl, rfl, S, l, s.to_ - 1, ?_, hS, hl, k⟩
    have e : (s.to_ : Int) - 1 = ((s.to_ - 1 : Nat) : Int) := by omega
    rw [← e]
    rfl
def spIsOn (K : PySem.W.Frag) (C : Addr) : Sp := fun vs H Q _ => ∃ (p dx S : Addr) (s : IhSpan.Span) (l : List Nat) (n : Nat), vs = [.ref p, .int n, .ref S] ∧ H p = some (.ins C dx (spf s)) ∧ 0 < s.to_ ∧ SqL K H S (iv l) ∧ Starts l ∧
  ∀ r : Bool, (r = true ↔ IhSpan.pageOf l s.from_ ≤ n ∧ n ≤ IhSpan.pageOf l (s.to_ - 1)) → Q (.bl r) H
theorem scIsOn : FnScope ["self", "page", "starts"] ["self", "page", "starts"] (defScope sIsOn) := ⟨rfl, rfl, rfl, by decide +kernel, rfl, by decide +kernel, by decide +kernel⟩
theorem ok_isOn {f C : Addr} {fd : FuncData} (F : Fun K "is_on" "Span.is_on" sIsOn f fd) (T : TxtS K mg C) (m1 : CalM P w K mg base C 2 "first_page" ["self", "starts"] (spFirstPage K C)) (m2 : CalM P w K mg base C 2 "last_page" ["self", "starts"] (spLastPage K C)) :
    FnOk P w K mg base CX0 3 f fd ["self", "page", "starts"] (spIsOn K C) := by
  refine F.ok scIsOn (fun vs H Q E h => ?_) (fun cdv A outer s H vs Q E hr h => ?_)
  · obtain ⟨p, dx, S, s, l, n, rfl, _⟩ := h
    rfl
  · obtain ⟨p, dx, S, s, l, n, rfl, hp, ht, hS, hl, k⟩ := h
    refine ⟨_, pss_one (ps_ret (pe_and (pe_cmpR op_le (pe_calM m1 T.cl hr (pv 0) (pa_cons (pv 2) pa_nil)) (pv 1) (nomark _)) (pe_one (pe_cmpR op_le (pv 1) (pe_calM m2 T.cl hr (pv 0) (pa_cons (pv 2) pa_nil)) (nomark _))))), ?_⟩
    refine ⟨_, rfl, p, dx, _, rfl, hp, rfl, _, rfl, p, dx, S, s, l, rfl, hp, hS, hl, ?_⟩
    refine ⟨_, rfl, _, _, rfl, rfl, _, rfl, ?_⟩
    refine ite2 (fun h1 => ?_) (fun h1 => ?_)
    · have h1 := of_decide_eq_true h1
      refine ⟨_, rfl, _, rfl, p, dx, _, rfl, hp, rfl, _, rfl, p, dx, S, s, l, rfl, hp, ht, hS, hl, ?_⟩
      refine ⟨_, _, rfl, rfl, k _ ?_⟩
      rw [decide_eq_true_eq]
      exact ⟨fun z => ⟨by omega, by omega⟩, fun z => by omega⟩
    · rw [decide_eq_true_eq] at h1
      exact k _ ⟨fun z => (by cases z), fun z => by omega⟩
end
end Bk

set_option autoImplicit false
set_option Elab.async false
set_option linter.all false
set_option maxRecDepth 100000
set_option maxHeartbeats 2000000
namespace Bk
open PySem PySem.Spec PyProof.Rows L2
open IhSpan (Desk)
section
variable {P : Program} {w : World} {K : PySem.W.Frag} {mg : Str → Option Value} {base : Heap}
def spLeastFree : Sp := fun vs H Q _ => ∃ (m : Addr) (kvs : List (Key × V)) (n : Nat), vs = [.ref m] ∧ H m = some (.dK kvs) ∧ valV kvs (Sum.inl (n : Int)) = none ∧ (∀ j : Nat, j < n → (valV kvs (Sum.inl (j : Int))).isSome = true) ∧ Q (.int n) H
theorem scLeastFree : FnScope ["spans", "number"] ["spans"] (defScope sLeastFree) := ⟨rfl, rfl, rfl, by decide +kernel, rfl, by decide +kernel, by decide +kernel⟩
theorem ok_leastFree {f : Addr} {fd : FuncData} (F : Fun K "least_free" "least_free" sLeastFree f fd) : FnOk P w K mg base CX0 1 f fd ["spans"] spLeastFree := by
  refine F.ok scLeastFree (fun vs H Q E h => ?_) (fun cdv A outer s H vs Q E hr h => ?_)
  · obtain ⟨m, kvs, n, rfl, _⟩ := h
    rfl
  · obtain ⟨m, kvs, n, rfl, hm, hn, hb, k⟩ := h
    have hu := hu_of hr
    refine ⟨_, pss_cons (ps_set (i := 1) scLeastFree.nd rfl (Or.inl rfl) pe_int)
      (pss_cons (ps_while PassesOwn.never (pt_cmp (pc_din hu (pv 1) (pv 0))) (pss_one (ps_aug (i := 1) scLeastFree.nd rfl (Or.inl rfl) pe_int ip_add)))
      (pss_one (ps_ret (pv 1)))), ?_⟩
    refine while_by (fun σ H' => ∃ i : Nat, i ≤ n ∧ σ = [some (.ref m), some (.int i)] ∧ H' = H) (fun σ _ => match σ with
      | [_, some (.int i)] => n - i.toNat
      | _ => 0) ⟨0, Nat.zero_le _, rfl, rfl⟩ ?_ ?_
    · rintro σ H' ⟨i, hi, rfl, rfl⟩
      refine ⟨_, rfl, _, rfl, m, _, rfl, DGet.k (k := Sum.inl (i : Int)) hm, _, rfl, ?_⟩
      refine ite2 (fun h1 => ?_) (fun h1 => ?_)
      · have lt : i < n := by
          by_cases e : i = n
          · subst e
            rw [hn] at h1
            cases h1
          · omega
        refine ⟨_, rfl, _, _, rfl, rfl, ⟨i + 1, lt, rfl, rfl⟩, ?_⟩
        show n - ((i : Int) + 1).toNat < n - (i : Int).toNat
        omega
      · have e : i = n := by
          by_cases lt : i < n
          · exact absurd (hb i lt) h1
          · omega
        subst e
        exact ⟨_, rfl, k⟩
    · rintro σ H1 Q1 Q2 hq ⟨v, h1, x, h2, a, o, h3, h4, c, h5, h6⟩
      exact ⟨v, h1, x, h2, a, o, h3, h4, c, h5, hq _ _ h6⟩
end
/-! ### the desk -/
def iz (l : List Int) : List V := l.map V.int
def dkf (n : Nat) (S M : Addr) : List (Str × V) := [("length", .int n), ("starts", .ref S), ("spans", .ref M)]
/-- the number n has in kvs what it has on the desk -/
def SpanIn (CS : Addr) (H : Hp) (kvs : List (Key × V)) (n : Nat) : Option IhSpan.Span → Prop
  | some s => ∃ a, valV kvs (Sum.inl (n : Int)) = some (.ref a) ∧ SpanAt CS H a s
  | none => valV kvs (Sum.inl (n : Int)) = none
structure DeskIn (CD CS : Addr) (H : Hp) (D S M : Addr) (kvs : List (Key × V)) (d : Desk) (c : Nat) : Prop where
  obj : ∃ dx, H D = some (.ins CD dx (dkf d.length S M))
  st : H S = some (.lst (iv d.starts))
  mp : H M = some (.dK kvs)
  nd : (kvs.map (·.1)).Nodup
  keys : ∀ k ∈ kvs.map (·.1), ∃ n : Nat, k = Sum.inl (n : Int)
  sp : ∀ n : Nat, SpanIn CS H kvs n (d.span n)
  inj : ∀ (n m : Nat) (a : Addr), valV kvs (Sum.inl (n : Int)) = some (.ref a) → valV kvs (Sum.inl (m : Int)) = some (.ref a) → n = m
  few : kvs.length ≤ c
  ok : Sp.DOk d c
def Foot (D S M : Addr) (kvs : List (Key × V)) (b : Addr) : Prop := b = D ∨ b = S ∨ b = M ∨ ∃ n : Nat, valV kvs (Sum.inl (n : Int)) = some (.ref b)
def DeskAt (CD CS : Addr) (H : Hp) (D : Addr) (d : Desk) (c : Nat) (F : Addr → Prop) : Prop := ∃ S M kvs, DeskIn CD CS H D S M kvs d c ∧ ∀ b, F b ↔ Foot D S M kvs b
/-- a call was answered: the desk then, and a new list -/
def Done (CD CS : Addr) (H : Hp) (D : Addr) (d : Desk) (c : Nat) (F : Addr → Prop) (x : IhSpans.Call) (Q : VK) : Prop :=
  ∀ (p : Addr) (H' : Hp) (F' : Addr → Prop), DeskAt CD CS H' D (Sp.next d x) (c + 1) F' → Step H F H' F' → H' p = some (.lst (iz (Sp.nums d x))) → H p = none → ¬ F' p → Q (.ref p) H'
theorem SpanAt.keep {CS : Addr} {H H' : Hp} {a : Addr} {s : IhSpan.Span} (h : SpanAt CS H a s) (k : ∀ o, H a = some o → H' a = some o) : SpanAt CS H' a s := by
  obtain ⟨dx, e⟩ := h
  exact ⟨dx, k _ e⟩
theorem DeskIn.keep {CD CS : Addr} {H H' : Hp} {D S M : Addr} {kvs : List (Key × V)} {d : Desk} {c c' : Nat} (h : DeskIn CD CS H D S M kvs d c) (hc : c ≤ c') (k : ∀ b o, Foot D S M kvs b → H b = some o → H' b = some o) : DeskIn CD CS H' D S M kvs d c' := by
  obtain ⟨dx, e⟩ := h.obj
  refine ⟨⟨dx, k _ _ (.inl rfl) e⟩, k _ _ (.inr (.inl rfl)) h.st, k _ _ (.inr (.inr (.inl rfl))) h.mp, h.nd, h.keys, fun n => ?_, h.inj, Nat.le_trans h.few hc, h.ok.mono hc⟩
  have q := h.sp n
  cases e2 : d.span n with
  | none => rw [e2] at q; exact q
  | some s =>
    rw [e2] at q
    obtain ⟨a, q1, q2⟩ := q
    exact ⟨a, q1, q2.keep fun o z => k _ _ (.inr (.inr (.inr ⟨n, q1⟩))) z⟩
theorem DeskIn.there {CD CS : Addr} {H : Hp} {D S M : Addr} {kvs : List (Key × V)} {d : Desk} {c : Nat} (h : DeskIn CD CS H D S M kvs d c) {b : Addr} (f : Foot D S M kvs b) : ∃ o, H b = some o := by
  rcases f with rfl | rfl | rfl | ⟨n, e⟩
  · obtain ⟨dx, e⟩ := h.obj
    exact ⟨_, e⟩
  · exact ⟨_, h.st⟩
  · exact ⟨_, h.mp⟩
  · have q := h.sp n
    cases e2 : d.span n with
    | none => rw [e2] at q; exact absurd (q.symm.trans e) (by intro z; cases z)
    | some s =>
      rw [e2] at q
      obtain ⟨a, q1, dx, q2⟩ := q
      rw [e] at q1
      cases q1
      exact ⟨_, q2⟩
theorem DeskIn.new {CD CS : Addr} {H : Hp} {D S M : Addr} {kvs : List (Key × V)} {d : Desk} {c : Nat} (h : DeskIn CD CS H D S M kvs d c) {b : Addr} (n : H b = none) : ¬ Foot D S M kvs b := fun f => by
  obtain ⟨o, e⟩ := h.there f
  rw [n] at e
  cases e
theorem DeskAt.keep {CD CS : Addr} {H H' : Hp} {D : Addr} {d : Desk} {c : Nat} {F : Addr → Prop} (h : DeskAt CD CS H D d c F) (k : ∀ b o, F b → H b = some o → H' b = some o) : DeskAt CD CS H' D d c F := by
  obtain ⟨S, M, kvs, h, hF⟩ := h
  exact ⟨S, M, kvs, h.keep (Nat.le_refl _) fun b o f z => k b o ((hF b).mpr f) z, hF⟩
theorem DeskAt.wide {CD CS : Addr} {H H' : Hp} {D : Addr} {d : Desk} {c : Nat} {F : Addr → Prop} (h : DeskAt CD CS H D d c F) (k : Same H H') : DeskAt CD CS H' D d (c + 1) F := by
  obtain ⟨S, M, kvs, h, hF⟩ := h
  exact ⟨S, M, kvs, h.keep (Nat.le_succ c) fun b o _ z => k b o z, hF⟩
theorem DeskAt.new {CD CS : Addr} {H : Hp} {D : Addr} {d : Desk} {c : Nat} {F : Addr → Prop} (h : DeskAt CD CS H D d c F) {b : Addr} (n : H b = none) : ¬ F b := by
  obtain ⟨S, M, kvs, h, hF⟩ := h
  exact fun z => h.new n ((hF b).mp z)
/-- an answer that leaves the desk as it was, whatever might have been changed -/
theorem done_as {CD CS : Addr} {H : Hp} {D : Addr} {d : Desk} {c : Nat} {F G : Addr → Prop} {x : IhSpans.Call} {Q : VK} (h : DeskAt CD CS H D d c F) (hG : ∀ b, F b → G b) (k : Done CD CS H D d c G x Q) (e : Sp.next d x = d) {p : Addr} {H' : Hp} (sm : Same H H') (hp : H p = none) {l : List V} (hl : H' p = some (.lst l))
    (el : l = iz (Sp.nums d x)) : Q (.ref p) H' := by
  subst el
  refine k p H' F ?_ ⟨fun b z => .inl (hG b z), fun b o z _ => sm b o z⟩ hl hp (h.new hp)
  rw [e]
  exact h.wide sm
theorem done_same {CD CS : Addr} {H : Hp} {D : Addr} {d : Desk} {c : Nat} {F : Addr → Prop} {x : IhSpans.Call} {Q : VK} (h : DeskAt CD CS H D d c F) (k : Done CD CS H D d c F x Q) (e : Sp.next d x = d) {p : Addr} (hp : H p = none) {l : List V} (el : l = iz (Sp.nums d x)) :
    Q (.ref p) (upd H p (.lst l)) := done_as h (fun _ z => z) k e (same_new hp) hp upd_same el
/-- an answer behind a change of the desk: H1 has the desk as it is then -/
theorem done_by {CD CS : Addr} {H H1 : Hp} {D : Addr} {d : Desk} {c : Nat} {F F1 : Addr → Prop} {x : IhSpans.Call} {Q : VK} (k : Done CD CS H D d c F x Q) (h1 : DeskAt CD CS H1 D (Sp.next d x) (c + 1) F1) (st : Step H F H1 F1) {p : Addr} {H' : Hp} (sm : Same H1 H') (hp : H1 p = none) (hp0 : H p = none)
    {l : List V} (hl : H' p = some (.lst l)) (el : l = iz (Sp.nums d x)) : Q (.ref p) H' := by
  subst el
  exact k p H' F1 (h1.keep fun b o _ z => sm b o z) (st.trans (Same.step sm)) hl hp0 (h1.new hp)
/-- a desk that is new, or was begun anew -/
theorem desk_begun {CD CS : Addr} {H : Hp} {D S M dx : Addr} {n c : Nat} (hn : n ≤ IhSpan.LONGEST) (h1 : H D = some (.ins CD dx (dkf n S M))) (h2 : H S = some (.lst [.int 0])) (h3 : H M = some (.dK [])) : DeskIn CD CS H D S M [] ⟨n, [0], []⟩ c := by
  have sn : ∀ i, (⟨n, [0], []⟩ : Desk).span i = none := fun i => by
    unfold IhSpan.Desk.span
    rfl
  refine ⟨⟨dx, h1⟩, h2, h3, List.nodup_nil, fun k hk => (by cases hk), fun i => ?_, fun i j a z => (by cases z), Nat.zero_le _, ?_⟩
  · rw [sn i]
    rfl
  · refine ⟨hn, ⟨[], rfl⟩, List.pairwise_singleton _ _, fun s hs => ?_, by show 1 ≤ IhSpan.PAGES; decide, fun i s z => ?_, Nat.zero_le _⟩
    · cases hs with
      | head => exact Nat.zero_le _
      | tail _ z => cases z
    · rw [sn i] at z
      cases z
end Bk

set_option autoImplicit false
set_option Elab.async false
set_option linter.all false
set_option maxRecDepth 100000
set_option maxHeartbeats 2000000
namespace Bk
open PySem PySem.Spec PyProof.Rows L2
open IhSpan (Desk)
abbrev cDesk : Stmt := top 17
abbrev sDInit : Stmt := inClass cDesk 0
abbrev sBegin : Stmt := inClass cDesk 1
abbrev sLength : Stmt := inClass cDesk 2
abbrev sPages : Stmt := inClass cDesk 3
abbrev sStart : Stmt := inClass cDesk 4
abbrev sPut : Stmt := inClass cDesk 5
abbrev sDrop : Stmt := inClass cDesk 6
abbrev sGet : Stmt := inClass cDesk 7
abbrev sEdit : Stmt := inClass cDesk 8
abbrev sMove : Stmt := inClass cDesk 9
abbrev sPlace : Stmt := inClass cDesk 10
abbrev sHolds : Stmt := inClass cDesk 11
abbrev sOn : Stmt := inClass cDesk 12
abbrev sInOrder : Stmt := inClass cDesk 13
abbrev sRank : Stmt := inClass cDesk 14
structure TxtD (K : PySem.W.Frag) (mg : Str → Option Value) (C : Addr) : Prop where
  cl : Cls K C
  nle : NoAttr K C "length"
  nst : NoAttr K C "starts"
  nsp : NoAttr K C "spans"
  mostC : ∃ t, mg "MOST_CHARACTERS" = some (.int 2147483647 t)
  mostS : ∃ t, mg "MOST_SPANS" = some (.int 65536 t)
  len : mg "len" = none
  list : mg "list" = none
  sorted : mg "sorted" = none
section
variable {P : Program} {w : World} {K : PySem.W.Frag} {mg : Str → Option Value} {base : Heap}
def spDInit (CD CS : Addr) : Sp := fun vs H Q _ => ∃ (p dx : Addr), vs = [.ref p] ∧ H p = some (.ins CD dx []) ∧ ∀ (H' : Hp) (F' : Addr → Prop), DeskAt CD CS H' p SpNeutral.start 0 F' → Step H (fun b => b = p) H' F' → Q .non H'
theorem scDInit : FnScope ["self"] ["self"] (defScope sDInit) := ⟨rfl, rfl, rfl, by decide +kernel, rfl, by decide +kernel, by decide +kernel⟩
/-- the three values of a desk that begins are laid: D's object, new starts, a new dict -/
theorem laid3 {H : Hp} {D S M : Addr} {o1 o2 o3 s m o0 : HO} (h0 : H D = some o0) (hS : upd H D o1 S = none) (hM : upd (upd (upd H D o1) S s) D o2 M = none) :
    let H' := upd (upd (upd (upd (upd H D o1) S s) D o2) M m) D o3
    H' D = some o3 ∧ H' S = some s ∧ H' M = some m ∧ H S = none ∧ H M = none ∧ ∀ b o, H b = some o → b ≠ D → H' b = some o := by
  have nSD : S ≠ D := fun z => by rw [z, upd_same] at hS; cases hS
  have nMD : M ≠ D := fun z => by rw [z, upd_same] at hM; cases hM
  rw [upd_ne nSD] at hS
  rw [upd_ne nMD] at hM
  have nMS : M ≠ S := fun z => by rw [z, upd_same] at hM; cases hM
  rw [upd_ne nMS, upd_ne nMD] at hM
  refine ⟨upd_same, ?_, ?_, hS, hM, fun b o e n => ?_⟩
  · rw [upd_ne nSD, upd_ne (Ne.symm nMS), upd_ne nSD, upd_same]
  · rw [upd_ne nMD, upd_same]
  · rw [upd_ne n, upd_ne (ne_of_none e hM), upd_ne n, upd_ne (ne_of_none e hS), upd_ne n]
    exact e
theorem ok_dinit {f CD CS : Addr} {fd : FuncData} (F : Fun K "__init__" "Desk.__init__" sDInit f fd) (T : TxtD K mg CD) : FnOk P w K mg base CX0 1 f fd ["self"] (spDInit CD CS) := by
  refine F.ok scDInit (fun vs H Q E h => ?_) (fun cdv A outer s H vs Q E hr h => ?_)
  · obtain ⟨p, dx, rfl, _⟩ := h
    rfl
  · obtain ⟨p, dx, rfl, hp, k⟩ := h
    refine ⟨_, pss_cons (ps_fld (pv 0) pe_int rfl) (pss_cons (ps_fld (pv 0) (pe_lst (pa_cons pe_int pa_nil)) rfl) (pss_one (ps_fld (pv 0) pe_dnewK rfl))), ?_⟩
    refine ⟨_, rfl, p, CD, dx, [], rfl, hp, T.cl, T.nle, (by show 0 < 1000; decide), ?_⟩
    refine ⟨(by show 1 ≤ sizeLine; decide), fun S hS => ?_⟩
    have n1 : p ≠ S := fun z => by rw [← z, upd_same] at hS; cases hS
    refine ⟨_, rfl, p, CD, dx, _, rfl, (upd_ne n1).trans upd_same, T.cl, T.nst, (by show 1 < 1000; decide), ?_⟩
    · intro M hM
      have n2 : p ≠ M := fun z => by rw [← z, upd_same] at hM; cases hM
      refine ⟨_, rfl, p, CD, dx, _, rfl, (upd_ne n2).trans upd_same, T.cl, T.nsp, (by show 2 < 1000; decide), ?_⟩
      · obtain ⟨e1, e2, e3, e4, e5, e6⟩ := laid3 (o3 := .ins CD dx (dkf 0 S M)) (m := .dK []) hp hS hM
        refine k _ (Foot p S M []) ⟨S, M, [], desk_begun (n := 0) (Nat.zero_le _) e1 e2 e3, fun _ => Iff.rfl⟩ ⟨fun b hb => ?_, fun b o e n => e6 b o e n⟩
        rcases hb with rfl | rfl | rfl | ⟨i, z⟩
        · exact .inl rfl
        · exact .inr e4
        · exact .inr e5
        · cases z
def spBegin (CD CS : Addr) : Sp := fun vs H Q _ => ∃ (D : Addr) (d : Desk) (c n : Nat) (F : Addr → Prop), vs = [.ref D, .int n] ∧ DeskAt CD CS H D d c F ∧ Done CD CS H D d c F (.begin_ n) Q
theorem scBegin : FnScope ["self", "length"] ["self", "length"] (defScope sBegin) := ⟨rfl, rfl, rfl, by decide +kernel, rfl, by decide +kernel, by decide +kernel⟩
theorem ok_begin {f CD CS : Addr} {fd : FuncData} (F : Fun K "begin" "Desk.begin" sBegin f fd) (T : TxtD K mg CD) (cA : Cal P w K mg base 1 "answered" ["numbers"] spAnswered) (cR : Cal P w K mg base 1 "refused" ["number"] spRefused) :
    FnOk P w K mg base CX0 2 f fd ["self", "length"] (spBegin CD CS) := by
  refine F.ok scBegin (fun vs H Q E h => ?_) (fun cdv A outer s H vs Q E hr h => ?_)
  · obtain ⟨D, d, c, n, G, rfl, _⟩ := h
    rfl
  · obtain ⟨D, d, c, n, G, rfl, hD, k⟩ := h
    refine ⟨_, pss_cons (ps_if (pt_cmpR op_gt (pv 1) (pe_num T.mostC) (nomark _)) (pss_one (ps_ret (pe_cal cR hr (pa_cons pe_int pa_nil)))) pss_nil)
      (pss_cons (ps_fld (pv 0) (pv 1) rfl) (pss_cons (ps_fld (pv 0) (pe_lst (pa_cons pe_int pa_nil)) rfl) (pss_cons (ps_fld (pv 0) pe_dnewK rfl) (pss_one (ps_ret (pe_cal cA hr (pa_cons (pe_lst (pa_cons pe_int pa_nil)) pa_nil))))))), ?_⟩
    refine ⟨_, rfl, _, _, rfl, rfl, _, rfl, ?_⟩
    refine ite2 (fun h1 => ?_) (fun h1 => ?_)
    · have h1 : IhSpan.LONGEST < n := by
        have := of_decide_eq_true h1
        show 2147483647 < n
        omega
      have e : IhSpans.step d (.begin_ n) = (d, .refused 1) := if_pos h1
      refine ⟨_, rfl, fun p hp => ?_⟩
      exact done_same hD k (by unfold Sp.next; rw [e]) hp (by unfold Sp.nums; rw [e]; rfl)
    · have h1 : ¬ IhSpan.LONGEST < n := by
        rw [decide_eq_true_eq] at h1
        show ¬ 2147483647 < n
        omega
      have e : IhSpans.step d (.begin_ n) = (⟨n, [0], []⟩, .number 0) := if_neg h1
      obtain ⟨S0, M0, kvs, hI, hF⟩ := hD
      obtain ⟨dx, hp⟩ := hI.obj
      refine ⟨_, rfl, _, rfl, D, CD, dx, _, rfl, hp, T.cl, T.nle, (by show 3 < 1000; decide), ?_⟩
      refine ⟨(by show 1 ≤ sizeLine; decide), fun S hS => ?_⟩
      have n1 : D ≠ S := fun z => by rw [← z, upd_same] at hS; cases hS
      refine ⟨_, rfl, D, CD, dx, _, rfl, (upd_ne n1).trans upd_same, T.cl, T.nst, (by show 3 < 1000; decide), ?_⟩
      · intro M hM
        have n2 : D ≠ M := fun z => by rw [← z, upd_same] at hM; cases hM
        refine ⟨_, rfl, D, CD, dx, _, rfl, (upd_ne n2).trans upd_same, T.cl, T.nsp, (by show 3 < 1000; decide), ?_⟩
        · obtain ⟨e1, e2, e3, e4, e5, e6⟩ := laid3 (o3 := .ins CD dx (dkf n S M)) (m := .dK []) hp hS hM
          have ed : Sp.next d (.begin_ n) = ⟨n, [0], []⟩ := by unfold Sp.next; rw [e]
          have en : Sp.nums d (.begin_ n) = [0, 0] := by unfold Sp.nums; rw [e]; rfl
          have hI' : DeskIn CD CS _ D S M [] ⟨n, [0], []⟩ (c + 1) := desk_begun (CS := CS) (Nat.le_of_not_lt h1) e1 e2 e3
          refine ⟨(by show 1 ≤ sizeLine; decide), fun q hq => ⟨q, _, rfl, upd_same, (by show 1 < 1000000; decide), fun p H' sm hp1 hl => ?_⟩⟩
          have hp' := upd_none hp1
          refine done_by k (F1 := Foot D S M []) ⟨S, M, [], by rw [ed]; exact hI', fun _ => Iff.rfl⟩ ⟨fun b hb => ?_, fun b o q n => e6 b o q (fun z => n ((hF b).mpr (.inl z)))⟩ ((same_new hq).trans sm) hp' ?_ hl (by rw [en]; rfl)
          · rcases hb with rfl | rfl | rfl | ⟨i, z⟩
            · exact .inl ((hF _).mpr (.inl rfl))
            · exact .inr e4
            · exact .inr e5
            · cases z
          · cases z : H p with
            | none => rfl
            | some o =>
              by_cases zz : p = D
              · rw [zz, upd_same] at hp'
                cases hp'
              · exact absurd ((e6 p o z zz).symm.trans hp') (by intro y; cases y)
def spLength (CD CS : Addr) : Sp := fun vs H Q _ => ∃ (D : Addr) (d : Desk) (c : Nat) (F : Addr → Prop), vs = [.ref D] ∧ DeskAt CD CS H D d c F ∧ Done CD CS H D d c F .length Q
theorem scLength : FnScope ["self"] ["self"] (defScope sLength) := ⟨rfl, rfl, rfl, by decide +kernel, rfl, by decide +kernel, by decide +kernel⟩
theorem ok_length {f CD CS : Addr} {fd : FuncData} (F : Fun K "tell_length" "Desk.tell_length" sLength f fd) (T : TxtD K mg CD) (cA : Cal P w K mg base 1 "answered" ["numbers"] spAnswered) :
    FnOk P w K mg base CX0 2 f fd ["self"] (spLength CD CS) := by
  refine F.ok scLength (fun vs H Q E h => ?_) (fun cdv A outer s H vs Q E hr h => ?_)
  · obtain ⟨D, d, c, G, rfl, _⟩ := h
    rfl
  · obtain ⟨D, d, c, G, rfl, hD, k⟩ := h
    refine ⟨_, pss_one (ps_ret (pe_cal cA hr (pa_cons (pe_lst (pa_cons (pe_fld (pv 0) rfl) pa_nil)) pa_nil))), ?_⟩
    have hD' := hD
    obtain ⟨S, M, kvs, hI, hF⟩ := hD'
    obtain ⟨dx, hp⟩ := hI.obj
    exact ⟨_, rfl, D, CD, dx, _, _, rfl, hp, T.cl, T.nle, rfl, (by show 1 ≤ sizeLine; decide), fun q hq => ⟨q, _, rfl, upd_same, (by show 1 < 1000000; decide), fun p H' sm hp1 hl => done_as hD (fun _ z => z) k rfl ((same_new hq).trans sm) (upd_none hp1) hl rfl⟩⟩
def spPages (K : PySem.W.Frag) (CD CS : Addr) : Sp := fun vs H Q _ => ∃ (D a : Addr) (d : Desk) (c : Nat) (l : List Nat) (F : Addr → Prop), vs = [.ref D, .ref a] ∧ SqL K H a (iv l) ∧ DeskAt CD CS H D d c F ∧ Done CD CS H D d c F (.pages l) Q
theorem scPages : FnScope ["self", "starts"] ["self", "starts"] (defScope sPages) := ⟨rfl, rfl, rfl, by decide +kernel, rfl, by decide +kernel, by decide +kernel⟩
theorem ok_pages {f CD CS : Addr} {fd : FuncData} (F : Fun K "pages" "Desk.pages" sPages f fd) (T : TxtD K mg CD) (cA : Cal P w K mg base 1 "answered" ["numbers"] spAnswered) (cR : Cal P w K mg base 1 "refused" ["number"] spRefused)
    (cS : Cal P w K mg base 1 "are_starts" ["starts", "length"] (spAreStarts K)) : FnOk P w K mg base CX0 2 f fd ["self", "starts"] (spPages K CD CS) := by
  refine F.ok scPages (fun vs H Q E h => ?_) (fun cdv A outer s H vs Q E hr h => ?_)
  · obtain ⟨D, a, d, c, l, G, rfl, _⟩ := h
    rfl
  · obtain ⟨D, a, d, c, l, G, rfl, hS, hD, k⟩ := h
    refine ⟨_, pss_cons (ps_if (pt_not (pt_val (pe_cal cS hr (pa_cons (pv 1) (pa_cons (pe_fld (pv 0) rfl) pa_nil))))) (pss_one (ps_ret (pe_cal cR hr (pa_cons pe_int pa_nil)))) pss_nil)
      (pss_cons (ps_fld (pv 0) (pe_callTy call_list_of (by rfl) T.list (by rfl) (pa_cons (pv 1) pa_nil)) rfl) (pss_one (ps_ret (pe_cal cA hr (pa_cons (pe_lst (pa_cons pe_int pa_nil)) pa_nil))))), ?_⟩
    have hD' := hD
    obtain ⟨S, M, kvs, hI, hF⟩ := hD'
    obtain ⟨dx, hp⟩ := hI.obj
    refine ⟨_, rfl, _, rfl, D, CD, dx, _, _, rfl, hp, T.cl, T.nle, rfl, a, l, d.length, rfl, hS, fun r hr' => ⟨r, rfl, ?_⟩⟩
    cases r with
    | false =>
      have nr : ¬ IhSpan.startsRight l d.length = true := fun z => absurd (hr'.mpr z) (by decide)
      have e : IhSpans.step d (.pages l) = (d, .refused 1) := if_neg nr
      refine iteT ⟨_, rfl, fun p hp => ?_⟩
      exact done_same hD k (by unfold Sp.next; rw [e]) hp (by unfold Sp.nums; rw [e]; rfl)
    | true =>
      have yr : IhSpan.startsRight l d.length = true := hr'.mp rfl
      have e : IhSpans.step d (.pages l) = ({ d with starts := l }, .number 0) := if_pos yr
      refine iteF ⟨_, rfl, a, _, rfl, .inl hS, fun S' hS' => ?_⟩
      have n1 : D ≠ S' := ne_of_none hp hS'
      refine ⟨_, rfl, D, CD, dx, _, rfl, (upd_ne n1).trans hp, T.cl, T.nst, (by show 3 < 1000; decide), ?_⟩
      have ed : Sp.next d (.pages l) = { d with starts := l } := by unfold Sp.next; rw [e]
      have en : Sp.nums d (.pages l) = [0, 0] := by unfold Sp.nums; rw [e]; rfl
      have nS : S' ≠ D := fun z => n1 z.symm
      have kp : ∀ b o, H b = some o → b ≠ D → (upd (upd H S' (.lst (iv l))) D (.ins CD dx (dkf d.length S' M))) b = some o := fun b o z n => by
        rw [upd_ne n, upd_ne (ne_of_none z hS')]
        exact z
      have hI' : DeskIn CD CS (upd (upd H S' (.lst (iv l))) D (.ins CD dx (dkf d.length S' M))) D S' M kvs { d with starts := l } (c + 1) := by
        have nx := Sp.next_ok hI.ok (.pages l)
        rw [ed] at nx
        have nMD : M ≠ D := ne_of hI.mp hp (by intro z; cases z)
        refine ⟨⟨dx, upd_same⟩, by rw [upd_ne nS, upd_same], kp _ _ hI.mp nMD, hI.nd, hI.keys, fun n => ?_, hI.inj, Nat.le_succ_of_le hI.few, nx⟩
        have q := hI.sp n
        show SpanIn CS _ kvs n (d.span n)
        cases e2 : d.span n with
        | none => rw [e2] at q; exact q
        | some t =>
          rw [e2] at q
          obtain ⟨b, q1, dy, q2⟩ := q
          have nb : b ≠ D := ne_of q2 hp (by intro z; cases z)
          exact ⟨b, q1, dy, kp _ _ q2 nb⟩
      refine ⟨(by show 1 ≤ sizeLine; decide), fun q hq => ⟨q, _, rfl, upd_same, (by show 1 < 1000000; decide), fun p H' sm hp1 hl => ?_⟩⟩
      have hp' := upd_none hp1
      refine done_by k (F1 := Foot D S' M kvs) ⟨S', M, kvs, by rw [ed]; exact hI', fun _ => Iff.rfl⟩ ⟨fun b hb => ?_, fun b o z n => kp b o z fun y => n ((hF b).mpr (.inl y))⟩ ((same_new hq).trans sm) hp' (upd_none (upd_none hp')) hl (by rw [en]; rfl)
      rcases hb with rfl | rfl | rfl | z
      · exact .inl ((hF _).mpr (.inl rfl))
      · exact .inr hS'
      · exact .inl ((hF _).mpr (.inr (.inr (.inl rfl))))
      · exact .inl ((hF _).mpr (.inr (.inr (.inr z))))
def spStart (CD CS : Addr) : Sp := fun vs H Q _ => ∃ (D : Addr) (d : Desk) (c n : Nat) (F : Addr → Prop), vs = [.ref D, .int n] ∧ DeskAt CD CS H D d c F ∧ Done CD CS H D d c F (.start n) Q
theorem scStart : FnScope ["self", "page"] ["self", "page"] (defScope sStart) := ⟨rfl, rfl, rfl, by decide +kernel, rfl, by decide +kernel, by decide +kernel⟩
theorem ok_start {f CD CS : Addr} {fd : FuncData} (F : Fun K "start" "Desk.start" sStart f fd) (T : TxtD K mg CD) (cA : Cal P w K mg base 1 "answered" ["numbers"] spAnswered) (cR : Cal P w K mg base 1 "refused" ["number"] spRefused) :
    FnOk P w K mg base CX0 2 f fd ["self", "page"] (spStart CD CS) := by
  refine F.ok scStart (fun vs H Q E h => ?_) (fun cdv A outer s H vs Q E hr h => ?_)
  · obtain ⟨D, d, c, n, G, rfl, _⟩ := h
    rfl
  · obtain ⟨D, d, c, n, G, rfl, hD, k⟩ := h
    refine ⟨_, pss_cons (ps_if (pt_cmpR op_ge (pv 1) (pe_callB call_len_seq (by rfl) T.len PySem.boot_len (pa_cons (pe_fld (pv 0) rfl) pa_nil)) (nomark _)) (pss_one (ps_ret (pe_cal cR hr (pa_cons pe_int pa_nil)))) pss_nil)
      (pss_one (ps_ret (pe_cal cA hr (pa_cons (pe_lst (pa_cons (pe_ix ix_list (pe_fld (pv 0) rfl) (pv 1) (fun _ _ => rfl)) pa_nil)) pa_nil)))), ?_⟩
    have hD' := hD
    obtain ⟨S, M, kvs, hI, hF⟩ := hD'
    obtain ⟨dx, hp⟩ := hI.obj
    refine ⟨_, rfl, _, rfl, D, CD, dx, _, _, rfl, hp, T.cl, T.nst, rfl, S, _, rfl, .inl (SqL.of hI.st), _, _, rfl, rfl, _, rfl, ?_⟩
    rw [iv_len]
    refine ite2 (fun h1 => ?_) (fun h1 => ?_)
    · have h1 := of_decide_eq_true h1
      have e : d.starts[n]? = none := List.getElem?_eq_none (by omega)
      refine ⟨_, rfl, fun p hp => ?_⟩
      refine done_same hD k rfl hp ?_
      show _ = iz (SpNeutral.numbers (match d.starts[n]? with
        | some s => .number s
        | none => .refused 1))
      rw [e]
      rfl
    · rw [decide_eq_true_eq] at h1
      have hn : n < d.starts.length := by omega
      have e : d.starts[n]? = some d.starts[n] := List.getElem?_eq_getElem hn
      refine ⟨_, rfl, D, CD, dx, _, _, rfl, hp, T.cl, T.nst, rfl, _, rfl, S, _, _, _, rfl, rfl, SqL.of hI.st, atI_nat (iv_get e), (by show 1 ≤ sizeLine; decide), fun q hq => ⟨q, _, rfl, upd_same, (by show 1 < 1000000; decide), fun p H' sm hp1 hl => ?_⟩⟩
      refine done_as hD (fun _ z => z) k rfl ((same_new hq).trans sm) (upd_none hp1) hl ?_
      show _ = iz (SpNeutral.numbers (match d.starts[n]? with
        | some s => .number s
        | none => .refused 1))
      rw [e]
      rfl
end
end Bk

set_option autoImplicit false
set_option Elab.async false
set_option linter.all false
set_option maxRecDepth 100000
set_option maxHeartbeats 2000000
namespace Bk
open PySem PySem.Spec PyProof.Rows L2
open IhSpan (Desk)
theorem put_right (s : IhSpan.Span) (n : Nat) : s.right n = true ↔ ((s.from_ : Int) < s.to_ ∧ (s.to_ : Int) ≤ n) ∧ ((s.kind : Int) ≤ 3 ∧ (bit s.main = 0 ∨ (bit s.main = 1 ∧ (s.kind : Int) = 0)) ∧ ((s.kind : Int) = 1 → 1 ≤ (s.note : Int) ∧ (s.note : Int) ≤ 16777215) ∧ ((s.kind : Int) ≠ 1 → (s.note : Int) = 0)) := by
  rw [Sp.right_iff]
  have hN : IhSpan.NOTES = 16777215 := rfl
  have hb : (bit s.main = 0 ∨ (bit s.main = 1 ∧ (s.kind : Int) = 0)) ↔ (s.kind = 0 ∨ s.main = false) := by
    unfold bit
    cases s.main with
    | true =>
      rw [if_pos rfl]
      constructor
      · rintro (z | ⟨_, z⟩)
        · cases z
        · exact .inl (by omega)
      · rintro (z | z)
        · exact .inr ⟨rfl, by omega⟩
        · cases z
    | false => rw [if_neg (by decide)]; exact ⟨fun _ => .inr rfl, fun _ => .inl rfl⟩
  rw [hb, hN]
  constructor
  · rintro ⟨h1, h2, h3, h4, h5, h6⟩
    exact ⟨⟨by omega, by omega⟩, by omega, h4, fun z => ⟨by have := h5 (by omega); omega, by have := h5 (by omega); omega⟩, fun z => by have := h6 (by omega); omega⟩
  · rintro ⟨⟨h1, h2⟩, h3, h4, h5, h6⟩
    exact ⟨by omega, by omega, by omega, h4, fun z => ⟨by have := h5 (by omega); omega, by have := h5 (by omega); omega⟩, fun z => by have := h6 (by omega); omega⟩
theorem valV_drop {κ : Type} [DecidableEq κ] (k j : κ) : ∀ kvs : List (κ × V), valV (dropK kvs k) j = if j = k then none else valV kvs j
  | [] => by
    show none = _
    split <;> rfl
  | p :: r => by
    by_cases e : p.1 = k
    · rw [dropK_pos e, valV_drop k j r]
      by_cases q : j = k
      · rw [if_pos q, if_pos q]
      · rw [if_neg q, if_neg q, valV_neg fun z => q (z.symm.trans e)]
    · rw [dropK_neg e]
      by_cases q : p.1 = j
      · rw [valV_pos q, valV_pos q, if_neg fun z => e (q.trans z)]
      · rw [valV_neg q, valV_neg q, valV_drop k j r]
theorem inl_inj {n m : Nat} (h : (Sum.inl (n : Int) : Key) = Sum.inl (m : Int)) : n = m := by
  have := Sum.inl.inj h
  omega
theorem DeskIn.some {CD CS : Addr} {H : Hp} {D S M : Addr} {kvs : List (Key × V)} {d : Desk} {c n : Nat} {s : IhSpan.Span} (h : DeskIn CD CS H D S M kvs d c) (e : d.span n = some s) : ∃ a, valV kvs (Sum.inl (n : Int)) = some (.ref a) ∧ SpanAt CS H a s := by
  have q := h.sp n
  rw [e] at q
  exact q
theorem DeskIn.none {CD CS : Addr} {H : Hp} {D S M : Addr} {kvs : List (Key × V)} {d : Desk} {c n : Nat} (h : DeskIn CD CS H D S M kvs d c) (e : d.span n = none) : valV kvs (Sum.inl (n : Int)) = none := by
  have q := h.sp n
  rw [e] at q
  exact q
theorem desk_put {CD CS : Addr} {H : Hp} {D S M q dq : Addr} {kvs : List (Key × V)} {d : Desk} {c : Nat} {t : IhSpan.Span} (h : DeskIn CD CS H D S M kvs d c) (hq : H q = some (.ins CS dq (spf t))) (nq : ¬ Foot D S M kvs q) (yr : t.right d.length = true) :
    DeskIn CD CS (upd H M (.dK (putK kvs (Sum.inl (d.free : Int)) (.ref q)))) D S M (putK kvs (Sum.inl (d.free : Int)) (.ref q)) (d.put d.free (some t)) (c + 1) ∧
      ∀ b, Foot D S M (putK kvs (Sum.inl (d.free : Int)) (.ref q)) b → Foot D S M kvs b ∨ b = q := by
  obtain ⟨dx, hp⟩ := h.obj
  have nDM : D ≠ M := ne_of hp h.mp (by intro z; cases z)
  have nSM : S ≠ M := ne_of h.st h.mp (by intro z; cases z)
  have fr := h.none (Sp.free_none d)
  have vv : ∀ j : Nat, valV (putK kvs (Sum.inl (d.free : Int)) (.ref q)) (Sum.inl (j : Int)) = if j = d.free then some (.ref q) else valV kvs (Sum.inl (j : Int)) := fun j => by
    rw [valV_put]
    by_cases e : j = d.free
    · rw [if_pos e, if_pos (by rw [e])]
    · rw [if_neg e, if_neg fun z => e (inl_inj z)]
  have kp : ∀ (a : Addr) (s : IhSpan.Span), SpanAt CS H a s → SpanAt CS (upd H M (.dK (putK kvs (Sum.inl (d.free : Int)) (.ref q)))) a s := fun a s ⟨dy, e⟩ => ⟨dy, by rw [upd_ne (ne_of e h.mp (by intro z; cases z))]; exact e⟩
  have nxt : Sp.DOk (d.put d.free (some t)) (c + 1) := Sp.put_ok h.ok yr
  refine ⟨⟨⟨dx, by rw [upd_ne nDM]; exact hp⟩, by rw [upd_ne nSM]; exact h.st, upd_same, nd_putK _ h.nd fr, fun k hk => ?_, fun n => ?_, fun n m a h1 h2 => ?_, Nat.le_trans (length_putK _ _ _) (Nat.succ_le_succ h.few), nxt⟩, fun b hb => ?_⟩
  · rw [putK_new _ fr, List.map_append] at hk
    rcases List.mem_append.mp hk with z | z
    · exact h.keys k z
    · exact ⟨d.free, List.mem_singleton.mp z⟩
  · rw [Sp.span_put (Sp.free_le d)]
    by_cases e : n = d.free
    · rw [if_pos e]
      exact ⟨q, by rw [vv, if_pos e], kp q t ⟨dq, hq⟩⟩
    · rw [if_neg e]
      cases e2 : d.span n with
      | none =>
        show valV _ _ = _
        rw [vv, if_neg e]
        exact h.none e2
      | some s =>
        obtain ⟨a, h1, h2⟩ := h.some e2
        exact ⟨a, by rw [vv, if_neg e]; exact h1, kp a s h2⟩
  · rw [vv] at h1 h2
    by_cases e1 : n = d.free
    · by_cases e2 : m = d.free
      · rw [e1, e2]
      · rw [if_pos e1] at h1
        rw [if_neg e2] at h2
        cases h1
        exact absurd (.inr (.inr (.inr ⟨m, h2⟩))) nq
    · rw [if_neg e1] at h1
      by_cases e2 : m = d.free
      · rw [if_pos e2] at h2
        cases h2
        exact absurd (.inr (.inr (.inr ⟨n, h1⟩))) nq
      · rw [if_neg e2] at h2
        exact h.inj n m a h1 h2
  · rcases hb with z | z | z | ⟨n, z⟩
    · exact .inl (.inl z)
    · exact .inl (.inr (.inl z))
    · exact .inl (.inr (.inr (.inl z)))
    · rw [vv] at z
      by_cases e : n = d.free
      · rw [if_pos e] at z
        cases z
        exact .inr rfl
      · rw [if_neg e] at z
        exact .inl (.inr (.inr (.inr ⟨n, z⟩)))
theorem desk_drop {CD CS : Addr} {H : Hp} {D S M : Addr} {kvs : List (Key × V)} {d : Desk} {c n : Nat} {t : IhSpan.Span} (h : DeskIn CD CS H D S M kvs d c) (e : d.span n = some t) :
    DeskIn CD CS (upd H M (.dK (dropK kvs (Sum.inl (n : Int))))) D S M (dropK kvs (Sum.inl (n : Int))) (d.put n none) (c + 1) := by
  obtain ⟨dx, hp⟩ := h.obj
  have nDM : D ≠ M := ne_of hp h.mp (by intro z; cases z)
  have nSM : S ≠ M := ne_of h.st h.mp (by intro z; cases z)
  have vv : ∀ j : Nat, valV (dropK kvs (Sum.inl (n : Int))) (Sum.inl (j : Int)) = if j = n then none else valV kvs (Sum.inl (j : Int)) := fun j => by
    rw [valV_drop]
    by_cases e : j = n
    · rw [if_pos e, if_pos (by rw [e])]
    · rw [if_neg e, if_neg fun z => e (inl_inj z)]
  have nxt : Sp.DOk (d.put n none) (c + 1) := by
    have q := Sp.next_ok h.ok (.drop n)
    have e3 : Sp.next d (.drop n) = d.put n none := by
      show (match d.span n with
        | some _ => (d.put n none, IhSpans.Answer.number 0)
        | none => (d, .refused 3)).1 = _
      rw [e]
    rw [e3] at q
    exact q
  refine ⟨⟨dx, by rw [upd_ne nDM]; exact hp⟩, by rw [upd_ne nSM]; exact h.st, upd_same, nd_dropK h.nd, fun k hk => ?_, fun j => ?_, fun i j a h1 h2 => ?_, Nat.le_succ_of_le (Nat.le_trans (dropK_le _ _) h.few), nxt⟩
  · obtain ⟨p, hp, rfl⟩ := List.mem_map.mp hk
    exact h.keys _ (List.mem_map.mpr ⟨p, dropK_mem hp, rfl⟩)
  · rw [Sp.span_put (Nat.le_of_lt (Sp.span_lt e))]
    by_cases q : j = n
    · rw [if_pos q]
      show valV _ _ = _
      rw [vv, if_pos q]
    · rw [if_neg q]
      cases e2 : d.span j with
      | none =>
        show valV _ _ = _
        rw [vv, if_neg q]
        exact h.none e2
      | some s =>
        obtain ⟨a, h1, dy, h2⟩ := h.some e2
        exact ⟨a, by rw [vv, if_neg q]; exact h1, dy, by rw [upd_ne (ne_of h2 h.mp (by intro z; cases z))]; exact h2⟩
  · rw [vv] at h1 h2
    by_cases e1 : i = n
    · rw [if_pos e1] at h1; cases h1
    · rw [if_neg e1] at h1
      by_cases e2 : j = n
      · rw [if_pos e2] at h2; cases h2
      · rw [if_neg e2] at h2
        exact h.inj i j a h1 h2
section
variable {P : Program} {w : World} {K : PySem.W.Frag} {mg : Str → Option Value} {base : Heap}
def spPut (CD CS : Addr) : Sp := fun vs H Q _ => ∃ (D q dq : Addr) (d : Desk) (c : Nat) (s : IhSpan.Span) (F : Addr → Prop), vs = [.ref D, .ref q] ∧ H q = some (.ins CS dq (spf s)) ∧ ¬ F q ∧ c < 400 ∧ DeskAt CD CS H D d c F ∧ Done CD CS H D d c (fun b => F b ∨ b = q) (.put s) Q
theorem scPut : FnScope ["self", "span", "number"] ["self", "span"] (defScope sPut) := ⟨rfl, rfl, rfl, by decide +kernel, rfl, by decide +kernel, by decide +kernel⟩
theorem ok_put {f CD CS : Addr} {fd : FuncData} (F : Fun K "put" "Desk.put" sPut f fd) (T : TxtD K mg CD) (TS : TxtS K mg CS) (cA : Cal P w K mg base 1 "answered" ["numbers"] spAnswered) (cR : Cal P w K mg base 1 "refused" ["number"] spRefused)
    (cL : Cal P w K mg base 1 "least_free" ["spans"] spLeastFree) (mF : CalM P w K mg base CS 1 "fits" ["self", "length"] (spFits CS)) (mS : CalM P w K mg base CS 2 "is_sound" ["self"] (spSound CS)) : FnOk P w K mg base CX0 3 f fd ["self", "span"] (spPut CD CS) := by
  refine F.ok scPut (fun vs H Q E h => ?_) (fun cdv A outer s H vs Q E hr h => ?_)
  · obtain ⟨D, q, dq, d, c, s, G, rfl, _⟩ := h
    rfl
  · obtain ⟨D, q, dq, d, c, t, G, rfl, hq, nq, hc, hD, k⟩ := h
    have hr1 : Room 1 _ := hr.mono (by decide)
    have hu := hu_of hr
    refine ⟨_, pss_cons (ps_if (pt_not (PW.pt (pw_and (pt_val (pe_calM mF TS.cl hr1 (pv 1) (pa_cons (pe_fld (pv 0) rfl) pa_nil))) (pw_and1 (pt_val (pe_calM0 mS TS.cl hr (pv 1))))))) (pss_one (ps_ret (pe_cal cR hr1 (pa_cons pe_int pa_nil)))) pss_nil)
      (pss_cons (ps_if (pt_cmpR op_ge (pe_callB call_lenD (by rfl) T.len PySem.boot_len (pa_cons (pe_fld (pv 0) rfl) pa_nil)) (pe_num T.mostS) (nomark _)) (pss_one (ps_ret (pe_cal cR hr1 (pa_cons pe_int pa_nil)))) pss_nil)
      (pss_cons (ps_set (i := 2) scPut.nd rfl (Or.inl rfl) (pe_cal cL hr1 (pa_cons (pe_fld (pv 0) rfl) pa_nil)))
      (pss_cons (ps_dput hu (pe_fld (pv 0) rfl) (pv 2) (pv 1) rfl)
      (pss_one (ps_ret (pe_cal cA hr1 (pa_cons (pe_lst (pa_cons (pv 2) pa_nil)) pa_nil))))))), ?_⟩
    have hD' := hD
    obtain ⟨S, M, kvs, hI, hF⟩ := hD'
    obtain ⟨dx, hp⟩ := hI.obj
    have bad : ¬ t.right d.length = true → ∀ p, H p = Option.none → Q (.ref p) (upd H p (.lst [.int (-1)])) := fun z p hp => by
      have z : t.right d.length = false := by cases y : t.right d.length with | true => exact absurd y z | false => rfl
      have e : IhSpans.step d (.put t) = (d, .refused 1) := if_pos z
      exact done_as hD (fun b => Or.inl) k (by unfold Sp.next; rw [e]) (same_new hp) hp upd_same (by unfold Sp.nums; rw [e]; rfl)
    refine ⟨_, rfl, q, dq, _, rfl, hq, rfl, _, rfl, D, CD, dx, _, _, rfl, hp, T.cl, T.nle, rfl, q, dq, _, _, _, _, _, _, rfl, hq, fun r1 hr1' => ⟨r1, rfl, ?_⟩⟩
    refine ite2 (fun h1 => ?_) (fun h1 => ?_)
    · refine ⟨_, rfl, q, dq, _, rfl, hq, rfl, q, dq, _, _, _, _, _, rfl, hq, fun r2 hr2' => ⟨r2, rfl, ?_⟩⟩
      cases r2 with
      | false => 
        refine iteT ⟨_, rfl, fun p hp => bad (fun z => ?_) p hp⟩
        exact absurd (hr2'.mpr ((put_right t d.length).mp z).2) (by decide)
      | true =>
        have yr : t.right d.length = true := (put_right t d.length).mpr ⟨hr1'.mp h1, hr2'.mp rfl⟩
        have ns : ¬ IhSpan.SPANS ≤ d.free := by
          have h1 := Sp.free_le d
          have h2 := hI.ok.few
          have h3 : IhSpan.SPANS = 65536 := rfl
          omega
        have e : IhSpans.step d (.put t) = (d.put d.free (some t), .number d.free) := by
          show (if t.right d.length = false then (d, IhSpans.Answer.refused 1) else if IhSpan.SPANS ≤ d.free then (d, .refused 2) else (d.put d.free (some t), .number d.free)) = _
          rw [if_neg (by rw [yr]; decide), if_neg ns]
        have ed : Sp.next d (.put t) = d.put d.free (some t) := by unfold Sp.next; rw [e]
        have en : Sp.nums d (.put t) = [0, (d.free : Int)] := by unfold Sp.nums; rw [e]; rfl
        refine iteF ⟨_, rfl, D, CD, dx, _, _, rfl, hp, T.cl, T.nsp, rfl, M, kvs, rfl, hI.mp, _, _, rfl, rfl, _, rfl, ?_⟩
        have few : ¬ (65536 : Int) ≤ kvs.length := by
          have := hI.few
          omega
        rw [decide_eq_false few]
        refine iteF ⟨_, rfl, D, CD, dx, _, _, rfl, hp, T.cl, T.nsp, rfl, M, kvs, d.free, rfl, hI.mp, hI.none (Sp.free_none d), fun j hj => ?_, ?_⟩
        · obtain ⟨u, hu⟩ := Option.isSome_iff_exists.mp (Sp.free_below hj)
          obtain ⟨a, ha, _⟩ := hI.some hu
          rw [ha]
          rfl
        · refine ⟨_, rfl, _, rfl, D, CD, dx, _, _, rfl, hp, T.cl, T.nsp, rfl, _, rfl, M, _, rfl, DPut.k (k := Sum.inl (d.free : Int)) hI.mp (small1000 (by have := hI.few; omega)), ?_⟩
          obtain ⟨hI', h2⟩ := desk_put hI hq (fun z => nq ((hF q).mpr z)) yr
          refine ⟨_, rfl, (by show 1 ≤ sizeLine; decide), fun t' ht' => ⟨t', _, rfl, upd_same, (by show 1 < 1000000; decide), fun p H' sm hp1 hl => ?_⟩⟩
          have hp' := upd_none hp1
          refine done_by k (F1 := Foot D S M (putK kvs (Sum.inl (d.free : Int)) (.ref q))) ⟨S, M, _, by rw [ed]; exact hI', fun _ => Iff.rfl⟩ ⟨fun b hb => ?_, fun b o z n => ?_⟩ ((same_new ht').trans sm) hp' (upd_none hp') hl (by rw [en]; rfl)
          · rcases h2 b hb with z | z
            · exact .inl (.inl ((hF b).mpr z))
            · exact .inl (.inr z)
          · rw [upd_ne fun y => n (.inl ((hF b).mpr (.inr (.inr (.inl y)))))]
            exact z
    · refine iteT ⟨_, rfl, fun p hp => bad (fun z => ?_) p hp⟩
      exact absurd (hr1'.mpr ((put_right t d.length).mp z).1) h1
def spDrop (CD CS : Addr) : Sp := fun vs H Q _ => ∃ (D : Addr) (d : Desk) (c n : Nat) (F : Addr → Prop), vs = [.ref D, .int n] ∧ DeskAt CD CS H D d c F ∧ Done CD CS H D d c F (.drop n) Q
theorem scDrop : FnScope ["self", "number"] ["self", "number"] (defScope sDrop) := ⟨rfl, rfl, rfl, by decide +kernel, rfl, by decide +kernel, by decide +kernel⟩
theorem ok_drop {f CD CS : Addr} {fd : FuncData} (F : Fun K "drop" "Desk.drop" sDrop f fd) (T : TxtD K mg CD) (cA : Cal P w K mg base 1 "answered" ["numbers"] spAnswered) (cR : Cal P w K mg base 1 "refused" ["number"] spRefused) :
    FnOk P w K mg base CX0 2 f fd ["self", "number"] (spDrop CD CS) := by
  refine F.ok scDrop (fun vs H Q E h => ?_) (fun cdv A outer s H vs Q E hr h => ?_)
  · obtain ⟨D, d, c, n, G, rfl, _⟩ := h
    rfl
  · obtain ⟨D, d, c, n, G, rfl, hD, k⟩ := h
    have hu := hu_of hr
    refine ⟨_, pss_cons (ps_if (pt_cmp (pc_dnotin hu (pv 1) (pe_fld (pv 0) rfl))) (pss_one (ps_ret (pe_cal cR hr (pa_cons pe_int pa_nil)))) pss_nil)
      (pss_cons (ps_expr (pe_dpop1 (pe_fld (pv 0) rfl) (pv 1) ⟨rfl, rfl, rfl, rfl⟩)) (pss_one (ps_ret (pe_cal cA hr (pa_cons (pe_lst (pa_cons pe_int pa_nil)) pa_nil))))), ?_⟩
    have hD' := hD
    obtain ⟨S, M, kvs, hI, hF⟩ := hD'
    obtain ⟨dx, hp⟩ := hI.obj
    refine ⟨_, rfl, _, rfl, D, CD, dx, _, _, rfl, hp, T.cl, T.nsp, rfl, M, _, rfl, DGet.k (k := Sum.inl (n : Int)) hI.mp, _, rfl, ?_⟩
    cases e2 : d.span n with
    | none =>
      have e : IhSpans.step d (.drop n) = (d, .refused 3) := by
        show (match d.span n with
          | some _ => (d.put n none, IhSpans.Answer.number 0)
          | none => (d, .refused 3)) = _
        rw [e2]
      rw [hI.none e2]
      refine iteT ⟨_, rfl, fun p hp => ?_⟩
      exact done_same hD k (by unfold Sp.next; rw [e]) hp (by unfold Sp.nums; rw [e]; rfl)
    | some t =>
      have e : IhSpans.step d (.drop n) = (d.put n none, .number 0) := by
        show (match d.span n with
          | some _ => (d.put n none, IhSpans.Answer.number 0)
          | none => (d, .refused 3)) = _
        rw [e2]
      have ed : Sp.next d (.drop n) = d.put n none := by unfold Sp.next; rw [e]
      have en : Sp.nums d (.drop n) = [0, 0] := by unfold Sp.nums; rw [e]; rfl
      obtain ⟨a, ha, hs⟩ := hI.some e2
      rw [ha]
      refine iteF ⟨_, rfl, D, CD, dx, _, _, rfl, hp, T.cl, T.nsp, rfl, M, rfl, .inl ⟨_, .inl hI.mp⟩, _, rfl, kvs, Sum.inl (n : Int), _, hI.mp, rfl, ha, ?_⟩
      have hI' := desk_drop hI e2
      refine ⟨(by show 1 ≤ sizeLine; decide), fun t' ht' => ⟨t', _, rfl, upd_same, (by show 1 < 1000000; decide), fun p H' sm hp1 hl => ?_⟩⟩
      have hp' := upd_none hp1
      refine done_by k (F1 := Foot D S M (dropK kvs (Sum.inl (n : Int)))) ⟨S, M, _, by rw [ed]; exact hI', fun _ => Iff.rfl⟩ ⟨fun b hb => .inl ((hF b).mpr ?_), fun b o z n => ?_⟩ ((same_new ht').trans sm) hp' (upd_none hp') hl (by rw [en]; rfl)
      · rcases hb with z | z | z | ⟨j, z⟩
        · exact .inl z
        · exact .inr (.inl z)
        · exact .inr (.inr (.inl z))
        · rw [valV_drop] at z
          by_cases q : (Sum.inl (j : Int) : Key) = Sum.inl (n : Int)
          · rw [if_pos q] at z; cases z
          · rw [if_neg q] at z
            exact .inr (.inr (.inr ⟨j, z⟩))
      · rw [upd_ne fun y => n ((hF b).mpr (.inr (.inr (.inl y))))]
        exact z
/-! ### get, place -/
theorem span_nums (t : IhSpan.Span) : [V.int 0, V.int t.from_, V.int t.to_, V.int t.kind, V.int (bit t.main), V.int t.note] = iz (SpNeutral.numbers (.span t)) := by
  obtain ⟨a, b, c, d, e⟩ := t
  cases d <;> rfl
def spGet (CD CS : Addr) : Sp := fun vs H Q _ => ∃ (D : Addr) (d : Desk) (c n : Nat) (F : Addr → Prop), vs = [.ref D, .int n] ∧ DeskAt CD CS H D d c F ∧ Done CD CS H D d c F (.get n) Q
theorem scGet : FnScope ["self", "number", "span"] ["self", "number"] (defScope sGet) := ⟨rfl, rfl, rfl, by decide +kernel, rfl, by decide +kernel, by decide +kernel⟩
theorem ok_get {f CD CS : Addr} {fd : FuncData} (F : Fun K "get" "Desk.get" sGet f fd) (T : TxtD K mg CD) (TS : TxtS K mg CS) (cA : Cal P w K mg base 1 "answered" ["numbers"] spAnswered) (cR : Cal P w K mg base 1 "refused" ["number"] spRefused) :
    FnOk P w K mg base CX0 2 f fd ["self", "number"] (spGet CD CS) := by
  refine F.ok scGet (fun vs H Q E h => ?_) (fun cdv A outer s H vs Q E hr h => ?_)
  · obtain ⟨D, d, c, n, G, rfl, _⟩ := h
    rfl
  · obtain ⟨D, d, c, n, G, rfl, hD, k⟩ := h
    have hu := hu_of hr
    have nd := scGet.nd
    refine ⟨_, pss_cons (ps_if (pt_cmp (pc_dnotin hu (pv 1) (pe_fld (pv 0) rfl))) (pss_one (ps_ret (pe_cal cR hr (pa_cons pe_int pa_nil)))) pss_nil)
      (pss_cons (ps_set (i := 2) nd rfl (Or.inl rfl) (pe_dget hu (pe_fld (pv 0) rfl) (pv 1) (fun _ _ => rfl)))
      (pss_one (ps_ret (pe_cal cA hr (pa_cons (pe_lst (pa_cons (pe_fld (pv 2) rfl) (pa_cons (pe_fld (pv 2) rfl) (pa_cons (pe_fld (pv 2) rfl) (pa_cons (pe_fld (pv 2) rfl) (pa_cons (pe_fld (pv 2) rfl) pa_nil)))))) pa_nil))))), ?_⟩
    have hD' := hD
    obtain ⟨S, M, kvs, hI, hF⟩ := hD'
    obtain ⟨dx, hp⟩ := hI.obj
    refine ⟨_, rfl, _, rfl, D, CD, dx, _, _, rfl, hp, T.cl, T.nsp, rfl, M, _, rfl, DGet.k (k := Sum.inl (n : Int)) hI.mp, _, rfl, ?_⟩
    cases e2 : d.span n with
    | none =>
      rw [hI.none e2]
      refine iteT ⟨_, rfl, fun p hp => done_same hD k rfl hp ?_⟩
      show _ = iz (SpNeutral.numbers (match d.span n with
        | some s => .span s
        | none => .refused 3))
      rw [e2]
      rfl
    | some t =>
      obtain ⟨a, ha, dy, hs⟩ := hI.some e2
      rw [ha]
      refine iteF ⟨_, rfl, D, CD, dx, _, _, rfl, hp, T.cl, T.nsp, rfl, _, rfl, M, .ref a, rfl, (by rw [← ha]; exact DGet.k (k := Sum.inl (n : Int)) hI.mp), ?_⟩
      refine ⟨_, rfl, a, CS, dy, _, _, rfl, hs, TS.cl, TS.nso, rfl, _, rfl, a, CS, dy, _, _, rfl, hs, TS.cl, TS.nto, rfl, _, rfl, a, CS, dy, _, _, rfl, hs, TS.cl, TS.nki, rfl, _, rfl, a, CS, dy, _, _, rfl, hs, TS.cl, TS.nma, rfl,
        _, rfl, a, CS, dy, _, _, rfl, hs, TS.cl, TS.nno, rfl, (by show 5 ≤ sizeLine; decide), fun t' ht' => ⟨t', _, rfl, upd_same, (by show 5 < 1000000; decide), fun p H' sm hp1 hl => done_as hD (fun _ z => z) k rfl ((same_new ht').trans sm) (upd_none hp1) hl ?_⟩⟩
      show _ = iz (SpNeutral.numbers (match d.span n with
        | some s => .span s
        | none => .refused 3))
      rw [e2]
      exact span_nums t
def spPlace (CD CS : Addr) : Sp := fun vs H Q _ => ∃ (D : Addr) (d : Desk) (c n : Nat) (F : Addr → Prop), vs = [.ref D, .int n] ∧ DeskAt CD CS H D d c F ∧ Done CD CS H D d c F (.place n) Q
theorem scPlace : FnScope ["self", "number", "span", "first", "last"] ["self", "number"] (defScope sPlace) := ⟨rfl, rfl, rfl, by decide +kernel, rfl, by decide +kernel, by decide +kernel⟩
theorem DeskIn.starts {CD CS : Addr} {H : Hp} {D S M : Addr} {kvs : List (Key × V)} {d : Desk} {c : Nat} (h : DeskIn CD CS H D S M kvs d c) : Starts d.starts := ⟨h.ok.rise, h.ok.first⟩
theorem DeskIn.pos {CD CS : Addr} {H : Hp} {D S M : Addr} {kvs : List (Key × V)} {d : Desk} {c n : Nat} {t : IhSpan.Span} (h : DeskIn CD CS H D S M kvs d c) (e : d.span n = Option.some t) : 0 < t.to_ := by
  have := (Sp.right_iff.mp (h.ok.right n t e)).1
  omega
theorem ok_place {f CD CS : Addr} {fd : FuncData} (F : Fun K "place" "Desk.place" sPlace f fd) (T : TxtD K mg CD) (TS : TxtS K mg CS) (cA : Cal P w K mg base 1 "answered" ["numbers"] spAnswered) (cR : Cal P w K mg base 1 "refused" ["number"] spRefused)
    (m1 : CalM P w K mg base CS 2 "first_page" ["self", "starts"] (spFirstPage K CS)) (m2 : CalM P w K mg base CS 2 "last_page" ["self", "starts"] (spLastPage K CS)) : FnOk P w K mg base CX0 3 f fd ["self", "number"] (spPlace CD CS) := by
  refine F.ok scPlace (fun vs H Q E h => ?_) (fun cdv A outer s H vs Q E hr h => ?_)
  · obtain ⟨D, d, c, n, G, rfl, _⟩ := h
    rfl
  · obtain ⟨D, d, c, n, G, rfl, hD, k⟩ := h
    have hu := hu_of hr
    have hr1 : Room 1 _ := hr.mono (by decide)
    have nd := scPlace.nd
    refine ⟨_, pss_cons (ps_if (pt_cmp (pc_dnotin hu (pv 1) (pe_fld (pv 0) rfl))) (pss_one (ps_ret (pe_cal cR hr1 (pa_cons pe_int pa_nil)))) pss_nil)
      (pss_cons (ps_set (i := 2) nd rfl (Or.inl rfl) (pe_dget hu (pe_fld (pv 0) rfl) (pv 1) (fun _ _ => rfl)))
      (pss_cons (ps_set (i := 3) nd rfl (Or.inl rfl) (pe_calM m1 TS.cl hr (pv 2) (pa_cons (pe_fld (pv 0) rfl) pa_nil)))
      (pss_cons (ps_set (i := 4) nd rfl (Or.inl rfl) (pe_calM m2 TS.cl hr (pv 2) (pa_cons (pe_fld (pv 0) rfl) pa_nil)))
      (pss_one (ps_ret (pe_cal cA hr1 (pa_cons (pe_lst (pa_cons (pv 3) (pa_cons (pv 4) (pa_cons (pe_fld (pv 2) rfl) (pa_cons (pe_fld (pv 2) rfl) (pa_cons (pe_fld (pv 2) rfl) pa_nil)))))) pa_nil))))))), ?_⟩
    have hD' := hD
    obtain ⟨S, M, kvs, hI, hF⟩ := hD'
    obtain ⟨dx, hp⟩ := hI.obj
    refine ⟨_, rfl, _, rfl, D, CD, dx, _, _, rfl, hp, T.cl, T.nsp, rfl, M, _, rfl, DGet.k (k := Sum.inl (n : Int)) hI.mp, _, rfl, ?_⟩
    cases e2 : d.span n with
    | none =>
      rw [hI.none e2]
      refine iteT ⟨_, rfl, fun p hp => done_same hD k rfl hp ?_⟩
      show _ = iz (SpNeutral.numbers (match d.span n with
        | some s => .span { s with from_ := (d.pagesOf s).1, to_ := (d.pagesOf s).2 }
        | none => .refused 3))
      rw [e2]
      rfl
    | some t =>
      obtain ⟨a, ha, dy, hs⟩ := hI.some e2
      rw [ha]
      refine iteF ⟨_, rfl, D, CD, dx, _, _, rfl, hp, T.cl, T.nsp, rfl, _, rfl, M, .ref a, rfl, (by rw [← ha]; exact DGet.k (k := Sum.inl (n : Int)) hI.mp), ?_⟩
      refine ⟨_, rfl, a, dy, _, rfl, hs, rfl, _, rfl, D, CD, dx, _, _, rfl, hp, T.cl, T.nst, rfl, a, dy, S, t, d.starts, rfl, hs, SqL.of hI.st, hI.starts, ?_⟩
      refine ⟨_, rfl, a, dy, _, rfl, hs, rfl, _, rfl, D, CD, dx, _, _, rfl, hp, T.cl, T.nst, rfl, a, dy, S, t, d.starts, rfl, hs, hI.pos e2, SqL.of hI.st, hI.starts, ?_⟩
      refine ⟨_, rfl, _, rfl, _, rfl, a, CS, dy, _, _, rfl, hs, TS.cl, TS.nki, rfl, _, rfl, a, CS, dy, _, _, rfl, hs, TS.cl, TS.nma, rfl,
        _, rfl, a, CS, dy, _, _, rfl, hs, TS.cl, TS.nno, rfl, (by show 5 ≤ sizeLine; decide), fun t' ht' => ⟨t', _, rfl, upd_same, (by show 5 < 1000000; decide), fun p H' sm hp1 hl => done_as hD (fun _ z => z) k rfl ((same_new ht').trans sm) (upd_none hp1) hl ?_⟩⟩
      show _ = iz (SpNeutral.numbers (match d.span n with
        | some s => .span { s with from_ := (d.pagesOf s).1, to_ := (d.pagesOf s).2 }
        | none => .refused 3))
      rw [e2]
      exact span_nums { t with from_ := (d.pagesOf t).1, to_ := (d.pagesOf t).2 }
end
end Bk

set_option autoImplicit false
set_option Elab.async false
set_option linter.all false
set_option maxRecDepth 100000
set_option maxHeartbeats 2000000
namespace Bk
open PySem PySem.Spec PyProof.Rows L2
open IhSpan (Desk)
/-! ### the keys of a dict walked by a comprehension -/
theorem lc_keys {d : Addr} {o : Obj} {kvs : List (Key × V)} {g : TG} {tt : TT} {te : TE} {vs : List Nat} {σ : L2.St} {H1 : Hp} {D : Addr} {Qd : Hp → Prop} (Pv : Nat → Hp → Prop) (h0 : Pv 0 (upd H1 D (.lst []))) (hl : ∀ i H, i ≤ kvs.length → Pv i H → H d = some (.frz o (.dK kvs)))
    (hs : ∀ i k v H, kvs[i]? = some (k, v) → Pv i H → g (kV k) (wipe σ vs) H fun σ2 H2 => wipe σ2 vs = wipe σ vs ∧ tt σ2 H2 fun b H3 =>
      if b = true then te σ2 H3 fun y H4 => ∃ acc, H4 D = some (.lst acc) ∧ acc.length < sizeLine ∧ Pv (i + 1) (upd H4 D (.lst (acc ++ [y]))) else Pv (i + 1) H3) (hd : ∀ H, Pv kvs.length H → Qd H) :
    ∃ W : Nat → Nat → Hp → Prop, (∃ m, W 0 m (upd H1 D (.lst []))) ∧ ∀ i m H, W i m H →
      ((Itk d o kvs).stop i H ∧ Qd H) ∨ ((Itk d o kvs).go i H ∧ ∃ Nx : Hp → Prop, (∀ H', Nx H' → ∃ m', m' < m ∧ W (i + 1) m' H') ∧ ∀ x H', (Itk d o kvs).yld i H x H' → g x (wipe σ vs) H' fun σ2 H2 => wipe σ2 vs = wipe σ vs ∧ tt σ2 H2 fun b H3 =>
        if b = true then te σ2 H3 fun y H4 => ∃ acc, H4 D = some (.lst acc) ∧ acc.length < sizeLine ∧ Nx (upd H4 D (.lst (acc ++ [y]))) else Nx H3) := by
  refine ⟨fun i m H => m = kvs.length - i ∧ i ≤ kvs.length ∧ Pv i H, ⟨kvs.length, by simp, Nat.zero_le _, h0⟩, ?_⟩
  rintro i m H ⟨rfl, hi, p⟩
  have q := hl i H hi p
  by_cases hlt : i < kvs.length
  · refine .inr ⟨⟨q, hlt⟩, Pv (i + 1), fun H' p' => ⟨kvs.length - (i + 1), by omega, rfl, hlt, p'⟩, fun x H' y => ?_⟩
    obtain ⟨e, k, v, y, ex⟩ := y
    subst e ex
    exact hs i k v _ y p
  · have e : i = kvs.length := by omega
    subst e
    exact .inl ⟨⟨q, Nat.le_refl _⟩, hd H p⟩
/-! ### numbers and their order -/
def ic (l : List Nat) : List Int := l.map fun (n : Nat) => (n : Int)
theorem ic_iv (l : List Nat) : (ic l).map V.int = iv l := by unfold ic iv; rw [List.map_map]; rfl
theorem ic_perm {ns : List Int} {l : List Nat} (h : ns.Perm (ic l)) : ∃ m : List Nat, ns = ic m ∧ m.Perm l := by
  refine ⟨ns.map Int.toNat, ?_, ?_⟩
  · unfold ic
    rw [List.map_map]
    conv => lhs; rw [← List.map_id ns]
    refine List.map_congr_left fun n hn => ?_
    obtain ⟨i, _, e⟩ := List.mem_map.mp (h.mem_iff.mp hn)
    show n = ((n.toNat : Nat) : Int)
    omega
  · have q := h.map Int.toNat
    have e : (ic l).map Int.toNat = l := by
      unfold ic
      rw [List.map_map]
      conv => rhs; rw [← List.map_id l]
      exact List.map_congr_left fun n _ => Int.toNat_natCast n
    rw [e] at q
    exact q
/-- the rank of a number -/
def rk (d : Desk) (n : Int) : List Int := [(Sp.frm d n.toNat : Int), -(Sp.too d n.toNat : Int), n]
theorem below3 {a b c a' b' c' : Int} (h : notBelow [a, b, c] [a', b', c']) : a < a' ∨ (a = a' ∧ (b < b' ∨ (b = b' ∧ c ≤ c'))) := by
  have h0 := lex_false.mp (show lexLt itemOrd (Sum.inl a' :: [Sum.inl b', Sum.inl c']) (Sum.inl a :: [Sum.inl b, Sum.inl c]) = false from h)
  have h1 : ¬ a' < a := of_decide_eq_false (show decide (a' < a) = false from h0.1)
  rcases h0.2 with z | z
  · exact .inl (of_decide_eq_true (show decide (a < a') = true from z))
  · have g0 := lex_false.mp (show lexLt itemOrd (Sum.inl b' :: [Sum.inl c']) (Sum.inl b :: [Sum.inl c]) = false from z)
    have g1 : ¬ b' < b := of_decide_eq_false (show decide (b' < b) = false from g0.1)
    rcases g0.2 with y | y
    · have : b < b' := of_decide_eq_true (show decide (b < b') = true from y)
      omega
    · have f0 := lex_false.mp (show lexLt itemOrd (Sum.inl c' :: []) (Sum.inl c :: []) = false from y)
      have f1 : ¬ c' < c := of_decide_eq_false (show decide (c' < c) = false from f0.1)
      omega
theorem rk_le3 {d : Desk} {i j : Nat} (h : notBelow (rk d (i : Int)) (rk d (j : Int))) : Sp.le3 d i j = true := by
  have q := below3 h
  unfold Sp.le3
  rw [decide_eq_true_eq]
  rw [Int.toNat_natCast, Int.toNat_natCast] at q
  omega
theorem pw_nat {R : Int → Int → Prop} {S : Nat → Nat → Prop} {m : List Nat} (h : (ic m).Pairwise R) (k : ∀ i j : Nat, R (i : Int) (j : Int) → S i j) : m.Pairwise S := by
  unfold ic at h
  rw [List.pairwise_map] at h
  exact h.imp fun q => k _ _ q
section
variable {P : Program} {w : World} {K : PySem.W.Frag} {mg : Str → Option Value} {base : Heap}
def spRank (CD CS : Addr) : Sp := fun vs H Q _ => ∃ (D dx S M a dy : Addr) (kvs : List (Key × V)) (n N : Nat) (s : IhSpan.Span), vs = [.ref D, .int n] ∧ H D = some (.ins CD dx (dkf N S M)) ∧ H M = some (.dK kvs) ∧ valV kvs (Sum.inl (n : Int)) = some (.ref a) ∧ H a = some (.ins CS dy (spf s)) ∧
  ∀ t, H t = none → Q (.ref t) (upd H t (.tup [.int s.from_, .int (-(s.to_ : Int)), .int n]))
theorem scRank : FnScope ["self", "number", "span"] ["self", "number"] (defScope sRank) := ⟨rfl, rfl, rfl, by decide +kernel, rfl, by decide +kernel, by decide +kernel⟩
theorem ok_rank {f CD CS : Addr} {fd : FuncData} (F : Fun K "rank" "Desk.rank" sRank f fd) (T : TxtD K mg CD) (TS : TxtS K mg CS) : FnOk P w K mg base CX0 1 f fd ["self", "number"] (spRank CD CS) := by
  refine F.ok scRank (fun vs H Q E h => ?_) (fun cdv A outer s H vs Q E hr h => ?_)
  · obtain ⟨D, dx, S, M, a, dy, kvs, n, N, s, rfl, _⟩ := h
    rfl
  · obtain ⟨D, dx, S, M, a, dy, kvs, n, N, s, rfl, hD, hM, hv, ha, k⟩ := h
    have hu := hu_of hr
    have nd := scRank.nd
    refine ⟨_, pss_cons (ps_set (i := 2) nd rfl (Or.inl rfl) (pe_dget hu (pe_fld (pv 0) rfl) (pv 1) (fun _ _ => rfl)))
      (pss_one (ps_ret (pe_tup (pa_cons (pe_fld (pv 2) rfl) (pa_cons (pe_un un_neg (pe_fld (pv 2) rfl)) (pa_cons (pv 1) pa_nil)))))), ?_⟩
    refine ⟨_, rfl, D, CD, dx, _, _, rfl, hD, T.cl, T.nsp, rfl, _, rfl, M, .ref a, rfl, (by rw [← hv]; exact DGet.k (k := Sum.inl (n : Int)) hM), ?_⟩
    exact ⟨_, rfl, a, CS, dy, _, _, rfl, ha, TS.cl, TS.nso, rfl, _, rfl, a, CS, dy, _, _, rfl, ha, TS.cl, TS.nto, rfl, _, rfl, _, rfl, (by show 3 ≤ sizeLine; decide), k⟩
def spInOrder (CD CS : Addr) : Sp := fun vs H Q _ => ∃ (D l S M : Addr) (d : Desk) (c : Nat) (kvs : List (Key × V)) (is : List Nat), vs = [.ref D, .ref l] ∧ H l = some (.lst (iv is)) ∧ DeskIn CD CS H D S M kvs d c ∧ (∀ i ∈ is, (d.span i).isSome = true) ∧
  ∀ (p : Addr) (H' : Hp) (m : List Nat), Same H H' → H p = none → m.Perm is → m.Pairwise (fun i j => Sp.le3 d i j = true) → H' p = some (.lst (iv m)) → Q (.ref p) H'
theorem scInOrder : FnScope ["self", "numbers"] ["self", "numbers"] (defScope sInOrder) := ⟨rfl, rfl, rfl, by decide +kernel, rfl, by decide +kernel, by decide +kernel⟩
theorem ok_inOrder {f CD CS : Addr} {fd : FuncData} (F : Fun K "in_order" "Desk.in_order" sInOrder f fd) (T : TxtD K mg CD) (mR : CalB P w K mg base CD 1 "rank" ["self", "number"] (spRank CD CS)) : FnOk P w K mg base CX0 4 f fd ["self", "numbers"] (spInOrder CD CS) := by
  refine F.ok scInOrder (fun vs H Q E h => ?_) (fun cdv A outer s H vs Q E hr h => ?_)
  · obtain ⟨D, l, S, M, d, c, kvs, is, rfl, _⟩ := h
    rfl
  · obtain ⟨D, l, S, M, d, c, kvs, is, rfl, hl, hI, his, k⟩ := h
    obtain ⟨dx, hp⟩ := hI.obj
    refine ⟨_, pss_one (ps_ret (pe_sortedBy mR T.cl hr T.sorted (pv 1) (pv 0))), ?_⟩
    refine ⟨_, rfl, _, rfl, l, D, dx, _, ic is, rk d, rfl, ?_, rfl, hp, rfl, fun n z => (by cases z), fun n hn H' sm => ?_, fun ns' p H' pe pw sm np hl' => ?_⟩
    · rw [ic_iv]
      exact SqL.of hl
    · obtain ⟨i, hi, rfl⟩ := List.mem_map.mp hn
      obtain ⟨t, et⟩ := Option.isSome_iff_exists.mp (his i hi)
      obtain ⟨a, ha, dy, hs⟩ := hI.some et
      refine ⟨D, dx, S, M, a, dy, kvs, i, d.length, t, rfl, sm _ _ hp, sm _ _ hI.mp, ha, sm _ _ hs, fun x hx => ⟨x, rfl, same_new hx, ?_⟩⟩
      have e1 : Sp.frm d i = t.from_ := by unfold Sp.frm; rw [et]
      have e2 : Sp.too d i = t.to_ := by unfold Sp.too; rw [et]
      rw [upd_same]
      unfold rk
      rw [Int.toNat_natCast, e1, e2]
      rfl
    · obtain ⟨m, rfl, hm⟩ := ic_perm pe
      refine k p H' m sm np hm (pw_nat pw fun i j q => rk_le3 q) ?_
      rw [← ic_iv]
      exact hl'
end
end Bk

set_option autoImplicit false
set_option Elab.async false
set_option linter.all false
set_option maxRecDepth 100000
set_option maxHeartbeats 2000000
namespace Bk
open PySem PySem.Spec PyProof.Rows L2
open IhSpan (Desk)
/-! ### the numbers of a dict's keys -/
theorem keys_nat : ∀ {kvs : List (Key × V)}, (∀ k ∈ kvs.map (·.1), ∃ n : Nat, k = Sum.inl (n : Int)) → ∃ is : List Nat, kvs.map (·.1) = is.map fun (n : Nat) => (Sum.inl (n : Int) : Key)
  | [], _ => ⟨[], rfl⟩
  | p :: r, h => by
    obtain ⟨n, e⟩ := h p.1 (List.Mem.head _)
    obtain ⟨is, q⟩ := keys_nat (kvs := r) fun k hk => h k (List.Mem.tail _ hk)
    exact ⟨n :: is, by rw [List.map_cons, List.map_cons, e, q]⟩
theorem mem_valV {κ : Type} [DecidableEq κ] {k : κ} : ∀ {kvs : List (κ × V)}, k ∈ kvs.map (·.1) ↔ (valV kvs k).isSome = true
  | [] => ⟨fun h => (by cases h), fun h => (by cases h)⟩
  | p :: r => by
    rw [List.map_cons, List.mem_cons]
    by_cases e : p.1 = k
    · rw [valV_pos e]
      exact ⟨fun _ => rfl, fun _ => .inl e.symm⟩
    · rw [valV_neg e, ← mem_valV (kvs := r)]
      exact ⟨fun h => h.resolve_left fun z => e z.symm, fun h => .inr h⟩
/-- the keys, all of them, each once -/
structure Ids (kvs : List (Key × V)) (d : Desk) (is : List Nat) : Prop where
  keys : kvs.map (·.1) = is.map fun (n : Nat) => (Sum.inl (n : Int) : Key)
  nd : is.Nodup
  mem : ∀ i, i ∈ is ↔ (d.span i).isSome = true
theorem DeskIn.ids {CD CS : Addr} {H : Hp} {D S M : Addr} {kvs : List (Key × V)} {d : Desk} {c : Nat} (h : DeskIn CD CS H D S M kvs d c) : ∃ is, Ids kvs d is := by
  obtain ⟨is, e⟩ := keys_nat h.keys
  have nd := h.nd
  rw [e] at nd
  refine ⟨is, e, ?_, fun i => ?_⟩
  · exact (List.pairwise_map.mp nd).imp fun q z => q (by rw [z])
  · have e1 : i ∈ is ↔ (Sum.inl (i : Int) : Key) ∈ kvs.map (·.1) := by
      rw [e, List.mem_map]
      exact ⟨fun q => ⟨i, q, rfl⟩, fun ⟨j, q, z⟩ => by rw [← inl_inj z]; exact q⟩
    rw [e1, mem_valV]
    cases e2 : d.span i with
    | none => rw [h.none e2]; exact ⟨fun q => q, fun q => q⟩
    | some s =>
      obtain ⟨a, ha, _⟩ := h.some e2
      rw [ha]
      exact ⟨fun _ => rfl, fun _ => rfl⟩
theorem Ids.len {kvs : List (Key × V)} {d : Desk} {is : List Nat} (h : Ids kvs d is) : is.length = kvs.length := by
  have := congrArg List.length h.keys
  rw [List.length_map, List.length_map] at this
  exact this.symm
theorem Ids.at_ {kvs : List (Key × V)} {d : Desk} {is : List Nat} (h : Ids kvs d is) {i : Nat} {k : Key} {v : V} (e : kvs[i]? = some (k, v)) : ∃ n : Nat, is[i]? = some n ∧ k = Sum.inl (n : Int) ∧ ∃ s, d.span n = some s := by
  have q : (kvs.map (·.1))[i]? = some k := by rw [List.getElem?_map, e]; rfl
  rw [h.keys, List.getElem?_map] at q
  cases z : is[i]? with
  | none => rw [z] at q; cases q
  | some n =>
    rw [z] at q
    exact ⟨n, rfl, (Option.some.inj q).symm, Option.isSome_iff_exists.mp ((h.mem n).mp (List.mem_of_getElem? z))⟩
/-- which of them are asked for -/
def pk (d : Desk) (p : IhSpan.Span → Bool) (i : Nat) : Bool := match d.span i with
  | some s => p s
  | none => false
theorem those_by {d : Desk} {p : IhSpan.Span → Bool} {kvs : List (Key × V)} {is m : List Nat} (h : Ids kvs d is) (hm : m.Perm (is.filter (pk d p))) (hw : m.Pairwise fun i j => Sp.le3 d i j = true) : d.those p = m := by
  refine Sp.those_is (hm.nodup_iff.mpr (List.Pairwise.filter _ h.nd)) hw fun i => ?_
  rw [hm.mem_iff, List.mem_filter, h.mem]
  unfold pk
  cases e : d.span i with
  | none => exact ⟨fun z => (by cases z.1), fun ⟨s, z, _⟩ => by cases z⟩
  | some s => exact ⟨fun z => ⟨s, rfl, z.2⟩, fun ⟨t, z, y⟩ => by cases z; exact ⟨rfl, y⟩⟩
/-- the heap behind the comprehension: the dict is itself again, the new list is there -/
theorem found_same {H : Hp} {M D : Addr} {od : Obj} {u o : HO} (hM : H M = some u) (hD : upd H M (.frz od u) D = none) : Same H (upd (upd (upd H M (.frz od u)) D o) M u) ∧ upd (upd (upd H M (.frz od u)) D o) M u D = some o ∧ H D = none ∧ ∀ b, upd (upd (upd H M (.frz od u)) D o) M u b = none → H b = none := by
  have n : D ≠ M := fun z => by rw [z, upd_same] at hD; cases hD
  have hD0 : H D = none := by rw [upd_ne n] at hD; exact hD
  refine ⟨fun b z e => ?_, by rw [upd_ne n, upd_same], hD0, fun b z => ?_⟩
  · by_cases q : b = M
    · rw [q] at e ⊢
      rw [upd_same, ← hM]
      exact e
    · rw [upd_ne q, upd_ne (ne_of_none e hD0), upd_ne q]
      exact e
  · by_cases q : b = M
    · rw [q, upd_same] at z; cases z
    · rw [upd_ne q] at z
      have z := upd_none z
      rw [upd_ne q] at z
      exact z
section
variable {P : Program} {w : World} {K : PySem.W.Frag} {mg : Str → Option Value} {base : Heap}
def spHolds (CD CS : Addr) : Sp := fun vs H Q _ => ∃ (D : Addr) (d : Desk) (c n : Nat) (F : Addr → Prop), vs = [.ref D, .int n] ∧ c < 400 ∧ DeskAt CD CS H D d c F ∧ Done CD CS H D d c F (.holds n) Q
theorem scHolds : FnScope ["self", "place", "number", "found"] ["self", "place"] (defScope sHolds) := ⟨rfl, rfl, rfl, by decide +kernel, rfl, by decide +kernel, by decide +kernel⟩
theorem ok_holds {f CD CS : Addr} {fd : FuncData} (F : Fun K "holds" "Desk.holds" sHolds f fd) (T : TxtD K mg CD) (TS : TxtS K mg CS) (cA : Cal P w K mg base 1 "answered" ["numbers"] spAnswered) (cR : Cal P w K mg base 1 "refused" ["number"] spRefused)
    (mC : CalM P w K mg base CS 1 "covers" ["self", "place"] (spCovers CS)) (mO : CalM P w K mg base CD 4 "in_order" ["self", "numbers"] (spInOrder CD CS)) : FnOk P w K mg base CX0 5 f fd ["self", "place"] (spHolds CD CS) := by
  refine F.ok scHolds (fun vs H Q E h => ?_) (fun cdv A outer s H vs Q E hr h => ?_)
  · obtain ⟨D, d, c, n, G, rfl, _⟩ := h
    rfl
  · obtain ⟨D, d, c, n, G, rfl, hc, hD, k⟩ := h
    have hu := hu_of hr
    have hr1 : Room 1 _ := hr.mono (by decide)
    have nd := scHolds.nd
    refine ⟨_, pss_cons (ps_if (pt_cmpR op_ge (pv 1) (pe_fld (pv 0) rfl) (nomark _)) (pss_one (ps_ret (pe_cal cR hr1 (pa_cons pe_int pa_nil)))) pss_nil)
      (pss_cons (ps_lock (ps_setLc (i := 3) rfl nd rfl rfl (sw_true rfl rfl rfl rfl) (pi_keys (pe_fld (pv 0) rfl)) (blkOk_by (own := [("number", 2)]) (by show blkC ["self", "place", "number", "found"] (defScope sHolds) _ _ = true; decide +kernel))
        (fun s H C cl fp => pg_name (i := 2) nd rfl (Or.inl rfl)) (fun s H C cl fp => pts_one (pt_val (pe_calM (ta := tDGet (tFld K (tVar 0) "spans") (tVar 2)) mC TS.cl hr1 (by exact pe_dget hu (pe_fld (pv 0) rfl) (pv 2) (fun _ _ => rfl)) (pa_cons (pv 1) pa_nil)))) (fun s H C cl fp => pv 2)))
      (pss_one (ps_ret (pe_cal cA hr1 (pa_cons (pe_calM mO T.cl hr (pv 0) (pa_cons (pv 3) pa_nil)) pa_nil))))), ?_⟩
    have hD' := hD
    obtain ⟨S, M, kvs, hI, hF⟩ := hD'
    obtain ⟨dx, hp⟩ := hI.obj
    refine ⟨_, rfl, _, rfl, D, CD, dx, _, _, rfl, hp, T.cl, T.nle, rfl, _, _, rfl, rfl, _, rfl, ?_⟩
    refine ite2 (fun h1 => ?_) (fun h1 => ?_)
    · have h1 := of_decide_eq_true h1
      refine ⟨_, rfl, fun p hp => done_same hD k rfl hp ?_⟩
      show _ = iz (SpNeutral.numbers (if d.length ≤ n then .refused 1 else .row (d.those fun (s : IhSpan.Span) => decide (s.from_ ≤ n) && decide (n < s.to_))))
      rw [if_pos (by omega)]
      rfl
    · rw [decide_eq_true_eq] at h1
      obtain ⟨is, his⟩ := hI.ids
      refine ⟨M, .dK kvs, hI.mp, True.intro, fun od => ?_⟩
      have nDM : D ≠ M := ne_of hp hI.mp (by intro z; cases z)
      have hp1 : upd H M (.frz od (.dK kvs)) D = some (.ins CD dx (dkf d.length S M)) := (upd_ne nDM).trans hp
      refine ⟨_, rfl, D, CD, dx, _, _, rfl, hp1, T.cl, T.nsp, rfl, M, od, rfl, .inl ⟨kvs, upd_same, fun L hL => ?_⟩⟩
      have nML : M ≠ L := fun z => by rw [← z, upd_same] at hL; cases hL
      refine lc_keys (fun i H' => H' = upd (upd H M (.frz od (.dK kvs))) L (.lst (iv ((is.take i).filter (pk d fun (s : IhSpan.Span) => decide (s.from_ ≤ n) && decide (n < s.to_)))))) rfl (fun i H' _ e => ?_) (fun i key v H' hi e => ?_) (fun H' e => ?_)
      · rw [e, upd_ne nML, upd_same]
      · subst e
        obtain ⟨j, hj, rfl, t, et⟩ := his.at_ hi
        obtain ⟨a, ha, dy, hs⟩ := hI.some et
        have nDL : D ≠ L := ne_of_none hp1 hL
        have naM : a ≠ M := ne_of hs hI.mp (by intro z; cases z)
        have hs1 : upd H M (.frz od (.dK kvs)) a = some (.ins CS dy (spf t)) := (upd_ne naM).trans hs
        have hs2 : ∀ o, upd (upd H M (.frz od (.dK kvs))) L o a = some (.ins CS dy (spf t)) := fun o => (upd_ne (ne_of_none hs1 hL)).trans hs1
        have g : ∀ o, DGet (upd (upd H M (.frz od (.dK kvs))) L o) M (.int (j : Int)) (some (.ref a)) := fun o => .inl ⟨kvs, Sum.inl (j : Int), .inr ⟨od, (upd_ne nML).trans upd_same⟩, rfl, ha.symm⟩
        refine ⟨rfl, ?_⟩
        refine ⟨_, rfl, D, CD, dx, _, _, rfl, (upd_ne nDL).trans hp1, T.cl, T.nsp, rfl, _, rfl, M, .ref a, rfl, g _, a, dy, _, rfl, hs2 _, rfl, _, rfl, a, dy, _, _, _, _, _, (n : Int), rfl, hs2 _, fun r hr' => ⟨r, rfl, ?_⟩⟩
        have er : r = pk d (fun (s : IhSpan.Span) => decide (s.from_ ≤ n) && decide (n < s.to_)) j := by
          unfold pk
          rw [et]
          rw [Bool.eq_iff_iff, hr', Bool.and_eq_true, decide_eq_true_eq, decide_eq_true_eq]
          omega
        have tk := take_snoc hj
        have lf := Nat.le_trans (List.length_filter_le (pk d fun (s : IhSpan.Span) => decide (s.from_ ≤ n) && decide (n < s.to_)) (is.take i)) (by rw [List.length_take]; exact Nat.min_le_right _ _)
        have li := his.len
        have lk := hI.few
        refine ite2 (fun hb => ?_) (fun hb => ?_)
        · refine ⟨_, rfl, _, upd_same, ?_, ?_⟩
          · rw [iv_len]
            show _ < 16777216
            omega
          · rw [upd_upd, tk, List.filter_append, List.filter_cons, ← er, hb, iv_app]
            rfl
        · have hb : r = false := by cases r with | true => exact absurd rfl hb | false => rfl
          rw [tk, List.filter_append, List.filter_cons, ← er, hb]
          show upd _ _ _ = upd _ _ (.lst (iv (_ ++ [])))
          rw [List.append_nil]
      · subst e
        rw [← his.len, List.take_length]
        refine ⟨(upd_ne nML).trans upd_same, ?_⟩
        obtain ⟨sm, hL2, hL0, nw⟩ := found_same (o := .lst (iv (is.filter (pk d fun (s : IhSpan.Span) => decide (s.from_ ≤ n) && decide (n < s.to_))))) hI.mp hL
        refine ⟨_, rfl, D, dx, _, rfl, sm _ _ hp, rfl, _, rfl, D, L, S, M, d, c, kvs, _, rfl, hL2, hI.keep (Nat.le_refl _) (fun b o _ z => sm b o z), fun i hi => (his.mem i).mp (List.mem_filter.mp hi).1, fun p1 H1 m sm1 np1 hm hw hl1 => ?_⟩
        have eth := those_by his hm hw
        have lm : m.length ≤ 400 := by
          rw [hm.length_eq]
          refine Nat.le_trans (List.length_filter_le _ _) ?_
          have := his.len
          have := hI.few
          omega
        refine ⟨p1, _, rfl, hl1, (by rw [iv_len]; omega), fun p H' sm2 np2 hl2 => done_as hD (fun _ z => z) k rfl ((sm.trans sm1).trans sm2) (nw p (sm1.free np2)) hl2 ?_⟩
        show _ = iz (SpNeutral.numbers (if d.length ≤ n then .refused 1 else .row (d.those fun (s : IhSpan.Span) => decide (s.from_ ≤ n) && decide (n < s.to_))))
        rw [if_neg (by omega), eth]
        show _ = V.int 0 :: iz (SpNeutral.ints m)
        unfold iz SpNeutral.ints iv
        rw [List.map_map]
        rfl
def spOn (CD CS : Addr) : Sp := fun vs H Q _ => ∃ (D : Addr) (d : Desk) (c n : Nat) (F : Addr → Prop), vs = [.ref D, .int n] ∧ c < 400 ∧ DeskAt CD CS H D d c F ∧ Done CD CS H D d c F (.on n) Q
theorem scOn : FnScope ["self", "page", "number", "found"] ["self", "page"] (defScope sOn) := ⟨rfl, rfl, rfl, by decide +kernel, rfl, by decide +kernel, by decide +kernel⟩
theorem ok_on {f CD CS : Addr} {fd : FuncData} (F : Fun K "on" "Desk.on" sOn f fd) (T : TxtD K mg CD) (TS : TxtS K mg CS) (cA : Cal P w K mg base 1 "answered" ["numbers"] spAnswered) (cR : Cal P w K mg base 1 "refused" ["number"] spRefused)
    (mC : CalM P w K mg base CS 3 "is_on" ["self", "page", "starts"] (spIsOn K CS)) (mO : CalM P w K mg base CD 4 "in_order" ["self", "numbers"] (spInOrder CD CS)) : FnOk P w K mg base CX0 5 f fd ["self", "page"] (spOn CD CS) := by
  refine F.ok scOn (fun vs H Q E h => ?_) (fun cdv A outer s H vs Q E hr h => ?_)
  · obtain ⟨D, d, c, n, G, rfl, _⟩ := h
    rfl
  · obtain ⟨D, d, c, n, G, rfl, hc, hD, k⟩ := h
    have hu := hu_of hr
    have hr1 : Room 1 _ := hr.mono (by decide)
    have hr3 : Room 3 _ := hr.mono (by decide)
    have nd := scOn.nd
    refine ⟨_, pss_cons (ps_if (pt_cmpR op_ge (pv 1) (pe_callB call_len_seq (by rfl) T.len PySem.boot_len (pa_cons (pe_fld (pv 0) rfl) pa_nil)) (nomark _)) (pss_one (ps_ret (pe_cal cR hr1 (pa_cons pe_int pa_nil)))) pss_nil)
      (pss_cons (ps_lock (ps_setLc (i := 3) rfl nd rfl rfl (sw_true rfl rfl rfl rfl) (pi_keys (pe_fld (pv 0) rfl)) (blkOk_by (own := [("number", 2)]) (by show blkC ["self", "page", "number", "found"] (defScope sOn) _ _ = true; decide +kernel))
        (fun s H C cl fp => pg_name (i := 2) nd rfl (Or.inl rfl)) (fun s H C cl fp => pts_one (pt_val (pe_calM (ta := tDGet (tFld K (tVar 0) "spans") (tVar 2)) (t := tCons (tVar 1) (tCons (tFld K (tVar 0) "starts") tNil)) mC TS.cl hr3 (by exact pe_dget hu (pe_fld (pv 0) rfl) (pv 2) (fun _ _ => rfl)) (by exact pa_cons (pv 1) (pa_cons (pe_fld (pv 0) rfl) pa_nil))))) (fun s H C cl fp => pv 2)))
      (pss_one (ps_ret (pe_cal cA hr1 (pa_cons (pe_calM mO T.cl hr (pv 0) (pa_cons (pv 3) pa_nil)) pa_nil))))), ?_⟩
    have hD' := hD
    obtain ⟨S, M, kvs, hI, hF⟩ := hD'
    obtain ⟨dx, hp⟩ := hI.obj
    refine ⟨_, rfl, _, rfl, D, CD, dx, _, _, rfl, hp, T.cl, T.nst, rfl, S, _, rfl, .inl (SqL.of hI.st), _, _, rfl, rfl, _, rfl, ?_⟩
    rw [iv_len]
    refine ite2 (fun h1 => ?_) (fun h1 => ?_)
    · have h1 := of_decide_eq_true h1
      refine ⟨_, rfl, fun p hp => done_same hD k rfl hp ?_⟩
      show _ = iz (SpNeutral.numbers (if d.starts.length ≤ n then .refused 1 else .row (d.those fun (s : IhSpan.Span) => decide ((d.pagesOf s).1 ≤ n) && decide (n ≤ (d.pagesOf s).2))))
      rw [if_pos (by omega)]
      rfl
    · rw [decide_eq_true_eq] at h1
      obtain ⟨is, his⟩ := hI.ids
      refine ⟨M, .dK kvs, hI.mp, True.intro, fun od => ?_⟩
      have nDM : D ≠ M := ne_of hp hI.mp (by intro z; cases z)
      have hp1 : upd H M (.frz od (.dK kvs)) D = some (.ins CD dx (dkf d.length S M)) := (upd_ne nDM).trans hp
      refine ⟨_, rfl, D, CD, dx, _, _, rfl, hp1, T.cl, T.nsp, rfl, M, od, rfl, .inl ⟨kvs, upd_same, fun L hL => ?_⟩⟩
      have nML : M ≠ L := fun z => by rw [← z, upd_same] at hL; cases hL
      refine lc_keys (fun i H' => H' = upd (upd H M (.frz od (.dK kvs))) L (.lst (iv ((is.take i).filter (pk d fun (s : IhSpan.Span) => decide ((d.pagesOf s).1 ≤ n) && decide (n ≤ (d.pagesOf s).2)))))) rfl (fun i H' _ e => ?_) (fun i key v H' hi e => ?_) (fun H' e => ?_)
      · rw [e, upd_ne nML, upd_same]
      · subst e
        obtain ⟨j, hj, rfl, t, et⟩ := his.at_ hi
        obtain ⟨a, ha, dy, hs⟩ := hI.some et
        have nDL : D ≠ L := ne_of_none hp1 hL
        have naM : a ≠ M := ne_of hs hI.mp (by intro z; cases z)
        have hs1 : upd H M (.frz od (.dK kvs)) a = some (.ins CS dy (spf t)) := (upd_ne naM).trans hs
        have hs2 : ∀ o, upd (upd H M (.frz od (.dK kvs))) L o a = some (.ins CS dy (spf t)) := fun o => (upd_ne (ne_of_none hs1 hL)).trans hs1
        have hS1 : upd H M (.frz od (.dK kvs)) S = some (.lst (iv d.starts)) := (upd_ne (ne_of hI.st hI.mp (by intro z; cases z))).trans hI.st
        have hS2 : ∀ o, upd (upd H M (.frz od (.dK kvs))) L o S = some (.lst (iv d.starts)) := fun o => (upd_ne (ne_of_none hS1 hL)).trans hS1
        have g : ∀ o, DGet (upd (upd H M (.frz od (.dK kvs))) L o) M (.int (j : Int)) (some (.ref a)) := fun o => .inl ⟨kvs, Sum.inl (j : Int), .inr ⟨od, (upd_ne nML).trans upd_same⟩, rfl, ha.symm⟩
        refine ⟨rfl, ?_⟩
        refine ⟨_, rfl, D, CD, dx, _, _, rfl, (upd_ne nDL).trans hp1, T.cl, T.nsp, rfl, _, rfl, M, .ref a, rfl, g _, a, dy, _, rfl, hs2 _, rfl, _, rfl, _, rfl, D, CD, dx, _, _, rfl, (upd_ne nDL).trans hp1, T.cl, T.nst, rfl, a, dy, S, t, d.starts, n, rfl, hs2 _, hI.pos et, SqL.of (hS2 _), hI.starts, fun r hr' => ⟨r, rfl, ?_⟩⟩
        have er : r = pk d (fun (s : IhSpan.Span) => decide ((d.pagesOf s).1 ≤ n) && decide (n ≤ (d.pagesOf s).2)) j := by
          unfold pk
          rw [et]
          rw [Bool.eq_iff_iff, hr', Bool.and_eq_true, decide_eq_true_eq, decide_eq_true_eq]
          exact Iff.rfl
        have tk := take_snoc hj
        have lf := Nat.le_trans (List.length_filter_le (pk d fun (s : IhSpan.Span) => decide ((d.pagesOf s).1 ≤ n) && decide (n ≤ (d.pagesOf s).2)) (is.take i)) (by rw [List.length_take]; exact Nat.min_le_right _ _)
        have li := his.len
        have lk := hI.few
        refine ite2 (fun hb => ?_) (fun hb => ?_)
        · refine ⟨_, rfl, _, upd_same, ?_, ?_⟩
          · rw [iv_len]
            show _ < 16777216
            omega
          · rw [upd_upd, tk, List.filter_append, List.filter_cons, ← er, hb, iv_app]
            rfl
        · have hb : r = false := by cases r with | true => exact absurd rfl hb | false => rfl
          rw [tk, List.filter_append, List.filter_cons, ← er, hb]
          show upd _ _ _ = upd _ _ (.lst (iv (_ ++ [])))
          rw [List.append_nil]
      · subst e
        rw [← his.len, List.take_length]
        refine ⟨(upd_ne nML).trans upd_same, ?_⟩
        obtain ⟨sm, hL2, hL0, nw⟩ := found_same (o := .lst (iv (is.filter (pk d fun (s : IhSpan.Span) => decide ((d.pagesOf s).1 ≤ n) && decide (n ≤ (d.pagesOf s).2))))) hI.mp hL
        refine ⟨_, rfl, D, dx, _, rfl, sm _ _ hp, rfl, _, rfl, D, L, S, M, d, c, kvs, _, rfl, hL2, hI.keep (Nat.le_refl _) (fun b o _ z => sm b o z), fun i hi => (his.mem i).mp (List.mem_filter.mp hi).1, fun p1 H1 m sm1 np1 hm hw hl1 => ?_⟩
        have eth := those_by his hm hw
        have lm : m.length ≤ 400 := by
          rw [hm.length_eq]
          refine Nat.le_trans (List.length_filter_le _ _) ?_
          have := his.len
          have := hI.few
          omega
        refine ⟨p1, _, rfl, hl1, (by rw [iv_len]; omega), fun p H' sm2 np2 hl2 => done_as hD (fun _ z => z) k rfl ((sm.trans sm1).trans sm2) (nw p (sm1.free np2)) hl2 ?_⟩
        show _ = iz (SpNeutral.numbers (if d.starts.length ≤ n then .refused 1 else .row (d.those fun (s : IhSpan.Span) => decide ((d.pagesOf s).1 ≤ n) && decide (n ≤ (d.pagesOf s).2))))
        rw [if_neg (by omega), eth]
        show _ = V.int 0 :: iz (SpNeutral.ints m)
        unfold iz SpNeutral.ints iv
        rw [List.map_map]
        rfl
end
end Bk

set_option autoImplicit false
set_option Elab.async false
set_option linter.all false
set_option maxRecDepth 100000
set_option maxHeartbeats 2000000
namespace Bk
open PySem PySem.Spec PyProof.Rows L2
open IhSpan (Desk)
theorem ids_of {CS : Addr} {H : Hp} {kvs : List (Key × V)} {d : Desk} (hk : ∀ k ∈ kvs.map (·.1), ∃ n : Nat, k = Sum.inl (n : Int)) (hn : (kvs.map (·.1)).Nodup) (hs : ∀ n : Nat, SpanIn CS H kvs n (d.span n)) : ∃ is, Ids kvs d is := by
  obtain ⟨is, e⟩ := keys_nat hk
  have nd := hn
  rw [e] at nd
  refine ⟨is, e, ?_, fun i => ?_⟩
  · exact (List.pairwise_map.mp nd).imp fun q z => q (by rw [z])
  · have e1 : i ∈ is ↔ (Sum.inl (i : Int) : Key) ∈ kvs.map (·.1) := by
      rw [e, List.mem_map]
      exact ⟨fun q => ⟨i, q, rfl⟩, fun ⟨j, q, z⟩ => by rw [← inl_inj z]; exact q⟩
    rw [e1, mem_valV]
    have q := hs i
    cases e2 : d.span i with
    | none =>
      rw [e2] at q
      rw [show valV kvs (Sum.inl (i : Int)) = none from q]
      exact ⟨fun q => q, fun q => q⟩
    | some s =>
      rw [e2] at q
      obtain ⟨a, ha, _⟩ := q
      rw [ha]
      exact ⟨fun _ => rfl, fun _ => rfl⟩
/-! ### the spans behind an edit -/
/-- is the span with that number lost -/
def gone (d : Desk) (a c q : Nat) (n : Nat) : Bool := match d.span n with
  | some s => (s.edited a c q).isNone
  | none => false
/-- behind some of the numbers (those in l): the dict kv, the numbers that are lost; H as it was -/
structure Mv (CS : Addr) (H H' : Hp) (L T : Addr) (d : Desk) (a c q : Nat) (l : List Nat) (kv : List (Key × V)) : Prop where
  same : Same H H'
  dL : H' L = some (.dK kv)
  dT : H' T = some (.lst (iv (l.filter (gone d a c q))))
  nd : (kv.map (·.1)).Nodup
  keys : ∀ k ∈ kv.map (·.1), ∃ n : Nat, k = Sum.inl (n : Int)
  sp : ∀ n : Nat, SpanIn CS H' kv n (if n ∈ l then (d.span n).bind (fun s => s.edited a c q) else none)
  fresh : ∀ (n : Nat) (b : Addr), valV kv (Sum.inl (n : Int)) = some (.ref b) → H b = none
  inj : ∀ (n m : Nat) (b : Addr), valV kv (Sum.inl (n : Int)) = some (.ref b) → valV kv (Sum.inl (m : Int)) = some (.ref b) → n = m
  few : kv.length ≤ l.length
theorem SpanIn.there {CS : Addr} {H : Hp} {kv : List (Key × V)} {n : Nat} {o : Option IhSpan.Span} {b : Addr} (h : SpanIn CS H kv n o) (e : valV kv (Sum.inl (n : Int)) = some (.ref b)) : ∃ dy fs, H b = some (.ins CS dy fs) := by
  cases o with
  | none =>
    rw [show valV kv (Sum.inl (n : Int)) = none from h] at e
    cases e
  | some s =>
    obtain ⟨a, h1, dy, h2⟩ := h
    rw [e] at h1
    cases h1
    exact ⟨dy, _, h2⟩
theorem SpanIn.keep {CS : Addr} {H H' : Hp} {kv : List (Key × V)} {n : Nat} {o : Option IhSpan.Span} (h : SpanIn CS H kv n o) (k : ∀ b dy fs, H b = some (.ins CS dy fs) → H' b = some (.ins CS dy fs)) : SpanIn CS H' kv n o := by
  cases o with
  | none => exact h
  | some s =>
    obtain ⟨a, h1, dy, h2⟩ := h
    exact ⟨a, h1, dy, k _ _ _ h2⟩
/-- one more, lost -/
theorem Mv.lose {CS : Addr} {H H' H2 : Hp} {L T : Addr} {d : Desk} {a c q n : Nat} {l : List Nat} {kv : List (Key × V)} {s : IhSpan.Span} (h : Mv CS H H' L T d a c q l kv) (hT : H T = none) (sm : Same H' H2) (e : d.span n = some s) (g : s.edited a c q = none) :
    Mv CS H (upd H2 T (.lst (iv (l.filter (gone d a c q)) ++ [.int n]))) L T d a c q (l ++ [n]) kv := by
  have nT : ∀ b o, H' b = some o → (∀ xs, o ≠ .lst xs) → upd H2 T (.lst (iv (l.filter (gone d a c q)) ++ [.int n])) b = some o := fun b o z k => by
    rw [upd_ne fun y => by rw [y, h.dT] at z; cases z; exact k _ rfl]
    exact sm _ _ z
  refine ⟨fun b o z => ?_, nT _ _ h.dL (fun _ y => by cases y), ?_, h.nd, h.keys, fun m => ?_, h.fresh, h.inj, ?_⟩
  · rw [upd_ne (ne_of_none z hT)]
    exact sm _ _ (h.same _ _ z)
  · rw [upd_same, List.filter_append, iv_app]
    have : gone d a c q n = true := by unfold gone; rw [e]; show (s.edited a c q).isNone = true; rw [g]; rfl
    rw [List.filter_cons, this]
    rfl
  · have z := h.sp m
    by_cases em : m = n
    · subst em
      rw [if_pos (by simp), e]
      show SpanIn CS _ kv m (s.edited a c q)
      rw [g]
      by_cases y : m ∈ l
      · rw [if_pos y, e] at z
        have z : SpanIn CS H' kv m (s.edited a c q) := z
        rw [g] at z
        exact z
      · rw [if_neg y] at z
        exact z
    · have : (m ∈ l ++ [n]) = (m ∈ l) := propext (by simp [em])
      simp only [this]
      exact z.keep fun b dy fs y => nT _ _ y fun _ w => by cases w
  · rw [List.length_append]
    exact Nat.le_succ_of_le h.few
/-- one more, kept: the new span is at x -/
theorem Mv.stay {CS : Addr} {H H' H2 : Hp} {L T x dy : Addr} {d : Desk} {a c q n : Nat} {l : List Nat} {kv : List (Key × V)} {s t : IhSpan.Span} (h : Mv CS H H' L T d a c q l kv) (hL : H L = none) (sm : Same H' H2) (nn : n ∉ l) (e : d.span n = some s) (g : s.edited a c q = some t) (nx : H' x = none) (hx : H2 x = some (.ins CS dy (spf t))) :
    Mv CS H (upd H2 L (.dK (putK kv (Sum.inl (n : Int)) (.ref x)))) L T d a c q (l ++ [n]) (putK kv (Sum.inl (n : Int)) (.ref x)) := by
  have nL : ∀ b o, H2 b = some o → (∀ xs, o ≠ .dK xs) → upd H2 L (.dK (putK kv (Sum.inl (n : Int)) (.ref x))) b = some o := fun b o z k => by
    rw [upd_ne fun y => by rw [y, sm _ _ h.dL] at z; cases z; exact k _ rfl]
    exact z
  have vn : valV kv (Sum.inl (n : Int)) = none := by
    have z := h.sp n
    rw [if_neg nn] at z
    exact z
  have vv : ∀ j : Nat, valV (putK kv (Sum.inl (n : Int)) (.ref x)) (Sum.inl (j : Int)) = if j = n then some (.ref x) else valV kv (Sum.inl (j : Int)) := fun j => by
    rw [valV_put]
    by_cases e : j = n
    · rw [if_pos e, if_pos (by rw [e])]
    · rw [if_neg e, if_neg fun z => e (inl_inj z)]
  have hx0 : H x = none := h.same.free nx
  refine ⟨fun b o z => ?_, upd_same, ?_, nd_putK _ h.nd vn, fun k hk => ?_, fun m => ?_, fun m b z => ?_, fun m m' b z z' => ?_, ?_⟩
  · rw [upd_ne (ne_of_none z hL)]
    exact sm _ _ (h.same _ _ z)
  · rw [nL T _ (sm _ _ h.dT) (fun _ y => (by cases y)), List.filter_append]
    have : gone d a c q n = false := by unfold gone; rw [e]; show (s.edited a c q).isNone = false; rw [g]; rfl
    rw [List.filter_cons, this]
    show _ = some (HO.lst (iv (_ ++ [])))
    rw [List.append_nil]
  · rw [putK_new _ vn, List.map_append] at hk
    rcases List.mem_append.mp hk with z | z
    · exact h.keys k z
    · exact ⟨n, List.mem_singleton.mp z⟩
  · by_cases em : m = n
    · subst em
      rw [if_pos (by simp), e]
      show SpanIn CS _ _ m (s.edited a c q)
      rw [g]
      exact ⟨x, by rw [vv, if_pos rfl], dy, nL _ _ hx fun _ w => by cases w⟩
    · have : (m ∈ l ++ [n]) = (m ∈ l) := propext (by simp [em])
      simp only [this]
      have z := h.sp m
      cases eo : (if m ∈ l then (d.span m).bind (fun s => s.edited a c q) else none) with
      | none =>
        rw [eo] at z
        show valV _ _ = none
        rw [vv, if_neg em]
        exact z
      | some u =>
        rw [eo] at z
        obtain ⟨b, h1, dz, h2⟩ := z
        exact ⟨b, by rw [vv, if_neg em]; exact h1, dz, nL _ _ (sm _ _ h2) fun _ w => by cases w⟩
  · rw [vv] at z
    by_cases em : m = n
    · rw [if_pos em] at z
      cases z
      exact hx0
    · rw [if_neg em] at z
      exact h.fresh m b z
  · have nw : ∀ j : Nat, valV kv (Sum.inl (j : Int)) = some (.ref x) → False := fun j y => by
      obtain ⟨dz, fs, w⟩ := (h.sp j).there y
      rw [nx] at w
      cases w
    rw [vv] at z z'
    by_cases em : m = n
    · rw [if_pos em] at z
      cases z
      by_cases em' : m' = n
      · rw [em, em']
      · rw [if_neg em'] at z'
        exact (nw m' z').elim
    · rw [if_neg em] at z
      by_cases em' : m' = n
      · rw [if_pos em'] at z'
        cases z'
        exact (nw m z).elim
      · rw [if_neg em'] at z'
        exact h.inj m m' b z z'
  · rw [List.length_append]
    exact Nat.le_trans (length_putK _ _ _) (Nat.succ_le_succ h.few)
end Bk

set_option autoImplicit false
set_option Elab.async false
set_option linter.all false
set_option maxRecDepth 100000
set_option maxHeartbeats 2000000
namespace Bk
open PySem PySem.Spec PyProof.Rows L2
open IhSpan (Desk)
theorem up_of {m : List Nat} {ns : List Int} (e : ns = ic m) (hw : ns.Pairwise (· ≤ ·)) (nd : m.Nodup) : m.Pairwise (· < ·) := by
  subst e
  have h1 : m.Pairwise (· ≤ ·) := pw_nat hw fun i j q => by omega
  exact (h1.and nd).imp fun ⟨x, y⟩ => Nat.lt_of_le_of_ne x y
theorem gone_is {d : Desk} {a c q : Nat} {kvs : List (Key × V)} {is m : List Nat} (h : Ids kvs d is) (hm : m.Perm is) (up : m.Pairwise (· < ·)) : (d.edited a c q).2 = m.filter (gone d a c q) := by
  refine Sp.lost_is (up.filter _) fun i => ?_
  rw [List.mem_filter, hm.mem_iff, h.mem]
  unfold gone
  cases e : d.span i with
  | none => exact ⟨fun z => (by cases z.1), fun ⟨s, z, _⟩ => by cases z⟩
  | some s =>
    constructor
    · exact fun z => ⟨s, rfl, Option.isNone_iff_eq_none.mp z.2⟩
    · rintro ⟨t, z, y⟩
      cases z
      exact ⟨rfl, Option.isNone_iff_eq_none.mpr y⟩
theorem spf_moved (s : IhSpan.Span) (a c q : Nat) (t : IhSpan.Span) (g : s.edited a c q = some t) : spI (IhSpan.moveFrom a c q s.from_ : Nat) (IhSpan.moveTo a c q s.to_ : Nat) s.kind (bit s.main) s.note = spf t := by
  obtain ⟨e1, e2, e3, e4, e5, _⟩ := Sp.edited_some g
  unfold spf
  rw [e1, e2, e3, e4, e5]
section
variable {P : Program} {w : World} {K : PySem.W.Frag} {mg : Str → Option Value} {base : Heap}
/-- the desk's dict is a new one, with the spans as they are behind the edit; the lost ones are in a new list -/
def spMove (CD CS : Addr) : Sp := fun vs H Q _ => ∃ (D dx S M : Addr) (d : Desk) (a c q N : Nat) (kvs : List (Key × V)), vs = [.ref D, .int a, .int c, .int q] ∧ H D = some (.ins CD dx (dkf N S M)) ∧ H M = some (.dK kvs) ∧ (kvs.map (·.1)).Nodup ∧ (∀ k ∈ kvs.map (·.1), ∃ n : Nat, k = Sum.inl (n : Int)) ∧
  (∀ n : Nat, SpanIn CS H kvs n (d.span n)) ∧ kvs.length ≤ 400 ∧
  ∀ (L T : Addr) (kv : List (Key × V)) (m : List Nat) (H1 : Hp), Mv CS H H1 L T d a c q m kv → (∀ i, i ∈ m ↔ (d.span i).isSome = true) → m.filter (gone d a c q) = (d.edited a c q).2 → m.length = kvs.length → H L = none → H T = none → Q (.ref T) (upd H1 D (.ins CD dx (dkf N S L)))
theorem scMove : FnScope ["self", "at", "cut", "put", "left", "lost", "number", "span"] ["self", "at", "cut", "put"] (defScope sMove) := ⟨rfl, rfl, rfl, by decide +kernel, rfl, by decide +kernel, by decide +kernel⟩
theorem ok_move {f CD CS : Addr} {fd : FuncData} (F : Fun K "move_spans" "Desk.move_spans" sMove f fd) (T : TxtD K mg CD) (TS : TxtS K mg CS) (mA : CalM P w K mg base CS 3 "after" ["self", "at", "cut", "put"] (spAfter CS)) (mL : CalM P w K mg base CS 1 "is_lost" ["self"] (spIsLost CS)) :
    FnOk P w K mg base CX0 4 f fd ["self", "at", "cut", "put"] (spMove CD CS) := by
  refine F.ok scMove (fun vs H Q E h => ?_) (fun cdv A outer s H vs Q E hr h => ?_)
  · obtain ⟨D, dx, S, M, d, a, c, q, N, kvs, rfl, _⟩ := h
    rfl
  · obtain ⟨D, dx, S, M, d, a, c, q, N, kvs, rfl, hD, hM, hnd, hk, hs, hfew, k⟩ := h
    have hu := hu_of hr
    have hr1 : Room 1 _ := hr.mono (by decide)
    have nd := scMove.nd
    refine ⟨_, pss_cons (ps_set (i := 4) nd rfl (Or.inl rfl) pe_dnewK)
      (pss_cons (ps_set (i := 5) nd rfl (Or.inl rfl) (pe_lst pa_nil))
      (pss_cons (ps_for PassesOwn.never rfl (pi_list (pe_callB (cr_sortedD rfl) (by rfl) T.sorted (by rfl) (pa_cons (pe_fld (pv 0) rfl) pa_nil))) (pg_name (i := 6) nd rfl (Or.inl rfl))
        (pss_cons (ps_set (i := 7) nd rfl (Or.inl rfl) (pe_calM (ta := tDGet (tFld K (tVar 0) "spans") (tVar 6)) mA TS.cl hr (by exact pe_dget hu (pe_fld (pv 0) rfl) (pv 6) (fun _ _ => rfl)) (pa_cons (pv 1) (pa_cons (pv 2) (pa_cons (pv 3) pa_nil)))))
        (pss_one (ps_if (pt_val (pe_calM0 mL TS.cl hr1 (pv 7)))
          (pss_one (ps_expr (pe_bm PySem.F.plainAttrs_list PySem.F.slot_list_append PySem.F.type_list_append mt_append (pv 5) (pa_cons (pv 6) pa_nil))))
          (pss_one (ps_dput hu (pv 4) (pv 6) (pv 7) rfl))))))
      (pss_cons (ps_fld (pv 0) (pv 4) rfl)
      (pss_one (ps_ret (pv 5)))))), ?_⟩
    obtain ⟨is, his⟩ := ids_of hk hnd hs
    -- left = {}, lost = []
    intro L nL
    refine ⟨Nat.zero_le _, fun T0 nT => ?_⟩
    have nT0 : H T0 = none := upd_none nT
    have nLT : L ≠ T0 := fun z => by rw [← z, upd_same] at nT; cases nT
    have sm0 : Same H (upd (upd H L (.dK [])) T0 (.lst [])) := (same_new nL).trans (same_new nT)
    -- for number in sorted(self.spans)
    refine ⟨_, rfl, D, CD, dx, _, _, rfl, sm0 _ _ hD, T.cl, T.nsp, rfl, M, kvs, ic is, rfl, sm0 _ _ hM, ?_, fun ns' p pe pw np => ?_⟩
    · rw [his.keys]
      unfold ic
      rw [List.map_map]
      rfl
    have npT : p ≠ T0 := fun z => by rw [z, upd_same] at np; cases np
    obtain ⟨m, rfl, hm⟩ := ic_perm pe
    have up := up_of rfl pw (hm.nodup_iff.mpr his.nd)
    have emm : ∀ i, i ∈ m ↔ (d.span i).isSome = true := fun i => by rw [hm.mem_iff, his.mem]
    rw [ic_iv] at *
    have lm : m.length = kvs.length := by rw [hm.length_eq, his.len]
    refine ⟨p, rfl, ⟨_, SqL.of upd_same⟩, for_list (K := K) (a := p) (xs := iv m) (fun i σ H' => ∃ (kv : List (Key × V)) (v6 v7 : Option V), σ = [some (.ref D), some (.int a), some (.int c), some (.int q), some (.ref L), some (.ref T0), v6, v7] ∧ Mv CS H H' L T0 d a c q (m.take i) kv ∧ H' p = some (.lst (iv m)))
      ⟨[], none, none, rfl, ⟨sm0.trans (same_new np), ?_, ?_, List.nodup_nil, fun k hk => (by cases hk), fun n => ?_, fun n b z => (by cases z), fun n m b z => (by cases z), Nat.zero_le _⟩, upd_same⟩ (fun i σ H' _ ⟨_, _, _, _, _, z⟩ => SqL.of z) ?_ ?_⟩
    · rw [upd_ne (ne_of_none (H := upd (upd H L (.dK [])) T0 (.lst [])) (o := .dK []) ((upd_ne nLT).trans upd_same) np), upd_ne nLT, upd_same]
    · rw [upd_ne (ne_of_none (H := upd (upd H L (.dK [])) T0 (.lst [])) (o := .lst []) upd_same np), upd_same]
      rfl
    · rw [List.take_zero, if_neg (by simp)]
      rfl
    · rintro i y σ H' hi ⟨kv, v6, v7, rfl, mv, hp⟩
      obtain ⟨n, hn, rfl⟩ := iv_at hi
      have tk := take_snoc hn
      have mem : n ∈ m := List.mem_of_getElem? hn
      obtain ⟨t, et⟩ := Option.isSome_iff_exists.mp ((emm n).mp mem)
      have hs1 := hs n
      rw [et] at hs1
      obtain ⟨b, hb, dy, hsb⟩ := hs1
      have nn : n ∉ m.take i := fun z => by
        have e := List.take_append_drop i m
        have up' := up
        rw [← e] at up'
        have hl : i < m.length := (List.getElem?_eq_some_iff.mp hn).1
        have ed : m.drop i = n :: m.drop (i + 1) := by rw [List.drop_eq_getElem_cons hl, (List.getElem?_eq_some_iff.mp hn).2]
        have := (List.pairwise_append.mp up').2.2 n z n (by rw [ed]; exact List.Mem.head _)
        omega
      have li : (m.take i).length ≤ 400 := by rw [List.length_take]; omega
      -- span = self.spans[number].after(at, cut, put)
      refine ⟨_, rfl, D, CD, dx, _, _, rfl, mv.same _ _ hD, T.cl, T.nsp, rfl, _, rfl, M, .ref b, rfl, (by rw [← hb]; exact DGet.k (k := Sum.inl (n : Int)) (mv.same _ _ hM)), b, dy, _, rfl, mv.same _ _ hsb, rfl, _, rfl, _, rfl, _, rfl, b, dy, t, a, c, q, rfl, mv.same _ _ hsb, fun x dz H2 sm2 nx hx _ => ?_⟩
      refine ⟨_, rfl, x, dz, _, rfl, hx, rfl, x, dz, _, _, _, _, _, rfl, hx, fun r hr' => ⟨r, rfl, ?_⟩⟩
      refine ite2 (fun h1 => ?_) (fun h1 => ?_)
      · have g : t.edited a c q = none := by
          unfold IhSpan.Span.edited
          rw [if_neg (by have := hr'.mp h1; omega)]
        have hT2 : H2 T0 = some (.lst (iv ((m.take i).filter (gone d a c q)))) := sm2 _ _ mv.dT
        refine ⟨_, rfl, .inl ⟨rfl, _, SqL.of hT2⟩, _, rfl, T0, _, _, rfl, rfl, hT2, ?_, ?_⟩
        · rw [iv_len]
          have := List.length_filter_le (gone d a c q) (m.take i)
          show _ < 16777216
          omega
        · refine ⟨kv, _, _, rfl, ?_, ?_⟩
          · rw [tk]
            exact mv.lose nT0 sm2 et g
          · rw [upd_ne npT]
            exact sm2 _ _ hp
      · have g : ∃ u, t.edited a c q = some u := by
          unfold IhSpan.Span.edited
          rw [if_pos (by have : ¬ _ := fun z => h1 (hr'.mpr z); omega)]
          exact ⟨_, rfl⟩
        obtain ⟨u, g⟩ := g
        rw [spf_moved t a c q u g] at hx
        have hL2 : H2 L = some (.dK kv) := sm2 _ _ mv.dL
        refine ⟨_, rfl, _, rfl, _, rfl, L, _, rfl, DPut.k (k := Sum.inl (n : Int)) hL2 (small1000 (by have := mv.few; omega)), ?_⟩
        refine ⟨putK kv (Sum.inl (n : Int)) (.ref x), _, _, rfl, ?_, ?_⟩
        · rw [tk]
          exact mv.stay nL sm2 nn et g nx hx
        · rw [upd_ne (ne_of (sm2 _ _ hp) hL2 (by intro z; cases z))]
          exact sm2 _ _ hp
    · rintro σ H' ⟨kv, v6, v7, rfl, mv, hp⟩
      rw [iv_len, List.take_length] at mv
      refine ⟨_, rfl, _, rfl, D, CD, dx, _, rfl, mv.same _ _ hD, T.cl, T.nsp, (by show 3 < 1000; decide), ?_⟩
      exact ⟨_, rfl, k L T0 kv m H' mv emm (gone_is his hm up).symm lm nL nT0⟩
end
end Bk

set_option autoImplicit false
set_option Elab.async false
set_option linter.all false
set_option maxRecDepth 100000
set_option maxHeartbeats 2000000
namespace Bk
open PySem PySem.Spec PyProof.Rows L2
open IhSpan (Desk)
section
variable {P : Program} {w : World} {K : PySem.W.Frag} {mg : Str → Option Value} {base : Heap}
def spEdit (CD CS : Addr) : Sp := fun vs H Q _ => ∃ (D : Addr) (d : Desk) (n a c q : Nat) (F : Addr → Prop), vs = [.ref D, .int a, .int c, .int q] ∧ n < 400 ∧ DeskAt CD CS H D d n F ∧ Done CD CS H D d n F (.edit a c q) Q
theorem scEdit : FnScope ["self", "at", "cut", "put", "length"] ["self", "at", "cut", "put"] (defScope sEdit) := ⟨rfl, rfl, rfl, by decide +kernel, rfl, by decide +kernel, by decide +kernel⟩
theorem ok_edit {f CD CS : Addr} {fd : FuncData} (F : Fun K "edit" "Desk.edit" sEdit f fd) (T : TxtD K mg CD) (cA : Cal P w K mg base 1 "answered" ["numbers"] spAnswered) (cR : Cal P w K mg base 1 "refused" ["number"] spRefused)
    (cS : Cal P w K mg base 2 "starts_after" ["starts", "at", "cut", "put"] spStartsAfter) (mM : CalM P w K mg base CD 4 "move_spans" ["self", "at", "cut", "put"] (spMove CD CS)) : FnOk P w K mg base CX0 5 f fd ["self", "at", "cut", "put"] (spEdit CD CS) := by
  refine F.ok scEdit (fun vs H Q E h => ?_) (fun cdv A outer s H vs Q E hr h => ?_)
  · obtain ⟨D, d, n, a, c, q, G, rfl, _⟩ := h
    rfl
  · obtain ⟨D, d, n, a, c, q, G, rfl, hn, hD, k⟩ := h
    have hr1 : Room 1 _ := hr.mono (by decide)
    have hr2 : Room 2 _ := hr.mono (by decide)
    have nd := scEdit.nd
    refine ⟨_, pss_cons (ps_if (pt_cmpR op_gt (pe_op op_add (pv 1) (pv 2)) (pe_fld (pv 0) rfl) (nomark _)) (pss_one (ps_ret (pe_cal cR hr1 (pa_cons pe_int pa_nil)))) pss_nil)
      (pss_cons (ps_set (i := 4) nd rfl (Or.inl rfl) (pe_op op_add (pe_op op_sub (pe_fld (pv 0) rfl) (pv 2)) (pv 3)))
      (pss_cons (ps_if (pt_cmpR op_gt (pv 4) (pe_num T.mostC) (nomark _)) (pss_one (ps_ret (pe_cal cR hr1 (pa_cons pe_int pa_nil)))) pss_nil)
      (pss_cons (ps_fld (pv 0) (pv 4) rfl)
      (pss_cons (ps_fld (pv 0) (pe_cal cS hr2 (pa_cons (pe_fld (pv 0) rfl) (pa_cons (pv 1) (pa_cons (pv 2) (pa_cons (pv 3) pa_nil))))) rfl)
      (pss_one (ps_ret (pe_cal cA hr1 (pa_cons (pe_calM mM T.cl hr (pv 0) (pa_cons (pv 1) (pa_cons (pv 2) (pa_cons (pv 3) pa_nil)))) pa_nil)))))))), ?_⟩
    have hD' := hD
    obtain ⟨S, M, kvs, hI, hF⟩ := hD'
    obtain ⟨dx, hp⟩ := hI.obj
    have est : IhSpans.step d (.edit a c q) = if d.length < a + c then (d, .refused 1) else if IhSpan.LONGEST < d.length - c + q then (d, .refused 2) else ((d.edited a c q).1, .row (d.edited a c q).2) := rfl
    refine ⟨_, rfl, _, rfl, _, _, rfl, rfl, _, rfl, D, CD, dx, _, _, rfl, hp, T.cl, T.nle, rfl, _, _, rfl, rfl, _, rfl, ?_⟩
    refine ite2 (fun h1 => ?_) (fun h1 => ?_)
    · have h1 := of_decide_eq_true h1
      rw [if_pos (show d.length < a + c by omega)] at est
      refine ⟨_, rfl, fun p hp => ?_⟩
      exact done_same hD k (by unfold Sp.next; rw [est]) hp (by unfold Sp.nums; rw [est]; rfl)
    · rw [decide_eq_true_eq] at h1
      have k1 : ¬ d.length < a + c := by omega
      rw [if_neg k1] at est
      have el : (d.length : Int) - (c : Int) + (q : Int) = ((d.length - c + q : Nat) : Int) := by omega
      refine ⟨_, rfl, D, CD, dx, _, _, rfl, hp, T.cl, T.nle, rfl, _, rfl, _, _, rfl, rfl, _, rfl, _, _, rfl, rfl, ?_⟩
      refine ⟨_, rfl, _, _, rfl, rfl, _, rfl, ?_⟩
      refine ite2 (fun h2 => ?_) (fun h2 => ?_)
      · have h2 : IhSpan.LONGEST < d.length - c + q := by
          have := of_decide_eq_true h2
          show 2147483647 < d.length - c + q
          omega
        rw [if_pos h2] at est
        refine ⟨_, rfl, fun p hp => ?_⟩
        exact done_same hD k (by unfold Sp.next; rw [est]) hp (by unfold Sp.nums; rw [est]; rfl)
      · have k2 : ¬ IhSpan.LONGEST < d.length - c + q := by
          rw [decide_eq_true_eq] at h2
          show ¬ 2147483647 < d.length - c + q
          omega
        rw [if_neg k2] at est
        have ed : Sp.next d (.edit a c q) = (d.edited a c q).1 := by unfold Sp.next; rw [est]
        have en : Sp.nums d (.edit a c q) = 0 :: SpNeutral.ints (d.edited a c q).2 := by unfold Sp.nums; rw [est]; rfl
        obtain ⟨r, hr0⟩ := hI.ok.first
        have hpg : r.length < 100000 := by
          have := hI.ok.pages
          rw [hr0, List.length_cons] at this
          have : IhSpan.PAGES = 65536 := rfl
          omega
        -- self.length = length
        refine ⟨_, rfl, _, rfl, D, CD, dx, _, rfl, hp, T.cl, T.nle, (by show 3 < 1000; decide), ?_⟩
        have nSD : S ≠ D := ne_of hI.st hp (by intro z; cases z)
        have nMD : M ≠ D := ne_of hI.mp hp (by intro z; cases z)
        have kp1 : ∀ o b u, b ≠ D → H b = some u → upd H D o b = some u := fun o b u n z => by rw [upd_ne n]; exact z
        -- self.starts = starts_after(..)
        have hS1 : ∀ o, upd H D o S = some (.lst (iv (0 :: r))) := fun o => by rw [← hr0]; exact kp1 o _ _ nSD hI.st
        refine ⟨_, rfl, D, CD, dx, _, _, rfl, upd_same, T.cl, T.nst, rfl, _, rfl, _, rfl, _, rfl, S, r, a, c, q, rfl, hS1 _, hpg, fun S2 H2 sm2 nS2 hS2 => ?_⟩
        refine ⟨_, rfl, D, CD, dx, _, rfl, sm2 _ _ upd_same, T.cl, T.nst, (by show 3 < 1000; decide), ?_⟩
        have nS2D : S2 ≠ D := fun z => by rw [z, upd_same] at nS2; cases nS2
        have kp3 : ∀ o b u, b ≠ D → H b = some u → upd H2 D o b = some u := fun o b u n z => by rw [upd_ne n]; exact sm2 _ _ (kp1 _ b u n z)
        have nw3 : ∀ o b, upd H2 D o b = none → H b = none := fun o b z => upd_none (sm2.free (upd_none z))
        -- answered(self.move_spans(..))
        have hs3 : ∀ o i, SpanIn CS (upd H2 D o) kvs i (d.span i) := fun o i => by
          cases e : d.span i with
          | none => exact hI.none e
          | some t =>
            obtain ⟨b, g1, dy, g2⟩ := hI.some e
            exact ⟨b, g1, dy, kp3 _ _ _ (ne_of g2 hp (by intro z; cases z)) g2⟩
        refine ⟨_, rfl, D, dx, _, rfl, upd_same, rfl, _, rfl, _, rfl, _, rfl, D, dx, S2, M, d, a, c, q, d.length - c + q, kvs, rfl, ?_, kp3 _ _ _ nMD hI.mp, hI.nd, hI.keys, hs3 _, Nat.le_trans hI.few (Nat.le_of_lt hn), fun L T0 kv m H4 mv hm hg hl nL nT => ?_⟩
        · rw [upd_same]
          refine congrArg some (congrArg (HO.ins CD dx) ?_)
          show [(("length" : Str), V.int ((d.length : Int) - (c : Int) + (q : Int))), ("starts", .ref S2), ("spans", .ref M)] = dkf (d.length - c + q) S2 M
          rw [el]
          rfl
        have nLD : L ≠ D := fun z => by rw [z, upd_same] at nL; cases nL
        have nTD : T0 ≠ D := fun z => by rw [z, upd_same] at nT; cases nT
        have lf : (m.filter (gone d a c q)).length ≤ 400 := Nat.le_trans (List.length_filter_le _ _) (by rw [hl]; exact Nat.le_trans hI.few (Nat.le_of_lt hn))
        refine ⟨T0, _, rfl, (upd_ne nTD).trans mv.dT, (by rw [iv_len]; omega), fun p H' sm np hl' => ?_⟩
        have np4 := upd_none np
        have nx := Sp.next_ok hI.ok (.edit a c q)
        rw [ed] at nx
        have es : (d.edited a c q).1.starts = 0 :: r.map (IhSpan.moveFrom a c q) := by
          unfold IhSpan.Desk.edited
          rw [hr0]
        refine done_by k (F1 := Foot D S2 L kv) ⟨S2, L, kv, ?_, fun _ => Iff.rfl⟩ ⟨fun b hb => ?_, fun b o z n => ?_⟩ sm np (nw3 _ _ (mv.same.free np4)) hl' ?_
        · rw [ed]
          refine ⟨⟨dx, upd_same⟩, ?_, (upd_ne nLD).trans mv.dL, mv.nd, mv.keys, fun i => ?_, mv.inj, Nat.le_succ_of_le (Nat.le_trans mv.few (by rw [hl]; exact hI.few)), nx⟩
          · rw [es, upd_ne nS2D]
            exact mv.same _ _ ((upd_ne nS2D).trans hS2)
          · rw [Sp.span_edited]
            have z := mv.sp i
            have e : (if i ∈ m then (d.span i).bind (fun s => s.edited a c q) else none) = (d.span i).bind fun s => s.edited a c q := by
              by_cases y : i ∈ m
              · rw [if_pos y]
              · rw [if_neg y]
                have : d.span i = none := by
                  cases w : d.span i with
                  | none => rfl
                  | some t => exact absurd ((hm i).mpr (by rw [w]; rfl)) y
                rw [this]
                rfl
            rw [e] at z
            cases eo : (d.span i).bind fun s => s.edited a c q with
            | none => rw [eo] at z; exact z
            | some t =>
              rw [eo] at z
              obtain ⟨b, g1, dy, g2⟩ := z
              have nb := mv.fresh i b g1
              exact ⟨b, g1, dy, (upd_ne fun y => by rw [y, upd_same] at nb; cases nb).trans g2⟩
        · rcases hb with rfl | rfl | rfl | ⟨i, z⟩
          · exact .inl ((hF _).mpr (.inl rfl))
          · exact .inr (upd_none nS2)
          · exact .inr (nw3 _ _ nL)
          · exact .inr (nw3 _ _ (mv.fresh i b z))
        · have nbD : b ≠ D := fun y => n ((hF b).mpr (.inl y))
          rw [upd_ne nbD]
          exact mv.same _ _ (kp3 _ _ _ nbD z)
        · rw [en, hg]
          show _ = V.int 0 :: iz (SpNeutral.ints (d.edited a c q).2)
          unfold iz SpNeutral.ints iv
          rw [List.map_map]
          rfl
end
end Bk

set_option autoImplicit false
set_option Elab.async false
set_option linter.all false
set_option maxRecDepth 100000
set_option maxHeartbeats 2000000
namespace Bk
open PySem PySem.Spec PyProof.Rows L2
open IhSpan (Desk)
abbrev sCallEnd : Stmt := top 30
abbrev sAnswer : Stmt := top 31
abbrev sAnswers : Stmt := top 32
/-! ### a call's number, its numbers -/
def code : IhSpans.Call → Int
  | .begin_ _ => 1
  | .length => 2
  | .pages _ => 3
  | .start _ => 4
  | .put _ => 5
  | .drop _ => 6
  | .get _ => 7
  | .edit _ _ _ => 8
  | .place _ => 9
  | .holds _ => 10
  | .on _ => 11
def args (x : IhSpans.Call) : List Int := (Sp.flat1 x).tail
theorem flat1_eq (x : IhSpans.Call) : Sp.flat1 x = code x :: args x := by cases x <;> rfl
theorem iz_ints (l : List Nat) : iz (SpNeutral.ints l) = iv l := by
  unfold iz iv SpNeutral.ints
  rw [List.map_map]
  rfl
theorem iz_len (l : List Int) : (iz l).length = l.length := List.length_map _
theorem iz_app (l m : List Int) : iz (l ++ m) = iz l ++ iz m := List.map_append
theorem iz_get {l : List Int} {i : Nat} {n : Int} (h : l[i]? = some n) : (iz l)[i]? = some (V.int n) := by
  unfold iz
  rw [List.getElem?_map, h]
  rfl
theorem done_step {CD CS : Addr} {H H1 : Hp} {D : Addr} {d : Desk} {c : Nat} {F F1 : Addr → Prop} {x : IhSpans.Call} {Q : VK} (k : Done CD CS H D d c F x Q) (st : Step H F H1 F1) (nw : ∀ b, H1 b = none → H b = none) : Done CD CS H1 D d c F1 x Q :=
  fun p H' F' h1 h2 h3 h4 h5 => k p H' F' h1 (st.trans h2) h3 (nw p h4) h5
theorem cut_mid {xs : List V} {i j : Nat} (h : i ≤ j) (k : j ≤ xs.length) : cutV xs (some (i : Int)) (some (j : Int)) = (xs.drop i).take (j - i) := by
  unfold cutV
  rw [HT.sIx_nat, HT.sIx_nat, Nat.min_eq_left k, Nat.min_eq_left (Nat.le_trans h k)]
section
variable {P : Program} {w : World} {K : PySem.W.Frag} {mg : Str → Option Value} {base : Heap}
def behind : List (Int × Int) := [(1, 1), (2, 0), (4, 1), (5, 5), (6, 1), (7, 1), (8, 3), (9, 1), (10, 1), (11, 1)]
def spCallEnd (K : PySem.W.Frag) : Sp := fun vs H Q _ => ∃ (a : Addr) (pre post : List Int) (x : IhSpans.Call), vs = [.ref a, .int pre.length] ∧ SqL K H a (iz (pre ++ (Sp.flat1 x ++ post))) ∧ Q (.int ((pre.length : Int) + (Sp.flat1 x).length)) H
theorem scCallEnd : FnScope ["calls", "at"] ["calls", "at"] (defScope sCallEnd) := ⟨rfl, rfl, rfl, by decide +kernel, rfl, by decide +kernel, by decide +kernel⟩
theorem ok_callEnd {f : Addr} {fd : FuncData} (F : Fun K "call_end" "call_end" sCallEnd f fd) (tp : ∃ t, mg "PAGES" = some (.int 3 t)) (tb : ∃ a, mg "NUMBERS_BEHIND" = some (.ref a) ∧ TabK K a behind) :
    FnOk P w K mg base CX0 1 f fd ["calls", "at"] (spCallEnd K) := by
  refine F.ok scCallEnd (fun vs H Q E h => ?_) (fun cdv A outer s H vs Q E hr h => ?_)
  · obtain ⟨a, pre, post, x, rfl, _⟩ := h
    rfl
  · obtain ⟨a, pre, post, x, rfl, hS, k⟩ := h
    refine ⟨_, pss_cons (ps_if (pt_cmpR op_eq (pe_ix ix_list (pv 0) (pv 1) (fun _ _ => rfl)) (pe_num tp) (nomark _))
        (pss_one (ps_ret (pe_op op_add (pe_op op_add (pv 1) pe_int) (pe_ix ix_list (pv 0) (pe_op op_add (pv 1) pe_int) (fun _ _ => rfl))))) pss_nil)
      (pss_one (ps_ret (pe_op op_add (pe_op op_add (pv 1) pe_int) (pe_tab tb (pe_ix ix_list (pv 0) (pv 1) (fun _ _ => rfl)) (fun _ _ => rfl))))), ?_⟩
    have g0 : atI (iz (pre ++ (Sp.flat1 x ++ post))) (pre.length : Int) = some (V.int (code x)) := atI_nat (iz_get (by rw [List.getElem?_append_right (Nat.le_refl _), Nat.sub_self, flat1_eq]; rfl))
    refine ⟨_, rfl, _, rfl, a, _, _, _, rfl, rfl, hS, g0, rfl, _, rfl, ?_⟩
    refine ite2 (fun h1 => ?_) (fun h1 => ?_)
    · have h1 : code x = 3 := V.int.inj (of_decide_eq_true h1)
      cases x with
      | pages l =>
        have g1 : atI (iz (pre ++ (Sp.flat1 (.pages l) ++ post))) ((pre.length : Int) + 1) = some (V.int (l.length : Int)) := at_of (j := pre.length + 1) (by omega) (iz_get (by rw [List.getElem?_append_right (Nat.le_succ _), show pre.length.succ - pre.length = 1 by omega]; rfl))
        refine ⟨_, rfl, _, _, rfl, rfl, _, rfl, _, rfl, _, _, rfl, rfl, a, _, _, _, rfl, rfl, hS, g1, _, _, rfl, rfl, ?_⟩
        have e : (pre.length : Int) + 2 + (l.length : Int) = (pre.length : Int) + ((Sp.flat1 (.pages l)).length : Nat) := by
          show _ = (pre.length : Int) + ((SpNeutral.ints l).length + 1 + 1 : Nat)
          unfold SpNeutral.ints
          rw [List.length_map]
          omega
        rw [← e] at k
        exact k
      | _ => exact absurd h1 (by simp [code])
    · have h1 : ¬ code x = 3 := fun z => h1 (decide_eq_true (congrArg V.int z))
      refine ⟨_, rfl, _, _, rfl, rfl, _, rfl, _, rfl, a, _, _, _, rfl, rfl, hS, g0, code x, ((args x).length : Int), rfl, ?_, _, _, rfl, rfl, ?_⟩
      · cases x with
        | pages l => exact absurd rfl h1
        | _ => rfl
      · have e : (pre.length : Int) + 1 + ((args x).length : Int) = (pre.length : Int) + ((Sp.flat1 x).length : Nat) := by
          rw [flat1_eq, List.length_cons]
          omega
        rw [← e] at k
        exact k
def spAnswer (CD CS : Addr) : Sp := fun vs H Q _ => ∃ (D a : Addr) (d : Desk) (c : Nat) (x : IhSpans.Call) (F : Addr → Prop), vs = [.ref D, .int (code x), .ref a] ∧ H a = some (.lst (iz (args x))) ∧ c < 400 ∧ DeskAt CD CS H D d c F ∧ Done CD CS H D d c F x Q
theorem scAnswer : FnScope ["desk", "call", "numbers"] ["desk", "call", "numbers"] (defScope sAnswer) := ⟨rfl, rfl, rfl, by decide +kernel, rfl, by decide +kernel, by decide +kernel⟩
/-- the numbers that tell the calls apart -/
structure TxtN (mg : Str → Option Value) : Prop where
  n1 : ∃ t, mg "BEGIN" = some (.int 1 t)
  n2 : ∃ t, mg "LENGTH" = some (.int 2 t)
  n3 : ∃ t, mg "PAGES" = some (.int 3 t)
  n4 : ∃ t, mg "START" = some (.int 4 t)
  n5 : ∃ t, mg "PUT" = some (.int 5 t)
  n6 : ∃ t, mg "DROP" = some (.int 6 t)
  n7 : ∃ t, mg "GET" = some (.int 7 t)
  n8 : ∃ t, mg "EDIT" = some (.int 8 t)
  n9 : ∃ t, mg "PLACE" = some (.int 9 t)
  n10 : ∃ t, mg "HOLDS" = some (.int 10 t)
theorem eqT {n m : Int} {A B : Prop} (e : n = m) (h : A) : if decide (V.int n = V.int m) = true then A else B := by
  rw [decide_eq_true (congrArg V.int e)]
  exact iteT h
theorem eqF {n m : Int} {A B : Prop} (e : ¬ n = m) (h : B) : if decide (V.int n = V.int m) = true then A else B := by
  rw [decide_eq_false fun z => e (V.int.inj z)]
  exact iteF h
theorem ok_answer {f CD CS : Addr} {fd : FuncData} (F : Fun K "answer" "answer" sAnswer f fd) (T : TxtD K mg CD) (N : TxtN mg)
    (m1 : CalM P w K mg base CD 2 "begin" ["self", "length"] (spBegin CD CS)) (m2 : CalM P w K mg base CD 2 "tell_length" ["self"] (spLength CD CS)) (m3 : CalM P w K mg base CD 2 "pages" ["self", "starts"] (spPages K CD CS))
    (m4 : CalM P w K mg base CD 2 "start" ["self", "page"] (spStart CD CS)) (m5 : CalM P w K mg base CD 3 "put" ["self", "span"] (spPut CD CS)) (m6 : CalM P w K mg base CD 2 "drop" ["self", "number"] (spDrop CD CS))
    (m7 : CalM P w K mg base CD 2 "get" ["self", "number"] (spGet CD CS)) (m8 : CalM P w K mg base CD 5 "edit" ["self", "at", "cut", "put"] (spEdit CD CS)) (m9 : CalM P w K mg base CD 3 "place" ["self", "number"] (spPlace CD CS))
    (m10 : CalM P w K mg base CD 5 "holds" ["self", "place"] (spHolds CD CS)) (m11 : CalM P w K mg base CD 5 "on" ["self", "page"] (spOn CD CS))
    (mS : CalC P w K mg base CS 1 "Span" ["self", "source", "to", "kind", "main", "note"] (spSInit CS)) : FnOk P w K mg base CX0 6 f fd ["desk", "call", "numbers"] (spAnswer CD CS) := by
  refine F.ok scAnswer (fun vs H Q E h => ?_) (fun cdv A outer s H vs Q E hr h => ?_)
  · obtain ⟨D, a, d, c, x, G, rfl, _⟩ := h
    rfl
  · obtain ⟨D, a, d, c, x, G, rfl, ha, hc, hD, k⟩ := h
    have hr2 : Room 2 _ := hr.mono (by decide)
    have hr3 : Room 3 _ := hr.mono (by decide)
    have SA : SqL K H a (iz (args x)) := SqL.of ha
    refine ⟨_, pss_cons (ps_if (pt_cmpR op_eq (pv 1) (pe_num N.n1) (nomark _)) (pss_one (ps_ret (pe_calM m1 T.cl hr2 (pv 0) (pa_cons (pe_ix ix_list (pv 2) pe_int (fun _ _ => rfl)) pa_nil)))) pss_nil)
      (pss_cons (ps_if (pt_cmpR op_eq (pv 1) (pe_num N.n2) (nomark _)) (pss_one (ps_ret (pe_calM0 m2 T.cl hr2 (pv 0)))) pss_nil)
      (pss_cons (ps_if (pt_cmpR op_eq (pv 1) (pe_num N.n3) (nomark _)) (pss_one (ps_ret (pe_calM m3 T.cl hr2 (pv 0) (pa_cons (pe_slice sl_list (pv 2) (po_some pe_int) po_none) pa_nil)))) pss_nil)
      (pss_cons (ps_if (pt_cmpR op_eq (pv 1) (pe_num N.n4) (nomark _)) (pss_one (ps_ret (pe_calM m4 T.cl hr2 (pv 0) (pa_cons (pe_ix ix_list (pv 2) pe_int (fun _ _ => rfl)) pa_nil)))) pss_nil)
      (pss_cons (ps_if (pt_cmpR op_eq (pv 1) (pe_num N.n5) (nomark _)) (pss_one (ps_ret (pe_calM m5 T.cl hr3 (pv 0) (pa_cons (pe_calC mS hr2 (pa_cons (pe_ix ix_list (pv 2) pe_int (fun _ _ => rfl)) (pa_cons (pe_ix ix_list (pv 2) pe_int (fun _ _ => rfl))
          (pa_cons (pe_ix ix_list (pv 2) pe_int (fun _ _ => rfl)) (pa_cons (pe_ix ix_list (pv 2) pe_int (fun _ _ => rfl)) (pa_cons (pe_ix ix_list (pv 2) pe_int (fun _ _ => rfl)) pa_nil)))))) pa_nil)))) pss_nil)
      (pss_cons (ps_if (pt_cmpR op_eq (pv 1) (pe_num N.n6) (nomark _)) (pss_one (ps_ret (pe_calM m6 T.cl hr2 (pv 0) (pa_cons (pe_ix ix_list (pv 2) pe_int (fun _ _ => rfl)) pa_nil)))) pss_nil)
      (pss_cons (ps_if (pt_cmpR op_eq (pv 1) (pe_num N.n7) (nomark _)) (pss_one (ps_ret (pe_calM m7 T.cl hr2 (pv 0) (pa_cons (pe_ix ix_list (pv 2) pe_int (fun _ _ => rfl)) pa_nil)))) pss_nil)
      (pss_cons (ps_if (pt_cmpR op_eq (pv 1) (pe_num N.n8) (nomark _)) (pss_one (ps_ret (pe_calM m8 T.cl hr (pv 0) (pa_cons (pe_ix ix_list (pv 2) pe_int (fun _ _ => rfl)) (pa_cons (pe_ix ix_list (pv 2) pe_int (fun _ _ => rfl)) (pa_cons (pe_ix ix_list (pv 2) pe_int (fun _ _ => rfl)) pa_nil)))))) pss_nil)
      (pss_cons (ps_if (pt_cmpR op_eq (pv 1) (pe_num N.n9) (nomark _)) (pss_one (ps_ret (pe_calM m9 T.cl hr3 (pv 0) (pa_cons (pe_ix ix_list (pv 2) pe_int (fun _ _ => rfl)) pa_nil)))) pss_nil)
      (pss_cons (ps_if (pt_cmpR op_eq (pv 1) (pe_num N.n10) (nomark _)) (pss_one (ps_ret (pe_calM m10 T.cl hr (pv 0) (pa_cons (pe_ix ix_list (pv 2) pe_int (fun _ _ => rfl)) pa_nil)))) pss_nil)
      (pss_one (ps_ret (pe_calM m11 T.cl hr (pv 0) (pa_cons (pe_ix ix_list (pv 2) pe_int (fun _ _ => rfl)) pa_nil))))))))))))), ?_⟩
    have hD' := hD
    obtain ⟨S, M, kvs, hI, hF⟩ := hD'
    obtain ⟨dx, hp⟩ := hI.obj
    refine ⟨_, rfl, rfl, _, rfl, ?_⟩
    cases x with
    | begin_ n =>
      refine eqT rfl ⟨_, rfl, D, dx, _, rfl, hp, rfl, _, rfl, a, _, _, _, rfl, rfl, SA, at_of (j := 0) rfl rfl, D, d, c, n, G, rfl, hD, k⟩
    | length =>
      refine eqF (by simp [code]) ⟨_, rfl, rfl, _, rfl, eqT rfl ⟨_, rfl, D, dx, _, rfl, hp, rfl, D, d, c, G, rfl, hD, k⟩⟩
    | pages l =>
      refine eqF (by simp [code]) ⟨_, rfl, rfl, _, rfl, eqF (by simp [code]) ⟨_, rfl, rfl, _, rfl, eqT rfl ⟨_, rfl, D, dx, _, rfl, hp, rfl, _, rfl, _, rfl, a, _, rfl, SA, fun p hp' => ?_⟩⟩⟩
      have ec : cutV (iz (args (.pages l))) (some 1) none = iv l := by
        rw [← iz_ints]
        exact cut_from (xs := iz (args (.pages l))) (i := 1) (by rw [iz_len]; exact Nat.succ_le_succ (Nat.zero_le _))
      refine ⟨D, p, d, c, l, G, rfl, ?_, ?_, ?_⟩
      · exact SqL.of (by rw [← ec]; exact upd_same)
      · obtain ⟨S, M, kvs, hI, hF⟩ := hD
        exact ⟨S, M, kvs, hI.keep (Nat.le_refl _) fun b o _ z => same_new hp' b o z, hF⟩
      · exact done_step k (Step.new hp') fun b z => upd_none z
    | start n =>
      refine eqF (by simp [code]) ⟨_, rfl, rfl, _, rfl, eqF (by simp [code]) ⟨_, rfl, rfl, _, rfl, eqF (by simp [code]) ⟨_, rfl, rfl, _, rfl, eqT rfl ⟨_, rfl, D, dx, _, rfl, hp, rfl, _, rfl, a, _, _, _, rfl, rfl, SA, at_of (j := 0) rfl rfl, D, d, c, n, G, rfl, hD, k⟩⟩⟩⟩
    | put t =>
      refine eqF (by simp [code]) ⟨_, rfl, rfl, _, rfl, eqF (by simp [code]) ⟨_, rfl, rfl, _, rfl, eqF (by simp [code]) ⟨_, rfl, rfl, _, rfl, eqF (by simp [code]) ⟨_, rfl, rfl, _, rfl, eqT rfl ?_⟩⟩⟩⟩
      refine ⟨_, rfl, D, dx, _, rfl, hp, rfl, _, rfl, a, _, _, _, rfl, rfl, SA, at_of (j := 0) rfl rfl, _, rfl, a, _, _, _, rfl, rfl, SA, at_of (j := 1) rfl rfl, _, rfl, a, _, _, _, rfl, rfl, SA, at_of (j := 2) rfl rfl,
        _, rfl, a, _, _, _, rfl, rfl, SA, at_of (j := 3) rfl rfl, _, rfl, a, _, _, _, rfl, rfl, SA, at_of (j := 4) rfl rfl, fun q dq nq ndq ne => ?_⟩
      refine ⟨q, dq, _, _, _, _, _, rfl, upd_same, rfl, ?_⟩
      have sm : Same H (upd (upd (upd H dq (.own q)) q (.ins CS dq [])) q (.ins CS dq (spf t))) := fun b o z => by
        rw [upd_ne (ne_of_none z nq), upd_ne (ne_of_none z nq), upd_ne (ne_of_none z ndq)]
        exact z
      refine ⟨D, q, dq, d, c, t, G, rfl, upd_same, hD.new nq, hc, ?_, ?_⟩
      · obtain ⟨S, M, kvs, hI, hF⟩ := hD
        exact ⟨S, M, kvs, hI.keep (Nat.le_refl _) fun b o _ z => sm b o z, hF⟩
      · refine done_step k ⟨fun b z => ?_, fun b o z _ => sm b o z⟩ fun b z => upd_none (upd_none (upd_none z))
        rcases z with z | z
        · exact .inl z
        · exact .inr (by rw [z]; exact nq)
    | drop n =>
      exact eqF (by simp [code]) ⟨_, rfl, rfl, _, rfl, eqF (by simp [code]) ⟨_, rfl, rfl, _, rfl, eqF (by simp [code]) ⟨_, rfl, rfl, _, rfl, eqF (by simp [code]) ⟨_, rfl, rfl, _, rfl, eqF (by simp [code]) ⟨_, rfl, rfl, _, rfl, eqT rfl ⟨_, rfl, D, dx, _, rfl, hp, rfl, _, rfl, a, _, _, _, rfl, rfl, SA, at_of (j := 0) rfl rfl, D, d, c, n, G, rfl, hD, k⟩⟩⟩⟩⟩⟩
    | get n =>
      exact eqF (by simp [code]) ⟨_, rfl, rfl, _, rfl, eqF (by simp [code]) ⟨_, rfl, rfl, _, rfl, eqF (by simp [code]) ⟨_, rfl, rfl, _, rfl, eqF (by simp [code]) ⟨_, rfl, rfl, _, rfl, eqF (by simp [code]) ⟨_, rfl, rfl, _, rfl, eqF (by simp [code]) ⟨_, rfl, rfl, _, rfl, eqT rfl ⟨_, rfl, D, dx, _, rfl, hp, rfl, _, rfl, a, _, _, _, rfl, rfl, SA, at_of (j := 0) rfl rfl, D, d, c, n, G, rfl, hD, k⟩⟩⟩⟩⟩⟩⟩
    | edit e u v =>
      exact eqF (by simp [code]) ⟨_, rfl, rfl, _, rfl, eqF (by simp [code]) ⟨_, rfl, rfl, _, rfl, eqF (by simp [code]) ⟨_, rfl, rfl, _, rfl, eqF (by simp [code]) ⟨_, rfl, rfl, _, rfl, eqF (by simp [code]) ⟨_, rfl, rfl, _, rfl, eqF (by simp [code]) ⟨_, rfl, rfl, _, rfl, eqF (by simp [code]) ⟨_, rfl, rfl, _, rfl, eqT rfl ⟨_, rfl, D, dx, _, rfl, hp, rfl, _, rfl, a, _, _, _, rfl, rfl, SA, at_of (j := 0) rfl rfl, _, rfl, a, _, _, _, rfl, rfl, SA, at_of (j := 1) rfl rfl, _, rfl, a, _, _, _, rfl, rfl, SA, at_of (j := 2) rfl rfl, D, d, c, e, u, v, G, rfl, hc, hD, k⟩⟩⟩⟩⟩⟩⟩⟩
    | place n =>
      exact eqF (by simp [code]) ⟨_, rfl, rfl, _, rfl, eqF (by simp [code]) ⟨_, rfl, rfl, _, rfl, eqF (by simp [code]) ⟨_, rfl, rfl, _, rfl, eqF (by simp [code]) ⟨_, rfl, rfl, _, rfl, eqF (by simp [code]) ⟨_, rfl, rfl, _, rfl, eqF (by simp [code]) ⟨_, rfl, rfl, _, rfl, eqF (by simp [code]) ⟨_, rfl, rfl, _, rfl, eqF (by simp [code]) ⟨_, rfl, rfl, _, rfl, eqT rfl ⟨_, rfl, D, dx, _, rfl, hp, rfl, _, rfl, a, _, _, _, rfl, rfl, SA, at_of (j := 0) rfl rfl, D, d, c, n, G, rfl, hD, k⟩⟩⟩⟩⟩⟩⟩⟩⟩
    | holds n =>
      exact eqF (by simp [code]) ⟨_, rfl, rfl, _, rfl, eqF (by simp [code]) ⟨_, rfl, rfl, _, rfl, eqF (by simp [code]) ⟨_, rfl, rfl, _, rfl, eqF (by simp [code]) ⟨_, rfl, rfl, _, rfl, eqF (by simp [code]) ⟨_, rfl, rfl, _, rfl, eqF (by simp [code]) ⟨_, rfl, rfl, _, rfl, eqF (by simp [code]) ⟨_, rfl, rfl, _, rfl, eqF (by simp [code]) ⟨_, rfl, rfl, _, rfl, eqF (by simp [code]) ⟨_, rfl, rfl, _, rfl, eqT rfl ⟨_, rfl, D, dx, _, rfl, hp, rfl, _, rfl, a, _, _, _, rfl, rfl, SA, at_of (j := 0) rfl rfl, D, d, c, n, G, rfl, hc, hD, k⟩⟩⟩⟩⟩⟩⟩⟩⟩⟩
    | on n =>
      exact eqF (by simp [code]) ⟨_, rfl, rfl, _, rfl, eqF (by simp [code]) ⟨_, rfl, rfl, _, rfl, eqF (by simp [code]) ⟨_, rfl, rfl, _, rfl, eqF (by simp [code]) ⟨_, rfl, rfl, _, rfl, eqF (by simp [code]) ⟨_, rfl, rfl, _, rfl, eqF (by simp [code]) ⟨_, rfl, rfl, _, rfl, eqF (by simp [code]) ⟨_, rfl, rfl, _, rfl, eqF (by simp [code]) ⟨_, rfl, rfl, _, rfl, eqF (by simp [code]) ⟨_, rfl, rfl, _, rfl, eqF (by simp [code]) ⟨_, rfl, D, dx, _, rfl, hp, rfl, _, rfl, a, _, _, _, rfl, rfl, SA, at_of (j := 0) rfl rfl, D, d, c, n, G, rfl, hc, hD, k⟩⟩⟩⟩⟩⟩⟩⟩⟩⟩
end
end Bk

set_option autoImplicit false
set_option Elab.async false
set_option linter.all false
set_option maxRecDepth 100000
set_option maxHeartbeats 2000000
namespace Bk
open PySem PySem.Spec PyProof.Rows L2
open IhSpan (Desk)
/-- the list handed in: of the top, or tracked and no part of the desk -/
def Arg (K : PySem.W.Frag) (H : Hp) (F : Addr → Prop) (a : Addr) (L : List V) : Prop := (∀ H' : Hp, SqL K H' a L) ∨ (Rd H a (.lst L) ∧ ¬ F a)
theorem Arg.seq {K : PySem.W.Frag} {H : Hp} {F : Addr → Prop} {a : Addr} {L : List V} (h : Arg K H F a L) : SqL K H a L := by
  rcases h with h | h
  · exact h H
  · exact .inl h.1
theorem Rd.some {H : Hp} {a : Addr} {u : HO} (h : Rd H a u) : ∃ o, H a = some o := by
  rcases h with h | ⟨o, h⟩
  · exact ⟨_, h⟩
  · exact ⟨_, h⟩
theorem Arg.step {K : PySem.W.Frag} {H H' : Hp} {F F' : Addr → Prop} {a : Addr} {L : List V} (h : Arg K H F a L) (st : Step H F H' F') : Arg K H' F' a L := by
  rcases h with h | ⟨h, n⟩
  · exact .inl h
  · refine .inr ⟨?_, fun z => ?_⟩
    · rcases h with h | ⟨o, h⟩
      · exact .inl (st.keep _ _ h n)
      · exact .inr ⟨o, st.keep _ _ h n⟩
    · rcases st.old a z with y | y
      · exact n y
      · obtain ⟨o, e⟩ := Rd.some h
        rw [y] at e
        cases e
theorem Step.wide {H H' : Hp} {F F' G : Addr → Prop} (st : Step H F H' F') (hG : ∀ b, F b → G b) : Step H G H' F' := ⟨fun b z => (st.old b z).imp (hG b) id, fun b o z n => st.keep b o z fun y => n (hG b y)⟩
theorem Step.off {H H' : Hp} {F F' : Addr → Prop} (st : Step H F H' F') {l : Addr} {o : HO} (h : H l = some o) (n : ¬ F l) : H' l = some o ∧ ¬ F' l := ⟨st.keep l o h n, fun z => by
  rcases st.old l z with y | y
  · exact n y
  · rw [h] at y
    cases y⟩
theorem Step.or {H H' : Hp} {F F' : Addr → Prop} (st : Step H F H' F') (l : Addr) : Step H (fun b => F b ∨ b = l) H' (fun b => F' b ∨ b = l) := ⟨fun b z => by
    rcases z with z | z
    · exact (st.old b z).imp Or.inl id
    · exact .inl (.inr z), fun b o z n => st.keep b o z fun y => n (.inl y)⟩
section
variable {P : Program} {w : World} {K : PySem.W.Frag} {mg : Str → Option Value} {base : Heap}
def spAnswers (K : PySem.W.Frag) : Sp := fun vs H Q _ => ∃ (a : Addr) (xs : List IhSpans.Call), vs = [.ref a] ∧ SqL K H a (iz (Sp.flat xs)) ∧ xs.length ≤ 400 ∧ ∀ (H' : Hp) (p : Addr), H' p = some (.lst (iz (Sp.out SpNeutral.start xs))) → Q (.ref p) H'
theorem scAnswers : FnScope ["calls", "desk", "told", "at", "end", "numbers"] ["calls"] (defScope sAnswers) := ⟨rfl, rfl, rfl, by decide +kernel, rfl, by decide +kernel, by decide +kernel⟩
/-- between two calls -/
structure Run (K : PySem.W.Frag) (CD CS a D l : Addr) (xs : List IhSpans.Call) (done rest : List IhSpans.Call) (d : Desk) (T : List Int) (F : Addr → Prop) (H : Hp) : Prop where
  all : xs = done ++ rest
  desk : DeskAt CD CS H D d done.length F
  arg : Arg K H (fun b => F b ∨ b = l) a (iz (Sp.flat xs))
  told : H l = some (.lst (iz T))
  off : ¬ F l
  sum : T ++ Sp.out d rest = Sp.out SpNeutral.start xs
  short : T.length ≤ done.length * 500
theorem ok_answers {f CD CS : Addr} {fd : FuncData} (F : Fun K "answers" "answers" sAnswers f fd) (T : TxtD K mg CD) (cE : Cal P w K mg base 1 "call_end" ["calls", "at"] (spCallEnd K))
    (cA : Cal P w K mg base 6 "answer" ["desk", "call", "numbers"] (spAnswer CD CS)) (mD : CalC P w K mg base CD 1 "Desk" ["self"] (spDInit CD CS)) : FnOk P w K mg base CX0 7 f fd ["calls"] (spAnswers K) := by
  refine F.ok scAnswers (fun vs H Q E h => ?_) (fun cdv A outer s H vs Q E hr h => ?_)
  · obtain ⟨a, xs, rfl, _⟩ := h
    rfl
  · obtain ⟨a, xs, rfl, hS, hl, k⟩ := h
    have hr1 : Room 1 _ := hr.mono (by decide)
    have hr2 : Room 2 _ := hr.mono (by decide)
    have nd := scAnswers.nd
    refine ⟨_, pss_cons (ps_set (i := 1) nd rfl (Or.inl rfl) (pe_calC0 mD hr2))
      (pss_cons (ps_set (i := 2) nd rfl (Or.inl rfl) (pe_lst pa_nil))
      (pss_cons (ps_set (i := 3) nd rfl (Or.inl rfl) pe_int)
      (pss_cons (ps_while PassesOwn.never (pt_cmpR op_lt (pv 3) (pe_callB call_len_seq (by rfl) T.len PySem.boot_len (pa_cons (pv 0) pa_nil)) (nomark _))
        (pss_cons (ps_set (i := 4) nd rfl (Or.inl rfl) (pe_cal cE hr1 (pa_cons (pv 0) (pa_cons (pv 3) pa_nil))))
        (pss_cons (ps_set (i := 5) nd rfl (Or.inl rfl) (pe_cal cA hr (pa_cons (pv 1) (pa_cons (pe_ix ix_list (pv 0) (pv 3) (fun _ _ => rfl)) (pa_cons (pe_slice sl_list (pv 0) (po_some (pe_op op_add (pv 3) pe_int)) (po_some (pv 4))) pa_nil)))))
        (pss_cons (ps_expr (pe_bm PySem.F.plainAttrs_list PySem.F.slot_list_append PySem.F.type_list_append mt_append (pv 2) (pa_cons (pe_callB call_len_seq (by rfl) T.len PySem.boot_len (pa_cons (pv 5) pa_nil)) pa_nil)))
        (pss_cons (ps_expr (pe_bm PySem.F.plainAttrs_list PySem.F.slot_list_extend PySem.F.type_list_extend mt_extend (pv 2) (pa_cons (pv 5) pa_nil)))
        (pss_one (ps_set (i := 3) nd rfl (Or.inl rfl) (pv 4))))))))
      (pss_one (ps_ret (pv 2)))))), ?_⟩
    -- desk = Desk()
    intro D dD nD ndD neD
    refine ⟨D, dD, rfl, upd_same, fun H1 F1 hD1 st1 => ⟨rfl, ?_⟩⟩
    -- told = [], at = 0
    refine ⟨Nat.zero_le _, fun l nl => ?_⟩
    have smD : Same H (upd (upd H dD (.own D)) D (.ins CD dD [])) := fun b o z => by
      rw [upd_ne (ne_of_none z nD), upd_ne (ne_of_none z ndD)]
      exact z
    have stD : Step H (fun _ => False) H1 F1 := by
      refine ⟨fun b z => .inr ?_, fun b o z _ => st1.keep b o (smD b o z) (ne_of_none z nD)⟩
      rcases st1.old b z with y | y
      · rw [y]; exact nD
      · exact upd_none (upd_none y)
    have a0 : Arg K H (fun _ => False) a (iz (Sp.flat xs)) := by
      rcases hS with z | z
      · exact .inr ⟨z, id⟩
      · exact .inl fun H' => .inr z
    have a1 : Arg K (upd H1 l (.lst [])) (fun b => F1 b ∨ b = l) a (iz (Sp.flat xs)) := by
      refine a0.step (stD.trans ⟨fun b z => ?_, fun b o z _ => same_new nl b o z⟩)
      rcases z with z | z
      · exact .inl z
      · exact .inr (by rw [z]; exact nl)
    have R0 : Run K CD CS a D l xs [] xs SpNeutral.start [] F1 (upd H1 l (.lst [])) :=
      ⟨rfl, hD1.keep fun b o _ z => same_new nl b o z, a1, upd_same, hD1.new nl, rfl, Nat.zero_le _⟩
    -- while at < len(calls)
    refine while_by (fun σ H' => ∃ (done rest : List IhSpans.Call) (d : Desk) (U : List Int) (G : Addr → Prop) (v5 v6 : Option V), σ = [some (.ref a), some (.ref D), some (.ref l), some (.int ((Sp.flat done).length : Nat)), v5, v6] ∧ Run K CD CS a D l xs done rest d U G H')
      (fun σ _ => match σ with
        | [_, _, _, some (.int i), _, _] => (Sp.flat xs).length - i.toNat
        | _ => 0) ⟨[], xs, _, [], F1, none, none, rfl, R0⟩ ?_ ?_
    · rintro σ H2 ⟨done, rest, d, U, G, v5, v6, rfl, R⟩
      refine ⟨_, rfl, _, rfl, a, _, rfl, .inl R.arg.seq, _, _, rfl, rfl, _, rfl, ?_⟩
      rw [iz_len]
      have ef : Sp.flat xs = Sp.flat done ++ Sp.flat rest := by rw [R.all, Sp.flat_app]
      cases rest with
      | nil =>
        have e0 : Sp.flat xs = Sp.flat done := by rw [ef]; exact List.append_nil _
        rw [e0, decide_eq_false (Int.lt_irrefl _)]
        refine iteF ⟨_, rfl, k H2 l ?_⟩
        have e1 : U = Sp.out SpNeutral.start xs := by
          have := R.sum
          rw [show Sp.out d [] = [] from rfl, List.append_nil] at this
          exact this
        rw [← e1]
        exact R.told
      | cons x rest =>
        have ef : Sp.flat xs = Sp.flat done ++ (Sp.flat1 x ++ Sp.flat rest) := ef
        have p1 : 0 < (Sp.flat1 x).length := by rw [flat1_eq]; exact Nat.succ_pos _
        have lt : ((Sp.flat done).length : Int) < ((Sp.flat xs).length : Int) := by
          rw [ef, List.length_append, List.length_append]
          omega
        rw [decide_eq_true lt]
        have hS2 := R.arg.seq
        rw [ef] at hS2
        have hc : done.length < 400 := by
          have := congrArg List.length R.all
          rw [List.length_append, List.length_cons] at this
          omega
        have g0 : atI (iz (Sp.flat done ++ (Sp.flat1 x ++ Sp.flat rest))) ((Sp.flat done).length : Int) = some (V.int (code x)) := atI_nat (iz_get (by rw [List.getElem?_append_right (Nat.le_refl _), Nat.sub_self, flat1_eq]; rfl))
        -- end = call_end(calls, at)
        refine iteT ⟨_, rfl, _, rfl, a, Sp.flat done, Sp.flat rest, x, rfl, hS2, ?_⟩
        -- numbers = answer(desk, calls[at], calls[at + 1:end])
        refine ⟨_, rfl, _, rfl, _, rfl, a, _, _, _, rfl, rfl, hS2, g0, _, rfl, _, rfl, _, _, rfl, rfl, _, rfl, _, rfl, _, rfl, a, _, rfl, hS2, fun p np => ?_⟩
        have ec : cutV (iz (Sp.flat done ++ (Sp.flat1 x ++ Sp.flat rest))) (some (((Sp.flat done).length : Int) + 1)) (some (((Sp.flat done).length : Int) + ((Sp.flat1 x).length : Nat))) = iz (args x) := by
          have e := cut_mid (xs := iz (Sp.flat done ++ (Sp.flat1 x ++ Sp.flat rest))) (i := (Sp.flat done).length + 1) (j := (Sp.flat done).length + (Sp.flat1 x).length) (by omega) (by rw [iz_len, List.length_append, List.length_append]; omega)
          rw [Int.natCast_add, Int.natCast_add] at e
          refine e.trans ?_
          unfold iz
          rw [← List.map_drop, ← List.map_take, ← List.drop_drop, List.drop_left, flat1_eq]
          show ((args x ++ Sp.flat rest).take _).map V.int = _
          rw [show (Sp.flat done).length + (code x :: args x).length - ((Sp.flat done).length + 1) = (args x).length by rw [List.length_cons]; omega, List.take_left]
        rw [ec]
        have hD2 : DeskAt CD CS (upd H2 p (.lst (iz (args x)))) D d done.length G := R.desk.keep fun b o _ z => same_new np b o z
        refine ⟨D, p, d, done.length, x, G, rfl, upd_same, hc, hD2, fun q H3 F3 hD3 st3 hq nq nFq => ?_⟩
        have st23 : Step H2 G H3 F3 := (Step.new np).trans st3
        obtain ⟨hl3, nl3⟩ := st23.off R.told R.off
        have nql : q ≠ l := fun z => by
          rw [z] at nq
          have y := upd_none nq
          rw [R.told] at y
          cases y
        have few := R.desk
        have lenU : U.length + ((Sp.nums d x).length + 1) ≤ (done.length + 1) * 500 := by
          have h1 := Sp.nums_len d x
          obtain ⟨_, _, _, hI, _⟩ := R.desk
          have h2 := hI.ok.few
          have h3 := R.short
          omega
        have lim : (done.length + 1) * 500 < sizeLine := by
          show (done.length + 1) * 500 < 16777216
          omega
        -- told.append(len(numbers))
        refine ⟨_, rfl, .inl ⟨rfl, _, SqL.of hl3⟩, _, rfl, q, _, rfl, .inl (SqL.of hq), l, _, _, rfl, rfl, hl3, (by rw [iz_len]; omega), ?_⟩
        -- told.extend(numbers)
        refine ⟨_, rfl, .inl ⟨rfl, _, SqL.of upd_same⟩, _, rfl, l, q, _, _, rfl, rfl, upd_same, (upd_ne nql).trans hq, (by rw [List.length_append, iz_len, iz_len]; show U.length + 1 + _ ≤ _; omega), ?_⟩
        rw [upd_upd]
        -- at = end
        refine ⟨_, rfl, ?_⟩
        have eT : iz U ++ [V.int ((iz (Sp.nums d x)).length : Nat)] ++ iz (Sp.nums d x) = iz (U ++ (((Sp.nums d x).length : Int) :: Sp.nums d x)) := by
          rw [iz_len]
          unfold iz
          rw [List.map_append, List.append_assoc]
          rfl
        rw [eT]
        have ed : Sp.flat (done ++ [x]) = Sp.flat done ++ Sp.flat1 x := by
          rw [Sp.flat_app]
          show Sp.flat done ++ (Sp.flat1 x ++ []) = _
          rw [List.append_nil]
        have en : (((Sp.flat done).length : Int) + ((Sp.flat1 x).length : Nat)) = ((Sp.flat (done ++ [x])).length : Nat) := by
          rw [ed, List.length_append]
          omega
        refine ⟨⟨done ++ [x], rest, Sp.next d x, U ++ (((Sp.nums d x).length : Int) :: Sp.nums d x), F3, some (V.int (((Sp.flat done).length : Int) + ((Sp.flat1 x).length : Nat))), some (V.ref q), ?_, ?_⟩, ?_⟩
        · rw [en]
          rfl
        · refine ⟨by rw [R.all, List.append_assoc]; rfl, ?_, ?_, upd_same, nl3, ?_, ?_⟩
          · have : (done ++ [x]).length = done.length + 1 := by rw [List.length_append]; rfl
            rw [this]
            exact hD3.keep fun b o f z => by rw [upd_ne fun y => nl3 (by rw [← y]; exact f)]; exact z
          · exact (R.arg.step (st23.or l)).step (Step.wr (.inr rfl))
          · rw [← R.sum, List.append_assoc]
            rfl
          · rw [List.length_append, List.length_append, List.length_cons]
            show _ ≤ (done.length + 1) * 500
            omega
        · show (Sp.flat xs).length - (((Sp.flat done).length : Int) + ((Sp.flat1 x).length : Nat)).toNat < (Sp.flat xs).length - ((Sp.flat done).length : Int).toNat
          omega
    · rintro σ H2 Q1 Q2 hq ⟨v, h1, x, h2, p, ys, h3, h4, i, j, h5, h6, kk, h7, h8⟩
      exact ⟨v, h1, x, h2, p, ys, h3, h4, i, j, h5, h6, kk, h7, hq _ _ h8⟩
end
end Bk

set_option autoImplicit false
set_option Elab.async false
set_option linter.all false
set_option maxRecDepth 100000
set_option maxHeartbeats 2000000
namespace Bk
open PySem PySem.Spec PyProof.Rows L2
/-! ### the defs as the top has written them -/
def Def (K : PySem.W.Frag) (mg : Str → Option Value) (x : Str) (st : Stmt) (ps : List Str) : Prop := ∃ (f : Addr) (fd : FuncData), mg x = some (.ref f) ∧ PySem.W.keepIn K (.ref f) = true ∧ Binds K fd ps [] ∧ (∀ (s : Shared) (us : List Value), us.length = ps.length → BindsTo s fd ⟨us, []⟩ (ps.zip us)) ∧ Fun K x x st f fd
def DefM (K : PySem.W.Frag) (C : Addr) (x qual : Str) (st : Stmt) (ps : List Str) : Prop := ∃ (f : Addr) (fd : FuncData), Meth K C x f ∧ Binds K fd ps [] ∧ Fun K x qual st f fd
def DefC (K : PySem.W.Frag) (mg : Str → Option Value) (C : Addr) (x qual : Str) (st : Stmt) (ps : List Str) : Prop := ∃ (f : Addr) (fd : FuncData), mg x = some (.ref C) ∧ Mk K C f ∧ Binds K fd ps [] ∧ Fun K "__init__" qual st f fd
/-- a method that is handed on, bound -/
def DefB (K : PySem.W.Frag) (C : Addr) (x qual : Str) (st : Stmt) (ps : List Str) : Prop := ∃ (f : Addr) (fd : FuncData), Meth K C x f ∧ PySem.W.specialIn K (.ref f) "__get__" = some (some (.builtin "function.__get__")) ∧ PySem.W.takesIn K (.ref f) = some false ∧ Binds K fd ps [] ∧ Fun K x qual st f fd
section
variable {P : Program} {w : World} {K : PySem.W.Frag} {mg : Str → Option Value} {base h : Heap}
/-- how the arguments of a def bind -/
def BindsOk (x qual : Str) (st : Stmt) (ps : List Str) : Prop := ∀ (kV doc pm : Value) (an : Option Addr) (cdv ct : Value) (us : List Value), us.length = ps.length → bindArgs (PySem.W.fnOf x qual (defArgs st) (defBody st) (defScope st) .none kV doc pm an cdv ct) ⟨us, []⟩ = pure (ps.zip us)
theorem def_mk {x : Str} {st : Stmt} {ps : List Str} {f : Addr} {oc : Value} {od an : Option Addr} {osl : Array (Option Value)} {kV doc pm cdv ct : Value} (X : K.In h) (G : h.Ns mainGlobals mg) (b : BindsOk x x st ps)
    (n : PySem.W.nsIn K mainGlobals x = some (some (.ref f))) (l : K.lookup f = some ⟨oc, od, .func (PySem.W.fnOf x x (defArgs st) (defBody st) (defScope st) .none kV doc pm an cdv ct), osl⟩) (c : PySem.W.codeIn K cdv x = true) (k : PySem.W.keepIn K (.ref f) = true) : Def K mg x st ps := by
  have F := fun_mk (st := st) l c k
  exact ⟨f, _, PySem.W.mg_of X G n, k, F.binds b, fun s us hu => .of_eq (b kV doc pm an cdv ct us hu), F⟩
theorem defM_mk {C : Addr} {x qual : Str} {st : Stmt} {ps : List Str} {f : Addr} {oc : Value} {od an : Option Addr} {osl : Array (Option Value)} {kV doc pm cdv ct : Value} (b : BindsOk x qual st ps)
    (n : PySem.W.findIn K (.ref C) x = some (some (.ref f))) (i : PySem.W.isFn K (.ref f) = true) (l : K.lookup f = some ⟨oc, od, .func (PySem.W.fnOf x qual (defArgs st) (defBody st) (defScope st) .none kV doc pm an cdv ct), osl⟩) (c : PySem.W.codeIn K cdv qual = true) (k : PySem.W.keepIn K (.ref f) = true) : DefM K C x qual st ps := by
  have F := fun_mk (st := st) l c k
  exact ⟨f, _, ⟨n, i, k⟩, F.binds b, F⟩
theorem defC_mk {C : Addr} {x qual : Str} {st : Stmt} {ps : List Str} {f : Addr} {oc : Value} {od an : Option Addr} {osl : Array (Option Value)} {kV doc pm cdv ct : Value} (hC : mg x = some (.ref C)) (b : BindsOk "__init__" qual st ps)
    (n : PySem.W.findIn K (.ref C) "__init__" = some (some (.ref f))) (i : PySem.W.isFn K (.ref f) = true) (l : K.lookup f = some ⟨oc, od, .func (PySem.W.fnOf "__init__" qual (defArgs st) (defBody st) (defScope st) .none kV doc pm an cdv ct), osl⟩) (c : PySem.W.codeIn K cdv qual = true) (k : PySem.W.keepIn K (.ref f) = true)
    (mk : PySem.W.makesIn K C = true) (kc : PySem.W.keepIn K (.ref C) = true) : DefC K mg C x qual st ps := by
  have F := fun_mk (st := st) l c k
  exact ⟨f, _, hC, ⟨mk, n, i, kc⟩, F.binds b, F⟩
theorem Def.cal {x : Str} {st : Stmt} {ps : List Str} {k : Nat} {sp : Sp} (D : Def K mg x st ps) (ok : ∀ f fd, Fun K x x st f fd → FnOk P w K mg base CX0 k f fd ps sp) : Cal P w K mg base k x ps sp := by
  obtain ⟨f, fd, h1, h2, h3, _, h4⟩ := D
  exact ⟨f, fd, h1, h2, h3, ok f fd h4⟩
theorem DefM.cal {C : Addr} {x qual : Str} {st : Stmt} {ps : List Str} {k : Nat} {sp : Sp} (D : DefM K C x qual st ps) (ok : ∀ f fd, Fun K x qual st f fd → FnOk P w K mg base CX0 k f fd ps sp) : CalM P w K mg base C k x ps sp := by
  obtain ⟨f, fd, h1, h2, h3⟩ := D
  exact ⟨f, fd, h1, h2, ok f fd h3⟩
theorem DefB.cal {C : Addr} {x qual : Str} {st : Stmt} {ps : List Str} {k : Nat} {sp : Sp} (D : DefB K C x qual st ps) (ok : ∀ f fd, Fun K x qual st f fd → FnOk P w K mg base CX0 k f fd ps sp) : CalB P w K mg base C k x ps sp := by
  obtain ⟨f, fd, h1, h2, h3, h4, h5⟩ := D
  exact ⟨f, fd, h1, h2, h3, h4, ok f fd h5⟩
theorem DefC.cal {C : Addr} {x qual : Str} {st : Stmt} {ps : List Str} {k : Nat} {sp : Sp} (D : DefC K mg C x qual st ps) (ok : ∀ f fd, Fun K "__init__" qual st f fd → FnOk P w K mg base CX0 k f fd ps sp) : CalC P w K mg base C k x ps sp := by
  obtain ⟨f, fd, h1, h2, h3, h4⟩ := D
  exact ⟨f, fd, h1, h2, h3, ok f fd h4⟩
/-! ### the same, handed on -/
variable {Q : Prop}
theorem withD {x : Str} {st : Stmt} {ps : List Str} {f : Addr} {oc : Value} {od an : Option Addr} {osl : Array (Option Value)} {kV doc pm cdv ct : Value} (X : K.In h) (G : h.Ns mainGlobals mg) (b : BindsOk x x st ps)
    (n : PySem.W.nsIn K mainGlobals x = some (some (.ref f))) (l : K.lookup f = some ⟨oc, od, .func (PySem.W.fnOf x x (defArgs st) (defBody st) (defScope st) .none kV doc pm an cdv ct), osl⟩) (c : PySem.W.codeIn K cdv x = true) (k : PySem.W.keepIn K (.ref f) = true) (go : Def K mg x st ps → Q) : Q := go (def_mk X G b n l c k)
theorem withM {C : Addr} {y x qual : Str} {st : Stmt} {ps : List Str} {f : Addr} {oc : Value} {od an : Option Addr} {osl : Array (Option Value)} {kV doc pm cdv ct : Value} (_ : K.In h) (_ : mg y = some (.ref C)) (b : BindsOk x qual st ps)
    (n : PySem.W.findIn K (.ref C) x = some (some (.ref f))) (i : PySem.W.isFn K (.ref f) = true) (l : K.lookup f = some ⟨oc, od, .func (PySem.W.fnOf x qual (defArgs st) (defBody st) (defScope st) .none kV doc pm an cdv ct), osl⟩) (c : PySem.W.codeIn K cdv qual = true) (k : PySem.W.keepIn K (.ref f) = true)
    (go : DefM K C x qual st ps → Q) : Q := go (defM_mk b n i l c k)
theorem withB {C : Addr} {y x qual : Str} {st : Stmt} {ps : List Str} {f : Addr} {oc : Value} {od an : Option Addr} {osl : Array (Option Value)} {kV doc pm cdv ct : Value} (_ : K.In h) (_ : mg y = some (.ref C)) (b : BindsOk x qual st ps)
    (n : PySem.W.findIn K (.ref C) x = some (some (.ref f))) (i : PySem.W.isFn K (.ref f) = true) (l : K.lookup f = some ⟨oc, od, .func (PySem.W.fnOf x qual (defArgs st) (defBody st) (defScope st) .none kV doc pm an cdv ct), osl⟩) (c : PySem.W.codeIn K cdv qual = true) (k : PySem.W.keepIn K (.ref f) = true)
    (g : PySem.W.specialIn K (.ref f) "__get__" = some (some (.builtin "function.__get__"))) (t : PySem.W.takesIn K (.ref f) = some false) (go : DefB K C x qual st ps → Q) : Q := go (by
  have F := fun_mk (st := st) l c k
  exact ⟨f, _, ⟨n, i, k⟩, g, t, F.binds b, F⟩)
theorem withC {C : Addr} {x qual : Str} {st : Stmt} {ps : List Str} {f : Addr} {oc : Value} {od an : Option Addr} {osl : Array (Option Value)} {kV doc pm cdv ct : Value} (_ : K.In h) (hC : mg x = some (.ref C)) (b : BindsOk "__init__" qual st ps)
    (n : PySem.W.findIn K (.ref C) "__init__" = some (some (.ref f))) (i : PySem.W.isFn K (.ref f) = true) (l : K.lookup f = some ⟨oc, od, .func (PySem.W.fnOf "__init__" qual (defArgs st) (defBody st) (defScope st) .none kV doc pm an cdv ct), osl⟩) (c : PySem.W.codeIn K cdv qual = true) (k : PySem.W.keepIn K (.ref f) = true)
    (mk : PySem.W.makesIn K C = true) (kc : PySem.W.keepIn K (.ref C) = true) (go : DefC K mg C x qual st ps → Q) : Q := go (defC_mk hC b n i l c k mk kc)
theorem withCls {C : Addr} {y : Str} (_ : K.In h) (_ : mg y = some (.ref C)) (pg : PySem.W.plainGet K C Str.empty = true) (hd : PySem.W.hasDictIn K C = true) (po : PySem.W.plainOver K C = true) (sa : PySem.W.findIn K (.ref C) "__setattr__" = some (some (.builtin "object.__setattr__"))) (go : Cls K C → Q) : Q := go ⟨pg, hd, po, sa⟩
theorem withA {C : Addr} {y x : Str} (_ : K.In h) (_ : mg y = some (.ref C)) (n : PySem.W.findIn K (.ref C) x = some none) (go : NoAttr K C x → Q) : Q := go n
theorem withG {x : Str} {v : Value} (X : K.In h) (G : h.Ns mainGlobals mg) (n : PySem.W.nsIn K mainGlobals x = some (some v)) (go : mg x = some v → Q) : Q := go (PySem.W.mg_of X G n)
theorem withN {x : Str} {i : Int} {t : Tok} (X : K.In h) (G : h.Ns mainGlobals mg) (n : PySem.W.nsIn K mainGlobals x = some (some (.int i t))) (go : (∃ t, mg x = some (.int i t)) → Q) : Q := go ⟨t, PySem.W.mg_of X G n⟩
theorem withZ {x : Str} (X : K.In h) (G : h.Ns mainGlobals mg) (n : PySem.W.nsIn K mainGlobals x = some none) (go : mg x = none → Q) : Q := go (PySem.W.mg_none_of X G n)
theorem withO {x : Str} {a : Addr} {o : Obj} (X : K.In h) (G : h.Ns mainGlobals mg) (n : PySem.W.nsIn K mainGlobals x = some (some (.ref a))) (l : K.lookup a = some o) (go : mg x = some (.ref a) → K.lookup a = some o → Q) : Q := go (PySem.W.mg_of X G n) l
end
end Bk

set_option Elab.async false
open PySem PySem.W PyProof.Rows
set_option maxRecDepth 100000 in
set_option maxHeartbeats 0 in
theorem PySem.Challenge.cw_bookspans_s01_answers_holds : PySem.Challenge.rw_bookspans_s01_answers.Holds := by
  w_on; k_headS; (case hw => exact ⟨[.list [.int 2]], by decide +kernel, by decide +kernel⟩)
  k_fillS
  refine L2.walk_specK (r := PySem.Challenge.rw_bookspans_s01_answers) (k := 7) (CX := L2.CX0) (ps := ["calls"]) (sp := Bk.spAnswers) (by decide +kernel) rfl rfl ⟨rfl, by decide, by decide⟩ (fun w h Y => PySem.W.kIn_of Y) ?F ?S (fun _ _ _ _ z => z)
  case F =>
    intro w mg fa h Y KX G hmg
    refine' Bk.withN (x := "MOST_CHARACTERS") KX G ?n1 ?go1; (case n1 => k_is)
    intro n_MOST_CHARACTERS
    refine' Bk.withN (x := "MOST_PAGES") KX G ?n2 ?go2; (case n2 => k_is)
    intro n_MOST_PAGES
    refine' Bk.withN (x := "MOST_SPANS") KX G ?n3 ?go3; (case n3 => k_is)
    intro n_MOST_SPANS
    refine' Bk.withN (x := "MOST_NOTE") KX G ?n4 ?go4; (case n4 => k_is)
    intro n_MOST_NOTE
    refine' Bk.withN (x := "PLAIN") KX G ?n5 ?go5; (case n5 => k_is)
    intro n_PLAIN
    refine' Bk.withN (x := "NOTE") KX G ?n6 ?go6; (case n6 => k_is)
    intro n_NOTE
    refine' Bk.withN (x := "TABLE") KX G ?n7 ?go7; (case n7 => k_is)
    intro n_TABLE
    refine' Bk.withN (x := "BEGIN") KX G ?n8 ?go8; (case n8 => k_is)
    intro n_BEGIN
    refine' Bk.withN (x := "LENGTH") KX G ?n9 ?go9; (case n9 => k_is)
    intro n_LENGTH
    refine' Bk.withN (x := "PAGES") KX G ?n10 ?go10; (case n10 => k_is)
    intro n_PAGES
    refine' Bk.withN (x := "START") KX G ?n11 ?go11; (case n11 => k_is)
    intro n_START
    refine' Bk.withN (x := "PUT") KX G ?n12 ?go12; (case n12 => k_is)
    intro n_PUT
    refine' Bk.withN (x := "DROP") KX G ?n13 ?go13; (case n13 => k_is)
    intro n_DROP
    refine' Bk.withN (x := "GET") KX G ?n14 ?go14; (case n14 => k_is)
    intro n_GET
    refine' Bk.withN (x := "EDIT") KX G ?n15 ?go15; (case n15 => k_is)
    intro n_EDIT
    refine' Bk.withN (x := "PLACE") KX G ?n16 ?go16; (case n16 => k_is)
    intro n_PLACE
    refine' Bk.withN (x := "HOLDS") KX G ?n17 ?go17; (case n17 => k_is)
    intro n_HOLDS
    refine' Bk.withZ (x := "len") KX G ?n18 ?go18; (case n18 => k_is)
    intro z_len
    refine' Bk.withZ (x := "list") KX G ?n19 ?go19; (case n19 => k_is)
    intro z_list
    refine' Bk.withZ (x := "sorted") KX G ?n20 ?go20; (case n20 => k_is)
    intro z_sorted
    refine' Bk.withO (x := "NUMBERS_BEHIND") KX G ?n21 ?l21 ?go21; (case n21 => k_is); (case l21 => k_is)
    intro o_NUMBERS_BEHIND l_NUMBERS_BEHIND
    refine' Bk.withG (x := "Span") KX G ?n22 ?go22; (case n22 => k_is)
    intro g_Span
    refine' Bk.withCls KX g_Span ?a23 ?b23 ?c23 ?d23 ?go23; (case a23 => k_is); (case b23 => k_is); (case c23 => k_is); (case d23 => k_is)
    intro c_Span
    refine' Bk.withA (x := "source") KX g_Span ?n24 ?go24; (case n24 => k_is)
    intro a_Span_source
    refine' Bk.withA (x := "to") KX g_Span ?n25 ?go25; (case n25 => k_is)
    intro a_Span_to
    refine' Bk.withA (x := "kind") KX g_Span ?n26 ?go26; (case n26 => k_is)
    intro a_Span_kind
    refine' Bk.withA (x := "main") KX g_Span ?n27 ?go27; (case n27 => k_is)
    intro a_Span_main
    refine' Bk.withA (x := "note") KX g_Span ?n28 ?go28; (case n28 => k_is)
    intro a_Span_note
    refine' Bk.withC (qual := "Span.__init__") (st := Bk.sSInit) (ps := ["self", "source", "to", "kind", "main", "note"]) KX g_Span (fun _ _ _ _ _ _ us hl => match us, hl with | [_, _, _, _, _, _], _ => rfl) ?n29 ?i29 ?l29 ?c29 ?k29 ?m29 ?y29 ?go29
    (case n29 => k_is); (case i29 => k_is); (case l29 => k_is); (case c29 => k_is); (case k29 => k_is); (case m29 => k_is); (case y29 => k_is)
    intro i_Span
    refine' Bk.withM (x := "fits") (qual := "Span.fits") (st := Bk.sFits) (ps := ["self", "length"]) KX g_Span (fun _ _ _ _ _ _ us hl => match us, hl with | [_, _], _ => rfl) ?n30 ?i30 ?l30 ?c30 ?k30 ?go30
    (case n30 => k_is); (case i30 => k_is); (case l30 => k_is); (case c30 => k_is); (case k30 => k_is)
    intro m_Span_fits
    refine' Bk.withM (x := "is_sound") (qual := "Span.is_sound") (st := Bk.sSound) (ps := ["self"]) KX g_Span (fun _ _ _ _ _ _ us hl => match us, hl with | [_], _ => rfl) ?n31 ?i31 ?l31 ?c31 ?k31 ?go31
    (case n31 => k_is); (case i31 => k_is); (case l31 => k_is); (case c31 => k_is); (case k31 => k_is)
    intro m_Span_is_sound
    refine' Bk.withM (x := "has_sound_main") (qual := "Span.has_sound_main") (st := Bk.sSMain) (ps := ["self"]) KX g_Span (fun _ _ _ _ _ _ us hl => match us, hl with | [_], _ => rfl) ?n32 ?i32 ?l32 ?c32 ?k32 ?go32
    (case n32 => k_is); (case i32 => k_is); (case l32 => k_is); (case c32 => k_is); (case k32 => k_is)
    intro m_Span_has_sound_main
    refine' Bk.withM (x := "has_sound_note") (qual := "Span.has_sound_note") (st := Bk.sSNote) (ps := ["self"]) KX g_Span (fun _ _ _ _ _ _ us hl => match us, hl with | [_], _ => rfl) ?n33 ?i33 ?l33 ?c33 ?k33 ?go33
    (case n33 => k_is); (case i33 => k_is); (case l33 => k_is); (case c33 => k_is); (case k33 => k_is)
    intro m_Span_has_sound_note
    refine' Bk.withM (x := "after") (qual := "Span.after") (st := Bk.sAfter) (ps := ["self", "at", "cut", "put"]) KX g_Span (fun _ _ _ _ _ _ us hl => match us, hl with | [_, _, _, _], _ => rfl) ?n34 ?i34 ?l34 ?c34 ?k34 ?go34
    (case n34 => k_is); (case i34 => k_is); (case l34 => k_is); (case c34 => k_is); (case k34 => k_is)
    intro m_Span_after
    refine' Bk.withM (x := "is_lost") (qual := "Span.is_lost") (st := Bk.sIsLost) (ps := ["self"]) KX g_Span (fun _ _ _ _ _ _ us hl => match us, hl with | [_], _ => rfl) ?n35 ?i35 ?l35 ?c35 ?k35 ?go35
    (case n35 => k_is); (case i35 => k_is); (case l35 => k_is); (case c35 => k_is); (case k35 => k_is)
    intro m_Span_is_lost
    refine' Bk.withM (x := "covers") (qual := "Span.covers") (st := Bk.sCovers) (ps := ["self", "place"]) KX g_Span (fun _ _ _ _ _ _ us hl => match us, hl with | [_, _], _ => rfl) ?n36 ?i36 ?l36 ?c36 ?k36 ?go36
    (case n36 => k_is); (case i36 => k_is); (case l36 => k_is); (case c36 => k_is); (case k36 => k_is)
    intro m_Span_covers
    refine' Bk.withM (x := "first_page") (qual := "Span.first_page") (st := Bk.sFirstPage) (ps := ["self", "starts"]) KX g_Span (fun _ _ _ _ _ _ us hl => match us, hl with | [_, _], _ => rfl) ?n37 ?i37 ?l37 ?c37 ?k37 ?go37
    (case n37 => k_is); (case i37 => k_is); (case l37 => k_is); (case c37 => k_is); (case k37 => k_is)
    intro m_Span_first_page
    refine' Bk.withM (x := "last_page") (qual := "Span.last_page") (st := Bk.sLastPage) (ps := ["self", "starts"]) KX g_Span (fun _ _ _ _ _ _ us hl => match us, hl with | [_, _], _ => rfl) ?n38 ?i38 ?l38 ?c38 ?k38 ?go38
    (case n38 => k_is); (case i38 => k_is); (case l38 => k_is); (case c38 => k_is); (case k38 => k_is)
    intro m_Span_last_page
    refine' Bk.withM (x := "is_on") (qual := "Span.is_on") (st := Bk.sIsOn) (ps := ["self", "page", "starts"]) KX g_Span (fun _ _ _ _ _ _ us hl => match us, hl with | [_, _, _], _ => rfl) ?n39 ?i39 ?l39 ?c39 ?k39 ?go39
    (case n39 => k_is); (case i39 => k_is); (case l39 => k_is); (case c39 => k_is); (case k39 => k_is)
    intro m_Span_is_on
    refine' Bk.withG (x := "Desk") KX G ?n40 ?go40; (case n40 => k_is)
    intro g_Desk
    refine' Bk.withCls KX g_Desk ?a41 ?b41 ?c41 ?d41 ?go41; (case a41 => k_is); (case b41 => k_is); (case c41 => k_is); (case d41 => k_is)
    intro c_Desk
    refine' Bk.withA (x := "length") KX g_Desk ?n42 ?go42; (case n42 => k_is)
    intro a_Desk_length
    refine' Bk.withA (x := "starts") KX g_Desk ?n43 ?go43; (case n43 => k_is)
    intro a_Desk_starts
    refine' Bk.withA (x := "spans") KX g_Desk ?n44 ?go44; (case n44 => k_is)
    intro a_Desk_spans
    refine' Bk.withC (qual := "Desk.__init__") (st := Bk.sDInit) (ps := ["self"]) KX g_Desk (fun _ _ _ _ _ _ us hl => match us, hl with | [_], _ => rfl) ?n45 ?i45 ?l45 ?c45 ?k45 ?m45 ?y45 ?go45
    (case n45 => k_is); (case i45 => k_is); (case l45 => k_is); (case c45 => k_is); (case k45 => k_is); (case m45 => k_is); (case y45 => k_is)
    intro i_Desk
    refine' Bk.withM (x := "begin") (qual := "Desk.begin") (st := Bk.sBegin) (ps := ["self", "length"]) KX g_Desk (fun _ _ _ _ _ _ us hl => match us, hl with | [_, _], _ => rfl) ?n46 ?i46 ?l46 ?c46 ?k46 ?go46
    (case n46 => k_is); (case i46 => k_is); (case l46 => k_is); (case c46 => k_is); (case k46 => k_is)
    intro m_Desk_begin
    refine' Bk.withM (x := "tell_length") (qual := "Desk.tell_length") (st := Bk.sLength) (ps := ["self"]) KX g_Desk (fun _ _ _ _ _ _ us hl => match us, hl with | [_], _ => rfl) ?n47 ?i47 ?l47 ?c47 ?k47 ?go47
    (case n47 => k_is); (case i47 => k_is); (case l47 => k_is); (case c47 => k_is); (case k47 => k_is)
    intro m_Desk_tell_length
    refine' Bk.withM (x := "pages") (qual := "Desk.pages") (st := Bk.sPages) (ps := ["self", "starts"]) KX g_Desk (fun _ _ _ _ _ _ us hl => match us, hl with | [_, _], _ => rfl) ?n48 ?i48 ?l48 ?c48 ?k48 ?go48
    (case n48 => k_is); (case i48 => k_is); (case l48 => k_is); (case c48 => k_is); (case k48 => k_is)
    intro m_Desk_pages
    refine' Bk.withM (x := "start") (qual := "Desk.start") (st := Bk.sStart) (ps := ["self", "page"]) KX g_Desk (fun _ _ _ _ _ _ us hl => match us, hl with | [_, _], _ => rfl) ?n49 ?i49 ?l49 ?c49 ?k49 ?go49
    (case n49 => k_is); (case i49 => k_is); (case l49 => k_is); (case c49 => k_is); (case k49 => k_is)
    intro m_Desk_start
    refine' Bk.withM (x := "put") (qual := "Desk.put") (st := Bk.sPut) (ps := ["self", "span"]) KX g_Desk (fun _ _ _ _ _ _ us hl => match us, hl with | [_, _], _ => rfl) ?n50 ?i50 ?l50 ?c50 ?k50 ?go50
    (case n50 => k_is); (case i50 => k_is); (case l50 => k_is); (case c50 => k_is); (case k50 => k_is)
    intro m_Desk_put
    refine' Bk.withM (x := "drop") (qual := "Desk.drop") (st := Bk.sDrop) (ps := ["self", "number"]) KX g_Desk (fun _ _ _ _ _ _ us hl => match us, hl with | [_, _], _ => rfl) ?n51 ?i51 ?l51 ?c51 ?k51 ?go51
    (case n51 => k_is); (case i51 => k_is); (case l51 => k_is); (case c51 => k_is); (case k51 => k_is)
    intro m_Desk_drop
    refine' Bk.withM (x := "get") (qual := "Desk.get") (st := Bk.sGet) (ps := ["self", "number"]) KX g_Desk (fun _ _ _ _ _ _ us hl => match us, hl with | [_, _], _ => rfl) ?n52 ?i52 ?l52 ?c52 ?k52 ?go52
    (case n52 => k_is); (case i52 => k_is); (case l52 => k_is); (case c52 => k_is); (case k52 => k_is)
    intro m_Desk_get
    refine' Bk.withM (x := "edit") (qual := "Desk.edit") (st := Bk.sEdit) (ps := ["self", "at", "cut", "put"]) KX g_Desk (fun _ _ _ _ _ _ us hl => match us, hl with | [_, _, _, _], _ => rfl) ?n53 ?i53 ?l53 ?c53 ?k53 ?go53
    (case n53 => k_is); (case i53 => k_is); (case l53 => k_is); (case c53 => k_is); (case k53 => k_is)
    intro m_Desk_edit
    refine' Bk.withM (x := "move_spans") (qual := "Desk.move_spans") (st := Bk.sMove) (ps := ["self", "at", "cut", "put"]) KX g_Desk (fun _ _ _ _ _ _ us hl => match us, hl with | [_, _, _, _], _ => rfl) ?n54 ?i54 ?l54 ?c54 ?k54 ?go54
    (case n54 => k_is); (case i54 => k_is); (case l54 => k_is); (case c54 => k_is); (case k54 => k_is)
    intro m_Desk_move_spans
    refine' Bk.withM (x := "place") (qual := "Desk.place") (st := Bk.sPlace) (ps := ["self", "number"]) KX g_Desk (fun _ _ _ _ _ _ us hl => match us, hl with | [_, _], _ => rfl) ?n55 ?i55 ?l55 ?c55 ?k55 ?go55
    (case n55 => k_is); (case i55 => k_is); (case l55 => k_is); (case c55 => k_is); (case k55 => k_is)
    intro m_Desk_place
    refine' Bk.withM (x := "holds") (qual := "Desk.holds") (st := Bk.sHolds) (ps := ["self", "place"]) KX g_Desk (fun _ _ _ _ _ _ us hl => match us, hl with | [_, _], _ => rfl) ?n56 ?i56 ?l56 ?c56 ?k56 ?go56
    (case n56 => k_is); (case i56 => k_is); (case l56 => k_is); (case c56 => k_is); (case k56 => k_is)
    intro m_Desk_holds
    refine' Bk.withM (x := "on") (qual := "Desk.on") (st := Bk.sOn) (ps := ["self", "page"]) KX g_Desk (fun _ _ _ _ _ _ us hl => match us, hl with | [_, _], _ => rfl) ?n57 ?i57 ?l57 ?c57 ?k57 ?go57
    (case n57 => k_is); (case i57 => k_is); (case l57 => k_is); (case c57 => k_is); (case k57 => k_is)
    intro m_Desk_on
    refine' Bk.withM (x := "in_order") (qual := "Desk.in_order") (st := Bk.sInOrder) (ps := ["self", "numbers"]) KX g_Desk (fun _ _ _ _ _ _ us hl => match us, hl with | [_, _], _ => rfl) ?n58 ?i58 ?l58 ?c58 ?k58 ?go58
    (case n58 => k_is); (case i58 => k_is); (case l58 => k_is); (case c58 => k_is); (case k58 => k_is)
    intro m_Desk_in_order
    refine' Bk.withB (x := "rank") (qual := "Desk.rank") (st := Bk.sRank) (ps := ["self", "number"]) KX g_Desk (fun _ _ _ _ _ _ us hl => match us, hl with | [_, _], _ => rfl) ?n59 ?i59 ?l59 ?c59 ?k59 ?g59 ?t59 ?go59
    (case n59 => k_is); (case i59 => k_is); (case l59 => k_is); (case c59 => k_is); (case k59 => k_is); (case g59 => k_is); (case t59 => k_is)
    intro m_Desk_rank
    refine' Bk.withD (x := "answered") (st := Bk.sAnswered) (ps := ["numbers"]) KX G (fun _ _ _ _ _ _ us hl => match us, hl with | [_], _ => rfl) ?n60 ?l60 ?c60 ?k60 ?go60
    (case n60 => k_is); (case l60 => k_is); (case c60 => k_is); (case k60 => k_is)
    intro d_answered
    refine' Bk.withD (x := "page_of") (st := Bk.sPageOf) (ps := ["starts", "place"]) KX G (fun _ _ _ _ _ _ us hl => match us, hl with | [_, _], _ => rfl) ?n61 ?l61 ?c61 ?k61 ?go61
    (case n61 => k_is); (case l61 => k_is); (case c61 => k_is); (case k61 => k_is)
    intro d_page_of
    refine' Bk.withD (x := "source_after") (st := Bk.sSourceAfter) (ps := ["source", "at", "cut", "put"]) KX G (fun _ _ _ _ _ _ us hl => match us, hl with | [_, _, _, _], _ => rfl) ?n62 ?l62 ?c62 ?k62 ?go62
    (case n62 => k_is); (case l62 => k_is); (case c62 => k_is); (case k62 => k_is)
    intro d_source_after
    refine' Bk.withD (x := "to_after") (st := Bk.sToAfter) (ps := ["to", "at", "cut", "put"]) KX G (fun _ _ _ _ _ _ us hl => match us, hl with | [_, _, _, _], _ => rfl) ?n63 ?l63 ?c63 ?k63 ?go63
    (case n63 => k_is); (case l63 => k_is); (case c63 => k_is); (case k63 => k_is)
    intro d_to_after
    refine' Bk.withD (x := "starts_after") (st := Bk.sStartsAfter) (ps := ["starts", "at", "cut", "put"]) KX G (fun _ _ _ _ _ _ us hl => match us, hl with | [_, _, _, _], _ => rfl) ?n64 ?l64 ?c64 ?k64 ?go64
    (case n64 => k_is); (case l64 => k_is); (case c64 => k_is); (case k64 => k_is)
    intro d_starts_after
    refine' Bk.withD (x := "refused") (st := Bk.sRefused) (ps := ["number"]) KX G (fun _ _ _ _ _ _ us hl => match us, hl with | [_], _ => rfl) ?n65 ?l65 ?c65 ?k65 ?go65
    (case n65 => k_is); (case l65 => k_is); (case c65 => k_is); (case k65 => k_is)
    intro d_refused
    refine' Bk.withD (x := "are_starts") (st := Bk.sAreStarts) (ps := ["starts", "length"]) KX G (fun _ _ _ _ _ _ us hl => match us, hl with | [_, _], _ => rfl) ?n66 ?l66 ?c66 ?k66 ?go66
    (case n66 => k_is); (case l66 => k_is); (case c66 => k_is); (case k66 => k_is)
    intro d_are_starts
    refine' Bk.withD (x := "least_free") (st := Bk.sLeastFree) (ps := ["spans"]) KX G (fun _ _ _ _ _ _ us hl => match us, hl with | [_], _ => rfl) ?n67 ?l67 ?c67 ?k67 ?go67
    (case n67 => k_is); (case l67 => k_is); (case c67 => k_is); (case k67 => k_is)
    intro d_least_free
    refine' Bk.withD (x := "call_end") (st := Bk.sCallEnd) (ps := ["calls", "at"]) KX G (fun _ _ _ _ _ _ us hl => match us, hl with | [_, _], _ => rfl) ?n68 ?l68 ?c68 ?k68 ?go68
    (case n68 => k_is); (case l68 => k_is); (case c68 => k_is); (case k68 => k_is)
    intro d_call_end
    refine' Bk.withD (x := "answer") (st := Bk.sAnswer) (ps := ["desk", "call", "numbers"]) KX G (fun _ _ _ _ _ _ us hl => match us, hl with | [_, _, _], _ => rfl) ?n69 ?l69 ?c69 ?k69 ?go69
    (case n69 => k_is); (case l69 => k_is); (case c69 => k_is); (case k69 => k_is)
    intro d_answer
    refine' Bk.withD (x := "answers") (st := Bk.sAnswers) (ps := ["calls"]) KX G (fun _ _ _ _ _ _ us hl => match us, hl with | [_], _ => rfl) ?n70 ?l70 ?c70 ?k70 ?go70
    (case n70 => k_is); (case l70 => k_is); (case c70 => k_is); (case k70 => k_is)
    intro d_answers
    have TS : Bk.TxtS _ mg _ := ⟨c_Span, a_Span_source, a_Span_to, a_Span_kind, a_Span_main, a_Span_note, n_PLAIN, n_NOTE, n_TABLE, n_MOST_NOTE⟩
    have TD : Bk.TxtD _ mg _ := ⟨c_Desk, a_Desk_length, a_Desk_starts, a_Desk_spans, n_MOST_CHARACTERS, n_MOST_SPANS, z_len, z_list, z_sorted⟩
    have TN : Bk.TxtN mg := ⟨n_BEGIN, n_LENGTH, n_PAGES, n_START, n_PUT, n_DROP, n_GET, n_EDIT, n_PLACE, n_HOLDS⟩
    obtain ⟨f, fd, e1, e2, e3, e4, FA⟩ := d_answers
    cases hmg.symm.trans e1
    refine ⟨fd, e4, fun base _ _ => ?_⟩
    have cA := d_answered.cal (P := PySem.Challenge.rw_bookspans_s01_answers.prog) (w := w) (base := base) (fun f fd F => Bk.ok_answered F)
    have cR := d_refused.cal (P := PySem.Challenge.rw_bookspans_s01_answers.prog) (w := w) (base := base) (fun f fd F => Bk.ok_refused F)
    have cS := d_are_starts.cal (P := PySem.Challenge.rw_bookspans_s01_answers.prog) (w := w) (base := base) (fun f fd F => Bk.ok_areStarts F z_len n_MOST_PAGES)
    have cL := d_least_free.cal (P := PySem.Challenge.rw_bookspans_s01_answers.prog) (w := w) (mg := mg) (base := base) (fun f fd F => Bk.ok_leastFree F)
    have cP := d_page_of.cal (P := PySem.Challenge.rw_bookspans_s01_answers.prog) (w := w) (mg := mg) (base := base) (fun f fd F => Bk.ok_pageOf F z_len)
    have c1 := d_source_after.cal (P := PySem.Challenge.rw_bookspans_s01_answers.prog) (w := w) (mg := mg) (base := base) (fun f fd F => Bk.ok_sourceAfter F)
    have c2 := d_to_after.cal (P := PySem.Challenge.rw_bookspans_s01_answers.prog) (w := w) (mg := mg) (base := base) (fun f fd F => Bk.ok_toAfter F)
    have c3 := d_starts_after.cal (P := PySem.Challenge.rw_bookspans_s01_answers.prog) (w := w) (mg := mg) (base := base) (fun f fd F => Bk.ok_startsAfter F c1)
    have sI := i_Span.cal (P := PySem.Challenge.rw_bookspans_s01_answers.prog) (w := w) (base := base) (fun f fd F => Bk.ok_sinit F TS)
    have sF := m_Span_fits.cal (P := PySem.Challenge.rw_bookspans_s01_answers.prog) (w := w) (mg := mg) (base := base) (fun f fd F => Bk.ok_fits F TS)
    have sM := m_Span_has_sound_main.cal (P := PySem.Challenge.rw_bookspans_s01_answers.prog) (w := w) (mg := mg) (base := base) (fun f fd F => Bk.ok_smain F TS)
    have sN := m_Span_has_sound_note.cal (P := PySem.Challenge.rw_bookspans_s01_answers.prog) (w := w) (mg := mg) (base := base) (fun f fd F => Bk.ok_snote F TS)
    have sS := m_Span_is_sound.cal (P := PySem.Challenge.rw_bookspans_s01_answers.prog) (w := w) (mg := mg) (base := base) (fun f fd F => Bk.ok_sound F TS sM sN)
    have sA := m_Span_after.cal (P := PySem.Challenge.rw_bookspans_s01_answers.prog) (w := w) (mg := mg) (base := base) (fun f fd F => Bk.ok_after F TS c1 c2 sI)
    have sL := m_Span_is_lost.cal (P := PySem.Challenge.rw_bookspans_s01_answers.prog) (w := w) (mg := mg) (base := base) (fun f fd F => Bk.ok_isLost F TS)
    have sC := m_Span_covers.cal (P := PySem.Challenge.rw_bookspans_s01_answers.prog) (w := w) (mg := mg) (base := base) (fun f fd F => Bk.ok_covers F TS)
    have sP1 := m_Span_first_page.cal (P := PySem.Challenge.rw_bookspans_s01_answers.prog) (w := w) (mg := mg) (base := base) (fun f fd F => Bk.ok_firstPage F TS cP)
    have sP2 := m_Span_last_page.cal (P := PySem.Challenge.rw_bookspans_s01_answers.prog) (w := w) (mg := mg) (base := base) (fun f fd F => Bk.ok_lastPage F TS cP)
    have sO := m_Span_is_on.cal (P := PySem.Challenge.rw_bookspans_s01_answers.prog) (w := w) (mg := mg) (base := base) (fun f fd F => Bk.ok_isOn F TS sP1 sP2)
    have dI := i_Desk.cal (P := PySem.Challenge.rw_bookspans_s01_answers.prog) (w := w) (base := base) (fun f fd F => Bk.ok_dinit (CS := 155) F TD)
    have m1 := m_Desk_begin.cal (P := PySem.Challenge.rw_bookspans_s01_answers.prog) (w := w) (mg := mg) (base := base) (fun f fd F => Bk.ok_begin (CS := 155) F TD cA cR)
    have m2 := m_Desk_tell_length.cal (P := PySem.Challenge.rw_bookspans_s01_answers.prog) (w := w) (mg := mg) (base := base) (fun f fd F => Bk.ok_length (CS := 155) F TD cA)
    have m3 := m_Desk_pages.cal (P := PySem.Challenge.rw_bookspans_s01_answers.prog) (w := w) (mg := mg) (base := base) (fun f fd F => Bk.ok_pages (CS := 155) F TD cA cR cS)
    have m4 := m_Desk_start.cal (P := PySem.Challenge.rw_bookspans_s01_answers.prog) (w := w) (mg := mg) (base := base) (fun f fd F => Bk.ok_start (CS := 155) F TD cA cR)
    have m5 := m_Desk_put.cal (P := PySem.Challenge.rw_bookspans_s01_answers.prog) (w := w) (mg := mg) (base := base) (fun f fd F => Bk.ok_put (CS := 155) F TD TS cA cR cL sF sS)
    have m6 := m_Desk_drop.cal (P := PySem.Challenge.rw_bookspans_s01_answers.prog) (w := w) (mg := mg) (base := base) (fun f fd F => Bk.ok_drop (CS := 155) F TD cA cR)
    have m7 := m_Desk_get.cal (P := PySem.Challenge.rw_bookspans_s01_answers.prog) (w := w) (mg := mg) (base := base) (fun f fd F => Bk.ok_get (CS := 155) F TD TS cA cR)
    have mM := m_Desk_move_spans.cal (P := PySem.Challenge.rw_bookspans_s01_answers.prog) (w := w) (mg := mg) (base := base) (fun f fd F => Bk.ok_move (CS := 155) F TD TS sA sL)
    have m8 := m_Desk_edit.cal (P := PySem.Challenge.rw_bookspans_s01_answers.prog) (w := w) (mg := mg) (base := base) (fun f fd F => Bk.ok_edit (CS := 155) F TD cA cR c3 mM)
    have m9 := m_Desk_place.cal (P := PySem.Challenge.rw_bookspans_s01_answers.prog) (w := w) (mg := mg) (base := base) (fun f fd F => Bk.ok_place (CS := 155) F TD TS cA cR sP1 sP2)
    have mR := m_Desk_rank.cal (P := PySem.Challenge.rw_bookspans_s01_answers.prog) (w := w) (mg := mg) (base := base) (fun f fd F => Bk.ok_rank (CS := 155) F TD TS)
    have mO := m_Desk_in_order.cal (P := PySem.Challenge.rw_bookspans_s01_answers.prog) (w := w) (mg := mg) (base := base) (fun f fd F => Bk.ok_inOrder (CS := 155) F TD mR)
    have m10 := m_Desk_holds.cal (P := PySem.Challenge.rw_bookspans_s01_answers.prog) (w := w) (mg := mg) (base := base) (fun f fd F => Bk.ok_holds (CS := 155) F TD TS cA cR sC mO)
    have m11 := m_Desk_on.cal (P := PySem.Challenge.rw_bookspans_s01_answers.prog) (w := w) (mg := mg) (base := base) (fun f fd F => Bk.ok_on (CS := 155) F TD TS cA cR sO mO)
    have tb : ∃ a, mg "NUMBERS_BEHIND" = some (.ref a) ∧ Bk.TabK _ a Bk.behind := ⟨_, o_NUMBERS_BEHIND, _, _, l_NUMBERS_BEHIND, (.cons ⟨rfl, ⟨_, rfl⟩, ⟨_, rfl⟩⟩ (.cons ⟨rfl, ⟨_, rfl⟩, ⟨_, rfl⟩⟩ (.cons ⟨rfl, ⟨_, rfl⟩, ⟨_, rfl⟩⟩ (.cons ⟨rfl, ⟨_, rfl⟩, ⟨_, rfl⟩⟩ (.cons ⟨rfl, ⟨_, rfl⟩, ⟨_, rfl⟩⟩ (.cons ⟨rfl, ⟨_, rfl⟩, ⟨_, rfl⟩⟩ (.cons ⟨rfl, ⟨_, rfl⟩, ⟨_, rfl⟩⟩ (.cons ⟨rfl, ⟨_, rfl⟩, ⟨_, rfl⟩⟩ (.cons ⟨rfl, ⟨_, rfl⟩, ⟨_, rfl⟩⟩ (.cons ⟨rfl, ⟨_, rfl⟩, ⟨_, rfl⟩⟩ .nil)))))))))), by decide⟩
    have cE := d_call_end.cal (P := PySem.Challenge.rw_bookspans_s01_answers.prog) (w := w) (base := base) (fun f fd F => Bk.ok_callEnd F n_PAGES tb)
    have cW := d_answer.cal (P := PySem.Challenge.rw_bookspans_s01_answers.prog) (w := w) (base := base) (fun f fd F => Bk.ok_answer F TD TN m1 m2 m3 m4 m5 m6 m7 m8 m9 m10 m11 sI)
    exact Bk.ok_answers FA TD cE cW dI
  case S =>
    intro K H xs a hO hwi hask hx
    cases hx with
    | cons h1 h2 =>
      cases h2
      cases h1 with
      | lst hs ha =>
        have e := L2.ints_dw a.1 _ ha
        subst e
        have q : PyWqakbd.answers_asked a.1 = true := hask
        obtain ⟨cs, e1, e2, e3, e4⟩ := Sp.request q
        refine ⟨_, cs, rfl, ?_, e2, fun H' p hp => ?_⟩
        · rw [← e1]
          exact hs
        · rw [← e4] at hp
          exact .lst (L2.SqL.of hp) (L2.dw_ints _)

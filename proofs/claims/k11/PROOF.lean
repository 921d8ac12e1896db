import PyProof.Rows.All
import Wide.All
import OpenK.AllK
import Wide.FinOn
import HandS.ForMost
import HandS.Evl
import HandS.IsInst
import HandS.DictComp
import HandS.Zip
import HandS.Flow
import HandS.TupAny
import HandS.Conv
import KE.SortData
import HandS.Style
import HandS.NoneIn
import HandS.Deep
import HandS.WordsDict
import HandS.Steps
import KE.KDictPairs
import KE.KDictWalk
import HandS.DictTup
import HandS.ListItems
import HandS.More
import KE.KEqDict
import PyProof.DictUpdate
import KE.GoesMore
import PyProof.TupleOfSeq
import HandS.Set
import HandS.SetTxt0
import HandS.Rev
import HandS.SetKeys
import HandS.SetBool
import HandS.SetFor
import HandS.TupSets
import HandS.Text
import HandS.FStr
import HandS.Codes
import HandS.Exc
import PyProof.ReprRoads
import PySem.Challenge.RW_handeddown_k11_wants_and_plans_or_none
set_option Elab.async false
set_option linter.all false
set_option maxRecDepth 100000
set_option maxHeartbeats 4000000
namespace Sh
open PySem PySem.Spec L2

abbrev D := PyData

/-! ### data at a heap; of a tuple that dict() would take the object is known, and has no dict of its own -/
def dab1 : D → Bool
  | .tuple [.int _, _] => true
  | .tuple [.str _, _] => true
  | _ => false
def dable (ds : List D) : Bool := ds.all dab1
def Pl (H : Hp) (a : Addr) : Prop := ∃ o u, H a = some (.frz o u) ∧ o.dict = none
/-- a key, as data -/
def kD0 : Key → D
  | .inl i => .int i
  | .inr x => .str x
mutual
/-- pr: a pair of which nothing more is known (zip's); ld: a dict that is locked for good, its keys and its values -/
inductive Dp (K : PySem.W.Frag) (H : Hp) : V → D → Prop
  | non : Dp K H .non .none
  | bl (b : Bool) : Dp K H (.bl b) (.bool b)
  | int (i : Int) : Dp K H (.int i) (.int i)
  | str (x : Str) : Dp K H (.str x) (.str x)
  | lst {p : Addr} {vs : List V} {ds : List D} : SqL K H p vs → DpAll K H vs ds → Dp K H (.ref p) (.list ds)
  | tup {p : Addr} {vs : List V} {ds : List D} : SqT K H p vs → DpAll K H vs ds → (dable ds = true → Pl H p) → Dp K H (.ref p) (.tuple ds)
  | pr {p : Addr} {v w : V} {d e : D} : SqT K H p [v, w] → Dp K H v d → Dp K H w e → Dp K H (.ref p) (.dict [(d, e)])
  | ld {p : Addr} {o : Obj} {ws : List (Key × V)} {ks ds : List D} : H p = some (.frz o (.dK ws)) → ks = ws.map (fun q => kD0 q.1) → DpAll K H (ws.map (·.2)) ds → Dp K H (.ref p) (.dict [(.none, .list ks), (.none, .list ds)])
inductive DpAll (K : PySem.W.Frag) (H : Hp) : List V → List D → Prop
  | nil : DpAll K H [] []
  | cons {v : V} {vs : List V} {d : D} {ds : List D} : Dp K H v d → DpAll K H vs ds → DpAll K H (v :: vs) (d :: ds)
end
mutual
def noD : D → Bool
  | .list xs => noDs xs
  | .tuple xs => noDs xs
  | .dict _ => false
  | .none => true
  | .bool _ => true
  | .int _ => true
  | .str _ => true
def noDs : List D → Bool
  | [] => true
  | x :: xs => noD x && noDs xs
end
mutual
theorem noD_lay : ∀ {d : D}, d.canLay0 = true → noD d = true
  | .none, _ => rfl
  | .bool _, _ => rfl
  | .int _, _ => rfl
  | .str _, _ => rfl
  | .list xs, h => by
    unfold noD
    exact noDs_lay (by unfold PyData.canLay0 at h; exact h)
  | .tuple xs, h => by
    unfold noD
    exact noDs_lay (by unfold PyData.canLay0 at h; exact h)
  | .dict _, h => by unfold PyData.canLay0 at h; cases h
theorem noDs_lay : ∀ {ds : List D}, PyData.canLayAll0 ds = true → noDs ds = true
  | [], _ => rfl
  | x :: xs, h => by
    unfold PyData.canLayAll0 at h
    obtain ⟨h1, h2⟩ := Bool.and_eq_true_iff.mp h
    unfold noDs
    rw [noD_lay h1, noDs_lay h2]
    rfl
end
theorem noD_shaped {d : D} (h : SeqAt.shaped d = true) : noD d = true := noD_lay (SeqAt.canLay_of_shaped h)
mutual
theorem noD_alike : ∀ {d : D}, PySem.W.alike d d = true → noD d = true
  | .none, _ => rfl
  | .bool _, _ => rfl
  | .int _, _ => rfl
  | .str _, _ => rfl
  | .list xs, h => by
    unfold noD
    exact noDs_alike (by unfold PySem.W.alike at h; exact h)
  | .tuple xs, h => by
    unfold noD
    exact noDs_alike (by unfold PySem.W.alike at h; exact h)
  | .dict _, h => by unfold PySem.W.alike at h; cases h
theorem noDs_alike : ∀ {ds : List D}, PySem.W.alikeAll ds ds = true → noDs ds = true
  | [], _ => rfl
  | x :: xs, h => by
    unfold PySem.W.alikeAll at h
    obtain ⟨h1, h2⟩ := Bool.and_eq_true_iff.mp h
    unfold noDs
    rw [noD_alike h1, noDs_alike h2]
    rfl
end
section
variable {K : PySem.W.Frag} {H : Hp}
mutual
theorem Dp.old : ∀ {v : V} {d : D}, Dp K H v d → noD d = true → L2.Dp K H v d
  | _, _, .non, _ => .non
  | _, _, .bl b, _ => .bl b
  | _, _, .int i, _ => .int i
  | _, _, .str x, _ => .str x
  | _, _, .lst h t, n => .lst h (DpAll.old t (by unfold noD at n; exact n))
  | _, _, .tup h t _, n => .tup h (DpAll.old t (by unfold noD at n; exact n))
  | _, _, .pr _ _ _, n => by unfold noD at n; cases n
  | _, _, .ld _ _ _, n => by unfold noD at n; cases n
theorem DpAll.old : ∀ {vs : List V} {ds : List D}, DpAll K H vs ds → noDs ds = true → L2.DpAll K H vs ds
  | _, _, .nil, _ => .nil
  | _, _, .cons h t, n => by
    unfold noDs at n
    obtain ⟨h1, h2⟩ := Bool.and_eq_true_iff.mp n
    exact .cons (h.old h1) (t.old h2)
end
end
theorem Dp.reads {X : Cx} {pins : List (Addr × Obj)} {σ : St} {H : Hp} {s : Shared} (I : Inv X pins σ H s) (d : D) (v : V) (u : Value) (h : Dp X.K H v d) (n : noD d = true) (r : RelV v u) : ∃ as, Reads s.heap u d as :=
  L2.Dp.reads I d v u (h.old n) r

/-! ### tuples that are made, with their objects -/
/-- a new tuple, its object known -/
def NewT (H : Hp) (vs : List V) (Q : VK) : Prop := ∀ p o, H p = none → o.dict = none → Q (.ref p) (upd H p (.frz o (.tup vs)))
section
variable {X : Cx} {pins : List (Addr × Obj)} {σ : St} {H : Hp} {s : Shared} {vs : List V} {us : List Value} {Q : VK}
theorem newT_laid (I : Inv X pins σ H s) (r : Vals vs us) (z : vs.length ≤ sizeLine) (q : NewT H vs Q) :
    EP X pins σ Q (.ref s.heap.objs.size) { s with heap := s.heap.push { cls := .type "tuple", data := .seq us.toArray } } := by
  have hn : H s.heap.objs.size = none := I.hok.fresh (Nat.le_refl _)
  have hob := Heap.get?_push_size s.heap (o := { cls := .type "tuple", data := .seq us.toArray }) rfl
  exact ⟨.ref s.heap.objs.size, _, I.laid (t' := s.toks) (o := .frz { cls := .type "tuple", data := .seq us.toArray } (.tup vs)) (fun _ _ => Heap.get?_push_of_some _) (Nat.le_refl _) ⟨hob, z, us, r, PyProof.Rows.IsTup.new _ _⟩, rfl, q _ _ hn rfl⟩
end
def tTupP (t : TA) : TE := fun σ H Q => t σ H fun vs H1 => vs.length ≤ sizeLine ∧ NewT H1 vs Q
theorem pe_tupP {X : Cx} {es : List Expr} {t : TA} {k1} {pos : Pos} (h : PA X es t) : PE X (.Tuple es k1 pos) (tTupP t) where
  run := fun pins s σ H Q I q => wpAny_Tuple_spliced <| thn (h.run pos pins s σ H _ I q) fun us s1 w => by
    obtain ⟨vs, H1, I1, r, z, q1⟩ := w
    exact ⟨r.length ▸ z, newT_laid I1 r z q1⟩
/-- tuple(x) of a list or a tuple -/
def rTupleP (K : PySem.W.Frag) : List V → Hp → VK → Prop := fun xs H Q => ∃ p vs, xs = [V.ref p] ∧ ((SqL K H p vs ∧ NewT H vs Q) ∨ (SqT K H p vs ∧ Q (.ref p) H))
theorem call_tupleP {X : Cx} : CallR X (.type "tuple") (rTupleP X.K) := by
  intro pins s σ H xs us Q I r ⟨p, vs, ex, h⟩
  subst ex
  rcases h with ⟨hq, q⟩ | ⟨hq, q⟩
  · obtain ⟨its, r1, pl, hz⟩ := I.list hq
    obtain ⟨u, rfl, rx⟩ := vals1 r
    cases rx
    have hsz : its.toArray.size ≤ sizeLine := by
      have := r1.length
      rw [List.size_toArray]
      omega
    exact call_tuple_list pl.isList (fun h' kp => newT_laid (I.kept (h' := h') (t' := s.toks) kp) r1 hz q) hsz
  · exact call_tuple_of pins s σ H _ us Q I r ⟨p, vs, rfl, .inr ⟨hq, q⟩⟩
/-- t + u -/
def rCatP (K : PySem.W.Frag) : R2 := fun x y H Q => ∃ a b vs ws, x = .ref a ∧ y = .ref b ∧ SqT K H a vs ∧ SqT K H b ws ∧ vs.length + ws.length ≤ sizeLine ∧
  (vs = [] → Q (.ref b) H) ∧ (vs ≠ [] → ws = [] → Q (.ref a) H) ∧ (vs ≠ [] → ws ≠ [] → NewT H (vs ++ ws) Q)
theorem op_catP {X : Cx} : OpR X (binaryOp .Add) (rCatP X.K) := by
  intro pins s σ H x y v u Q I rx ry ⟨a, b, vs, ws, ex, ey, ha, hb, hz, q0, q1, q2⟩
  by_cases hc : vs = [] ∨ ws = []
  · refine op_catA pins s σ H x y v u Q I rx ry ⟨a, b, vs, ws, ex, ey, ha, hb, hz, q0, q1, fun n m => ?_⟩
    rcases hc with c | c
    · exact absurd c n
    · exact absurd c m
  · subst ex ey
    cases rx
    cases ry
    obtain ⟨i1, r1, p1, _⟩ := I.tuple ha
    obtain ⟨i2, r2, p2, _⟩ := I.tuple hb
    have n1 : vs ≠ [] := fun e => hc (.inl e)
    have n2 : ws ≠ [] := fun e => hc (.inr e)
    have hl : i1.length + i2.length ≤ sizeLine := by rw [← r1.length, ← r2.length]; exact hz
    exact HT.cat_tup p1 p2 (fun e => n1 (r1.nil_iff.mp e)) (fun e => absurd (r2.nil_iff.mp e) n2) (fun _ => newT_laid I (r1.append r2) (by rw [List.length_append]; exact hz) (q2 n1 n2)) hl
/-- t[lo:hi] -/
def rSlP (K : PySem.W.Frag) : V → Option Int → Option Int → Hp → VK → Prop := fun x lo hi H Q => ∃ a vs, x = .ref a ∧ SqT K H a vs ∧
  (HT.sIx vs.length 0 lo = 0 ∧ HT.sIx vs.length vs.length hi = vs.length → Q (.ref a) H) ∧ (¬ (HT.sIx vs.length 0 lo = 0 ∧ HT.sIx vs.length vs.length hi = vs.length) → NewT H (cutV vs lo hi) Q)
theorem sl_tupP {X : Cx} : SlR X (rSlP X.K) := by
  intro pins s σ H x v vl vu lo hi sl Q I rx hs pl pu ⟨a, vs, ex, hx, q1, q2⟩
  by_cases hw : HT.sIx vs.length 0 lo = 0 ∧ HT.sIx vs.length vs.length hi = vs.length
  · exact sl_tupA pins s σ H x v vl vu lo hi sl Q I rx hs pl pu ⟨a, vs, ex, hx, q1, fun n => absurd hw n⟩
  · subst ex
    cases rx
    obtain ⟨its, r, ht, hz⟩ := I.tuple hx
    have hlen : vs.length = its.toArray.size := by rw [List.size_toArray]; exact r.length
    have q2 := q2 hw
    have hcut := Nat.le_trans (cutV_length vs lo hi) hz
    have rc : Vals (cutV vs lo hi) ((its.drop (HT.sIx vs.length 0 lo)).take (HT.sIx vs.length vs.length hi - HT.sIx vs.length 0 lo)) := (r.drop _).take _
    have go := newT_laid I rc hcut q2
    rw [hlen] at hw go hz
    exact ⟨"tuple", _, PyProof.Rows.slot_tuple_getitem.lookup, ht.typeIs, HT.getItem_tuple_cut ht hs pl pu hw go hz⟩
end Sh

namespace Sh
open PySem PySem.Spec L2

/-! ### data at a heap -/
mutual
theorem dp_mono {K : PySem.W.Frag} {G G' : Hp} (e : Same G G') : ∀ {v : V} {d : D}, Dp K G v d → Dp K G' v d
  | _, _, .non => .non
  | _, _, .bl b => .bl b
  | _, _, .int i => .int i
  | _, _, .str x => .str x
  | _, _, .lst h t => .lst (e.seq h) (dpa_mono e t)
  | _, _, .tup h t p => .tup (Evl.ex_t e h) (dpa_mono e t) (fun z => let ⟨o, u, q, n⟩ := p z; ⟨o, u, e _ _ q, n⟩)
  | _, _, .pr h a b => .pr (Evl.ex_t e h) (dp_mono e a) (dp_mono e b)
  | _, _, .ld h k t => .ld (e _ _ h) k (dpa_mono e t)
theorem dpa_mono {K : PySem.W.Frag} {G G' : Hp} (e : Same G G') : ∀ {vs : List V} {ds : List D}, DpAll K G vs ds → DpAll K G' vs ds
  | _, _, .nil => .nil
  | _, _, .cons h t => .cons (dp_mono e h) (dpa_mono e t)
end

section
variable {K : PySem.W.Frag} {G : Hp}
theorem dpa_len : ∀ {vs : List V} {ds : List D}, DpAll K G vs ds → vs.length = ds.length
  | _, _, .nil => rfl
  | _, _, .cons _ t => by rw [List.length_cons, List.length_cons, dpa_len t]
theorem dpa_get : ∀ {vs : List V} {ds : List D} {i : Nat} {v : V}, DpAll K G vs ds → vs[i]? = some v → ∃ d, ds[i]? = some d ∧ Dp K G v d
  | _, _, _, _, .nil, h => by simp at h
  | _, _, 0, _, .cons r _, h => by
    simp at h; subst h; exact ⟨_, rfl, r⟩
  | _, _, i + 1, v, .cons _ t, h => by
    obtain ⟨d, h1, h2⟩ := dpa_get (i := i) (v := v) t (by simpa using h)
    exact ⟨d, by simpa using h1, h2⟩
theorem dpa_get' : ∀ {vs : List V} {ds : List D} {i : Nat} {d : D}, DpAll K G vs ds → ds[i]? = some d → ∃ v, vs[i]? = some v ∧ Dp K G v d
  | _, _, _, _, .nil, h => by simp at h
  | _, _, 0, _, .cons r _, h => by
    simp at h; subst h; exact ⟨_, rfl, r⟩
  | _, _, i + 1, d, .cons _ t, h => by
    obtain ⟨v, h1, h2⟩ := dpa_get' (i := i) (d := d) t (by simpa using h)
    exact ⟨v, by simpa using h1, h2⟩
theorem dpa_app : ∀ {vs us : List V} {ds es : List D}, DpAll K G vs ds → DpAll K G us es → DpAll K G (vs ++ us) (ds ++ es)
  | _, _, _, _, .nil, h => h
  | _, _, _, _, .cons r t, h => .cons r (dpa_app t h)
theorem dpa_one {v : V} {d : D} (h : Dp K G v d) : DpAll K G [v] [d] := .cons h .nil
theorem dpa_erase : ∀ {vs : List V} {ds : List D} (i : Nat), DpAll K G vs ds → DpAll K G (vs.eraseIdx i) (ds.eraseIdx i)
  | _, _, _, .nil => by simpa using DpAll.nil
  | _, _, 0, .cons _ t => t
  | _, _, i + 1, .cons r t => .cons r (dpa_erase i t)
theorem dpa_set : ∀ {vs : List V} {ds : List D} (i : Nat) {v : V} {d : D}, DpAll K G vs ds → Dp K G v d → DpAll K G (vs.set i v) (ds.set i d)
  | _, _, _, _, _, .nil, _ => .nil
  | _, _, 0, _, _, .cons _ t, h => .cons h t
  | _, _, i + 1, _, _, .cons r t, h => .cons r (dpa_set i t h)
theorem dpa_take : ∀ {vs : List V} {ds : List D} (i : Nat), DpAll K G vs ds → DpAll K G (vs.take i) (ds.take i)
  | _, _, 0, _ => .nil
  | _, _, _ + 1, .nil => .nil
  | _, _, i + 1, .cons r t => .cons r (dpa_take i t)
theorem dpa_drop : ∀ {vs : List V} {ds : List D} (i : Nat), DpAll K G vs ds → DpAll K G (vs.drop i) (ds.drop i)
  | _, _, 0, h => h
  | _, _, _ + 1, .nil => .nil
  | _, _, i + 1, .cons _ t => dpa_drop i t
theorem dpa_ints : ∀ (ns : List Int), DpAll K G (ns.map V.int) (ns.map PyData.int)
  | [] => .nil
  | n :: ns => .cons (.int n) (dpa_ints ns)
end

/-! ### slots -/
inductive Sl where
  | un
  | fz (d : D)
  | ow (xs : List D)
  | od (kvs : List (Key × D))
abbrev S := List Sl
def Sl.mt : Sl → Bool
  | .ow _ => true
  | .od _ => true
  | _ => false

/-! dicts by their keys, as lists of pairs -/
def dget : List (Key × D) → Key → Option D
  | [], _ => none
  | (k', d) :: r, k => if k' = k then some d else dget r k
def dput : List (Key × D) → Key → D → List (Key × D)
  | [], k, d => [(k, d)]
  | (k', d') :: r, k, d => if k' = k then (k', d) :: r else (k', d') :: dput r k d
/-- no key twice -/
def keysNd : List (Key × D) → Bool
  | [] => true
  | (k, _) :: r => (dget r k).isNone && keysNd r
def KVp (K : PySem.W.Frag) (G : Hp) : List (Key × V) → List (Key × D) → Prop := Paired fun a b => a.1 = b.1 ∧ Dp K G a.2 b.2
theorem kvp_mono {K : PySem.W.Frag} {G G' : Hp} (e : Same G G') : ∀ {ws : List (Key × V)} {kvs : List (Key × D)}, KVp K G ws kvs → KVp K G' ws kvs
  | _, _, .nil => .nil
  | _, _, .cons r t => .cons ⟨r.1, dp_mono e r.2⟩ (kvp_mono e t)

/-- the object at p holds this -/
def Bears (K : PySem.W.Frag) (G H : Hp) (p : Addr) : Sl → Prop
  | .ow xs => ∃ vs, H p = some (.lst vs) ∧ DpAll K G vs xs
  | .od kvs => ∃ ws, H p = some (.dK ws) ∧ KVp K G ws kvs ∧ keysNd kvs = true
  | _ => False
theorem Bears.mono {K : PySem.W.Frag} {G G' H H' : Hp} {p : Addr} {s : Sl} (h : Bears K G H p s) (e : Same G G') (k : ∀ o, H p = some o → H' p = some o) : Bears K G' H' p s := by
  cases s with
  | ow xs => obtain ⟨vs, h1, h2⟩ := h; exact ⟨vs, k _ h1, dpa_mono e h2⟩
  | od kvs => obtain ⟨ws, h1, h2, h3⟩ := h; exact ⟨ws, k _ h1, kvp_mono e h2, h3⟩
  | _ => exact h.elim
theorem Bears.live {K : PySem.W.Frag} {G H : Hp} {p : Addr} {s : Sl} (h : Bears K G H p s) : ∃ o, H p = some o := by
  cases s with
  | ow xs => obtain ⟨vs, h1, h2⟩ := h; exact ⟨_, h1⟩
  | od kvs => obtain ⟨ws, h1, _⟩ := h; exact ⟨_, h1⟩
  | _ => exact h.elim
theorem Bears.mt {K : PySem.W.Frag} {G H : Hp} {p : Addr} {s : Sl} (h : Bears K G H p s) : s.mt = true := by
  cases s with
  | ow xs => rfl
  | od kvs => rfl
  | _ => exact h.elim

def SlRel (K : PySem.W.Frag) (G H : Hp) (s : Sl) (v : Option V) : Prop := match s with
  | .un => True
  | .fz d => ∃ x, v = some x ∧ Dp K G x d
  | .ow xs => ∃ p, v = some (.ref p) ∧ G p = none ∧ Bears K G H p (.ow xs)
  | .od kvs => ∃ p, v = some (.ref p) ∧ G p = none ∧ Bears K G H p (.od kvs)
theorem slrel_mt {K : PySem.W.Frag} {G H : Hp} {s : Sl} {v : Option V} (m : s.mt = true) : SlRel K G H s v ↔ ∃ p, v = some (.ref p) ∧ G p = none ∧ Bears K G H p s := by
  cases s with
  | ow xs => exact Iff.rfl
  | od xs => exact Iff.rfl
  | _ => cases m

def Own (st : S) (σ : St) (a : Addr) : Prop := ∃ (i : Nat) (s : Sl), st[i]? = some s ∧ s.mt = true ∧ σ[i]? = some (some (.ref a))

structure Rel (K : PySem.W.Frag) (st : S) (σ : St) (G H : Hp) : Prop where
  len : st.length = σ.length
  at_ : ∀ (i : Nat) (s : Sl) (v : Option V), st[i]? = some s → σ[i]? = some v → SlRel K G H s v
  inj : ∀ (i j : Nat) (s s' : Sl) (p : Addr), st[i]? = some s → st[j]? = some s' → s.mt = true → s'.mt = true → σ[i]? = some (some (.ref p)) → σ[j]? = some (some (.ref p)) → i = j
  ex : Same G H

section
variable {K : PySem.W.Frag} {st st' : S} {σ σ' : St} {G G' G'' H H' H'' : Hp} {O O' O'' : Addr → Prop}
theorem Rel.get (r : Rel K st σ G H) {i : Nat} {s : Sl} (h : st[i]? = some s) : ∃ v, σ[i]? = some v ∧ SlRel K G H s v := by
  have hi : i < σ.length := by
    rw [← r.len]; exact (List.getElem?_eq_some_iff.mp h).1
  exact ⟨σ[i], List.getElem?_eq_getElem hi, r.at_ i s _ h (List.getElem?_eq_getElem hi)⟩
theorem Rel.getFz (r : Rel K st σ G H) {i : Nat} {d : D} (h : st[i]? = some (.fz d)) : ∃ v, σ[i]? = some (some v) ∧ Dp K G v d := by
  obtain ⟨v, h1, x, e, h2⟩ := r.get h
  subst e
  exact ⟨x, h1, h2⟩
theorem Rel.getMt (r : Rel K st σ G H) {i : Nat} {s : Sl} (h : st[i]? = some s) (m : s.mt = true) : ∃ p, σ[i]? = some (some (.ref p)) ∧ G p = none ∧ Bears K G H p s := by
  obtain ⟨v, h1, h2⟩ := r.get h
  obtain ⟨p, e, h3, h4⟩ := (slrel_mt m).mp h2
  subst e
  exact ⟨p, h1, h3, h4⟩
theorem Rel.own (r : Rel K st σ G H) {a : Addr} (o : Own st σ a) : G a = none ∧ ∃ u, H a = some u := by
  obtain ⟨i, s, h1, m, h2⟩ := o
  obtain ⟨p, h3, h4, h5⟩ := r.getMt h1 m
  rw [h2] at h3
  cases h3
  exact ⟨h4, h5.live⟩

/-- what an evaluation may do -/
structure Step (O O' : Addr → Prop) (G H G' H' : Hp) : Prop where
  g : Same G G'
  keep : ∀ a o, H a = some o → ¬ O a → H' a = some o
  own : ∀ a, O' a → O a ∨ H a = none
  new : ∀ a o, G' a = some o → (∃ u, G a = some u) ∨ H a = none ∨ O a
  live : ∀ a, H' a = none → H a = none
theorem Step.refl : Step O O G H G H := ⟨Same.refl _, fun _ _ h _ => h, fun _ h => .inl h, fun a o h => .inl ⟨o, h⟩, fun _ h => h⟩
theorem Step.trans (x : Step O O' G H G' H') (y : Step O' O'' G' H' G'' H'') : Step O O'' G H G'' H'' where
  g := x.g.trans y.g
  keep := fun a o h n => y.keep a o (x.keep a o h n) fun q => by
    rcases x.own a q with z | z
    · exact n z
    · rw [z] at h; cases h
  own := fun a h => by
    rcases y.own a h with z | z
    · exact x.own a z
    · exact .inr (x.live a z)
  new := fun a o h => by
    rcases y.new a o h with ⟨u, z⟩ | z | z
    · exact x.new a u z
    · exact .inr (.inl (x.live a z))
    · rcases x.own a z with q | q
      · exact .inr (.inr q)
      · exact .inr (.inl q)
  live := fun a h => x.live a (y.live a h)
theorem Step.sub (x : Step O O' G H G' H') (h : ∀ a, O'' a → O' a) : Step O O'' G H G' H' := ⟨x.g, x.keep, fun a q => x.own a (h a q), x.new, x.live⟩
theorem Step.sup (x : Step O O' G H G' H') (h : ∀ a, O a → O'' a) : Step O'' O' G H G' H' := ⟨x.g, fun a o q n => x.keep a o q fun z => n (h a z), fun a q => (x.own a q).imp (h a) id, fun a o q => (x.new a o q).imp id (.imp id (h a)), x.live⟩

/-- new objects alone -/
structure Ext (G H G' H' : Hp) : Prop where
  g : Same G G'
  h : Same H H'
  gh : Same G' H'
  new : ∀ a o, G' a = some o → (∃ u, G a = some u) ∨ H a = none
theorem Ext.refl (e : Same G H) : Ext G H G H := ⟨Same.refl _, Same.refl _, e, fun a o h => .inl ⟨o, h⟩⟩
theorem Ext.trans (x : Ext G H G' H') (y : Ext G' H' G'' H'') : Ext G H G'' H'' :=
  ⟨x.g.trans y.g, x.h.trans y.h, y.gh, fun a o h => by
    rcases y.new a o h with ⟨u, z⟩ | z
    · exact x.new a u z
    · exact .inr (x.h.free z)⟩
theorem Ext.step (x : Ext G H G' H') : Step O O G H G' H' :=
  ⟨x.g, fun a o h _ => x.h a o h, fun a h => .inl h, fun a o h => (x.new a o h).imp id .inl, fun a h => x.h.free h⟩
theorem Rel.ext (r : Rel K st σ G H) (x : Ext G H G' H') : Rel K st σ G' H' := by
  refine ⟨r.len, fun i s v h1 h2 => ?_, r.inj, x.gh⟩
  have q := r.at_ i s v h1 h2
  have mm : s.mt = true → SlRel K G' H' s v := fun m => by
    obtain ⟨p, e, h3, h4⟩ := (slrel_mt m).mp q
    refine (slrel_mt m).mpr ⟨p, e, ?_, h4.mono x.g (x.h p)⟩
    cases z : G' p with
    | none => rfl
    | some o =>
      rcases x.new p o z with ⟨u, z2⟩ | z2
      · rw [h3] at z2; cases z2
      · obtain ⟨u, hu⟩ := h4.live
        rw [z2] at hu; cases hu
  cases s with
  | un => trivial
  | fz d => obtain ⟨y, e, h3⟩ := q; exact ⟨y, e, dp_mono x.g h3⟩
  | ow xs => exact mm rfl
  | od xs => exact mm rfl
/-- a new object, frozen at once -/
theorem Ext.frozen {p : Addr} {o : HO} (e : Same G H) (h : H p = none) : Ext G H (upd G p o) (upd H p o) := by
  have hg : G p = none := e.free h
  refine ⟨fun a u q => ?_, fun a u q => ?_, fun a u q => ?_, fun a u q => ?_⟩
  · rw [upd_ne (ne_of_none q hg)]; exact q
  · rw [upd_ne (ne_of_none q h)]; exact q
  · by_cases z : a = p
    · subst z; rw [upd_same] at q ⊢; exact q
    · rw [upd_ne z] at q ⊢; exact e a u q
  · by_cases z : a = p
    · subst z; exact .inr h
    · rw [upd_ne z] at q; exact .inl ⟨u, q⟩
/-- a new object, not frozen -/
theorem Ext.fresh {p : Addr} {o : HO} (e : Same G H) (h : H p = none) : Ext G H G (upd H p o) := by
  refine ⟨Same.refl _, fun a u q => ?_, fun a u q => ?_, fun a u q => .inl ⟨u, q⟩⟩
  · rw [upd_ne (ne_of_none q h)]; exact q
  · rw [upd_ne (ne_of_none (e a u q) h)]; exact e a u q
end

/-! ### values -/
/-- a value as it comes out of an evaluation that began at O, H -/
def VRel (K : PySem.W.Frag) (O : Addr → Prop) (H : Hp) (O' : Addr → Prop) (G' H' : Hp) (s : Sl) (v : V) : Prop := match s with
  | .un => False
  | .fz d => Dp K G' v d
  | .ow xs => ∃ p, v = .ref p ∧ G' p = none ∧ Bears K G' H' p (.ow xs) ∧ ¬ O' p ∧ (O p ∨ H p = none)
  | .od kvs => ∃ p, v = .ref p ∧ G' p = none ∧ Bears K G' H' p (.od kvs) ∧ ¬ O' p ∧ (O p ∨ H p = none)
section
variable {K : PySem.W.Frag} {st st' : S} {σ σ' : St} {G G' G'' H H' H'' : Hp} {O O' O'' : Addr → Prop} {s : Sl} {v : V}
theorem vrel_mt (m : s.mt = true) : VRel K O H O' G' H' s v ↔ ∃ p, v = .ref p ∧ G' p = none ∧ Bears K G' H' p s ∧ ¬ O' p ∧ (O p ∨ H p = none) := by
  cases s with
  | ow xs => exact Iff.rfl
  | od xs => exact Iff.rfl
  | _ => cases m
/-- seen from an earlier start -/
theorem VRel.back (h : VRel K O' H' O'' G'' H'' s v) (x : Step O O' G H G' H') : VRel K O H O'' G'' H'' s v := by
  have mm : s.mt = true → VRel K O H O'' G'' H'' s v := fun m => by
    obtain ⟨p, e, h1, h2, h3, h4⟩ := (vrel_mt m).mp h
    refine (vrel_mt m).mpr ⟨p, e, h1, h2, h3, ?_⟩
    rcases h4 with z | z
    · exact x.own p z
    · exact .inr (x.live p z)
  cases s with
  | un => exact h
  | fz d => exact h
  | ow xs => exact mm rfl
  | od xs => exact mm rfl
/-- behind a later step -/
theorem VRel.step (h : VRel K O H O' G' H' s v) (x : Step O' O'' G' H' G'' H'') : VRel K O H O'' G'' H'' s v := by
  have mm : s.mt = true → VRel K O H O'' G'' H'' s v := fun m => by
    obtain ⟨p, e, h1, h2, h3, h4⟩ := (vrel_mt m).mp h
    obtain ⟨u, hu⟩ := h2.live
    refine (vrel_mt m).mpr ⟨p, e, ?_, h2.mono x.g (fun o q => x.keep p o q h3), fun q => ?_, h4⟩
    · cases z : G'' p with
      | none => rfl
      | some o =>
        rcases x.new p o z with ⟨u, z2⟩ | z2 | z2
        · rw [h1] at z2; cases z2
        · rw [z2] at hu; cases hu
        · exact (h3 z2).elim
    · rcases x.own p q with z | z
      · exact h3 z
      · rw [z] at hu; cases hu
  cases s with
  | un => exact h
  | fz d => exact dp_mono x.g h
  | ow xs => exact mm rfl
  | od xs => exact mm rfl
end

/-! ### operands: a value on its way, or the object of a slot -/
inductive Opd where
  | tmp (s : Sl)
  | ref (i : Nat)
def ORel (K : PySem.W.Frag) (σ : St) (O : Addr → Prop) (H : Hp) (O' : Addr → Prop) (G' H' : Hp) (o : Opd) (v : V) : Prop := match o with
  | .tmp s => VRel K O H O' G' H' s v
  | .ref i => σ[i]? = some (some v)
def Opd.get (st : S) : Opd → Option Sl
  | .tmp s => some s
  | .ref i => st[i]?
/-- what may be read off a value: scalars and frozen data by G, the objects of slots and new ones by H -/
def Look (K : PySem.W.Frag) (G H : Hp) (s : Sl) (v : V) : Prop := match s with
  | .un => False
  | .fz d => Dp K G v d
  | .ow xs => ∃ p, v = .ref p ∧ Bears K G H p (.ow xs)
  | .od kvs => ∃ p, v = .ref p ∧ Bears K G H p (.od kvs)
section
variable {K : PySem.W.Frag} {st st' : S} {σ σ' : St} {G G' G'' H H' H'' : Hp} {O O' O'' : Addr → Prop} {s : Sl} {v : V} {o : Opd}
theorem VRel.look (h : VRel K O H O' G' H' s v) : Look K G' H' s v := by
  cases s with
  | un => exact h
  | fz d => exact h
  | ow xs => obtain ⟨p, e, _, h2, _⟩ := h; exact ⟨p, e, h2⟩
  | od xs => obtain ⟨p, e, _, h2, _⟩ := h; exact ⟨p, e, h2⟩
theorem ORel.back (h : ORel K σ O' H' O'' G'' H'' o v) (x : Step O O' G H G' H') : ORel K σ O H O'' G'' H'' o v := by
  cases o with
  | tmp s => exact VRel.back h x
  | ref i => exact h
theorem ORel.step (h : ORel K σ O H O' G' H' o v) (x : Step O' O'' G' H' G'' H'') : ORel K σ O H O'' G'' H'' o v := by
  cases o with
  | tmp s => exact VRel.step h x
  | ref i => exact h
theorem ORel.look (r : Rel K st σ G' H') (h : ORel K σ O H O' G' H' o v) (hu : s ≠ .un) (g : o.get st = some s) : Look K G' H' s v := by
  cases o with
  | tmp s' =>
    cases g
    exact VRel.look h
  | ref i =>
    obtain ⟨w, h1, h2⟩ := r.get (show st[i]? = some s from g)
    have e : σ[i]? = some (some v) := h
    rw [e] at h1
    cases h1
    cases s with
    | un => exact (hu rfl).elim
    | fz d => obtain ⟨y, e, h3⟩ := h2; cases e; exact h3
    | ow xs => obtain ⟨p, e, h3, h4⟩ := h2; cases e; exact ⟨p, rfl, h4⟩
    | od xs => obtain ⟨p, e, h3, h4⟩ := h2; cases e; exact ⟨p, rfl, h4⟩
end
end Sh

namespace Sh
open PySem PySem.Spec L2

/-! ### expressions -/
abbrev EM := S → Option (Opd × S)
def SimE (K : PySem.W.Frag) (t : TE) (f : EM) : Prop := ∀ (st : S) (σ : St) (G H : Hp) (o : Opd) (st' : S), Rel K st σ G H → f st = some (o, st') → ∀ Q : VK,
  (∀ v G' H', Rel K st' σ G' H' → Step (Own st σ) (Own st' σ) G H G' H' → ORel K σ (Own st σ) H (Own st' σ) G' H' o v → Q v H') → t σ H Q
structure SE (X : Cx) (e : Expr) (t : TE) (f : EM) : Prop where
  pe : PE X e t
  sim : SimE X.K t f

/-- operands in a row -/
def ORels (K : PySem.W.Frag) (σ : St) (O : Addr → Prop) (H : Hp) (O' : Addr → Prop) (G' H' : Hp) : List Opd → List V → Prop
  | [], [] => True
  | o :: os, v :: vs => ORel K σ O H O' G' H' o v ∧ ORels K σ O H O' G' H' os vs
  | _, _ => False
abbrev AM := S → Option (List Opd × S)
def SimA (K : PySem.W.Frag) (t : TA) (f : AM) : Prop := ∀ (st : S) (σ : St) (G H : Hp) (o : List Opd) (st' : S), Rel K st σ G H → f st = some (o, st') → ∀ Q : List V → Hp → Prop,
  (∀ v G' H', Rel K st' σ G' H' → Step (Own st σ) (Own st' σ) G H G' H' → ORels K σ (Own st σ) H (Own st' σ) G' H' o v → Q v H') → t σ H Q
structure SA (X : Cx) (es : List Expr) (t : TA) (f : AM) : Prop where
  pe : PA X es t
  sim : SimA X.K t f

section
variable {K : PySem.W.Frag} {st st' : S} {σ σ' : St} {G G' G'' H H' H'' : Hp} {O O' O'' : Addr → Prop} {s : Sl} {v : V} {o : Opd} {os : List Opd} {vs : List V}
theorem ORels.back : ∀ {os : List Opd} {vs : List V}, ORels K σ O' H' O'' G'' H'' os vs → Step O O' G H G' H' → ORels K σ O H O'' G'' H'' os vs
  | [], [], _, _ => trivial
  | _ :: _, _ :: _, h, x => ⟨h.1.back x, ORels.back h.2 x⟩
  | [], _ :: _, h, _ => h
  | _ :: _, [], h, _ => h
theorem ORels.step : ∀ {os : List Opd} {vs : List V}, ORels K σ O H O' G' H' os vs → Step O' O'' G' H' G'' H'' → ORels K σ O H O'' G'' H'' os vs
  | [], [], _, _ => trivial
  | _ :: _, _ :: _, h, x => ⟨h.1.step x, ORels.step h.2 x⟩
  | [], _ :: _, h, _ => h
  | _ :: _, [], h, _ => h

/-- a result made of nothing but new objects -/
def Fresh (K : PySem.W.Frag) (H : Hp) (G' H' : Hp) (s : Sl) (v : V) : Prop := match s with
  | .un => False
  | .fz d => Dp K G' v d
  | .ow xs => ∃ p, v = .ref p ∧ G' p = none ∧ Bears K G' H' p (.ow xs) ∧ H p = none
  | .od kvs => ∃ p, v = .ref p ∧ G' p = none ∧ Bears K G' H' p (.od kvs) ∧ H p = none
theorem Fresh.vrel (h : Fresh K H G' H' s v) (r : Rel K st σ G H) : VRel K (Own st σ) H (Own st σ) G' H' s v := by
  have no : ∀ p, H p = none → ¬ Own st σ p := fun p hp q => by
    obtain ⟨_, u, hu⟩ := r.own q
    rw [hp] at hu; cases hu
  cases s with
  | un => exact h
  | fz d => exact h
  | ow xs => obtain ⟨p, e, h1, h2, h3⟩ := h; exact ⟨p, e, h1, h2, no p h3, .inr h3⟩
  | od xs => obtain ⟨p, e, h1, h2, h3⟩ := h; exact ⟨p, e, h1, h2, no p h3, .inr h3⟩
end

/-! names, constants -/
def eVar (i : Nat) : EM := fun st => match st[i]? with
  | some (.fz d) => some (.tmp (.fz d), st)
  | some (.ow _) => some (.ref i, st)
  | some (.od _) => some (.ref i, st)
  | _ => none
theorem sim_var {K : PySem.W.Frag} {i : Nat} : SimE K (tVar i) (eVar i) := by
  intro st σ G H o st' r h Q q
  have mt : ∀ s : Sl, st[i]? = some s → s.mt = true → (o, st') = (Opd.ref i, st) → tVar i σ H Q := fun s e m e2 => by
    cases e2
    obtain ⟨p, h1, h3, h4⟩ := r.getMt e m
    exact ⟨.ref p, h1, q _ G H r Step.refl h1⟩
  unfold eVar at h
  cases e : st[i]? with
  | none => rw [e] at h; cases h
  | some s =>
    rw [e] at h
    cases s with
    | un => cases h
    | fz d =>
      cases h
      obtain ⟨v, h1, h2⟩ := r.getFz e
      exact ⟨v, h1, q _ G H r Step.refl h2⟩
    | ow xs => exact mt _ e rfl (Option.some.inj h).symm
    | od xs => exact mt _ e rfl (Option.some.inj h).symm
def eC (d : D) : EM := fun st => some (.tmp (.fz d), st)
theorem sim_c {K : PySem.W.Frag} {v : V} {d : D} (h : ∀ G, Dp K G v d) : SimE K (tC v) (eC d) := by
  intro st σ G H o st' r e Q q
  cases e
  exact q _ G H r Step.refl (h G)
section
variable {X : Cx} {pos : Pos}
theorem se_var (i : Nat) {x : Str} (hN : X.N[i]? = some x := by rfl) (hv : Vis X.env.scope x := by first | exact Or.inl rfl | exact Or.inr (Or.inl rfl) | exact Or.inr (Or.inr rfl)) (hd : (x == ("__debug__" : Str)) = false := by decide)
    (hcd : (x == ("__classdict__" : Str)) = false := by decide) : SE X (.Name x pos) (tVar i) (eVar i) := ⟨pe_var hN hv hd hcd, sim_var⟩
theorem se_int {i j} : SE X (.Constant (.int i) j pos) (tC (.int i)) (eC (.int i)) := ⟨pe_int, sim_c fun _ => .int i⟩
theorem se_bl {i j} : SE X (.Constant (.bool i) j pos) (tC (.bl i)) (eC (.bool i)) := ⟨pe_bl, sim_c fun _ => .bl i⟩
theorem se_non {j} : SE X (.Constant .none j pos) (tC (.non)) (eC .none) := ⟨pe_non, sim_c fun _ => .non⟩
theorem se_str {i j} : SE X (.Constant (.str i) j pos) (tC (.str i)) (eC (.str i)) := ⟨pe_str, sim_c fun _ => .str i⟩
/-- an int of the module -/
theorem se_gint {x : Str} {i : Int} {t : Tok} (hg : Gl X x) (hm : X.mg x = some (.int i t)) (hd : (x == ("__debug__" : Str)) = false := by decide) : SE X (.Name x pos) (tC (.int i)) (eC (.int i)) :=
  ⟨pe_glob hg hm (v := .int i) ⟨_, rfl⟩ hd, sim_c fun _ => .int i⟩
end

/-! two operands, one after another -/
section
variable {K : PySem.W.Frag} {a b : EM} {ta tb : TE}
theorem sim_two (ha : SimE K ta a) (hb : SimE K tb b) {st σ G H} {st1 st2 : S} {x y : Opd} (r : Rel K st σ G H) (e1 : a st = some (x, st1)) (e2 : b st1 = some (y, st2)) {R : V → V → Hp → Prop}
    (k : ∀ u v G' H', Rel K st2 σ G' H' → Step (Own st σ) (Own st2 σ) G H G' H' → ORel K σ (Own st σ) H (Own st2 σ) G' H' x u → ORel K σ (Own st σ) H (Own st2 σ) G' H' y v → R u v H') :
    ta σ H fun u H1 => tb σ H1 fun v H2 => R u v H2 := by
  refine ha st σ G H x st1 r e1 _ fun u G1 H1 r1 s1 o1 => ?_
  refine hb st1 σ G1 H1 y st2 r1 e2 _ fun v G2 H2 r2 s2 o2 => ?_
  exact k u v G2 H2 r2 (s1.trans s2) (o1.step s2) (o2.back s1)
end

/-- what an operation on two values gives -/
abbrev G2 := Sl → Sl → Option Sl
def OpOk (K : PySem.W.Frag) (r : R2) (g : G2) : Prop := ∀ (G H : Hp) (x y : V) (s s' z : Sl), Same G H → Look K G H s x → Look K G H s' y → g s s' = some z → ∀ Q : VK,
  (∀ v G' H', Ext G H G' H' → Fresh K H G' H' z v → Q v H') → r x y H Q
def g2 (g : G2) (x y : Opd) (st : S) : Option (Opd × S) := match x.get st, y.get st with
  | some s, some s' => match g s s' with
    | some z => some (.tmp z, st)
    | none => none
  | _, _ => none
def eBin (g : G2) (a b : EM) : EM := fun st => match a st with
  | some (x, st1) => match b st1 with
    | some (y, st2) => g2 g x y st2
    | none => none
  | none => none
theorem look_un {K : PySem.W.Frag} {G H : Hp} {v : V} (h : Look K G H .un v) : False := h
section
variable {K : PySem.W.Frag} {st st' : S} {σ σ' : St} {G G' G'' H H' H'' : Hp} {O O' O'' : Addr → Prop} {s : Sl} {v : V} {o : Opd}
/-- reading an operand: its view, or nothing is there to be read -/
theorem ORel.see (r : Rel K st σ G' H') (h : ORel K σ O H O' G' H' o v) (g : o.get st = some s) : s = .un ∨ Look K G' H' s v := by
  by_cases e : s = .un
  · exact .inl e
  · exact .inr (h.look r e g)
end
theorem sim_bin {K : PySem.W.Frag} {r : R2} {g : G2} {a b : EM} {ta tb : TE} (hg : OpOk K r g) (hu : ∀ s, g .un s = none) (hu2 : ∀ s, g s .un = none) (ha : SimE K ta a) (hb : SimE K tb b) : SimE K (tOp r ta tb) (eBin g a b) := by
  intro st σ G H o st' rl h Q q
  unfold eBin at h
  cases e1 : a st with
  | none => rw [e1] at h; cases h
  | some p =>
    obtain ⟨x, st1⟩ := p
    rw [e1] at h
    simp only at h
    cases e2 : b st1 with
    | none => rw [e2] at h; cases h
    | some p =>
      obtain ⟨y, st2⟩ := p
      rw [e2] at h
      simp only at h
      unfold g2 at h
      refine sim_two ha hb rl e1 e2 fun u v G2 H2 r2 s2 o1 o2 => ?_
      cases ex : x.get st2 with
      | none => rw [ex] at h; cases h
      | some sx =>
        cases ey : y.get st2 with
        | none => rw [ex, ey] at h; cases h
        | some sy =>
          rw [ex, ey] at h
          simp only at h
          cases ez : g sx sy with
          | none => rw [ez] at h; cases h
          | some z =>
            rw [ez] at h
            cases h
            rcases o1.see r2 ex with e | lx
            · subst e; rw [hu] at ez; cases ez
            · rcases o2.see r2 ey with e | ly
              · subst e; rw [hu2] at ez; cases ez
              · exact hg G2 H2 u v sx sy z r2.ex lx ly ez Q fun w G3 H3 x3 f3 => q w G3 H3 (r2.ext x3) (s2.trans x3.step) (VRel.back (Fresh.vrel f3 r2) s2)
theorem OpOk.or {K : PySem.W.Frag} {r r' : R2} {g g' : G2} (h : OpOk K r g) (h' : OpOk K r' g') : OpOk K (fun x y H Q => r x y H Q ∨ r' x y H Q) (fun s s' => match g s s' with | some z => some z | none => g' s s') := by
  intro G H x y s s' z e lx ly ez Q q
  simp only at ez
  cases e1 : g s s' with
  | some w => rw [e1] at ez; exact .inl (h G H x y s s' z e lx ly (by rw [e1]; exact ez) Q q)
  | none => rw [e1] at ez; exact .inr (h' G H x y s s' z e lx ly ez Q q)

section
variable {X : Cx} {e e2 : Expr} {ta tb : TE} {a b : EM} {pos : Pos}
theorem se_op {op : Operator} {r : R2} {g : G2} (ho : OpR X (binaryOp op) r) (hg : OpOk X.K r g) (ha : SE X e ta a) (hb : SE X e2 tb b) (hu : ∀ s, g .un s = none := by intro s; cases s <;> rfl) (hu2 : ∀ s, g s .un = none := by intro s; cases s <;> rfl) :
    SE X (.BinOp e op e2 pos) (tOp r ta tb) (eBin g a b) := by
  obtain ⟨pa, sa⟩ := ha
  obtain ⟨pb, sb⟩ := hb
  exact ⟨pe_op ho pa pb, sim_bin hg hu hu2 sa sb⟩
theorem se_cmp {op : CmpOp} {r : R2} {g : G2} (ho : OpR X (compareOp op) r) (hg : OpOk X.K r g) (ha : SE X e ta a) (hb : SE X e2 tb b) (hm : behindInMarks op e2 = false) (hu : ∀ s, g .un s = none := by intro s; cases s <;> rfl) (hu2 : ∀ s, g s .un = none := by intro s; cases s <;> rfl) :
    SE X (.Compare e [op] [e2] pos) (tOp r ta tb) (eBin g a b) := by
  obtain ⟨pa, sa⟩ := ha
  obtain ⟨pb, sb⟩ := hb
  exact ⟨pe_cmpR ho pa pb hm, sim_bin hg hu hu2 sa sb⟩
end

/-! ### tests -/
abbrev TM := S → Option (Bool × S)
def SimT (K : PySem.W.Frag) (t : TT) (f : TM) : Prop := ∀ (st : S) (σ : St) (G H : Hp) (b : Bool) (st' : S), Rel K st σ G H → f st = some (b, st') → ∀ Q : Bool → Hp → Prop,
  (∀ G' H', Rel K st' σ G' H' → Step (Own st σ) (Own st' σ) G H G' H' → Q b H') → t σ H Q
structure ST (X : Cx) (e : Expr) (t : TT) (f : TM) : Prop where
  pe : PT X e t
  sim : SimT X.K t f
structure SW (X : Cx) (e : Expr) (t : TT) (f : TM) : Prop where
  pe : PW X e t
  sim : SimT X.K t f
theorem SW.st {X : Cx} {e : Expr} {t : TT} {f : TM} (h : SW X e t f) : ST X e t f := by
  obtain ⟨h1, h2⟩ := h
  exact ⟨h1.pt, h2⟩
/-- a value that is a bool, as a test -/
def tBl (a : EM) : TM := fun st => match a st with
  | some (.tmp (.fz (.bool b)), st1) => some (b, st1)
  | _ => none
theorem dp_bool {K : PySem.W.Frag} {G : Hp} {v : V} {b : Bool} (h : Dp K G v (.bool b)) : v = .bl b := by cases h; rfl
theorem dp_int {K : PySem.W.Frag} {G : Hp} {v : V} {b : Int} (h : Dp K G v (.int b)) : v = .int b := by cases h; rfl
theorem dp_str {K : PySem.W.Frag} {G : Hp} {v : V} {b : Str} (h : Dp K G v (.str b)) : v = .str b := by cases h; rfl
theorem dp_non {K : PySem.W.Frag} {G : Hp} {v : V} (h : Dp K G v .none) : v = .non := by cases h; rfl
theorem dp_list {K : PySem.W.Frag} {G : Hp} {v : V} {ds : List D} (h : Dp K G v (.list ds)) : ∃ a vs, v = .ref a ∧ SqL K G a vs ∧ DpAll K G vs ds := by cases h; exact ⟨_, _, rfl, ‹_›, ‹_›⟩
theorem dp_tuple {K : PySem.W.Frag} {G : Hp} {v : V} {ds : List D} (h : Dp K G v (.tuple ds)) : ∃ a vs, v = .ref a ∧ SqT K G a vs ∧ DpAll K G vs ds := by cases h; exact ⟨_, _, rfl, ‹_›, ‹_›⟩
theorem dp_tupleP {K : PySem.W.Frag} {G : Hp} {v : V} {ds : List D} (h : Dp K G v (.tuple ds)) (n : dable ds = true) : ∃ a vs, v = .ref a ∧ SqT K G a vs ∧ DpAll K G vs ds ∧ Pl G a := by
  cases h with
  | tup h t p => exact ⟨_, _, rfl, h, t, p n⟩
theorem dp_pr {K : PySem.W.Frag} {G : Hp} {v : V} {d0 e0 : D} (h : Dp K G v (.dict [(d0, e0)])) : ∃ a x y d e, v = .ref a ∧ [(d0, e0)] = [(d, e)] ∧ SqT K G a [x, y] ∧ Dp K G x d ∧ Dp K G y e := by
  cases h with
  | pr h a b => exact ⟨_, _, _, _, _, rfl, rfl, h, a, b⟩
theorem tBl_inv {a : EM} {st st' : S} {b : Bool} (h : tBl a st = some (b, st')) : a st = some (.tmp (.fz (.bool b)), st') := by
  unfold tBl at h
  split at h
  · cases h; assumption
  · cases h
theorem simT_val {K : PySem.W.Frag} {te : TE} {a : EM} (ha : SimE K te a) : SimT K (tB te) (tBl a) := by
  intro st σ G H b st' r h Q q
  refine ha st σ G H _ st' r (tBl_inv h) _ fun v G1 H1 r1 s1 o1 => ?_
  exact ⟨b, dp_bool o1, q G1 H1 r1 s1⟩
theorem simT_test {K : PySem.W.Frag} {te : TE} {a : EM} (ha : SimE K te a) : SimT K (tTest te) (tBl a) := simT_val ha
/-- truth -/
def truS : Sl → Option Bool
  | .fz .none => some false
  | .fz (.bool b) => some b
  | .fz (.int i) => some (i != 0)
  | .fz (.str x) => if x.length ≤ 100000 then some ((x.length : Int) != 0) else none
  | .fz (.list ds) => some (!ds.isEmpty)
  | .fz (.tuple ds) => some (!ds.isEmpty)
  | .ow xs => some (!xs.isEmpty)
  | .od kvs => some (!kvs.isEmpty)
  | _ => none
theorem dpa_empty {K : PySem.W.Frag} {G : Hp} {vs : List V} {ds : List D} (h : DpAll K G vs ds) : (!ds.isEmpty) = !vs.isEmpty := by cases h <;> rfl
theorem tru_ok {K : PySem.W.Frag} {G H : Hp} {s : Sl} {x : V} {b : Bool} (e : Same G H) (l : Look K G H s x) (h : truS s = some b) : TruV K x H b := by
  cases s with
  | un => exact l.elim
  | fz d =>
    have l : Dp K G x d := l
    cases l with
    | non => cases h; rfl
    | bl c => cases h; rfl
    | int i => cases h; rfl
    | str y =>
      have h : (if y.length ≤ 100000 then some ((y.length : Int) != 0) else none) = some b := h
      by_cases hy : y.length ≤ 100000
      · rw [if_pos hy] at h
        cases h
        exact ⟨Evl.sz_of hy, rfl⟩
      · rw [if_neg hy] at h; cases h
    | lst h1 h2 => cases h; exact .inl ⟨_, e.seq h1, dpa_empty h2⟩
    | tup h1 h2 _ => cases h; exact .inr (.inl ⟨_, Evl.ex_t e h1, dpa_empty h2⟩)
    | pr _ _ _ => cases h
    | ld _ _ _ => cases h
  | ow xs =>
    obtain ⟨p, rfl, vs, h1, h2⟩ := l
    cases h
    exact .inl ⟨_, .inl (.inl h1), dpa_empty h2⟩
  | od kvs =>
    obtain ⟨p, rfl, ws, h1, h2, _⟩ := l
    cases h
    refine .inr (.inr ⟨_, h1, ?_⟩)
    cases h2 <;> rfl
def truO (o : Opd) (st : S) : Option Bool := match o.get st with
  | some s => truS s
  | none => none
def tTr (a : EM) : TM := fun st => match a st with
  | some (o, st1) => match truO o st1 with
    | some b => some (b, st1)
    | none => none
  | none => none
theorem truO_ok {K : PySem.W.Frag} {st : S} {σ : St} {G' H' H : Hp} {O O' : Addr → Prop} {o : Opd} {v : V} {b : Bool} (r : Rel K st σ G' H') (h : ORel K σ O H O' G' H' o v) (e : truO o st = some b) : TruV K v H' b := by
  unfold truO at e
  cases e1 : o.get st with
  | none => rw [e1] at e; cases e
  | some s =>
    rw [e1] at e
    rcases h.see r e1 with z | l
    · subst z; cases e
    · exact tru_ok r.ex l e
theorem simT_tru {K : PySem.W.Frag} {te : TE} {a : EM} (ha : SimE K te a) : SimT K (fun σ H Q => te σ H fun x H' => ∃ k, TruV K x H' k ∧ Q k H') (tTr a) := by
  intro st σ G H b st' r h Q q
  unfold tTr at h
  cases e1 : a st with
  | none => rw [e1] at h; cases h
  | some p =>
    obtain ⟨o, st1⟩ := p
    rw [e1] at h
    simp only at h
    cases e2 : truO o st1 with
    | none => rw [e2] at h; cases h
    | some c =>
      rw [e2] at h
      cases h
      refine ha st σ G H o _ r e1 _ fun v G1 H1 r1 s1 o1 => ?_
      exact ⟨b, truO_ok r1 o1 e2, q G1 H1 r1 s1⟩
def tAnd' (a b : TM) : TM := fun st => match a st with
  | some (true, st1) => b st1
  | some (false, st1) => some (false, st1)
  | none => none
def tOr' (a b : TM) : TM := fun st => match a st with
  | some (true, st1) => some (true, st1)
  | some (false, st1) => b st1
  | none => none
def tNot' (a : TM) : TM := fun st => match a st with
  | some (b, st1) => some (!b, st1)
  | none => none
theorem simT_and {K : PySem.W.Frag} {t u : TT} {a b : TM} (ha : SimT K t a) (hb : SimT K u b) : SimT K (tAnd t u) (tAnd' a b) := by
  intro st σ G H c st' r h Q q
  unfold tAnd' at h
  cases e1 : a st with
  | none => rw [e1] at h; cases h
  | some p =>
    obtain ⟨d, st1⟩ := p
    rw [e1] at h
    refine ha st σ G H d st1 r e1 _ fun G1 H1 r1 s1 => ?_
    cases d with
    | true => exact hb st1 σ G1 H1 c st' r1 h Q fun G2 H2 r2 s2 => q G2 H2 r2 (s1.trans s2)
    | false => cases h; exact q G1 H1 r1 s1
theorem simT_or {K : PySem.W.Frag} {t u : TT} {a b : TM} (ha : SimT K t a) (hb : SimT K u b) : SimT K (tOr t u) (tOr' a b) := by
  intro st σ G H c st' r h Q q
  unfold tOr' at h
  cases e1 : a st with
  | none => rw [e1] at h; cases h
  | some p =>
    obtain ⟨d, st1⟩ := p
    rw [e1] at h
    refine ha st σ G H d st1 r e1 _ fun G1 H1 r1 s1 => ?_
    cases d with
    | false => exact hb st1 σ G1 H1 c st' r1 h Q fun G2 H2 r2 s2 => q G2 H2 r2 (s1.trans s2)
    | true => cases h; exact q G1 H1 r1 s1
theorem simT_not {K : PySem.W.Frag} {t : TT} {a : TM} (ha : SimT K t a) : SimT K (tNot t) (tNot' a) := by
  intro st σ G H c st' r h Q q
  unfold tNot' at h
  cases e1 : a st with
  | none => rw [e1] at h; cases h
  | some p =>
    obtain ⟨d, st1⟩ := p
    rw [e1] at h
    cases h
    exact ha st σ G H d _ r e1 _ fun G1 H1 r1 s1 => q G1 H1 r1 s1
section
variable {X : Cx} {e e2 : Expr} {rest : List Expr} {ta tb : TE} {t u : TT} {a b : EM} {p q : TM} {pos : Pos}
theorem st_bl (h : SE X e ta a) (he : ∀ whole, isTrue e X.env whole = (do let v ← whole; standAt e.pos; holding [v] (truthy v)) := by intro _; rfl) : ST X e (tB ta) (tBl a) := by
  obtain ⟨h1, h2⟩ := h
  exact ⟨pt_val h1 he, simT_val h2⟩
theorem st_tr (h : SE X e ta a) (he : ∀ whole, isTrue e X.env whole = (do let v ← whole; standAt e.pos; holding [v] (truthy v)) := by intro _; rfl) : ST X e (fun σ H Q => ta σ H fun x H' => ∃ k, TruV X.K x H' k ∧ Q k H') (tTr a) := by
  obtain ⟨h1, h2⟩ := h
  exact ⟨pt_truth h1 he, simT_tru h2⟩
theorem st_cmp {op : CmpOp} {r : R2} {g : G2} (ho : OpR X (compareOp op) r) (hg : OpOk X.K r g) (ha : SE X e ta a) (hb : SE X e2 tb b) (hm : behindInMarks op e2 = false) (hu : ∀ s, g .un s = none := by intro s; cases s <;> rfl) (hu2 : ∀ s, g s .un = none := by intro s; cases s <;> rfl) :
    ST X (.Compare e [op] [e2] pos) (tTest (tOp r ta tb)) (tBl (eBin g a b)) := by
  obtain ⟨pa, sa⟩ := ha
  obtain ⟨pb, sb⟩ := hb
  exact ⟨pt_cmpR ho pa pb hm, simT_test (sim_bin hg hu hu2 sa sb)⟩
theorem sw_and1 (h : ST X e t p) : SW X (.BoolOp .And [e] pos) t p := by
  obtain ⟨h1, h2⟩ := h
  exact ⟨pw_and1 h1, h2⟩
theorem sw_or1 (h : ST X e t p) : SW X (.BoolOp .Or [e] pos) t p := by
  obtain ⟨h1, h2⟩ := h
  exact ⟨pw_or1 h1, h2⟩
theorem sw_and (h : ST X e t p) (hr : SW X (.BoolOp .And (e2 :: rest) pos) u q) : SW X (.BoolOp .And (e :: e2 :: rest) pos) (tAnd t u) (tAnd' p q) := by
  obtain ⟨h1, h2⟩ := h
  obtain ⟨h3, h4⟩ := hr
  exact ⟨pw_and h1 h3, simT_and h2 h4⟩
theorem sw_or (h : ST X e t p) (hr : SW X (.BoolOp .Or (e2 :: rest) pos) u q) : SW X (.BoolOp .Or (e :: e2 :: rest) pos) (tOr t u) (tOr' p q) := by
  obtain ⟨h1, h2⟩ := h
  obtain ⟨h3, h4⟩ := hr
  exact ⟨pw_or h1 h3, simT_or h2 h4⟩
theorem st_not (h : ST X e t p) : ST X (.UnaryOp .Not e pos) (tNot t) (tNot' p) := by
  obtain ⟨h1, h2⟩ := h
  exact ⟨pt_not h1, simT_not h2⟩
end

/-! ### and, or, not, if as values -/
def eAndT (a b : EM) : EM := fun st => match a st with
  | some (o, st1) => match truO o st1 with
    | some true => b st1
    | some false => some (o, st1)
    | none => none
  | none => none
def eOrT (a b : EM) : EM := fun st => match a st with
  | some (o, st1) => match truO o st1 with
    | some true => some (o, st1)
    | some false => b st1
    | none => none
  | none => none
def eNotT (a : EM) : EM := fun st => match a st with
  | some (o, st1) => match truO o st1 with
    | some b => some (.tmp (.fz (.bool (!b))), st1)
    | none => none
  | none => none
def eIf (c : TM) (a b : EM) : EM := fun st => match c st with
  | some (true, st1) => a st1
  | some (false, st1) => b st1
  | none => none
section
variable {K : PySem.W.Frag} {ta tb : TE} {a b : EM} {t : TT} {c : TM}
theorem sim_after {te : TE} {f : EM} (hf : SimE K te f) {st0 : S} {σ : St} {G0 H0 : Hp} {st : S} {G H : Hp} (s0 : Step (Own st0 σ) (Own st σ) G0 H0 G H) (r : Rel K st σ G H) {o : Opd} {st' : S} (e : f st = some (o, st')) {Q : VK}
    (q : ∀ v G' H', Rel K st' σ G' H' → Step (Own st0 σ) (Own st' σ) G0 H0 G' H' → ORel K σ (Own st0 σ) H0 (Own st' σ) G' H' o v → Q v H') : te σ H Q :=
  hf st σ G H o st' r e Q fun v G2 H2 r2 s2 o2 => q v G2 H2 r2 (s0.trans s2) (o2.back s0)
theorem sim_andT (ha : SimE K ta a) (hb : SimE K tb b) : SimE K (tAndT K ta tb) (eAndT a b) := by
  intro st σ G H o st' r h Q q
  unfold eAndT at h
  cases e1 : a st with
  | none => rw [e1] at h; cases h
  | some p =>
    obtain ⟨x, st1⟩ := p
    rw [e1] at h
    simp only at h
    cases e2 : truO x st1 with
    | none => rw [e2] at h; cases h
    | some k =>
      rw [e2] at h
      refine ha st σ G H x st1 r e1 _ fun v G1 H1 r1 s1 o1 => ⟨k, truO_ok r1 o1 e2, ?_⟩
      cases k with
      | true =>
        rw [if_pos rfl]
        exact sim_after hb s1 r1 h q
      | false =>
        rw [if_neg Bool.false_ne_true]
        cases h
        exact q v G1 H1 r1 s1 o1
theorem sim_orT (ha : SimE K ta a) (hb : SimE K tb b) : SimE K (tOrT K ta tb) (eOrT a b) := by
  intro st σ G H o st' r h Q q
  unfold eOrT at h
  cases e1 : a st with
  | none => rw [e1] at h; cases h
  | some p =>
    obtain ⟨x, st1⟩ := p
    rw [e1] at h
    simp only at h
    cases e2 : truO x st1 with
    | none => rw [e2] at h; cases h
    | some k =>
      rw [e2] at h
      refine ha st σ G H x st1 r e1 _ fun v G1 H1 r1 s1 o1 => ⟨k, truO_ok r1 o1 e2, ?_⟩
      cases k with
      | true =>
        rw [if_pos rfl]
        cases h
        exact q v G1 H1 r1 s1 o1
      | false =>
        rw [if_neg Bool.false_ne_true]
        exact sim_after hb s1 r1 h q
theorem sim_notT (ha : SimE K ta a) : SimE K (tNotT K ta) (eNotT a) := by
  intro st σ G H o st' r h Q q
  unfold eNotT at h
  cases e1 : a st with
  | none => rw [e1] at h; cases h
  | some p =>
    obtain ⟨x, st1⟩ := p
    rw [e1] at h
    simp only at h
    cases e2 : truO x st1 with
    | none => rw [e2] at h; cases h
    | some k =>
      rw [e2] at h
      cases h
      exact ha st σ G H x _ r e1 _ fun v G1 H1 r1 s1 o1 => ⟨k, truO_ok r1 o1 e2, q _ G1 H1 r1 s1 (.bl _)⟩
theorem sim_if (hc : SimT K t c) (ha : SimE K ta a) (hb : SimE K tb b) : SimE K (tIf t ta tb) (eIf c a b) := by
  intro st σ G H o st' r h Q q
  unfold eIf at h
  cases e1 : c st with
  | none => rw [e1] at h; cases h
  | some p =>
    obtain ⟨x, st1⟩ := p
    rw [e1] at h
    refine hc st σ G H x st1 r e1 _ fun G1 H1 r1 s1 => ?_
    cases x with
    | true =>
      rw [if_pos rfl]
      exact sim_after ha s1 r1 h q
    | false =>
      rw [if_neg Bool.false_ne_true]
      exact sim_after hb s1 r1 h q
end
section
variable {X : Cx} {e e2 e3 : Expr} {rest : List Expr} {ta tb : TE} {t : TT} {a b : EM} {c : TM} {pos : Pos}
theorem se_andT (ha : SE X e ta a) (hb : SE X (.BoolOp .And (e2 :: rest) pos) tb b) : SE X (.BoolOp .And (e :: e2 :: rest) pos) (tAndT X.K ta tb) (eAndT a b) := by
  obtain ⟨h1, h2⟩ := ha
  obtain ⟨h3, h4⟩ := hb
  exact ⟨pe_andT h1 h3, sim_andT h2 h4⟩
theorem se_orT (ha : SE X e ta a) (hb : SE X (.BoolOp .Or (e2 :: rest) pos) tb b) : SE X (.BoolOp .Or (e :: e2 :: rest) pos) (tOrT X.K ta tb) (eOrT a b) := by
  obtain ⟨h1, h2⟩ := ha
  obtain ⟨h3, h4⟩ := hb
  exact ⟨pe_orT h1 h3, sim_orT h2 h4⟩
theorem se_one {op : BoolOp} (ha : SE X e ta a) : SE X (.BoolOp op [e] pos) ta a := by
  obtain ⟨h1, h2⟩ := ha
  exact ⟨pe_one h1, h2⟩
theorem se_notT (ha : SE X e ta a) : SE X (.UnaryOp .Not e pos) (tNotT X.K ta) (eNotT a) := by
  obtain ⟨h1, h2⟩ := ha
  exact ⟨pe_notT h1, sim_notT h2⟩
theorem se_if (hc : ST X e t c) (ha : SE X e2 ta a) (hb : SE X e3 tb b) : SE X (.IfExp e e2 e3 pos) (tIf t ta tb) (eIf c a b) := by
  obtain ⟨h1, h2⟩ := hc
  obtain ⟨h3, h4⟩ := ha
  obtain ⟨h5, h6⟩ := hb
  exact ⟨pe_ifExp h1 h3 h5, sim_if h2 h4 h6⟩
end
end Sh

namespace Sh
open PySem PySem.Spec L2

/-! ### freezing -/
section
variable {K : PySem.W.Frag} {st st' : S} {σ σ' : St} {G G' G'' H H' H'' : Hp} {O O' O'' : Addr → Prop} {s : Sl} {v : V} {o : Opd} {i : Nat}
theorem set_get {α : Type} {l : List α} {i j : Nat} {x y : α} (h : (l.set i x)[j]? = some y) : (i = j ∧ y = x) ∨ (i ≠ j ∧ l[j]? = some y) := by
  by_cases e : i = j
  · subst e
    by_cases hi : i < l.length
    · rw [List.getElem?_set_self hi] at h; exact .inl ⟨rfl, (Option.some.inj h).symm⟩
    · rw [List.getElem?_eq_none (by simpa using hi)] at h; cases h
  · rw [List.getElem?_set_ne e] at h; exact .inr ⟨e, h⟩
theorem own_set (h : Own (st.set i s) σ a) : (s.mt = true ∧ σ[i]? = some (some (.ref a))) ∨ Own st σ a := by
  obtain ⟨j, s', h1, m, h2⟩ := h
  rcases set_get h1 with ⟨e, e2⟩ | ⟨e, e2⟩
  · subst e; subst e2; exact .inl ⟨m, h2⟩
  · exact .inr ⟨j, s', e2, m, h2⟩
theorem own_set_fz (hs : s.mt = false) (h : Own (st.set i s) σ a) : Own st σ a := by
  rcases own_set h with ⟨m, _⟩ | z
  · rw [hs] at m; cases m
  · exact z
/-- a slot's claim is replaced by another one that holds, not of an object -/
theorem Rel.put (r : Rel K st σ G H) (hs : s.mt = false) (h : ∀ v, σ[i]? = some v → SlRel K G H s v) : Rel K (st.set i s) σ G H := by
  refine ⟨by rw [List.length_set]; exact r.len, fun j s' v h1 h2 => ?_, fun j k s1 s2 p h1 h2 m1 m2 e1 e2 => ?_, r.ex⟩
  · rcases set_get h1 with ⟨e, e2⟩ | ⟨e, e2⟩
    · subst e; subst e2; exact h v h2
    · exact r.at_ j s' v e2 h2
  · rcases set_get h1 with ⟨e, e3⟩ | ⟨e, e3⟩
    · subst e3; rw [hs] at m1; cases m1
    · rcases set_get h2 with ⟨e', e4⟩ | ⟨e', e4⟩
      · subst e4; rw [hs] at m2; cases m2
      · exact r.inj j k s1 s2 p e3 e4 m1 m2 e1 e2
theorem Rel.unset (r : Rel K st σ G H) (i : Nat) : Rel K (st.set i .un) σ G H := r.put rfl fun _ _ => trivial
theorem Rel.putFz (r : Rel K st σ G H) {d : D} (h1 : σ[i]? = some (some v)) (h2 : Dp K G v d) : Rel K (st.set i (.fz d)) σ G H :=
  r.put rfl fun w h => by rw [h1] at h; cases h; exact ⟨v, rfl, h2⟩
/-- behind unset the slot's object is no one's -/
theorem not_own_unset (r : Rel K st σ G H) (h1 : st[i]? = some s) (m : s.mt = true) {p : Addr} (h2 : σ[i]? = some (some (.ref p))) : ¬ Own (st.set i .un) σ p := by
  rintro ⟨j, s', h3, m', h4⟩
  rcases set_get h3 with ⟨e, e2⟩ | ⟨e, e2⟩
  · subst e2; cases m'
  · exact e (r.inj i j s s' p h1 e2 m m' h2 h4)
/-- an object that no slot owns goes into the frozen part -/
theorem Rel.freezeAt (r : Rel K st σ G H) {p : Addr} {o : HO} (hp : H p = some o) (hn : G p = none) (ho : ¬ Own st σ p) : Rel K st σ (upd G p o) H := by
  have g : Same G (upd G p o) := fun a u q => by rw [upd_ne (ne_of_none q hn)]; exact q
  refine ⟨r.len, fun i s v h1 h2 => ?_, r.inj, fun a u q => ?_⟩
  · have q := r.at_ i s v h1 h2
    have mm : s.mt = true → SlRel K (upd G p o) H s v := fun m => by
      obtain ⟨b, e, h3, h4⟩ := (slrel_mt m).mp q
      subst e
      have nb : b ≠ p := fun e => ho ⟨i, s, h1, m, by rw [← e]; exact h2⟩
      exact (slrel_mt m).mpr ⟨b, rfl, by rw [upd_ne nb]; exact h3, h4.mono g fun _ z => z⟩
    cases s with
    | un => trivial
    | fz d => obtain ⟨y, e, h3⟩ := q; exact ⟨y, e, dp_mono g h3⟩
    | ow xs => exact mm rfl
    | od xs => exact mm rfl
  · by_cases e : a = p
    · subst e; rw [upd_same] at q; rw [hp]; exact q
    · rw [upd_ne e] at q; exact r.ex a u q
theorem Step.freezeAt {G0 H0 : Hp} {O0 : Addr → Prop} (s : Step O0 O G0 H0 G H) {p : Addr} {o : HO} (hn : G p = none) (hf : O0 p ∨ H0 p = none) (hO : ∀ a, O' a → O a) : Step O0 O' G0 H0 (upd G p o) H where
  g := fun a u q => by
    rw [upd_ne (ne_of_none (s.g a u q) hn)]; exact s.g a u q
  keep := s.keep
  own := fun a q => s.own a (hO a q)
  new := fun a u q => by
    by_cases e : a = p
    · subst e
      rcases hf with z | z
      · exact .inr (.inr z)
      · exact .inr (.inl z)
    · rw [upd_ne e] at q; exact s.new a u q
  live := s.live
end
def frz : Opd → S → Option (D × S)
  | .tmp (.fz d), st => some (d, st)
  | .tmp (.ow xs), st => some (.list xs, st)
  | .ref i, st => match st[i]? with
    | some (.fz d) => some (d, st)
    | some (.ow xs) => some (.list xs, st.set i (.fz (.list xs)))
    | _ => none
  | _, _ => none
theorem freeze {K : PySem.W.Frag} {st st' : S} {σ : St} {G0 H0 G H : Hp} {O0 : Addr → Prop} {o : Opd} {v : V} {d : D} (s0 : Step O0 (Own st σ) G0 H0 G H) (r : Rel K st σ G H) (h : ORel K σ O0 H0 (Own st σ) G H o v) (e : frz o st = some (d, st')) :
    ∃ G', Rel K st' σ G' H ∧ Step O0 (Own st' σ) G0 H0 G' H ∧ Dp K G' v d := by
  cases o with
  | tmp s =>
    cases s with
    | un => cases e
    | fz d' => cases e; exact ⟨G, r, s0, h⟩
    | ow xs =>
      cases e
      obtain ⟨p, rfl, hn, ⟨vs, hp, hd⟩, ho, hf⟩ := h
      refine ⟨upd G p (.lst vs), r.freezeAt hp hn ho, s0.freezeAt hn hf fun a q => q, .lst (.inl (.inl upd_same)) (dpa_mono (fun a u q => by rw [upd_ne (ne_of_none q hn)]; exact q) hd)⟩
    | od kvs => cases e
  | ref i =>
    have h : σ[i]? = some (some v) := h
    have e : (match st[i]? with
      | some (.fz d) => some (d, st)
      | some (.ow xs) => some (.list xs, st.set i (.fz (.list xs)))
      | _ => none) = some (d, st') := e
    cases e1 : st[i]? with
    | none => rw [e1] at e; cases e
    | some s =>
      rw [e1] at e
      cases s with
      | un => cases e
      | fz d' =>
        cases e
        obtain ⟨w, h1, h2⟩ := r.getFz e1
        rw [h] at h1; cases h1
        exact ⟨G, r, s0, h2⟩
      | od kvs => cases e
      | ow xs =>
        cases e
        obtain ⟨p, h1, hn, vs, hp, hd⟩ := r.getMt e1 rfl
        rw [h] at h1; cases h1
        have g : Same G (upd G p (.lst vs)) := fun a u q => by rw [upd_ne (ne_of_none q hn)]; exact q
        have dd : Dp K (upd G p (.lst vs)) (.ref p) (.list xs) := .lst (.inl (.inl upd_same)) (dpa_mono g hd)
        have r1 := (r.unset i).freezeAt hp hn (not_own_unset r e1 rfl h)
        have r2 := r1.putFz (i := i) h dd
        rw [List.set_set] at r2
        refine ⟨_, r2, s0.freezeAt hn (s0.own p ⟨i, _, e1, rfl, h⟩) fun a q => own_set_fz rfl q, dd⟩
def eFrz (a : EM) : EM := fun st => match a st with
  | some (o, st1) => match frz o st1 with
    | some (d, st2) => some (.tmp (.fz d), st2)
    | none => none
  | none => none
theorem sim_frz {K : PySem.W.Frag} {t : TE} {a : EM} (ha : SimE K t a) : SimE K t (eFrz a) := by
  intro st σ G H o st' r h Q q
  unfold eFrz at h
  cases e1 : a st with
  | none => rw [e1] at h; cases h
  | some p =>
    obtain ⟨x, st1⟩ := p
    rw [e1] at h
    simp only at h
    cases e2 : frz x st1 with
    | none => rw [e2] at h; cases h
    | some p =>
      obtain ⟨d, st2⟩ := p
      rw [e2] at h
      cases h
      refine ha st σ G H x st1 r e1 _ fun v G1 H1 r1 s1 o1 => ?_
      obtain ⟨G2, r2, s2, d2⟩ := freeze s1 r1 o1 e2
      exact q v G2 H1 r2 s2 d2
theorem se_frz {X : Cx} {e : Expr} {t : TE} {a : EM} (h : SE X e t a) : SE X e t (eFrz a) := by
  obtain ⟨h1, h2⟩ := h
  exact ⟨h1, sim_frz h2⟩

/-! ### argument lists, displays -/
def aNil : AM := fun st => some ([], st)
def aCons (a : EM) (r : AM) : AM := fun st => match a st with
  | some (o, st1) => match r st1 with
    | some (os, st2) => some (o :: os, st2)
    | none => none
  | none => none
theorem simA_nil {K : PySem.W.Frag} : SimA K tNil aNil := by
  intro st σ G H o st' r h Q q
  cases h
  exact q [] G H r Step.refl trivial
theorem simA_cons {K : PySem.W.Frag} {t : TE} {u : TA} {a : EM} {r : AM} (ha : SimE K t a) (hr : SimA K u r) : SimA K (tCons t u) (aCons a r) := by
  intro st σ G H o st' rl h Q q
  unfold aCons at h
  cases e1 : a st with
  | none => rw [e1] at h; cases h
  | some p =>
    obtain ⟨x, st1⟩ := p
    rw [e1] at h
    simp only at h
    cases e2 : r st1 with
    | none => rw [e2] at h; cases h
    | some p =>
      obtain ⟨xs, st2⟩ := p
      rw [e2] at h
      cases h
      refine ha st σ G H x st1 rl e1 _ fun v G1 H1 r1 s1 o1 => ?_
      refine hr st1 σ G1 H1 xs _ r1 e2 _ fun vs G2 H2 r2 s2 o2 => ?_
      exact q (v :: vs) G2 H2 r2 (s1.trans s2) ⟨o1.step s2, o2.back s1⟩
theorem sa_nil {X : Cx} : SA X [] tNil aNil := ⟨pa_nil, simA_nil⟩
theorem sa_cons {X : Cx} {e : Expr} {es : List Expr} {t : TE} {u : TA} {a : EM} {r : AM} (ha : SE X e t a) (hr : SA X es u r) (hs : starEach (e :: es) X.env = (false, eval e X.env) :: starEach es X.env := by rfl) : SA X (e :: es) (tCons t u) (aCons a r) := by
  obtain ⟨h1, h2⟩ := ha
  obtain ⟨h3, h4⟩ := hr
  exact ⟨pa_cons h1 h3 hs, simA_cons h2 h4⟩
def allFz : List Opd → Option (List D)
  | [] => some []
  | .tmp (.fz d) :: r => match allFz r with
    | some ds => some (d :: ds)
    | none => none
  | _ => none
theorem allFz_ok {K : PySem.W.Frag} {σ : St} {O O' : Addr → Prop} {H G' H' : Hp} : ∀ {os : List Opd} {vs : List V} {ds : List D}, ORels K σ O H O' G' H' os vs → allFz os = some ds → DpAll K G' vs ds
  | [], [], _, _, e => by cases e; exact .nil
  | [], _ :: _, _, h, _ => h.elim
  | .tmp (.fz d) :: r, v :: vs, ds, h, e => by
    have e : (match allFz r with
      | some ds => some (d :: ds)
      | none => none) = some ds := e
    cases e1 : allFz r with
    | none => rw [e1] at e; cases e
    | some ds' =>
      rw [e1] at e
      cases e
      exact .cons h.1 (allFz_ok h.2 e1)
  | .tmp (.un) :: r, _ :: _, _, _, e => by cases e
  | .tmp (.ow _) :: r, _ :: _, _, _, e => by cases e
  | .tmp (.od _) :: r, _ :: _, _, _, e => by cases e
  | .ref _ :: r, _ :: _, _, _, e => by cases e
  | _ :: _, [], _, h, _ => by cases h
def disp (f : List D → Sl) (a : AM) : EM := fun st => match a st with
  | some (os, st1) => match allFz os with
    | some ds => if ds.length ≤ 100000 then some (.tmp (f ds), st1) else none
    | none => none
  | none => none
theorem disp_inv {f : List D → Sl} {a : AM} {st st' : S} {o : Opd} (h : disp f a st = some (o, st')) : ∃ os ds, a st = some (os, st') ∧ allFz os = some ds ∧ ds.length ≤ 100000 ∧ o = .tmp (f ds) := by
  unfold disp at h
  split at h
  · rename_i os st1 e1
    split at h
    · rename_i ds e2
      split at h
      · rename_i hl
        cases h
        exact ⟨os, ds, e1, e2, hl, rfl⟩
      · cases h
    · cases h
  · cases h
abbrev eTup (a : AM) : EM := disp (fun ds => .fz (.tuple ds)) a
abbrev eLst (a : AM) : EM := disp (fun ds => .ow ds) a
theorem sim_tup {K : PySem.W.Frag} {t : TA} {a : AM} (ha : SimA K t a) : SimE K (tTupP t) (eTup a) := by
  intro st σ G H o st' r h Q q
  obtain ⟨os, ds, e1, e2, hl, rfl⟩ := disp_inv h
  refine ha st σ G H os st' r e1 _ fun vs G1 H1 r1 s1 o1 => ?_
  have hd := allFz_ok o1 e2
  refine ⟨Evl.sz_of (by rw [dpa_len hd]; exact hl), fun p ob hp hd0 => ?_⟩
  have x := Ext.frozen (o := HO.frz ob (.tup vs)) r1.ex hp
  exact q _ _ _ (r1.ext x) (s1.trans x.step) (.tup (.inl (.inr ⟨ob, upd_same⟩)) (dpa_mono x.g hd) fun _ => ⟨ob, _, upd_same, hd0⟩)
theorem sim_lst {K : PySem.W.Frag} {t : TA} {a : AM} (ha : SimA K t a) : SimE K (tLst t) (eLst a) := by
  intro st σ G H o st' r h Q q
  obtain ⟨os, ds, e1, e2, hl, rfl⟩ := disp_inv h
  refine ha st σ G H os st' r e1 _ fun vs G1 H1 r1 s1 o1 => ?_
  have hd := allFz_ok o1 e2
  refine ⟨Evl.sz_of (by rw [dpa_len hd]; exact hl), fun p hp => ?_⟩
  have x := Ext.fresh (o := HO.lst vs) r1.ex hp
  have f : Fresh K H1 G1 (upd H1 p (.lst vs)) (.ow ds) (.ref p) := ⟨p, rfl, r1.ex.free hp, ⟨vs, upd_same, hd⟩, hp⟩
  exact q _ _ _ (r1.ext x) (s1.trans x.step) (VRel.back (f.vrel r1) s1)
theorem se_tup {X : Cx} {es : List Expr} {t : TA} {a : AM} {x1} {pos : Pos} (h : SA X es t a) : SE X (.Tuple es x1 pos) (tTupP t) (eTup a) := by
  obtain ⟨h1, h2⟩ := h
  exact ⟨pe_tupP h1, sim_tup h2⟩
theorem se_lst {X : Cx} {es : List Expr} {t : TA} {a : AM} {pos : Pos} (h : SA X es t a) : SE X (.List es pos) (tLst t) (eLst a) := by
  obtain ⟨h1, h2⟩ := h
  exact ⟨pe_lst h1, sim_lst h2⟩

/-! ### what is seen of a value -/
def Sl.d : Sl → Option D
  | .fz d => some d
  | .ow xs => some (.list xs)
  | _ => none
theorem look_d {K : PySem.W.Frag} {G H : Hp} {s : Sl} {v : V} {d : D} (e : Same G H) (l : Look K G H s v) (h : s.d = some d) : Dp K H v d := by
  cases s with
  | fz d' => cases h; exact dp_mono e l
  | ow xs =>
    cases h
    obtain ⟨p, rfl, vs, h1, h2⟩ := l
    exact .lst (.inl (.inl h1)) (dpa_mono e h2)
  | _ => cases h
theorem look_int {K : PySem.W.Frag} {G H : Hp} {v : V} {i : Int} (l : Look K G H (.fz (.int i)) v) : v = .int i := dp_int l
theorem look_str {K : PySem.W.Frag} {G H : Hp} {v : V} {i : Str} (l : Look K G H (.fz (.str i)) v) : v = .str i := dp_str l
theorem look_tup {K : PySem.W.Frag} {G H : Hp} {v : V} {ds : List D} (e : Same G H) (l : Look K G H (.fz (.tuple ds)) v) : ∃ a vs, v = .ref a ∧ SqT K H a vs ∧ SqT K G a vs ∧ DpAll K G vs ds := by
  obtain ⟨a, vs, h1, h2, h3⟩ := dp_tuple l
  exact ⟨a, vs, h1, Evl.ex_t e h2, h2, h3⟩
/-- a list, frozen or not -/
def Sl.l : Sl → Option (List D)
  | .fz (.list ds) => some ds
  | .ow xs => some xs
  | _ => none
theorem look_l {K : PySem.W.Frag} {G H : Hp} {s : Sl} {v : V} {ds : List D} (e : Same G H) (l : Look K G H s v) (h : s.l = some ds) : ∃ a vs, v = .ref a ∧ SqL K H a vs ∧ DpAll K G vs ds := by
  cases s with
  | fz d =>
    cases d with
    | list xs =>
      cases h
      obtain ⟨a, vs, h1, h2, h3⟩ := dp_list l
      exact ⟨a, vs, h1, e.seq h2, h3⟩
    | _ => cases h
  | ow xs =>
    cases h
    obtain ⟨p, rfl, vs, h1, h2⟩ := l
    exact ⟨p, vs, rfl, .inl (.inl h1), h2⟩
  | _ => cases h
section
variable {K : PySem.W.Frag} {G H : Hp}
/-- an answer that is a scalar, nothing is made -/
theorem ans_fz {d : D} {v : V} (e : Same G H) {Q : VK} (hd : Dp K G v d) (q : ∀ v G' H', Ext G H G' H' → Fresh K H G' H' (.fz d) v → Q v H') : Q v H := q v G H (Ext.refl e) hd
theorem ans_ow {ds : List D} {vs : List V} (e : Same G H) {Q : VK} (hd : DpAll K G vs ds) (q : ∀ v G' H', Ext G H G' H' → Fresh K H G' H' (.ow ds) v → Q v H') {p : Addr} (hp : H p = none) : Q (.ref p) (upd H p (.lst vs)) :=
  q _ G _ (Ext.fresh e hp) ⟨p, rfl, e.free hp, ⟨vs, upd_same, hd⟩, hp⟩
theorem ans_tup {ds : List D} {vs : List V} (e : Same G H) {Q : VK} (hd : DpAll K G vs ds) (q : ∀ v G' H', Ext G H G' H' → Fresh K H G' H' (.fz (.tuple ds)) v → Q v H') : NewT H vs Q := fun p ob hp hd0 =>
  have x := Ext.frozen (o := HO.frz ob (.tup vs)) e hp
  q _ _ _ x (.tup (.inl (.inr ⟨ob, upd_same⟩)) (dpa_mono x.g hd) fun _ => ⟨ob, _, upd_same, hd0⟩)
end

/-! ### arithmetic -/
def intS (f : Int → Int → Option D) : G2
  | .fz (.int a), .fz (.int b) => (f a b).map .fz
  | _, _ => none
theorem intS_inv {f : Int → Int → Option D} {s s' z : Sl} (h : intS f s s' = some z) : ∃ a b d, s = .fz (.int a) ∧ s' = .fz (.int b) ∧ f a b = some d ∧ z = .fz d := by
  unfold intS at h
  split at h
  · rename_i a b
    cases e : f a b with
    | none => rw [e] at h; cases h
    | some d => rw [e] at h; cases h; exact ⟨a, b, d, rfl, rfl, e, rfl⟩
  · cases h
theorem ok_rI0 {K : PySem.W.Frag} {g : Int → Int → V} {f : Int → Int → D} (h : ∀ i j G, Dp K G (g i j) (f i j)) : OpOk K (rI0 g) (intS fun i j => some (f i j)) := by
  intro G H x y s s' z e lx ly hz Q q
  obtain ⟨a, b, d, rfl, rfl, e1, rfl⟩ := intS_inv hz
  cases e1
  exact ⟨a, b, look_int lx, look_int ly, ans_fz e (h a b G) q⟩
theorem ok_rI {K : PySem.W.Frag} {C : Int → Int → Prop} {g : Int → Int → V} {f : Int → Int → D} (c : Int → Int → Bool) (hc : ∀ i j, c i j = true → C i j) (h : ∀ i j G, Dp K G (g i j) (f i j)) : OpOk K (rI C g) (intS fun i j => if c i j = true then some (f i j) else none) := by
  intro G H x y s s' z e lx ly hz Q q
  obtain ⟨a, b, d, rfl, rfl, e1, rfl⟩ := intS_inv hz
  by_cases hh : c a b = true
  · rw [if_pos hh] at e1
    cases e1
    exact ⟨a, b, look_int lx, look_int ly, hc a b hh, ans_fz e (h a b G) q⟩
  · rw [if_neg hh] at e1; cases e1
/-- texts joined -/
def catS : G2
  | .fz (.str a), .fz (.str b) => if a.length + b.length ≤ 100000 then some (.fz (.str (a ++ b))) else none
  | .fz (.tuple a), .fz (.tuple b) => if a.length + b.length ≤ 100000 then some (.fz (.tuple (a ++ b))) else none
  | .ow a, .ow b => if a.length + b.length ≤ 100000 then some (.ow (a ++ b)) else none
  | _, _ => none
def rCat3 (K : PySem.W.Frag) : R2 := fun x y H Q => (fun x y H Q => ∃ i j, x = V.str i ∧ y = .str j ∧ i.length + j.length ≤ sizeLine ∧ Q (.str (i ++ j)) H) x y H Q ∨ (rCatP K x y H Q ∨ rCat x y H Q)
theorem op_cat3 {X : Cx} : OpR X (binaryOp .Add) (rCat3 X.K) := op_add_str.or (op_catP.or op_cat)
theorem ok_cat3 {K : PySem.W.Frag} : OpOk K (rCat3 K) catS := by
  intro G H x y s s' z e lx ly hz Q q
  unfold catS at hz
  split at hz
  · rename_i a b
    split at hz
    · rename_i hl
      cases hz
      exact .inl ⟨a, b, look_str lx, look_str ly, Evl.sz_of hl, ans_fz e (.str _) q⟩
    · cases hz
  · rename_i a b
    split at hz
    · rename_i hl
      cases hz
      obtain ⟨p, vs, rfl, h1, h1', h2⟩ := look_tup e lx
      obtain ⟨p', vs', rfl, h3, h3', h4⟩ := look_tup e ly
      refine .inr (.inl ⟨p, p', vs, vs', rfl, rfl, h1, h3, Evl.sz_of (by rw [dpa_len h2, dpa_len h4]; exact hl), fun en => ?_, fun _ en => ?_, fun _ _ => ?_⟩)
      · subst en
        have : a = [] := by
          cases h2; rfl
        subst this
        exact ans_fz e ly q
      · subst en
        have : b = [] := by
          cases h4; rfl
        subst this
        rw [List.append_nil] at q
        exact ans_fz e lx q
      · exact ans_tup e (dpa_app h2 h4) q
    · cases hz
  · rename_i a b
    split at hz
    · rename_i hl
      cases hz
      obtain ⟨p, rfl, vs, h1, h2⟩ := lx
      obtain ⟨p', rfl, vs', h3, h4⟩ := ly
      exact .inr (.inr ⟨p, p', vs, vs', rfl, rfl, h1, h3, Evl.sz_of (by rw [dpa_len h2, dpa_len h4]; exact hl), fun t ht => ans_ow e (dpa_app h2 h4) q ht⟩)
    · cases hz
  · cases hz
def orG (g g' : G2) : G2 := fun s s' => match g s s' with
  | some z => some z
  | none => g' s s'
/-- + -/
def addS : G2 := orG (intS fun i j => some (.int (i + j))) catS
section
variable {X : Cx} {e e2 : Expr} {ta tb : TE} {a b : EM} {pos : Pos}
theorem un1 {f : Int → Int → Option D} : ∀ s, intS f .un s = none := by intro s; cases s <;> rfl
theorem un2 {f : Int → Int → Option D} : ∀ s, intS f s .un = none := by
  intro s
  cases s with
  | fz d => cases d <;> rfl
  | _ => rfl
theorem cat1 : ∀ s, catS .un s = none := by intro s; cases s <;> rfl
theorem cat2 : ∀ s, catS s .un = none := by
  intro s
  cases s with
  | fz d => cases d <;> rfl
  | _ => rfl
theorem add1 : ∀ s, addS .un s = none := by
  intro s; unfold addS orG; rw [un1, cat1]
theorem add2 : ∀ s, addS s .un = none := by
  intro s; unfold addS orG; rw [un2, cat2]
theorem se_add (ha : SE X e ta a) (hb : SE X e2 tb b) : SE X (.BinOp e .Add e2 pos) (tOp (fun x y H Q => rI0 (fun i j => .int (i + j)) x y H Q ∨ rCat3 X.K x y H Q) ta tb) (eBin addS a b) :=
  se_op (op_add.or op_cat3) (OpOk.or (ok_rI0 fun i j _ => .int _) ok_cat3) ha hb add1 add2
def subS : G2 := intS fun i j => some (.int (i - j))
theorem se_sub (ha : SE X e ta a) (hb : SE X e2 tb b) : SE X (.BinOp e .Sub e2 pos) (tOp (rI0 fun i j => .int (i - j)) ta tb) (eBin subS a b) :=
  se_op op_sub (ok_rI0 fun i j _ => .int _) ha hb un1 un2
def smallI (i : Int) : Bool := decide (-(2 ^ 64) < i) && decide (i < 2 ^ 64)
def mulI : G2 := intS fun i j => if (smallI i || smallI j) = true then some (.int (i * j)) else none
theorem smallI_ok {i : Int} (h : smallI i = true) : -(2 ^ 64) < i ∧ i < 2 ^ 64 := by
  unfold smallI at h
  simp only [Bool.and_eq_true, decide_eq_true_eq] at h
  exact h
def repS : G2
  | .ow xs, .fz (.int k) => if 0 ≤ k ∧ k ≤ 100000 ∧ xs.length * k.toNat ≤ 100000 then some (.ow (List.replicate k.toNat xs).flatten) else none
  | _, _ => none
theorem dpa_rep {K : PySem.W.Frag} {G : Hp} {vs : List V} {ds : List D} (h : DpAll K G vs ds) : ∀ n : Nat, DpAll K G (List.replicate n vs).flatten (List.replicate n ds).flatten
  | 0 => .nil
  | n + 1 => by
    rw [List.replicate_succ, List.replicate_succ, List.flatten_cons, List.flatten_cons]
    exact dpa_app h (dpa_rep h n)
theorem ok_rep {K : PySem.W.Frag} : OpOk K rRep repS := by
  intro G H x y s s' z e lx ly hz Q q
  unfold repS at hz
  split at hz
  · rename_i xs k
    split at hz
    · rename_i hl
      cases hz
      obtain ⟨p, rfl, vs, h1, h2⟩ := lx
      exact ⟨p, k, vs, rfl, look_int ly, h1, by omega, by omega, Evl.sz_of (by rw [dpa_len h2]; exact hl.2.2), fun t ht => ans_ow e (dpa_rep h2 _) q ht⟩
    · cases hz
  · cases hz
def mulS : G2 := orG mulI repS
theorem rep1 : ∀ s, repS .un s = none := by intro s; cases s <;> rfl
theorem rep2 : ∀ s, repS s .un = none := by intro s; cases s <;> rfl
theorem mul1 : ∀ s, mulS .un s = none := by
  intro s; unfold mulS orG mulI; rw [un1, rep1]
theorem mul2 : ∀ s, mulS s .un = none := by
  intro s; unfold mulS orG mulI; rw [un2, rep2]
theorem se_mul (ha : SE X e ta a) (hb : SE X e2 tb b) : SE X (.BinOp e .Mult e2 pos) (tOp (fun x y H Q => rI CMul (fun i j => .int (i * j)) x y H Q ∨ rRep x y H Q) ta tb) (eBin mulS a b) :=
  se_op (op_mul.or op_rep) (OpOk.or (ok_rI _ (fun i j h => by
    rcases Bool.or_eq_true_iff.mp h with z | z
    · exact .inl (smallI_ok z)
    · exact .inr (smallI_ok z)) fun i j _ => .int _) ok_rep) ha hb mul1 mul2
def modS : G2 := intS fun i j => if decide (0 < j) = true then some (.int (i % j)) else none
theorem se_mod (ha : SE X e ta a) (hb : SE X e2 tb b) : SE X (.BinOp e .Mod e2 pos) (tOp (rI (fun _ j => 0 < j) fun i j => .int (i % j)) ta tb) (eBin modS a b) :=
  se_op op_mod (ok_rI _ (fun i j h => of_decide_eq_true h) fun i j _ => .int _) ha hb un1 un2
def fdivS : G2 := intS fun i j => if decide (0 < j ∧ j < 1073741824) = true then some (.int (i / j)) else none
theorem se_fdiv (ha : SE X e ta a) (hb : SE X e2 tb b) : SE X (.BinOp e .FloorDiv e2 pos) (tOp (rI CDiv fun i j => .int (i / j)) ta tb) (eBin fdivS a b) :=
  se_op op_fdiv (ok_rI _ (fun i j h => (of_decide_eq_true h : 0 < j ∧ j < 1073741824)) fun i j _ => .int _) ha hb un1 un2
def powS : G2 := intS fun i j => if decide (0 ≤ j ∧ j ≤ 64 ∧ i.natAbs < 2 ^ 64) = true then some (.int (i ^ j.toNat)) else none
theorem se_pow (ha : SE X e ta a) (hb : SE X e2 tb b) : SE X (.BinOp e .Pow e2 pos) (tOp (rI CPow fun i j => .int (i ^ j.toNat)) ta tb) (eBin powS a b) :=
  se_op op_pow (ok_rI _ (fun i j h => by
    obtain ⟨h1, h2, h3⟩ := of_decide_eq_true h
    exact ⟨h1, by omega, h3⟩) fun i j _ => .int _) ha hb un1 un2
end
end Sh

namespace Sh
open PySem PySem.Spec L2

/-! ### comparisons -/
def eqvS (neg : Bool) : G2 := fun s s' => match s.d, s'.d with
  | some d, some e => if (SeqAt.shaped d && SeqAt.shaped e) = true then some (.fz (.bool (if neg then !PyData.eqv d e else PyData.eqv d e))) else none
  | _, _ => none
theorem eqvS_inv {neg : Bool} {s s' z : Sl} (h : eqvS neg s s' = some z) : ∃ d e, s.d = some d ∧ s'.d = some e ∧ SeqAt.shaped d = true ∧ SeqAt.shaped e = true ∧ z = .fz (.bool (if neg then !PyData.eqv d e else PyData.eqv d e)) := by
  unfold eqvS at h
  split at h
  · rename_i d e h1 h2
    split at h
    · rename_i h3
      cases h
      obtain ⟨a, b⟩ := Bool.and_eq_true_iff.mp h3
      exact ⟨d, e, h1, h2, a, b, rfl⟩
    · cases h
  · cases h
theorem ok_eq {K : PySem.W.Frag} : OpOk K (rEqD K) (eqvS false) := by
  intro G H x y s s' z e lx ly hz Q q
  obtain ⟨d, d', h1, h2, h3, h4, rfl⟩ := eqvS_inv hz
  exact ⟨d, d', (look_d e lx h1).old (noD_shaped h3), (look_d e ly h2).old (noD_shaped h4), h3, h4, ans_fz e (.bl _) q⟩
theorem ok_ne {K : PySem.W.Frag} : OpOk K (rNeD K) (eqvS true) := by
  intro G H x y s s' z e lx ly hz Q q
  obtain ⟨d, d', h1, h2, h3, h4, rfl⟩ := eqvS_inv hz
  exact ⟨d, d', (look_d e lx h1).old (noD_shaped h3), (look_d e ly h2).old (noD_shaped h4), h3, h4, ans_fz e (.bl _) q⟩
theorem eqv1 {neg : Bool} : ∀ s, eqvS neg .un s = none := by intro s; rfl
theorem eqv2 {neg : Bool} : ∀ s, eqvS neg s .un = none := by
  intro s
  unfold eqvS
  cases s.d <;> rfl
/-- texts -/
def strC (f : List Nat → List Nat → Bool) : G2
  | .fz (.str a), .fz (.str b) => some (.fz (.bool (f a.cps.toList b.cps.toList)))
  | _, _ => none
theorem strC1 {f} : ∀ s, strC f .un s = none := by intro s; rfl
theorem strC2 {f} : ∀ s, strC f s .un = none := by
  intro s
  cases s with
  | fz d => cases d <;> rfl
  | _ => rfl
theorem ok_strC {K : PySem.W.Frag} {f : List Nat → List Nat → Bool} : OpOk K (fun x y H Q => ∃ i j, x = V.str i ∧ y = .str j ∧ Q (.bl (f i.cps.toList j.cps.toList)) H) (strC f) := by
  intro G H x y s s' z e lx ly hz Q q
  unfold strC at hz
  split at hz
  · cases hz
    exact ⟨_, _, look_str lx, look_str ly, ans_fz e (.bl _) q⟩
  · cases hz
def intB (f : Int → Int → Bool) : G2 := intS fun i j => some (.bool (f i j))
def ordS (f : Int → Int → Bool) (g : List Nat → List Nat → Bool) : G2 := orG (intB f) (strC g)
theorem ord1 {f g} : ∀ s, ordS f g .un s = none := by intro s; unfold ordS orG intB; rw [un1, strC1]
theorem ord2 {f g} : ∀ s, ordS f g s .un = none := by intro s; unfold ordS orG intB; rw [un2, strC2]
abbrev ltS : G2 := ordS (fun i j => decide (i < j)) fun a b => decide (a < b)
abbrev leS : G2 := ordS (fun i j => decide (i ≤ j)) fun a b => !decide (b < a)
abbrev gtS : G2 := ordS (fun i j => decide (j < i)) fun a b => decide (b < a)
abbrev geS : G2 := ordS (fun i j => decide (j ≤ i)) fun a b => !decide (a < b)
section
variable {X : Cx} {e e2 e3 : Expr} {ta tb tc : TE} {a b c : EM} {pos : Pos}
theorem se_eq (hu : X.A.units + 64 < cLine) (ha : SE X e ta a) (hb : SE X e2 tb b) : SE X (.Compare e [.Eq] [e2] pos) (tOp (rEqD X.K) ta tb) (eBin (eqvS false) a b) := se_cmp (op_eqD hu) ok_eq ha hb (nomark _) eqv1 eqv2
theorem se_ne (hu : X.A.units + 64 < cLine) (ha : SE X e ta a) (hb : SE X e2 tb b) : SE X (.Compare e [.NotEq] [e2] pos) (tOp (rNeD X.K) ta tb) (eBin (eqvS true) a b) := se_cmp (op_neD hu) ok_ne ha hb (nomark _) eqv1 eqv2
theorem st_eq (hu : X.A.units + 64 < cLine) (ha : SE X e ta a) (hb : SE X e2 tb b) : ST X (.Compare e [.Eq] [e2] pos) (tTest (tOp (rEqD X.K) ta tb)) (tBl (eBin (eqvS false) a b)) := st_cmp (op_eqD hu) ok_eq ha hb (nomark _) eqv1 eqv2
theorem st_ne (hu : X.A.units + 64 < cLine) (ha : SE X e ta a) (hb : SE X e2 tb b) : ST X (.Compare e [.NotEq] [e2] pos) (tTest (tOp (rNeD X.K) ta tb)) (tBl (eBin (eqvS true) a b)) := st_cmp (op_neD hu) ok_ne ha hb (nomark _) eqv1 eqv2
theorem ok_ord {K : PySem.W.Frag} {f : Int → Int → Bool} {g : List Nat → List Nat → Bool} : OpOk K (fun x y H Q => rI0 (fun i j => .bl (f i j)) x y H Q ∨ (fun x y H Q => ∃ i j, x = V.str i ∧ y = .str j ∧ Q (.bl (g i.cps.toList j.cps.toList)) H) x y H Q) (ordS f g) :=
  OpOk.or (ok_rI0 (f := fun i j => .bool (f i j)) fun i j _ => .bl _) ok_strC
theorem se_lt (ha : SE X e ta a) (hb : SE X e2 tb b) : SE X (.Compare e [.Lt] [e2] pos) (tOp (fun x y H Q => rI0 (fun i j => .bl (decide (i < j))) x y H Q ∨ (fun x y H Q => ∃ i j, x = V.str i ∧ y = .str j ∧ Q (.bl (decide (i.cps.toList < j.cps.toList))) H) x y H Q) ta tb) (eBin ltS a b) := se_cmp (op_lt.or op_lt_str) ok_ord ha hb (nomark _) ord1 ord2
theorem se_le (ha : SE X e ta a) (hb : SE X e2 tb b) : SE X (.Compare e [.LtE] [e2] pos) (tOp (fun x y H Q => rI0 (fun i j => .bl (decide (i ≤ j))) x y H Q ∨ (fun x y H Q => ∃ i j, x = V.str i ∧ y = .str j ∧ Q (.bl (!decide (j.cps.toList < i.cps.toList))) H) x y H Q) ta tb) (eBin leS a b) := se_cmp (op_le.or op_le_str) ok_ord ha hb (nomark _) ord1 ord2
theorem se_gt (ha : SE X e ta a) (hb : SE X e2 tb b) : SE X (.Compare e [.Gt] [e2] pos) (tOp (fun x y H Q => rI0 (fun i j => .bl (decide (j < i))) x y H Q ∨ (fun x y H Q => ∃ i j, x = V.str i ∧ y = .str j ∧ Q (.bl (decide (j.cps.toList < i.cps.toList))) H) x y H Q) ta tb) (eBin gtS a b) := se_cmp (op_gt.or op_gt_str) ok_ord ha hb (nomark _) ord1 ord2
theorem se_ge (ha : SE X e ta a) (hb : SE X e2 tb b) : SE X (.Compare e [.GtE] [e2] pos) (tOp (fun x y H Q => rI0 (fun i j => .bl (decide (j ≤ i))) x y H Q ∨ (fun x y H Q => ∃ i j, x = V.str i ∧ y = .str j ∧ Q (.bl (!decide (i.cps.toList < j.cps.toList))) H) x y H Q) ta tb) (eBin geS a b) := se_cmp (op_ge.or op_ge_str) ok_ord ha hb (nomark _) ord1 ord2
theorem st_lt (ha : SE X e ta a) (hb : SE X e2 tb b) : ST X (.Compare e [.Lt] [e2] pos) (tTest (tOp (fun x y H Q => rI0 (fun i j => .bl (decide (i < j))) x y H Q ∨ (fun x y H Q => ∃ i j, x = V.str i ∧ y = .str j ∧ Q (.bl (decide (i.cps.toList < j.cps.toList))) H) x y H Q) ta tb)) (tBl (eBin ltS a b)) := st_cmp (op_lt.or op_lt_str) ok_ord ha hb (nomark _) ord1 ord2
theorem st_le (ha : SE X e ta a) (hb : SE X e2 tb b) : ST X (.Compare e [.LtE] [e2] pos) (tTest (tOp (fun x y H Q => rI0 (fun i j => .bl (decide (i ≤ j))) x y H Q ∨ (fun x y H Q => ∃ i j, x = V.str i ∧ y = .str j ∧ Q (.bl (!decide (j.cps.toList < i.cps.toList))) H) x y H Q) ta tb)) (tBl (eBin leS a b)) := st_cmp (op_le.or op_le_str) ok_ord ha hb (nomark _) ord1 ord2
theorem st_gt (ha : SE X e ta a) (hb : SE X e2 tb b) : ST X (.Compare e [.Gt] [e2] pos) (tTest (tOp (fun x y H Q => rI0 (fun i j => .bl (decide (j < i))) x y H Q ∨ (fun x y H Q => ∃ i j, x = V.str i ∧ y = .str j ∧ Q (.bl (decide (j.cps.toList < i.cps.toList))) H) x y H Q) ta tb)) (tBl (eBin gtS a b)) := st_cmp (op_gt.or op_gt_str) ok_ord ha hb (nomark _) ord1 ord2
theorem st_ge (ha : SE X e ta a) (hb : SE X e2 tb b) : ST X (.Compare e [.GtE] [e2] pos) (tTest (tOp (fun x y H Q => rI0 (fun i j => .bl (decide (j ≤ i))) x y H Q ∨ (fun x y H Q => ∃ i j, x = V.str i ∧ y = .str j ∧ Q (.bl (!decide (i.cps.toList < j.cps.toList))) H) x y H Q) ta tb)) (tBl (eBin geS a b)) := st_cmp (op_ge.or op_ge_str) ok_ord ha hb (nomark _) ord1 ord2
end
/-! a op b op c -/
def eChain (g g' : G2) (a b c : EM) : EM := fun st => match a st with
  | some (x, st1) => match b st1 with
    | some (y, st2) => match g2 g x y st2 with
      | some (.tmp (.fz (.bool true)), st3) => match c st3 with
        | some (z, st4) => g2 g' y z st4
        | none => none
      | some (.tmp (.fz (.bool false)), st3) => some (.tmp (.fz (.bool false)), st3)
      | _ => none
    | none => none
  | none => none
theorem g2_ok {K : PySem.W.Frag} {r : R2} {g : G2} (hg : OpOk K r g) (hu : ∀ s, g .un s = none) (hu2 : ∀ s, g s .un = none) {st st' : S} {σ : St} {G0 H0 G H : Hp} {O0 : Addr → Prop} {x y o : Opd} {u v : V} (rl : Rel K st σ G H) (s0 : Step O0 (Own st σ) G0 H0 G H)
    (ox : ORel K σ O0 H0 (Own st σ) G H x u) (oy : ORel K σ O0 H0 (Own st σ) G H y v) (e : g2 g x y st = some (o, st')) {Q : VK}
    (q : ∀ w G' H', st' = st → Rel K st σ G' H' → Step O0 (Own st σ) G0 H0 G' H' → ORel K σ O0 H0 (Own st σ) G' H' o w → ORel K σ O0 H0 (Own st σ) G' H' y v → Q w H') : r u v H Q := by
  unfold g2 at e
  cases ex : x.get st with
  | none => rw [ex] at e; cases e
  | some sx =>
    cases ey : y.get st with
    | none => rw [ex, ey] at e; cases e
    | some sy =>
      rw [ex, ey] at e
      simp only at e
      cases ez : g sx sy with
      | none => rw [ez] at e; cases e
      | some z =>
        rw [ez] at e
        cases e
        rcases ox.see rl ex with e | lx
        · subst e; rw [hu] at ez; cases ez
        · rcases oy.see rl ey with e | ly
          · subst e; rw [hu2] at ez; cases ez
          · exact hg G H u v sx sy z rl.ex lx ly ez Q fun w G3 H3 x3 f3 => q w G3 H3 rfl (rl.ext x3) (s0.trans x3.step) (VRel.back (Fresh.vrel f3 rl) s0) (oy.step x3.step)
theorem sim_chain {K : PySem.W.Frag} {r r' : R2} {g g' : G2} {a b c : EM} {ta tb tc : TE} (hg : OpOk K r g) (hg' : OpOk K r' g') (hu : ∀ s, g .un s = none) (hu2 : ∀ s, g s .un = none) (hu' : ∀ s, g' .un s = none) (hu2' : ∀ s, g' s .un = none)
    (ha : SimE K ta a) (hb : SimE K tb b) (hc : SimE K tc c) : SimE K (tChain r r' ta tb tc) (eChain g g' a b c) := by
  intro st σ G H o st' rl h Q q
  unfold eChain at h
  cases e1 : a st with
  | none => rw [e1] at h; cases h
  | some p =>
    obtain ⟨x, st1⟩ := p
    rw [e1] at h
    simp only at h
    cases e2 : b st1 with
    | none => rw [e2] at h; cases h
    | some p =>
      obtain ⟨y, st2⟩ := p
      rw [e2] at h
      simp only at h
      refine sim_two ha hb rl e1 e2 fun u v G2 H2 r2 s2 o1 o2 => ?_
      split at h
      · rename_i st3 e3
        refine g2_ok hg hu hu2 r2 s2 o1 o2 e3 fun w G3 H3 es r3 s3 ow oy => ?_
        subst es
        refine ⟨true, dp_bool ow, ?_⟩
        rw [if_pos rfl]
        cases e4 : c st3 with
        | none => rw [e4] at h; cases h
        | some p =>
          obtain ⟨z, st4⟩ := p
          rw [e4] at h
          simp only at h
          refine hc st3 σ G3 H3 z st4 r3 e4 _ fun zv G4 H4 r4 s4 o4 => ?_
          refine g2_ok hg' hu' hu2' r4 (s3.trans s4) (oy.step s4) (o4.back s3) h fun w' G5 H5 es' r5 s5 ow5 _ => ?_
          subst es'
          exact q w' G5 H5 r5 s5 ow5
      · rename_i st3 e3
        refine g2_ok hg hu hu2 r2 s2 o1 o2 e3 fun w G3 H3 es r3 s3 ow oy => ?_
        subst es
        refine ⟨false, dp_bool ow, ?_⟩
        rw [if_neg Bool.false_ne_true]
        cases h
        exact q _ G3 H3 r3 s3 (.bl false)
      · cases h
section
variable {X : Cx} {e e2 e3 : Expr} {ta tb tc : TE} {a b c : EM} {pos : Pos}
theorem se_lele (ha : SE X e ta a) (hb : SE X e2 tb b) (hc : SE X e3 tc c) (hm : lastMarks [.LtE, .LtE] [e2, e3] = false := by with_unfolding_all rfl) : SE X (.Compare e [.LtE, .LtE] [e2, e3] pos) (tChain (fun x y H Q => rI0 (fun i j => .bl (decide (i ≤ j))) x y H Q ∨ (fun x y H Q => ∃ i j, x = V.str i ∧ y = .str j ∧ Q (.bl (!decide (j.cps.toList < i.cps.toList))) H) x y H Q) (fun x y H Q => rI0 (fun i j => .bl (decide (i ≤ j))) x y H Q ∨ (fun x y H Q => ∃ i j, x = V.str i ∧ y = .str j ∧ Q (.bl (!decide (j.cps.toList < i.cps.toList))) H) x y H Q) ta tb tc) (eChain leS leS a b c) := by
  obtain ⟨h1, h2⟩ := ha
  obtain ⟨h3, h4⟩ := hb
  obtain ⟨h5, h6⟩ := hc
  exact ⟨pe_chain (op_le.or op_le_str) (op_le.or op_le_str) h1 h3 h5 hm, sim_chain ok_ord ok_ord ord1 ord2 ord1 ord2 h2 h4 h6⟩
theorem st_lele (ha : SE X e ta a) (hb : SE X e2 tb b) (hc : SE X e3 tc c) (hm : lastMarks [.LtE, .LtE] [e2, e3] = false := by with_unfolding_all rfl) : ST X (.Compare e [.LtE, .LtE] [e2, e3] pos) (tTest (tChain (fun x y H Q => rI0 (fun i j => .bl (decide (i ≤ j))) x y H Q ∨ (fun x y H Q => ∃ i j, x = V.str i ∧ y = .str j ∧ Q (.bl (!decide (j.cps.toList < i.cps.toList))) H) x y H Q) (fun x y H Q => rI0 (fun i j => .bl (decide (i ≤ j))) x y H Q ∨ (fun x y H Q => ∃ i j, x = V.str i ∧ y = .str j ∧ Q (.bl (!decide (j.cps.toList < i.cps.toList))) H) x y H Q) ta tb tc)) (tBl (eChain leS leS a b c)) := by
  obtain ⟨h1, h2⟩ := ha
  obtain ⟨h3, h4⟩ := hb
  obtain ⟨h5, h6⟩ := hc
  exact ⟨pt_chain (op_le.or op_le_str) (op_le.or op_le_str) h1 h3 h5 hm, simT_test (sim_chain ok_ord ok_ord ord1 ord2 ord1 ord2 h2 h4 h6)⟩
end

/-! ### is None, is True -/
def Sl.isN : Sl → Bool
  | .fz .none => true
  | _ => false
theorem look_nn {K : PySem.W.Frag} {G H : Hp} {s : Sl} {v : V} (l : Look K G H s v) : decide (v = .non) = s.isN := by
  cases s with
  | un => exact l.elim
  | fz d =>
    have l : Dp K G v d := l
    cases l <;> simp [Sl.isN]
  | ow xs => obtain ⟨p, rfl, _⟩ := l; simp [Sl.isN]
  | od xs => obtain ⟨p, rfl, _⟩ := l; simp [Sl.isN]
def isNS (neg : Bool) : G2 := fun s s' => match s, s' with
  | .un, _ => none
  | s, .fz .none => some (.fz (.bool (if neg then !s.isN else s.isN)))
  | _, _ => none
theorem isNS_inv {neg : Bool} {s s' z : Sl} (h : isNS neg s s' = some z) : s' = .fz .none ∧ z = .fz (.bool (if neg then !s.isN else s.isN)) := by
  unfold isNS at h
  split at h
  · cases h
  · cases h; exact ⟨rfl, rfl⟩
  · cases h
theorem ok_isN {K : PySem.W.Frag} : OpOk K rIsN (isNS false) := by
  intro G H x y s s' z e lx ly hz Q q
  obtain ⟨rfl, rfl⟩ := isNS_inv hz
  refine ⟨dp_non ly, ?_⟩
  rw [look_nn lx]
  exact ans_fz e (.bl _) q
theorem ok_notN {K : PySem.W.Frag} : OpOk K rNotN (isNS true) := by
  intro G H x y s s' z e lx ly hz Q q
  obtain ⟨rfl, rfl⟩ := isNS_inv hz
  refine ⟨dp_non ly, ?_⟩
  rw [look_nn lx]
  exact ans_fz e (.bl _) q
theorem isN1 {neg : Bool} : ∀ s, isNS neg .un s = none := by intro s; cases s <;> rfl
theorem isN2 {neg : Bool} : ∀ s, isNS neg s .un = none := by
  intro s
  cases s with
  | fz d => cases d <;> rfl
  | _ => rfl
/-- is True, is False, of anything -/
def rIsBV (neg : Bool) : R2 := fun x y H Q => ∃ b : Bool, y = .bl b ∧ Q (.bl (if neg then !decide (x = .bl b) else decide (x = .bl b))) H
theorem is_bool_gen {M : Model} {A : Around} {E : Value → Shared → Prop} {s : Shared} {v : Value} {b : Bool} {Q : Value → Shared → Prop} (hv : ∀ id, v ≠ .builtin id) (h : Q (.bool (v == .bool b)) s) : wpAny M A (compareOp .Is v (.bool b)) Q E s := by
  cases v <;> first | exact wpAny_pure h | exact (hv _ rfl).elim
theorem isnot_bool_gen {M : Model} {A : Around} {E : Value → Shared → Prop} {s : Shared} {v : Value} {b : Bool} {Q : Value → Shared → Prop} (hv : ∀ id, v ≠ .builtin id) (h : Q (.bool (!(v == .bool b))) s) : wpAny M A (compareOp .IsNot v (.bool b)) Q E s := by
  cases v <;> first | exact wpAny_pure h | exact (hv _ rfl).elim
theorem rel_bl {x : V} {v : Value} {b : Bool} (r : RelV x v) : (v == .bool b) = decide (x = .bl b) := by
  rw [Bool.eq_iff_iff]
  cases x with
  | non => cases r; simp
  | bl c => cases r; simp
  | int i => obtain ⟨t, rfl⟩ := r; simp
  | str i => obtain ⟨t, rfl⟩ := r; simp
  | byt i => obtain ⟨t, rfl⟩ := r; simp
  | flt i => obtain ⟨t, rfl⟩ := r; simp
  | ref i => cases r; simp
  | ty i => cases r; simp
theorem rel_nb {x : V} {v : Value} (r : RelV x v) : ∀ id, v ≠ .builtin id := by
  intro id e
  subst e
  cases x with
  | int i => obtain ⟨t, h⟩ := r; cases h
  | str i => obtain ⟨t, h⟩ := r; cases h
  | byt i => obtain ⟨t, h⟩ := r; cases h
  | flt i => obtain ⟨t, h⟩ := r; cases h
  | _ => cases r
theorem op_isBV {X : Cx} : OpR X (compareOp .Is) (rIsBV false) := by
  intro pins s σ H x y v u Q I rx ry h
  obtain ⟨b, rfl, q⟩ := h
  cases ry
  exact is_bool_gen (rel_nb rx) ⟨.bl _, H, I, by rw [rel_bl rx]; exact rfl, q⟩
theorem op_notBV {X : Cx} : OpR X (compareOp .IsNot) (rIsBV true) := by
  intro pins s σ H x y v u Q I rx ry h
  obtain ⟨b, rfl, q⟩ := h
  cases ry
  exact isnot_bool_gen (rel_nb rx) ⟨.bl _, H, I, by rw [rel_bl rx]; exact rfl, q⟩
def Sl.isB (b : Bool) : Sl → Bool
  | .fz (.bool c) => c == b
  | _ => false
theorem look_isB {K : PySem.W.Frag} {G H : Hp} {s : Sl} {v : V} {b : Bool} (l : Look K G H s v) : decide (v = .bl b) = s.isB b := by
  cases s with
  | un => exact l.elim
  | fz d =>
    have l : Dp K G v d := l
    cases l <;> simp [Sl.isB]
    rw [Bool.eq_iff_iff]
    simp
  | ow xs => obtain ⟨p, rfl, _⟩ := l; simp [Sl.isB]
  | od xs => obtain ⟨p, rfl, _⟩ := l; simp [Sl.isB]
def isBS (neg : Bool) : G2 := fun s s' => match s, s' with
  | .un, _ => none
  | s, .fz (.bool b) => some (.fz (.bool (if neg then !s.isB b else s.isB b)))
  | _, _ => none
theorem isBS_inv {neg : Bool} {s s' z : Sl} (h : isBS neg s s' = some z) : ∃ b, s' = .fz (.bool b) ∧ z = .fz (.bool (if neg then !s.isB b else s.isB b)) := by
  unfold isBS at h
  split at h
  · cases h
  · cases h; exact ⟨_, rfl, rfl⟩
  · cases h
theorem ok_isB {K : PySem.W.Frag} {neg : Bool} : OpOk K (rIsBV neg) (isBS neg) := by
  intro G H x y s s' z e lx ly hz Q q
  obtain ⟨b, rfl, rfl⟩ := isBS_inv hz
  refine ⟨b, dp_bool ly, ?_⟩
  rw [look_isB lx]
  exact ans_fz e (.bl _) q
theorem isB1 {neg : Bool} : ∀ s, isBS neg .un s = none := by intro s; cases s <;> rfl
theorem isB2 {neg : Bool} : ∀ s, isBS neg s .un = none := by
  intro s
  cases s with
  | fz d => cases d <;> rfl
  | _ => rfl
abbrev isS (neg : Bool) : G2 := orG (isNS neg) (isBS neg)
theorem is1 {neg : Bool} : ∀ s, isS neg .un s = none := by intro s; unfold isS orG; rw [isN1, isB1]
theorem is2 {neg : Bool} : ∀ s, isS neg s .un = none := by intro s; unfold isS orG; rw [isN2, isB2]
section
variable {X : Cx} {e e2 e3 : Expr} {ta tb tc : TE} {a b c : EM} {pos : Pos}
theorem se_is (ha : SE X e ta a) (hb : SE X e2 tb b) : SE X (.Compare e [.Is] [e2] pos) (tOp (fun x y H Q => rIsN x y H Q ∨ rIsBV false x y H Q) ta tb) (eBin (isS false) a b) := se_cmp (op_isN1.or op_isBV) (OpOk.or ok_isN ok_isB) ha hb (nomark _) is1 is2
theorem st_is (ha : SE X e ta a) (hb : SE X e2 tb b) : ST X (.Compare e [.Is] [e2] pos) (tTest (tOp (fun x y H Q => rIsN x y H Q ∨ rIsBV false x y H Q) ta tb)) (tBl (eBin (isS false) a b)) := st_cmp (op_isN1.or op_isBV) (OpOk.or ok_isN ok_isB) ha hb (nomark _) is1 is2
theorem se_isnot (ha : SE X e ta a) (hb : SE X e2 tb b) : SE X (.Compare e [.IsNot] [e2] pos) (tOp (fun x y H Q => rNotN x y H Q ∨ rIsBV true x y H Q) ta tb) (eBin (isS true) a b) := se_cmp (op_notN1.or op_notBV) (OpOk.or ok_notN ok_isB) ha hb (nomark _) is1 is2
theorem st_isnot (ha : SE X e ta a) (hb : SE X e2 tb b) : ST X (.Compare e [.IsNot] [e2] pos) (tTest (tOp (fun x y H Q => rNotN x y H Q ∨ rIsBV true x y H Q) ta tb)) (tBl (eBin (isS true) a b)) := st_cmp (op_notN1.or op_notBV) (OpOk.or ok_notN ok_isB) ha hb (nomark _) is1 is2
end

/-! ### dicts by their keys -/
def toKey : D → Option Key
  | .int i => some (.inl i)
  | .str s => some (.inr s)
  | _ => none
theorem toKey_ok {K : PySem.W.Frag} {G : Hp} {v : V} {d : D} {k : Key} (h : Dp K G v d) (e : toKey d = some k) : v = kV k := by
  cases h <;> first | (cases e; rfl) | cases e
theorem kvp_len {K : PySem.W.Frag} {G : Hp} : ∀ {ws : List (Key × V)} {kvs : List (Key × D)}, KVp K G ws kvs → ws.length = kvs.length
  | _, _, .nil => rfl
  | _, _, .cons _ t => by rw [List.length_cons, List.length_cons, kvp_len t]
theorem kvp_get {K : PySem.W.Frag} {G : Hp} {k : Key} : ∀ {ws : List (Key × V)} {kvs : List (Key × D)}, KVp K G ws kvs → (valV ws k = none ∧ dget kvs k = none) ∨ ∃ v d, valV ws k = some v ∧ dget kvs k = some d ∧ Dp K G v d
  | _, _, .nil => .inl ⟨rfl, rfl⟩
  | _, _, .cons (a := p) (b := q) (l₁ := r) (l₂ := r') h t => by
    obtain ⟨e, hd⟩ := h
    by_cases hk : p.1 = k
    · refine .inr ⟨p.2, q.2, valV_pos hk, ?_, hd⟩
      show (if q.1 = k then some q.2 else dget r' k) = some q.2
      rw [if_pos (by rw [← e]; exact hk)]
    · rw [valV_neg hk]
      have : dget (q :: r') k = dget r' k := by
        show (if q.1 = k then some q.2 else dget r' k) = dget r' k
        rw [if_neg (by rw [← e]; exact hk)]
      rw [this]
      exact kvp_get t
theorem putK_cons {p : Key × V} {r : List (Key × V)} {k : Key} {v : V} : putK (p :: r) k v = if p.1 = k then (p.1, v) :: (r.map fun kv => if kv.1 = k then (kv.1, v) else kv) else p :: putK r k v := by
  unfold putK
  by_cases h : p.1 = k
  · simp [h]
  · simp only [List.any_cons, h, decide_false, Bool.false_or, List.map_cons, if_neg, List.cons_append]
    split <;> simp [h]
theorem map_absent {k : Key} {v : V} : ∀ {r : List (Key × V)}, valV r k = none → (r.map fun kv => if kv.1 = k then (kv.1, v) else kv) = r
  | [], _ => rfl
  | p :: r, h => by
    by_cases e : p.1 = k
    · rw [valV_pos e] at h; cases h
    · rw [valV_neg e] at h
      rw [List.map_cons, if_neg e, map_absent h]
theorem kvp_put {K : PySem.W.Frag} {G : Hp} {k : Key} {v : V} {d : D} (hd : Dp K G v d) : ∀ {ws : List (Key × V)} {kvs : List (Key × D)}, KVp K G ws kvs → keysNd kvs = true → KVp K G (putK ws k v) (dput kvs k d)
  | _, _, .nil, _ => .cons ⟨rfl, hd⟩ .nil
  | _, _, .cons (a := p) (b := q) (l₁ := r) (l₂ := r') h t, nd => by
    obtain ⟨e, hd'⟩ := h
    obtain ⟨n1, n2⟩ := Bool.and_eq_true_iff.mp (show ((dget r' q.1).isNone && keysNd r') = true from nd)
    rw [putK_cons]
    show KVp K G _ (if q.1 = k then (q.1, d) :: r' else q :: dput r' k d)
    by_cases hk : p.1 = k
    · have hq : q.1 = k := by rw [← e]; exact hk
      rw [if_pos hk, if_pos hq]
      have hn : valV r k = none := by
        rcases kvp_get (k := k) t with ⟨z, _⟩ | ⟨_, _, _, z, _⟩
        · exact z
        · rw [hq, z] at n1; cases n1
      rw [map_absent hn]
      exact .cons ⟨e, hd⟩ t
    · rw [if_neg hk, if_neg (show ¬ q.1 = k by rw [← e]; exact hk)]
      exact .cons ⟨e, hd'⟩ (kvp_put hd t n2)
theorem dget_put (kvs : List (Key × D)) (k : Key) (d : D) (j : Key) : dget (dput kvs k d) j = if k = j then some d else dget kvs j := by
  induction kvs with
  | nil => rfl
  | cons p r ih =>
    obtain ⟨k', d'⟩ := p
    show dget (if k' = k then (k', d) :: r else (k', d') :: dput r k d) j = if k = j then some d else (if k' = j then some d' else dget r j)
    by_cases h : k' = k
    · rw [if_pos h]
      subst h
      show (if k' = j then some d else dget r j) = _
      by_cases h2 : k' = j
      · rw [if_pos h2, if_pos h2]
      · rw [if_neg h2, if_neg h2, if_neg h2]
    · rw [if_neg h]
      show (if k' = j then some d' else dget (dput r k d) j) = _
      rw [ih]
      by_cases h2 : k' = j
      · rw [if_pos h2]
        subst h2
        rw [if_neg (fun e => h e.symm), if_pos rfl]
      · rw [if_neg h2, if_neg h2]
theorem nd_put (kvs : List (Key × D)) (k : Key) (d : D) (h : keysNd kvs = true) : keysNd (dput kvs k d) = true := by
  induction kvs with
  | nil => rfl
  | cons p r ih =>
    obtain ⟨k', d'⟩ := p
    obtain ⟨n1, n2⟩ := Bool.and_eq_true_iff.mp (show ((dget r k').isNone && keysNd r) = true from h)
    show keysNd (if k' = k then (k', d) :: r else (k', d') :: dput r k d) = true
    by_cases e : k' = k
    · rw [if_pos e]; exact Bool.and_eq_true_iff.mpr ⟨n1, n2⟩
    · rw [if_neg e]
      refine Bool.and_eq_true_iff.mpr ⟨?_, ih n2⟩
      rw [dget_put, if_neg (fun z => e z.symm)]
      exact n1
theorem kvp_dget {K : PySem.W.Frag} {G : Hp} {k : Key} {ws : List (Key × V)} {kvs : List (Key × D)} {d : D} (h : KVp K G ws kvs) (e : dget kvs k = some d) : ∃ v, valV ws k = some v ∧ Dp K G v d := by
  rcases kvp_get (k := k) h with ⟨_, z⟩ | ⟨v, d', z, z2, z3⟩
  · rw [z] at e; cases e
  · rw [z2] at e; cases e; exact ⟨v, z, z3⟩
theorem kvp_has {K : PySem.W.Frag} {G : Hp} {k : Key} {ws : List (Key × V)} {kvs : List (Key × D)} (h : KVp K G ws kvs) : (valV ws k).isSome = (dget kvs k).isSome := by
  rcases kvp_get (k := k) h with ⟨z, z2⟩ | ⟨v, d', z, z2, z3⟩ <;> rw [z, z2] <;> rfl

/-! ### in -/
def inS (neg : Bool) : G2 := fun s c => match s.d with
  | some d => match c with
    | .fz (.tuple ds) => if (SeqAt.shaped d && SeqAt.shaped (.tuple ds)) = true then some (.fz (.bool (if neg then !(ds.any fun z => PyData.eqv z d) else ds.any fun z => PyData.eqv z d))) else none
    | .od kvs => match toKey d with
      | some k => some (.fz (.bool (if neg then !(dget kvs k).isSome else (dget kvs k).isSome)))
      | none => none
    | c => match c.l with
      | some ds => if (SeqAt.shaped d && SeqAt.shaped (.list ds)) = true then some (.fz (.bool (if neg then !(ds.any fun z => PyData.eqv z d) else ds.any fun z => PyData.eqv z d))) else none
      | none => none
  | none => none
def rInT (K : PySem.W.Frag) (neg : Bool) : R2 := fun x y H Q => ∃ d ds, Dp K H x d ∧ Dp K H y (.tuple ds) ∧ SeqAt.shaped d = true ∧ SeqAt.shaped (.tuple ds) = true ∧ Q (.bl (if neg then !(ds.any fun z => PyData.eqv z d) else ds.any fun z => PyData.eqv z d)) H
theorem room_inT {d : PyData} {ds : List PyData} {A : Around} (sd : SeqAt.shaped d = true) (hu : A.units + 65 < cLine) : A.units + 1 + min (PyData.depthAll ds) d.depth < cLine := by
  have h1 := SeqAt.depth_of_shaped sd
  have h2 := Nat.min_le_right (PyData.depthAll ds) d.depth
  omega
theorem layT {ds : List PyData} (h : SeqAt.shaped (.tuple ds) = true) : PyData.canLayAll0 ds = true := SeqAt.canLay_of_shaped h
theorem op_inT {X : Cx} (hu : X.A.units + 65 < cLine) : OpR X (compareOp .In) (rInT X.K false) := by
  intro pins s σ H x y v u Q I rx ry h
  obtain ⟨d, ds, hd, he, sd, se, q⟩ := h
  obtain ⟨as, r1⟩ := Dp.reads I d x v hd (noD_shaped sd) rx
  obtain ⟨bs, r2⟩ := Dp.reads I (.tuple ds) y u he (noD_shaped se) ry
  exact SeqAt.in_tuple_reads r2 r1 (layT se) (SeqAt.canLay_of_shaped sd) (room_inT sd hu) ⟨.bl _, H, I, rfl, q⟩
theorem op_notInT {X : Cx} (hu : X.A.units + 65 < cLine) : OpR X (compareOp .NotIn) (rInT X.K true) := by
  intro pins s σ H x y v u Q I rx ry h
  obtain ⟨d, ds, hd, he, sd, se, q⟩ := h
  obtain ⟨as, r1⟩ := Dp.reads I d x v hd (noD_shaped sd) rx
  obtain ⟨bs, r2⟩ := Dp.reads I (.tuple ds) y u he (noD_shaped se) ry
  exact SeqAt.notIn_tuple_reads r2 r1 (layT se) (SeqAt.canLay_of_shaped sd) (room_inT sd hu) ⟨.bl _, H, I, rfl, q⟩
def rInDic (neg : Bool) : R2 := fun y x H Q => ∃ a o, x = .ref a ∧ DGet H a y o ∧ Q (.bl (if neg then !o.isSome else o.isSome)) H
theorem op_inDic {X : Cx} (hu : X.A.units + 1 < cLine) : OpR X (compareOp .In) (rInDic false) := by
  intro pins s σ H x y v u Q I rx ry h
  obtain ⟨a, o, rfl, g, q⟩ := h
  cases ry
  exact d_in hu I g rx fun s3 I3 => ⟨.bl _, H, I3, rfl, q⟩
theorem op_notInDic {X : Cx} (hu : X.A.units + 1 < cLine) : OpR X (compareOp .NotIn) (rInDic true) := by
  intro pins s σ H x y v u Q I rx ry h
  obtain ⟨a, o, rfl, g, q⟩ := h
  cases ry
  exact d_notIn hu I g rx fun s3 I3 => ⟨.bl _, H, I3, rfl, q⟩
theorem inS_inv {neg : Bool} {s c z : Sl} (h : inS neg s c = some z) : ∃ d, s.d = some d ∧ ((∃ ds, c = .fz (.tuple ds) ∧ SeqAt.shaped d = true ∧ SeqAt.shaped (.tuple ds) = true ∧ z = .fz (.bool (if neg then !(ds.any fun z => PyData.eqv z d) else ds.any fun z => PyData.eqv z d))) ∨
    (∃ kvs k, c = .od kvs ∧ toKey d = some k ∧ z = .fz (.bool (if neg then !(dget kvs k).isSome else (dget kvs k).isSome))) ∨
    ∃ ds, c.l = some ds ∧ SeqAt.shaped d = true ∧ SeqAt.shaped (.list ds) = true ∧ z = .fz (.bool (if neg then !(ds.any fun z => PyData.eqv z d) else ds.any fun z => PyData.eqv z d))) := by
  unfold inS at h
  split at h
  · rename_i d hd
    refine ⟨d, hd, ?_⟩
    split at h
    · rename_i ds
      split at h
      · rename_i hh
        obtain ⟨h1, h2⟩ := Bool.and_eq_true_iff.mp hh
        cases h
        exact .inl ⟨ds, rfl, h1, h2, rfl⟩
      · cases h
    · rename_i kvs
      split at h
      · rename_i k hk
        cases h
        exact .inr (.inl ⟨kvs, k, rfl, hk, rfl⟩)
      · cases h
    · split at h
      · rename_i ds hl
        split at h
        · rename_i hh
          obtain ⟨h1, h2⟩ := Bool.and_eq_true_iff.mp hh
          cases h
          exact .inr (.inr ⟨ds, hl, h1, h2, rfl⟩)
        · cases h
      · cases h
  · cases h
theorem look_od {K : PySem.W.Frag} {G H : Hp} {v : V} {kvs : List (Key × D)} (l : Look K G H (.od kvs) v) : ∃ p ws, v = .ref p ∧ H p = some (.dK ws) ∧ KVp K G ws kvs := by
  obtain ⟨p, rfl, ws, h1, h2, _⟩ := l
  exact ⟨p, ws, rfl, h1, h2⟩
theorem look_lD {K : PySem.W.Frag} {G H : Hp} {s : Sl} {v : V} {ds : List D} (e : Same G H) (l : Look K G H s v) (h : s.l = some ds) : Dp K H v (.list ds) := by
  obtain ⟨a, vs, rfl, h1, h2⟩ := look_l e l h
  exact .lst h1 (dpa_mono e h2)
theorem ok_in {K : PySem.W.Frag} : OpOk K (fun x y H Q => rInT K false x y H Q ∨ (fun x y H Q => rInDic false x y H Q ∨ rInD K x y H Q) x y H Q) (inS false) := by
  intro G H x y s s' z e lx ly hz Q q
  obtain ⟨d, hd, h⟩ := inS_inv hz
  have dd := look_d e lx hd
  rcases h with ⟨ds, rfl, h1, h2, rfl⟩ | ⟨kvs, k, rfl, hk, rfl⟩ | ⟨ds, hl, h1, h2, rfl⟩
  · exact .inl ⟨d, ds, dd, dp_mono e ly, h1, h2, ans_fz e (.bl _) q⟩
  · obtain ⟨p, ws, rfl, h3, h4⟩ := look_od ly
    have ek := toKey_ok dd hk
    subst ek
    exact .inr (.inl ⟨p, _, rfl, DGet.k h3, by rw [kvp_has h4]; exact ans_fz e (.bl _) q⟩)
  · exact .inr (.inr ⟨d, ds, dd.old (noD_shaped h1), (look_lD e ly hl).old (noD_shaped h2), h1, h2, ans_fz e (.bl _) q⟩)
theorem ok_notin {K : PySem.W.Frag} : OpOk K (fun x y H Q => rInT K true x y H Q ∨ (fun x y H Q => rInDic true x y H Q ∨ rNotInD K x y H Q) x y H Q) (inS true) := by
  intro G H x y s s' z e lx ly hz Q q
  obtain ⟨d, hd, h⟩ := inS_inv hz
  have dd := look_d e lx hd
  rcases h with ⟨ds, rfl, h1, h2, rfl⟩ | ⟨kvs, k, rfl, hk, rfl⟩ | ⟨ds, hl, h1, h2, rfl⟩
  · exact .inl ⟨d, ds, dd, dp_mono e ly, h1, h2, ans_fz e (.bl _) q⟩
  · obtain ⟨p, ws, rfl, h3, h4⟩ := look_od ly
    have ek := toKey_ok dd hk
    subst ek
    exact .inr (.inl ⟨p, _, rfl, DGet.k h3, by rw [kvp_has h4]; exact ans_fz e (.bl _) q⟩)
  · exact .inr (.inr ⟨d, ds, dd.old (noD_shaped h1), (look_lD e ly hl).old (noD_shaped h2), h1, h2, ans_fz e (.bl _) q⟩)
theorem in1 {neg : Bool} : ∀ s, inS neg .un s = none := by intro s; rfl
theorem in2 {neg : Bool} : ∀ s, inS neg s .un = none := by
  intro s
  unfold inS
  cases s.d <;> rfl
section
variable {X : Cx} {e e2 e3 : Expr} {ta tb tc : TE} {a b c : EM} {pos : Pos}
theorem se_in (hu : X.A.units + 65 < cLine) (ha : SE X e ta a) (hb : SE X e2 tb b) (hm : behindInMarks .In e2 = false := by rfl) : SE X (.Compare e [.In] [e2] pos) (tOp (fun x y H Q => rInT X.K false x y H Q ∨ (fun x y H Q => rInDic false x y H Q ∨ rInD X.K x y H Q) x y H Q) ta tb) (eBin (inS false) a b) :=
  se_cmp ((op_inT hu).or ((op_inDic (by omega)).or (op_inD hu))) ok_in ha hb hm in1 in2
theorem st_in (hu : X.A.units + 65 < cLine) (ha : SE X e ta a) (hb : SE X e2 tb b) (hm : behindInMarks .In e2 = false := by rfl) : ST X (.Compare e [.In] [e2] pos) (tTest (tOp (fun x y H Q => rInT X.K false x y H Q ∨ (fun x y H Q => rInDic false x y H Q ∨ rInD X.K x y H Q) x y H Q) ta tb)) (tBl (eBin (inS false) a b)) :=
  st_cmp ((op_inT hu).or ((op_inDic (by omega)).or (op_inD hu))) ok_in ha hb hm in1 in2
theorem se_notin (hu : X.A.units + 65 < cLine) (ha : SE X e ta a) (hb : SE X e2 tb b) (hm : behindInMarks .NotIn e2 = false := by rfl) : SE X (.Compare e [.NotIn] [e2] pos) (tOp (fun x y H Q => rInT X.K true x y H Q ∨ (fun x y H Q => rInDic true x y H Q ∨ rNotInD X.K x y H Q) x y H Q) ta tb) (eBin (inS true) a b) :=
  se_cmp ((op_notInT hu).or ((op_notInDic (by omega)).or (op_notInD hu))) ok_notin ha hb hm in1 in2
theorem st_notin (hu : X.A.units + 65 < cLine) (ha : SE X e ta a) (hb : SE X e2 tb b) (hm : behindInMarks .NotIn e2 = false := by rfl) : ST X (.Compare e [.NotIn] [e2] pos) (tTest (tOp (fun x y H Q => rInT X.K true x y H Q ∨ (fun x y H Q => rInDic true x y H Q ∨ rNotInD X.K x y H Q) x y H Q) ta tb)) (tBl (eBin (inS true) a b)) :=
  st_cmp ((op_notInT hu).or ((op_notInDic (by omega)).or (op_notInD hu))) ok_notin ha hb hm in1 in2
end
end Sh

namespace Sh
open PySem PySem.Spec L2

/-! ### subscripts -/
theorem at_dpa {K : PySem.W.Frag} {G : Hp} {vs : List V} {ds : List D} {i : Int} {d : D} (h : DpAll K G vs ds) (e : atI ds i = some d) : ∃ v, atI vs i = some v ∧ Dp K G v d := by
  unfold atI at e ⊢
  rw [dpa_len h]
  cases e1 : ixN ds.length i with
  | none => rw [e1] at e; cases e
  | some j =>
    rw [e1] at e
    obtain ⟨v, h1, h2⟩ := dpa_get' h (show ds[j]? = some d from e)
    exact ⟨v, h1, h2⟩
def ixS : G2 := fun s i => match i with
  | .fz di => match s with
    | .od kvs => match toKey di with
      | some k => (dget kvs k).map .fz
      | none => none
    | s => match di with
      | .int i => match s with
        | .fz (.tuple ds) => (atI ds i).map .fz
        | .fz (.str x) => if x.length ≤ 100000 then (atI x.cps.toList i).map fun c => .fz (.str ⟨#[c]⟩) else none
        | s => match s.l with
          | some ds => (atI ds i).map .fz
          | none => none
      | _ => none
  | _ => none
def rDG : R2 := fun x y H Q => ∃ a v, x = V.ref a ∧ DGet H a y (some v) ∧ Q v H
theorem ixS_inv {s i z : Sl} (h : ixS s i = some z) : ∃ di, i = .fz di ∧ ((∃ kvs k d, s = .od kvs ∧ toKey di = some k ∧ dget kvs k = some d ∧ z = .fz d) ∨ (∃ j ds d, di = .int j ∧ s = .fz (.tuple ds) ∧ atI ds j = some d ∧ z = .fz d) ∨
    (∃ j x c, di = .int j ∧ s = .fz (.str x) ∧ x.length ≤ 100000 ∧ atI x.cps.toList j = some c ∧ z = .fz (.str ⟨#[c]⟩)) ∨ ∃ j ds d, di = .int j ∧ s.l = some ds ∧ atI ds j = some d ∧ z = .fz d) := by
  unfold ixS at h
  split at h
  · rename_i di
    refine ⟨di, rfl, ?_⟩
    split at h
    · rename_i kvs
      split at h
      · rename_i k hk
        obtain ⟨d, h1, h2⟩ := Option.map_eq_some_iff.mp h
        exact .inl ⟨kvs, k, d, rfl, hk, h1, h2.symm⟩
      · cases h
    · split at h
      · rename_i j
        split at h
        · rename_i ds _
          obtain ⟨d, h1, h2⟩ := Option.map_eq_some_iff.mp h
          exact .inr (.inl ⟨j, ds, d, rfl, rfl, h1, h2.symm⟩)
        · rename_i x _
          split at h
          · rename_i hl
            obtain ⟨c, h1, h2⟩ := Option.map_eq_some_iff.mp h
            exact .inr (.inr (.inl ⟨j, x, c, rfl, rfl, hl, h1, h2.symm⟩))
          · cases h
        · split at h
          · rename_i ds hl
            obtain ⟨d, h1, h2⟩ := Option.map_eq_some_iff.mp h
            exact .inr (.inr (.inr ⟨j, ds, d, rfl, hl, h1, h2.symm⟩))
          · cases h
      · cases h
  · cases h
theorem ix_dict {X : Cx} (hu : X.A.units + 1 < cLine) : IxR X rDG := by
  intro value slice pins s σ H x y v u Q I rx ry h hs
  obtain ⟨a, z, rfl, g, q⟩ := h
  cases rx
  have hT := dict_typeIs I g
  unfold PyProof.Rows.subscriptTail
  refine wpAny_bind ?_
  rw [getitemInPython_of_ne hT.not_modules]
  refine wpAny_bind (wpAny_specialOf hT PySem.F.slot_dict_getitem.lookup ?_)
  have fin : wpAny (model X.prog X.w) X.A (subscripted slice false (.ref a) u) (fun r s₃ => wpAny (model X.prog X.w) X.A (letTemporaryGo value (.ref a) r >>= fun _ => pure r) (EP X pins σ Q) X.xe s₃) X.xe s := by
    rw [hs]
    exact wpAny_operating (wpAny_mono (d_getItem hu I g ry fun w' s3 I3 rw' => (show EP X pins σ Q w' s3 from ⟨z, H, I3, rw', q⟩)) (fun r s₃ h₃ => wpAny_bind (wpAny_letTemporaryGo (wpAny_pure h₃))) fun _ _ x => x)
  first
    | exact wpAny_pure (wpAny_bind fin)
    | exact wpAny_bind (wpAny_pure (wpAny_bind fin))
    | exact wpAny_bind fin
theorem ok_ix {K : PySem.W.Frag} : OpOk K (fun x y H Q => rDG x y H Q ∨ rIx K x y H Q) ixS := by
  intro G H x y s s' z e lx ly hz Q q
  obtain ⟨di, rfl, h⟩ := ixS_inv hz
  rcases h with ⟨kvs, k, d, rfl, hk, hd, rfl⟩ | ⟨j, ds, d, rfl, rfl, hd, rfl⟩ | ⟨j, x', c, rfl, rfl, hl, hd, rfl⟩ | ⟨j, ds, d, rfl, hl, hd, rfl⟩
  · obtain ⟨p, ws, rfl, h3, h4⟩ := look_od lx
    have ek := toKey_ok ly hk
    subst ek
    obtain ⟨v, h5, h6⟩ := kvp_dget h4 hd
    exact .inl ⟨p, v, rfl, by rw [← h5]; exact DGet.k h3, ans_fz e h6 q⟩
  · obtain ⟨a, vs, rfl, h1, _, h2⟩ := look_tup e lx
    obtain ⟨v, h3, h4⟩ := at_dpa h2 hd
    exact .inr (.inr (.inl ⟨a, vs, j, v, rfl, look_int ly, h1, h3, ans_fz e h4 q⟩))
  · exact .inr (.inr (.inr ⟨x', j, c, look_str lx, look_int ly, Evl.sz_of hl, hd, ans_fz e (.str _) q⟩))
  · obtain ⟨a, vs, rfl, h1, h2⟩ := look_l e lx hl
    obtain ⟨v, h3, h4⟩ := at_dpa h2 hd
    exact .inr (.inl ⟨a, vs, j, v, rfl, look_int ly, h1, h3, ans_fz e h4 q⟩)
theorem ix1 : ∀ s, ixS .un s = none := by
  intro s
  cases s with
  | fz d => cases d <;> rfl
  | _ => rfl
theorem ix2 : ∀ s, ixS s .un = none := by intro s; rfl
theorem se_ix {X : Cx} {e e2 : Expr} {ta tb : TE} {a b : EM} {pos : Pos} (hu : X.A.units + 1 < cLine) (ha : SE X e ta a) (hb : SE X e2 tb b) (hs : PlainIx e2 := by exact fun _ _ => rfl) : SE X (.Subscript e e2 pos) (tOp (fun x y H Q => rDG x y H Q ∨ rIx X.K x y H Q) ta tb) (eBin ixS a b) := by
  obtain ⟨pa, sa⟩ := ha
  obtain ⟨pb, sb⟩ := hb
  exact ⟨pe_ix ((ix_dict hu).or ix_seq) pa pb hs, sim_bin ok_ix ix1 ix2 sa sb⟩

/-! ### slices -/
abbrev PM := S → Option (Option Int × S)
def SimP (K : PySem.W.Frag) (t : TO) (f : PM) : Prop := ∀ (st : S) (σ : St) (G H : Hp) (o : Option Int) (st' : S), Rel K st σ G H → f st = some (o, st') → ∀ Q : Option Int → Hp → Prop,
  (∀ G' H', Rel K st' σ G' H' → Step (Own st σ) (Own st' σ) G H G' H' → Q o H') → t σ H Q
structure SP' (X : Cx) (e : Option Expr) (t : TO) (f : PM) : Prop where
  pe : PO X e t
  sim : SimP X.K t f
def pNone : PM := fun st => some (none, st)
def pSome (a : EM) : PM := fun st => match a st with
  | some (.tmp (.fz (.int i)), st1) => some (some i, st1)
  | _ => none
theorem sp_none {X : Cx} : SP' X none tNoPart pNone := ⟨po_none, fun st σ G H o st' r h Q q => by
  cases h
  exact q G H r Step.refl⟩
theorem sp_some {X : Cx} {e : Expr} {t : TE} {a : EM} (h : SE X e t a) : SP' X (some e) (tPart t) (pSome a) := by
  obtain ⟨h1, h2⟩ := h
  refine ⟨po_some h1, fun st σ G H o st' r h Q q => ?_⟩
  unfold pSome at h
  split at h
  · rename_i i st1 e1
    cases h
    exact h2 st σ G H _ _ r e1 _ fun v G1 H1 r1 s1 o1 => ⟨i, dp_int o1, q G1 H1 r1 s1⟩
  · cases h
def cut {α : Type} (xs : List α) (lo hi : Option Int) : List α := (xs.drop (HT.sIx xs.length 0 lo)).take (HT.sIx xs.length xs.length hi - HT.sIx xs.length 0 lo)
theorem dpa_cut {K : PySem.W.Frag} {G : Hp} {vs : List V} {ds : List D} (lo hi : Option Int) (h : DpAll K G vs ds) : DpAll K G (cutV vs lo hi) (cut ds lo hi) := by
  unfold cutV cut
  rw [dpa_len h]
  exact dpa_take _ (dpa_drop _ h)
theorem cut_whole {ds : List D} {lo hi : Option Int} (h : HT.sIx ds.length 0 lo = 0 ∧ HT.sIx ds.length ds.length hi = ds.length) : cut ds lo hi = ds := by
  unfold cut
  rw [h.1, h.2]
  simp
def slS (lo hi : Option Int) : Sl → Option Sl
  | .fz (.tuple ds) => some (.fz (.tuple (cut ds lo hi)))
  | .fz (.str x) => if x.length ≤ 100000 then some (.fz (.str (cutS x lo hi))) else none
  | s => match s.l with
    | some ds => some (.ow (cut ds lo hi))
    | none => none
theorem slS_inv {lo hi : Option Int} {s z : Sl} (h : slS lo hi s = some z) : (∃ ds, s = .fz (.tuple ds) ∧ z = .fz (.tuple (cut ds lo hi))) ∨ (∃ x, s = .fz (.str x) ∧ x.length ≤ 100000 ∧ z = .fz (.str (cutS x lo hi))) ∨ ∃ ds, s.l = some ds ∧ z = .ow (cut ds lo hi) := by
  unfold slS at h
  split at h
  · cases h; exact .inl ⟨_, rfl, rfl⟩
  · split at h
    · rename_i x hl
      cases h; exact .inr (.inl ⟨_, rfl, hl, rfl⟩)
    · cases h
  · split at h
    · rename_i ds hl
      cases h; exact .inr (.inr ⟨ds, hl, rfl⟩)
    · cases h
def eSl (a : EM) (lo hi : PM) : EM := fun st => match a st with
  | some (o, st1) => match lo st1 with
    | some (l, st2) => match hi st2 with
      | some (h, st3) => match o.get st3 with
        | some s => match slS l h s with
          | some z => some (.tmp z, st3)
          | none => none
        | none => none
      | none => none
    | none => none
  | none => none
def rSl3 (K : PySem.W.Frag) : V → Option Int → Option Int → Hp → VK → Prop := fun x lo hi H Q => rSlL K x lo hi H Q ∨ (rSlP K x lo hi H Q ∨ rSlS x lo hi H Q)
theorem sl3_ok {K : PySem.W.Frag} {G H : Hp} {s z : Sl} {x : V} {lo hi : Option Int} (e : Same G H) (l : Look K G H s x) (h : slS lo hi s = some z) {Q : VK} (q : ∀ v G' H', Ext G H G' H' → Fresh K H G' H' z v → Q v H') : rSl3 K x lo hi H Q := by
  rcases slS_inv h with ⟨ds, rfl, rfl⟩ | ⟨y, rfl, hl, rfl⟩ | ⟨ds, hl, rfl⟩
  · obtain ⟨a, vs, rfl, h1, h1', h2⟩ := look_tup e l
    refine .inr (.inl ⟨a, vs, rfl, h1, fun w => ?_, fun w => ?_⟩)
    · rw [dpa_len h2] at w
      rw [cut_whole w] at q
      exact ans_fz e l q
    · exact ans_tup e (dpa_cut lo hi h2) q
  · exact .inr (.inr ⟨y, look_str l, Evl.sz_of hl, ans_fz e (.str _) q⟩)
  · obtain ⟨a, vs, rfl, h1, h2⟩ := look_l e l hl
    exact .inl ⟨a, vs, rfl, h1, fun p hp => ans_ow e (dpa_cut lo hi h2) q hp⟩
theorem sim_sl {K : PySem.W.Frag} {t : TE} {tl th : TO} {a : EM} {lo hi : PM} (ha : SimE K t a) (hl : SimP K tl lo) (hh : SimP K th hi) : SimE K (tSl (rSl3 K) t tl th) (eSl a lo hi) := by
  intro st σ G H o st' r h Q q
  unfold eSl at h
  cases e1 : a st with
  | none => rw [e1] at h; cases h
  | some p =>
    obtain ⟨x, st1⟩ := p
    rw [e1] at h
    simp only at h
    cases e2 : lo st1 with
    | none => rw [e2] at h; cases h
    | some p =>
      obtain ⟨l, st2⟩ := p
      rw [e2] at h
      simp only at h
      cases e3 : hi st2 with
      | none => rw [e3] at h; cases h
      | some p =>
        obtain ⟨u, st3⟩ := p
        rw [e3] at h
        simp only at h
        cases e4 : x.get st3 with
        | none => rw [e4] at h; cases h
        | some s =>
          rw [e4] at h
          simp only at h
          cases e5 : slS l u s with
          | none => rw [e5] at h; cases h
          | some z =>
            rw [e5] at h
            cases h
            refine ha st σ G H x st1 r e1 _ fun v G1 H1 r1 s1 o1 => ?_
            refine hl st1 σ G1 H1 l st2 r1 e2 _ fun G2 H2 r2 s2 => ?_
            refine hh st2 σ G2 H2 u _ r2 e3 _ fun G3 H3 r3 s3 => ?_
            have s13 := s1.trans (s2.trans s3)
            rcases (o1.step (s2.trans s3)).see r3 e4 with e | lx
            · subst e; cases e5
            · exact sl3_ok r3.ex lx e5 fun w G4 H4 x4 f4 => q w G4 H4 (r3.ext x4) (s13.trans x4.step) (VRel.back (Fresh.vrel f4 r3) s13)
theorem se_sl {X : Cx} {e : Expr} {l h : Option Expr} {t : TE} {tl th : TO} {a : EM} {lo hi : PM} {p2 pos : Pos} (ha : SE X e t a) (hl : SP' X l tl lo) (hh : SP' X h th hi) : SE X (.Subscript e (.Slice l h none p2) pos) (tSl (rSl3 X.K) t tl th) (eSl a lo hi) := by
  obtain ⟨h1, h2⟩ := ha
  obtain ⟨h3, h4⟩ := hl
  obtain ⟨h5, h6⟩ := hh
  exact ⟨pe_slice (sl_list.or (sl_tupP.or sl_str)) h1 h3 h5, sim_sl h2 h4 h6⟩

/-! ### -a -/
def eNeg (a : EM) : EM := fun st => match a st with
  | some (.tmp (.fz (.int i)), st1) => some (.tmp (.fz (.int (-i))), st1)
  | _ => none
theorem se_neg {X : Cx} {e : Expr} {t : TE} {a : EM} {pos : Pos} (ha : SE X e t a) : SE X (.UnaryOp .USub e pos) (tUn (rU fun i => .int (-i)) t) (eNeg a) := by
  obtain ⟨h1, h2⟩ := ha
  refine ⟨pe_un un_neg h1, fun st σ G H o st' r h Q q => ?_⟩
  unfold eNeg at h
  split at h
  · rename_i i st1 e1
    cases h
    exact h2 st σ G H _ _ r e1 _ fun v G1 H1 r1 s1 o1 => ⟨i, dp_int o1, q _ G1 H1 r1 s1 (.int _)⟩
  · cases h

/-! ### calls of built-ins by values -/
def Looks (K : PySem.W.Frag) (G H : Hp) : List Sl → List V → Prop
  | [], [] => True
  | s :: ss, v :: vs => Look K G H s v ∧ Looks K G H ss vs
  | _, _ => False
abbrev GN := List Sl → Option Sl
def CallOk (K : PySem.W.Frag) (r : List V → Hp → VK → Prop) (g : GN) : Prop := ∀ (G H : Hp) (xs : List V) (ss : List Sl) (z : Sl), Same G H → Looks K G H ss xs → g ss = some z → ∀ Q : VK,
  (∀ v G' H', Ext G H G' H' → Fresh K H G' H' z v → Q v H') → r xs H Q
def gets (st : S) : List Opd → Option (List Sl)
  | [] => some []
  | o :: os => match o.get st with
    | some .un => none
    | some s => match gets st os with
      | some ss => some (s :: ss)
      | none => none
    | none => none
theorem gets_ok {K : PySem.W.Frag} {st : S} {σ : St} {O O' : Addr → Prop} {H G' H' : Hp} (r : Rel K st σ G' H') : ∀ {os : List Opd} {vs : List V} {ss : List Sl}, ORels K σ O H O' G' H' os vs → gets st os = some ss → Looks K G' H' ss vs
  | [], [], _, _, e => by cases e; trivial
  | [], _ :: _, _, h, _ => h.elim
  | _ :: _, [], _, h, _ => h.elim
  | o :: os, v :: vs, ss, h, e => by
    unfold gets at e
    split at e
    · cases e
    · rename_i s hn e1
      split at e
      · rename_i ss' e2
        cases e
        refine ⟨h.1.look r (fun z => ?_) e1, gets_ok r h.2 e2⟩
        exact hn z
      · cases e
    · cases e
def eFn (g : GN) (a : AM) : EM := fun st => match a st with
  | some (os, st1) => match gets st1 os with
    | some ss => match g ss with
      | some z => some (.tmp z, st1)
      | none => none
    | none => none
  | none => none
theorem sim_fn {K : PySem.W.Frag} {r : List V → Hp → VK → Prop} {g : GN} {t : TA} {a : AM} (hg : CallOk K r g) (ha : SimA K t a) : SimE K (tCB r t) (eFn g a) := by
  intro st σ G H o st' rl h Q q
  unfold eFn at h
  cases e1 : a st with
  | none => rw [e1] at h; cases h
  | some p =>
    obtain ⟨os, st1⟩ := p
    rw [e1] at h
    simp only at h
    cases e2 : gets st1 os with
    | none => rw [e2] at h; cases h
    | some ss =>
      rw [e2] at h
      simp only at h
      cases e3 : g ss with
      | none => rw [e3] at h; cases h
      | some z =>
        rw [e3] at h
        cases h
        refine ha st σ G H os _ rl e1 _ fun vs G1 H1 r1 s1 o1 => ?_
        exact hg G1 H1 vs ss z r1.ex (gets_ok r1 o1 e2) e3 Q fun w G2 H2 x2 f2 => q w G2 H2 (r1.ext x2) (s1.trans x2.step) (VRel.back (Fresh.vrel f2 r1) s1)
theorem CallOk.or {K : PySem.W.Frag} {r r' : List V → Hp → VK → Prop} {g g' : GN} (h : CallOk K r g) (h' : CallOk K r' g') : CallOk K (fun xs H Q => r xs H Q ∨ r' xs H Q) (fun ss => match g ss with | some z => some z | none => g' ss) := by
  intro G H xs ss z e l hz Q q
  simp only at hz
  cases e1 : g ss with
  | some w => rw [e1] at hz; exact .inl (h G H xs ss z e l (by rw [e1]; exact hz) Q q)
  | none => rw [e1] at hz; exact .inr (h' G H xs ss z e l hz Q q)
section
variable {X : Cx} {x : Str} {p pos : Pos} {e : Expr} {es : List Expr} {t : TA} {a : AM} {id T : String} {r : List V → Hp → VK → Prop} {g : GN}
theorem se_callB (hc : CallR X (.builtin id) r) (hk : CallOk X.K r g) (hg : Gl X x) (hm : X.mg x = none) (hv : bootBuiltins x = some (.builtin id)) (ha : SA X (e :: es) t a) (hn : x ≠ "__name__" := by decide) (hdb : (x == ("__debug__" : Str)) = false := by decide)
    (he : starEach (e :: es) X.env = (false, eval e X.env) :: starEach es X.env := by rfl) (hpl : (backTo pos (starEach es X.env)).any (·.1) = false := by rfl) : SE X (.Call (.Name x p) (e :: es) [] pos) (tCB r t) (eFn g a) := by
  obtain ⟨h1, h2⟩ := ha
  exact ⟨pe_callB hc hg hm hv h1 hn hdb he hpl, sim_fn hk h2⟩
theorem se_callTy (hc : CallR X (.type T) r) (hk : CallOk X.K r g) (hg : Gl X x) (hm : X.mg x = none) (hv : bootBuiltins x = some (.type T)) (ha : SA X (e :: es) t a) (hn : x ≠ "__name__" := by decide) (hdb : (x == ("__debug__" : Str)) = false := by decide)
    (he : starEach (e :: es) X.env = (false, eval e X.env) :: starEach es X.env := by rfl) (hpl : (backTo pos (starEach es X.env)).any (·.1) = false := by rfl) : SE X (.Call (.Name x p) (e :: es) [] pos) (tCB r t) (eFn g a) := by
  obtain ⟨h1, h2⟩ := ha
  exact ⟨pe_callTy hc hg hm hv h1 hn hdb he hpl, sim_fn hk h2⟩
end
theorem looks1 {K : PySem.W.Frag} {G H : Hp} {s : Sl} {xs : List V} (h : Looks K G H [s] xs) : ∃ x, xs = [x] ∧ Look K G H s x := by
  match xs, h with
  | [x], h => exact ⟨x, rfl, h.1⟩
  | [], h => exact h.elim
  | _ :: _ :: _, h => exact h.2.elim
def one (f : Sl → Option Sl) : GN
  | [s] => f s
  | _ => none
theorem one_inv {f : Sl → Option Sl} {ss : List Sl} {z : Sl} (h : one f ss = some z) : ∃ s, ss = [s] ∧ f s = some z := by
  unfold one at h
  split at h
  · exact ⟨_, rfl, h⟩
  · cases h
/-! len -/
def lenS : Sl → Option Sl
  | .od kvs => some (.fz (.int kvs.length))
  | .fz (.tuple ds) => some (.fz (.int ds.length))
  | .fz (.str x) => if x.length ≤ 100000 then some (.fz (.int x.length)) else none
  | s => match s.l with
    | some ds => some (.fz (.int ds.length))
    | none => none
def rLen2 (K : PySem.W.Frag) : List V → Hp → VK → Prop := fun xs H Q => (∃ a kvs, xs = [V.ref a] ∧ H a = some (.dK kvs) ∧ Q (.int kvs.length) H) ∨ ∃ x n, xs = [x] ∧ LenV K x H n ∧ Q (.int n) H
theorem cr_len {X : Cx} : CallR X (.builtin "len") (rLen2 X.K) := call_lenD.or call_len
theorem ok_len {K : PySem.W.Frag} : CallOk K (rLen2 K) (one lenS) := by
  intro G H xs ss z e l hz0 Q q
  obtain ⟨s, rfl, hz⟩ := one_inv hz0
  obtain ⟨x, rfl, lx⟩ := looks1 l
  unfold lenS at hz
  split at hz
  · cases hz
    obtain ⟨p, ws, rfl, h3, h4⟩ := look_od lx
    exact .inl ⟨p, ws, rfl, h3, by rw [kvp_len h4]; exact ans_fz e (.int _) q⟩
  · cases hz
    obtain ⟨a, vs, rfl, h1, _, h2⟩ := look_tup e lx
    exact .inr ⟨_, vs.length, rfl, .inr ⟨vs, h1, rfl⟩, by rw [dpa_len h2]; exact ans_fz e (.int _) q⟩
  · rename_i y
    split at hz
    · rename_i hl
      cases hz
      have ex := look_str lx
      subst ex
      exact .inr ⟨_, y.length, rfl, ⟨Evl.sz_of hl, rfl⟩, ans_fz e (.int _) q⟩
    · cases hz
  · split at hz
    · rename_i ds hl
      cases hz
      obtain ⟨a, vs, rfl, h1, h2⟩ := look_l e lx hl
      exact .inr ⟨_, vs.length, rfl, .inl ⟨vs, h1, rfl⟩, by rw [dpa_len h2]; exact ans_fz e (.int _) q⟩
    · cases hz
/-! abs, int -/
def absS : Sl → Option Sl
  | .fz (.int i) => some (.fz (.int (if i < 0 then -i else i)))
  | _ => none
theorem ok_abs {K : PySem.W.Frag} : CallOk K (fun xs H Q => ∃ i, xs = [V.int i] ∧ Q (.int (if i < 0 then -i else i)) H) (one absS) := by
  intro G H xs ss z e l hz0 Q q
  obtain ⟨s, rfl, hz⟩ := one_inv hz0
  obtain ⟨x, rfl, lx⟩ := looks1 l
  unfold absS at hz
  split at hz
  · cases hz
    exact ⟨_, by rw [look_int lx], ans_fz e (.int _) q⟩
  · cases hz
def intF : Sl → Option Sl
  | .fz (.int i) => some (.fz (.int i))
  | .fz (.bool b) => some (.fz (.int (if b then 1 else 0)))
  | _ => none
theorem ok_int {K : PySem.W.Frag} : CallOk K (fun xs H Q => (∃ i, xs = [V.int i] ∧ Q (.int i) H) ∨ ∃ k, xs = [V.bl k] ∧ Q (.int (if k then 1 else 0)) H) (one intF) := by
  intro G H xs ss z e l hz0 Q q
  obtain ⟨s, rfl, hz⟩ := one_inv hz0
  obtain ⟨x, rfl, lx⟩ := looks1 l
  unfold intF at hz
  split at hz
  · cases hz
    exact .inl ⟨_, by rw [look_int lx], ans_fz e (.int _) q⟩
  · cases hz
    exact .inr ⟨_, by rw [dp_bool lx], ans_fz e (.int _) q⟩
  · cases hz
/-! list, tuple -/
def seqS : Sl → Option (List D)
  | .fz (.tuple ds) => some ds
  | s => s.l
theorem look_seq {K : PySem.W.Frag} {G H : Hp} {s : Sl} {v : V} {ds : List D} (e : Same G H) (l : Look K G H s v) (h : seqS s = some ds) : ∃ a vs, v = .ref a ∧ (SqL K H a vs ∨ SqT K H a vs) ∧ DpAll K G vs ds := by
  unfold seqS at h
  split at h
  · cases h
    obtain ⟨a, vs, rfl, h1, _, h2⟩ := look_tup e l
    exact ⟨a, vs, rfl, .inr h1, h2⟩
  · obtain ⟨a, vs, rfl, h1, h2⟩ := look_l e l h
    exact ⟨a, vs, rfl, .inl h1, h2⟩
def listF : Sl → Option Sl := fun s => match seqS s with
  | some ds => some (.ow ds)
  | none => none
theorem ok_list {K : PySem.W.Frag} : CallOk K (fun xs H Q => ∃ p ys, xs = [V.ref p] ∧ (SqL K H p ys ∨ SqT K H p ys) ∧ ∀ l, H l = none → Q (.ref l) (upd H l (.lst ys))) (one listF) := by
  intro G H xs ss z e l hz0 Q q
  obtain ⟨s, rfl, hz⟩ := one_inv hz0
  obtain ⟨x, rfl, lx⟩ := looks1 l
  unfold listF at hz
  split at hz
  · rename_i ds hs
    cases hz
    obtain ⟨a, vs, rfl, h1, h2⟩ := look_seq e lx hs
    exact ⟨a, vs, rfl, h1, fun p hp => ans_ow e h2 q hp⟩
  · cases hz
def tupF : Sl → Option Sl := fun s => match seqS s with
  | some ds => some (.fz (.tuple ds))
  | none => none
theorem ok_tupF {K : PySem.W.Frag} : CallOk K (rTupleP K) (one tupF) := by
  intro G H xs ss z e l hz0 Q q
  obtain ⟨s, rfl, hz⟩ := one_inv hz0
  obtain ⟨x, rfl, lx⟩ := looks1 l
  unfold tupF seqS at hz
  split at hz
  · rename_i ds hs
    cases hz
    split at hs
    · cases hs
      obtain ⟨a, vs, rfl, h1, _, h2⟩ := look_tup e lx
      exact ⟨a, vs, rfl, .inr ⟨h1, ans_fz e lx q⟩⟩
    · obtain ⟨a, vs, rfl, h1, h2⟩ := look_l e lx hs
      exact ⟨a, vs, rfl, .inl ⟨h1, ans_tup e h2 q⟩⟩
  · cases hz
/-! all, any -/
def bools : List D → Option (List Bool)
  | [] => some []
  | .bool b :: r => match bools r with
    | some bs => some (b :: bs)
    | none => none
  | _ => none
theorem bools_ok {K : PySem.W.Frag} {G : Hp} : ∀ {vs : List V} {ds : List D} {bs : List Bool}, DpAll K G vs ds → bools ds = some bs → vs = bs.map V.bl
  | _, _, _, .nil, e => by cases e; rfl
  | v :: vs, d :: ds, bs, .cons h t, e => by
    unfold bools at e
    split at e
    · rename_i heq; cases heq
    · rename_i b r heq
      cases heq
      split at e
      · rename_i bs' e2
        cases e
        rw [List.map_cons, ← bools_ok t e2, dp_bool h]
      · cases e
    · cases e
def allF (f : List Bool → Bool) : Sl → Option Sl := fun s => match s.l with
  | some ds => match bools ds with
    | some bs => some (.fz (.bool (f bs)))
    | none => none
  | none => none
theorem ok_allF {K : PySem.W.Frag} {f : List Bool → Bool} : CallOk K (fun vs H Q => ∃ (a : Addr) (bs : List Bool), vs = [V.ref a] ∧ SqL K H a (bs.map V.bl) ∧ Q (.bl (f bs)) H) (one (allF f)) := by
  intro G H xs ss z e l hz0 Q q
  obtain ⟨s, rfl, hz⟩ := one_inv hz0
  obtain ⟨x, rfl, lx⟩ := looks1 l
  unfold allF at hz
  split at hz
  · rename_i ds hs
    split at hz
    · rename_i bs hb
      cases hz
      obtain ⟨a, vs, rfl, h1, h2⟩ := look_l e lx hs
      have e2 := bools_ok h2 hb
      subst e2
      exact ⟨a, bs, rfl, h1, ans_fz e (.bl _) q⟩
    · cases hz
  · cases hz
section
variable {X : Cx} {p pos : Pos} {e : Expr} {t : TA} {a : AM}
theorem se_len (hg : Gl X "len") (hm : X.mg "len" = none) (ha : SA X [e] t a) (he : starEach [e] X.env = (false, eval e X.env) :: starEach [] X.env := by rfl) : SE X (.Call (.Name "len" p) [e] [] pos) (tCB (rLen2 X.K) t) (eFn (one lenS) a) := se_callB cr_len ok_len hg hm PySem.boot_len ha (he := he)
theorem se_abs (hg : Gl X "abs") (hm : X.mg "abs" = none) (ha : SA X [e] t a) (he : starEach [e] X.env = (false, eval e X.env) :: starEach [] X.env := by rfl) : SE X (.Call (.Name "abs" p) [e] [] pos) (tCB (fun xs H Q => ∃ i, xs = [V.int i] ∧ Q (.int (if i < 0 then -i else i)) H) t) (eFn (one absS) a) := se_callB call_abs ok_abs hg hm (by decide +kernel) ha (he := he)
theorem se_intF (hg : Gl X "int") (hm : X.mg "int" = none) (ha : SA X [e] t a) (he : starEach [e] X.env = (false, eval e X.env) :: starEach [] X.env := by rfl) : SE X (.Call (.Name "int" p) [e] [] pos) (tCB (fun xs H Q => (∃ i, xs = [V.int i] ∧ Q (.int i) H) ∨ ∃ k, xs = [V.bl k] ∧ Q (.int (if k then 1 else 0)) H) t) (eFn (one intF) a) := se_callTy call_int1 ok_int hg hm (by decide +kernel) ha (he := he)
theorem se_listF (hg : Gl X "list") (hm : X.mg "list" = none) (ha : SA X [e] t a) (he : starEach [e] X.env = (false, eval e X.env) :: starEach [] X.env := by rfl) : SE X (.Call (.Name "list" p) [e] [] pos) (tCB (fun xs H Q => ∃ p ys, xs = [V.ref p] ∧ (SqL X.K H p ys ∨ SqT X.K H p ys) ∧ ∀ l, H l = none → Q (.ref l) (upd H l (.lst ys))) t) (eFn (one listF) a) := se_callTy call_list_of ok_list hg hm (by decide +kernel) ha (he := he)
theorem se_tupF (hg : Gl X "tuple") (hm : X.mg "tuple" = none) (ha : SA X [e] t a) (he : starEach [e] X.env = (false, eval e X.env) :: starEach [] X.env := by rfl) : SE X (.Call (.Name "tuple" p) [e] [] pos) (tCB (rTupleP X.K) t) (eFn (one tupF) a) := se_callTy call_tupleP ok_tupF hg hm (by decide +kernel) ha (he := he)
theorem se_all (hc : X.calm = true) (hg : Gl X "all") (hm : X.mg "all" = none) (ha : SA X [e] t a) (he : starEach [e] X.env = (false, eval e X.env) :: starEach [] X.env := by rfl) : SE X (.Call (.Name "all" p) [e] [] pos) (tCB (rAll X.K) t) (eFn (one (allF fun bs => bs.all id)) a) := se_callB (cr_all hc) ok_allF hg hm (by decide +kernel) ha (he := he)
theorem se_any (hc : X.calm = true) (hg : Gl X "any") (hm : X.mg "any" = none) (ha : SA X [e] t a) (he : starEach [e] X.env = (false, eval e X.env) :: starEach [] X.env := by rfl) : SE X (.Call (.Name "any" p) [e] [] pos) (tCB (rAny X.K) t) (eFn (one (allF fun bs => bs.any id)) a) := se_callB (cr_any hc) ok_allF hg hm (by decide +kernel) ha (he := he)
end
end Sh

namespace Sh
open PySem PySem.Spec L2

/-! ### a slot's object changes -/
section
variable {K : PySem.W.Frag} {st st' : S} {σ σ' : St} {G G' G'' H H' H'' : Hp} {O O' O'' : Addr → Prop} {s s' : Sl} {v : V} {o : Opd} {i : Nat} {p : Addr}
theorem Rel.mutate {u : HO} (r : Rel K st σ G H) (h1 : st[i]? = some s) (m : s.mt = true) (h2 : σ[i]? = some (some (.ref p))) (hn : G p = none) (b : Bears K G (upd H p u) p s') : Rel K (st.set i s') σ G (upd H p u) := by
  have hm := b.mt
  refine ⟨by rw [List.length_set]; exact r.len, fun j t w e1 e2 => ?_, fun j k t t' q e1 e2 m1 m2 e3 e4 => ?_, fun a x q => ?_⟩
  · rcases set_get e1 with ⟨e, e3⟩ | ⟨e, e3⟩
    · subst e; subst e3
      rw [h2] at e2; cases e2
      exact (slrel_mt hm).mpr ⟨p, rfl, hn, b⟩
    · have q := r.at_ j t w e3 e2
      have mm : t.mt = true → SlRel K G (upd H p u) t w := fun mt => by
        obtain ⟨c, ec, g1, g2⟩ := (slrel_mt mt).mp q
        subst ec
        have nc : c ≠ p := fun z => e (r.inj i j s t p h1 e3 m mt h2 (by rw [← z]; exact e2))
        exact (slrel_mt mt).mpr ⟨c, rfl, g1, g2.mono (Same.refl _) fun x z => by rw [upd_ne nc]; exact z⟩
      cases t with
      | un => trivial
      | fz d => exact q
      | ow xs => exact mm rfl
      | od xs => exact mm rfl
  · rcases set_get e1 with ⟨e, e5⟩ | ⟨e, e5⟩
    · rcases set_get e2 with ⟨e', e6⟩ | ⟨e', e6⟩
      · rw [← e, ← e']
      · subst e
        exact r.inj i k s t' q h1 e6 m m2 e3 e4
    · rcases set_get e2 with ⟨e', e6⟩ | ⟨e', e6⟩
      · subst e'
        exact r.inj j i t s q e5 h1 m1 m e3 e4
      · exact r.inj j k t t' q e5 e6 m1 m2 e3 e4
  · have np : a ≠ p := fun z => by rw [z, hn] at q; cases q
    rw [upd_ne np]
    exact r.ex a x q
theorem own_set_mut (h1 : st[i]? = some s) (m : s.mt = true) (h2 : σ[i]? = some (some (.ref p))) {a : Addr} (h : Own (st.set i s') σ a) : Own st σ a := by
  rcases own_set h with ⟨_, e⟩ | z
  · rw [h2] at e; cases e
    exact ⟨i, s, h1, m, h2⟩
  · exact z
theorem Step.mutate {u : HO} {x : HO} (h : O p) (hp : H p = some x) (hO : ∀ a, O' a → O a) : Step O O' G H G (upd H p u) where
  g := Same.refl _
  keep := fun a y q n => by
    have : a ≠ p := fun z => n (by rw [z]; exact h)
    rw [upd_ne this]; exact q
  own := fun a q => .inl (hO a q)
  new := fun a y q => .inl ⟨y, q⟩
  live := fun a q => by
    by_cases e : a = p
    · subst e; rw [upd_same] at q; cases q
    · rw [upd_ne e] at q; exact q
end
/-- what a method does with its object: the result, the object behind it -/
abbrev MN := Sl → List D → Option (D × Sl)
def MtOk (K : PySem.W.Frag) (r : V → List V → Hp → VK → Prop) (m : MN) : Prop := ∀ (G H : Hp) (p : Addr) (s : Sl) (xs : List V) (ds : List D) (z : D) (s' : Sl), Same G H → G p = none → Bears K G H p s → DpAll K G xs ds → m s ds = some (z, s') → ∀ Q : VK,
  (∀ v u, Dp K G v z → Bears K G (upd H p u) p s' → Q v (upd H p u)) → r (.ref p) xs H Q
def isKind (T : String) : Sl → Bool
  | .ow _ => T == "list"
  | .od _ => T == "dict"
  | _ => false
def eMt (T : String) (i : Nat) (m : MN) (a : AM) : EM := fun st => match st[i]? with
  | some s0 => if isKind T s0 = true then match a st with
    | some (os, st1) => match allFz os with
      | some ds => match st1[i]? with
        | some s => if s.mt = true then match m s ds with
          | some (z, s') => some (.tmp (.fz z), st1.set i s')
          | none => none else none
        | none => none
      | none => none
    | none => none else none
  | none => none
theorem eMt_inv {T : String} {i : Nat} {m : MN} {a : AM} {st st' : S} {o : Opd} (h : eMt T i m a st = some (o, st')) : ∃ s0 os st1 ds s z s', st[i]? = some s0 ∧ isKind T s0 = true ∧ a st = some (os, st1) ∧ allFz os = some ds ∧ st1[i]? = some s ∧ s.mt = true ∧ m s ds = some (z, s') ∧ o = .tmp (.fz z) ∧ st' = st1.set i s' := by
  unfold eMt at h
  split at h
  · rename_i s0 e0
    split at h
    · rename_i hk
      split at h
      · rename_i os st1 e1
        split at h
        · rename_i ds e2
          split at h
          · rename_i s e3
            split at h
            · rename_i hm
              split at h
              · rename_i z s' e4
                cases h
                exact ⟨s0, os, st1, ds, s, z, s', e0, hk, e1, e2, e3, hm, e4, rfl, rfl⟩
              · cases h
            · cases h
          · cases h
        · cases h
      · cases h
    · cases h
  · cases h
theorem kind_ty {K : PySem.W.Frag} {G H : Hp} {T : String} {s : Sl} {p : Addr} (h : isKind T s = true) (b : Bears K G H p s) : tyV K T (.ref p) H := by
  cases s with
  | ow xs =>
    obtain ⟨vs, h1, _⟩ := b
    exact .inl ⟨eq_of_beq h, vs, .inl (.inl h1)⟩
  | od kvs =>
    obtain ⟨ws, h1, _⟩ := b
    exact .inr (.inr (.inl ⟨eq_of_beq h, .inl ⟨ws, h1⟩⟩))
  | _ => cases h
theorem isKind_mt {T : String} {s : Sl} (h : isKind T s = true) : s.mt = true := by
  cases s with
  | ow xs => rfl
  | od kvs => rfl
  | _ => cases h
theorem sim_mt {K : PySem.W.Frag} {T : String} {r : V → List V → Hp → VK → Prop} {m : MN} {i : Nat} {t : TA} {a : AM} (hm : MtOk K r m) (ha : SimA K t a) : SimE K (tBM K T r (tVar i) t) (eMt T i m a) := by
  intro st σ G H o st' rl h Q q
  obtain ⟨s0, os, st1, ds, s, z, s', e0, hk, e1, e2, e3, hmt, e4, rfl, rfl⟩ := eMt_inv h
  obtain ⟨p, hp, hn, hb⟩ := rl.getMt e0 (isKind_mt hk)
  refine ⟨.ref p, hp, kind_ty hk hb, ?_⟩
  refine ha st σ G H os st1 rl e1 _ fun vs G1 H1 r1 s1 o1 => ?_
  obtain ⟨p1, hp1, hn1, hb1⟩ := r1.getMt e3 hmt
  rw [hp] at hp1; cases hp1
  refine hm G1 H1 p s vs ds z s' r1.ex hn1 hb1 (allFz_ok o1 e2) e4 Q fun v u dv b => ?_
  obtain ⟨x, hx⟩ := hb1.live
  exact q v G1 _ (r1.mutate e3 hmt hp hn1 b) (s1.trans (Step.mutate ⟨i, s, e3, hmt, hp⟩ hx fun a z => own_set_mut e3 hmt hp z)) dv
def appM : MN
  | .ow xs, [d] => if xs.length < 100000 then some (.none, .ow (xs ++ [d])) else none
  | _, _ => none
theorem ok_app {K : PySem.W.Frag} : MtOk K rAppend appM := by
  intro G H p s xs ds z s' e hn b hd hm Q q
  unfold appM at hm
  split at hm
  · rename_i ys d
    split at hm
    · rename_i hl
      cases hm
      obtain ⟨vs, h1, h2⟩ := b
      cases hd with
      | cons hx ht =>
        cases ht
        exact ⟨p, vs, _, rfl, rfl, h1, Evl.sz_lt (by rw [dpa_len h2]; exact hl), q _ _ .non ⟨_, upd_same, dpa_app h2 (dpa_one hx)⟩⟩
    · cases hm
  · cases hm
def popM : MN
  | .ow xs, [.int i] => match ixN xs.length i with
    | some k => match xs[k]? with
      | some d => if xs.length ≤ 100000 then some (d, .ow (xs.eraseIdx k)) else none
      | none => none
    | none => none
  | _, _ => none
theorem ok_pop {K : PySem.W.Frag} : MtOk K rPopAt popM := by
  intro G H p s xs ds z s' e hn b hd hm Q q
  unfold popM at hm
  split at hm
  · rename_i ys i
    split at hm
    · rename_i k hk
      split at hm
      · rename_i d hd'
        split at hm
        · rename_i hl
          cases hm
          obtain ⟨vs, h1, h2⟩ := b
          cases hd with
          | cons hx ht =>
            cases ht
            obtain ⟨v, h3, h4⟩ := dpa_get' h2 hd'
            rw [← dpa_len h2] at hk hl
            obtain ⟨h5, h6, h7, h8⟩ := ixN_seq hk
            refine ⟨p, vs, i, k, v, rfl, by rw [dp_int hx], h1, by omega, by omega, h5, h3, q v _ h4 ⟨_, upd_same, dpa_erase k h2⟩⟩
        · cases hm
      · cases hm
    · cases hm
  · cases hm
def pop0M : MN
  | .ow xs, [] => match xs[xs.length - 1]? with
    | some d => some (d, .ow xs.dropLast)
    | none => none
  | _, _ => none
section
variable {X : Cx} {x : Str} {pos apos npos : Pos} {e : Expr} {t : TA} {a : AM} {i : Nat}
theorem se_append (hN : X.N[i]? = some x) (hv : Vis X.env.scope x) (ha : SA X [e] t a) (hd : (x == ("__debug__" : Str)) = false) (hcd : (x == ("__classdict__" : Str)) = false)
    (P : ∀ {ta : TE}, PE X (.Name x npos) ta → PE X (.Call (.Attribute (.Name x npos) "append" apos) [e] [] pos) (tBM X.K "list" rAppend ta t)) :
    SE X (.Call (.Attribute (.Name x npos) "append" apos) [e] [] pos) (tBM X.K "list" rAppend (tVar i) t) (eMt "list" i appM a) := ⟨P (pe_var hN hv hd hcd), sim_mt ok_app ha.sim⟩
end

/-! ### a def's call -/
abbrev FS := List Sl → Option (Sl × List Sl)
def vst (vs : List V) : St := vs.map some
def spOf (K : PySem.W.Frag) (fs : FS) : Sp := fun vs H Q _ => ∃ (as : List Sl) (G : Hp) (z : Sl) (as' : List Sl), Rel K as (vst vs) G H ∧ fs as = some (z, as') ∧
  ∀ v G' H', Rel K as' (vst vs) G' H' → Step (Own as (vst vs)) (Own as' (vst vs)) G H G' H' → VRel K (Own as (vst vs)) H (Own as' (vst vs)) G' H' z v → Q v H'
def argsOf (st : S) : List Opd → Option (List Sl)
  | [] => some []
  | o :: os => match o with
    | .tmp (.fz d) => (argsOf st os).map fun ss => .fz d :: ss
    | .ref i => match st[i]? with
      | some .un => none
      | some s => (argsOf st os).map fun ss => s :: ss
      | none => none
    | _ => none
def refsOf : List Opd → List Nat
  | [] => []
  | .ref i :: os => i :: refsOf os
  | _ :: os => refsOf os
def nodupB : List Nat → Bool
  | [] => true
  | i :: r => !r.contains i && nodupB r
def putBack : List Opd → List Sl → S → S
  | .ref i :: os, s :: ss, st => (putBack os ss st).set i s
  | .tmp _ :: os, _ :: ss, st => putBack os ss st
  | _, _, st => st
theorem putBack_len : ∀ (os : List Opd) (ss : List Sl) (st : S), (putBack os ss st).length = st.length
  | [], _, _ => rfl
  | .ref _ :: _, [], _ => rfl
  | .tmp _ :: _, [], _ => rfl
  | .ref i :: os, s :: ss, st => by
    show ((putBack os ss st).set i s).length = st.length
    rw [List.length_set, putBack_len os ss st]
  | .tmp _ :: os, _ :: ss, st => putBack_len os ss st
theorem putBack_at : ∀ (os : List Opd) (ss : List Sl) (st : S) (j : Nat) (s : Sl), (putBack os ss st)[j]? = some s → (∃ k : Nat, os[k]? = some (Opd.ref j) ∧ ss[k]? = some s) ∨ (st[j]? = some s ∧ ∀ k : Nat, os[k]? = some (Opd.ref j) → ss[k]? = none)
  | [], _, _, _, _, h => .inr ⟨h, fun k e => by simp at e⟩
  | .ref _ :: _, [], _, _, _, h => .inr ⟨h, fun k e => by simp⟩
  | .tmp _ :: _, [], _, _, _, h => .inr ⟨h, fun k e => by simp⟩
  | .ref i :: os, x :: ss, st, j, s, h => by
    rcases set_get (show ((putBack os ss st).set i x)[j]? = some s from h) with ⟨e, e2⟩ | ⟨e, e2⟩
    · exact .inl ⟨0, by rw [e]; rfl, by rw [e2]; rfl⟩
    · rcases putBack_at os ss st j s e2 with ⟨k, h1, h2⟩ | ⟨h1, h2⟩
      · exact .inl ⟨k + 1, h1, h2⟩
      · refine .inr ⟨h1, fun k h3 => ?_⟩
        cases k with
        | zero => simp at h3; exact (e h3).elim
        | succ k => exact h2 k (by simpa using h3)
  | .tmp y :: os, x :: ss, st, j, s, h => by
    rcases putBack_at os ss st j s h with ⟨k, h1, h2⟩ | ⟨h1, h2⟩
    · exact .inl ⟨k + 1, h1, h2⟩
    · refine .inr ⟨h1, fun k h3 => ?_⟩
      cases k with
      | zero => simp at h3
      | succ k => exact h2 k (by simpa using h3)
theorem args_at {K : PySem.W.Frag} {st : S} {σ : St} {O O' : Addr → Prop} {H0 G H : Hp} : ∀ {os : List Opd} {vs : List V} {as : List Sl}, ORels K σ O H0 O' G H os vs → argsOf st os = some as → as.length = vs.length ∧ os.length = vs.length ∧
    ∀ (k : Nat) (s : Sl) (v : V), as[k]? = some s → vs[k]? = some v → (∃ d, os[k]? = some (.tmp (.fz d)) ∧ s = .fz d ∧ Dp K G v d) ∨ ∃ i, os[k]? = some (.ref i) ∧ st[i]? = some s ∧ σ[i]? = some (some v)
  | [], [], _, _, e => by cases e; exact ⟨rfl, rfl, fun k s v h => by simp at h⟩
  | [], _ :: _, _, h, _ => h.elim
  | _ :: _, [], _, h, _ => h.elim
  | o :: os, v :: vs, as, h, e => by
    unfold argsOf at e
    split at e
    · rename_i d
      obtain ⟨ss, e1, rfl⟩ := Option.map_eq_some_iff.mp e
      obtain ⟨h1, h2, h3⟩ := args_at h.2 e1
      refine ⟨by simp [h1], by simp [h2], fun k s w g1 g2 => ?_⟩
      cases k with
      | zero =>
        simp at g1 g2; subst g1; subst g2
        exact .inl ⟨d, rfl, rfl, h.1⟩
      | succ k => exact h3 k s w (by simpa using g1) (by simpa using g2)
    · rename_i i
      split at e
      · cases e
      · rename_i s0 e0
        obtain ⟨ss, e1, rfl⟩ := Option.map_eq_some_iff.mp e
        obtain ⟨h1, h2, h3⟩ := args_at h.2 e1
        refine ⟨by simp [h1], by simp [h2], fun k s w g1 g2 => ?_⟩
        cases k with
        | zero =>
          simp at g1 g2; subst g1; subst g2
          exact .inr ⟨i, rfl, by assumption, h.1⟩
        | succ k => exact h3 k s w (by simpa using g1) (by simpa using g2)
      · cases e
    · cases e
theorem refs_mem : ∀ {os : List Opd} {k i : Nat}, os[k]? = some (Opd.ref i) → i ∈ refsOf os
  | [], k, i, h => by simp at h
  | .ref j :: os, 0, i, h => by simp at h; subst h; exact List.mem_cons_self
  | .ref j :: os, k + 1, i, h => List.mem_cons_of_mem _ (refs_mem (k := k) (by simpa using h))
  | .tmp _ :: os, 0, i, h => by simp at h
  | .tmp _ :: os, k + 1, i, h => refs_mem (os := os) (k := k) (by simpa using h)
theorem refs_inj : ∀ {os : List Opd} {k l i : Nat}, nodupB (refsOf os) = true → os[k]? = some (Opd.ref i) → os[l]? = some (Opd.ref i) → k = l
  | [], k, l, i, _, h, _ => by simp at h
  | .tmp _ :: os, 0, l, i, _, h, _ => by simp at h
  | .tmp _ :: os, _ + 1, 0, i, _, _, h => by simp at h
  | .tmp _ :: os, k + 1, l + 1, i, n, h1, h2 => by rw [refs_inj (os := os) (k := k) (l := l) n (by simpa using h1) (by simpa using h2)]
  | .ref j :: os, 0, 0, i, _, _, _ => rfl
  | .ref j :: os, 0, l + 1, i, n, h1, h2 => by
    simp at h1; subst h1
    have n' : (!(refsOf os).contains j && nodupB (refsOf os)) = true := n
    have := refs_mem (os := os) (k := l) (by simpa using h2)
    simp [this] at n'
  | .ref j :: os, k + 1, 0, i, n, h1, h2 => by
    simp at h2; subst h2
    have n' : (!(refsOf os).contains j && nodupB (refsOf os)) = true := n
    have := refs_mem (os := os) (k := k) (by simpa using h1)
    simp [this] at n'
  | .ref j :: os, k + 1, l + 1, i, n, h1, h2 => by
    have n' : (!(refsOf os).contains j && nodupB (refsOf os)) = true := n
    have n2 := (Bool.and_eq_true_iff.mp n').2
    rw [refs_inj (os := os) (k := k) (l := l) n2 (by simpa using h1) (by simpa using h2)]
theorem vst_get {vs : List V} {k : Nat} {w : Option V} (h : (vst vs)[k]? = some w) : ∃ v, w = some v ∧ vs[k]? = some v := by
  unfold vst at h
  rw [List.getElem?_map] at h
  cases e : vs[k]? with
  | none => rw [e] at h; cases h
  | some v => rw [e] at h; cases h; exact ⟨v, rfl, rfl⟩
theorem vst_at {vs : List V} {k : Nat} {v : V} (h : vs[k]? = some v) : (vst vs)[k]? = some (some v) := by
  unfold vst
  rw [List.getElem?_map, h] <;> rfl
def eCall (fs : FS) (a : AM) : EM := fun st => match a st with
  | some (os, st1) => match argsOf st1 os with
    | some as => if nodupB (refsOf os) = true then match fs as with
      | some (z, as') => some (.tmp z, putBack os as' st1)
      | none => none else none
    | none => none
  | none => none
theorem eCall_inv {fs : FS} {a : AM} {st st' : S} {o : Opd} (h : eCall fs a st = some (o, st')) : ∃ os st1 as z as', a st = some (os, st1) ∧ argsOf st1 os = some as ∧ nodupB (refsOf os) = true ∧ fs as = some (z, as') ∧ o = .tmp z ∧ st' = putBack os as' st1 := by
  unfold eCall at h
  split at h
  · rename_i os st1 e1
    split at h
    · rename_i as e2
      split at h
      · rename_i hn
        split at h
        · rename_i z as' e3
          cases h
          exact ⟨os, st1, as, z, as', e1, e2, hn, e3, rfl, rfl⟩
        · cases h
      · cases h
    · cases h
  · cases h
/-- the callee's world within the caller's -/
theorem call_rel {K : PySem.W.Frag} {st : S} {σ : St} {O0 : Addr → Prop} {H0 G H : Hp} {os : List Opd} {vs : List V} {as : List Sl} (r : Rel K st σ G H) (h : ORels K σ O0 H0 (Own st σ) G H os vs) (e : argsOf st os = some as) (hn : nodupB (refsOf os) = true) :
    Rel K as (vst vs) G H ∧ (∀ a, Own as (vst vs) a → Own st σ a) ∧ ∀ (a : Addr) (j : Nat) (s : Sl), Own as (vst vs) a → st[j]? = some s → s.mt = true → σ[j]? = some (some (.ref a)) → ∃ k, k < vs.length ∧ os[k]? = some (.ref j) := by
  obtain ⟨l1, l2, at_⟩ := args_at h e
  have key : ∀ (k : Nat) (s : Sl) (p : Addr), as[k]? = some s → s.mt = true → (vst vs)[k]? = some (some (.ref p)) → ∃ i, os[k]? = some (.ref i) ∧ st[i]? = some s ∧ σ[i]? = some (some (.ref p)) := fun k s p h1 m h2 => by
    obtain ⟨v, ev, hv⟩ := vst_get h2
    cases ev
    rcases at_ k s _ h1 hv with ⟨d, _, rfl, _⟩ | z
    · cases m
    · exact z
  refine ⟨⟨by unfold vst; rw [l1, List.length_map], fun k s w h1 h2 => ?_, fun k l s s' p h1 h2 m1 m2 h3 h4 => ?_, r.ex⟩, fun a ⟨k, s, h1, m, h2⟩ => ?_, fun a j s ⟨k, s2, h1, m, h2⟩ h3 m3 h4 => ?_⟩
  · obtain ⟨v, rfl, hv⟩ := vst_get h2
    rcases at_ k s v h1 hv with ⟨d, _, rfl, hd⟩ | ⟨i, _, e1, e2⟩
    · exact ⟨v, rfl, hd⟩
    · exact r.at_ i s _ e1 e2
  · obtain ⟨i, g1, g2, g3⟩ := key k s p h1 m1 h3
    obtain ⟨j, g4, g5, g6⟩ := key l s' p h2 m2 h4
    have := r.inj i j s s' p g2 g5 m1 m2 g3 g6
    subst this
    exact refs_inj hn g1 g4
  · obtain ⟨i, g1, g2, g3⟩ := key k s a h1 m h2
    exact ⟨i, s, g2, m, g3⟩
  · obtain ⟨i, g1, g2, g3⟩ := key k s2 a h1 m h2
    have := r.inj i j s2 s a g2 h3 m m3 g3 h4
    subst this
    refine ⟨k, ?_, g1⟩
    obtain ⟨v, _, hv⟩ := vst_get h2
    exact (List.getElem?_eq_some_iff.mp hv).1
theorem call_back {K : PySem.W.Frag} {st : S} {σ : St} {O0 : Addr → Prop} {H0 G H G' H' : Hp} {os : List Opd} {vs : List V} {as as' : List Sl} {z : Sl} {v : V} (r : Rel K st σ G H) (h : ORels K σ O0 H0 (Own st σ) G H os vs) (e : argsOf st os = some as) (hn : nodupB (refsOf os) = true)
    (r' : Rel K as' (vst vs) G' H') (s' : Step (Own as (vst vs)) (Own as' (vst vs)) G H G' H') (vr : VRel K (Own as (vst vs)) H (Own as' (vst vs)) G' H' z v) :
    Rel K (putBack os as' st) σ G' H' ∧ Step (Own st σ) (Own (putBack os as' st) σ) G H G' H' ∧ VRel K (Own st σ) H (Own (putBack os as' st) σ) G' H' z v := by
  obtain ⟨r0, sub, hit⟩ := call_rel r h e hn
  obtain ⟨l1, l2, at_⟩ := args_at h e
  have ll : as'.length = vs.length := by rw [r'.len]; unfold vst; rw [List.length_map]
  have orel : ∀ (k j : Nat), os[k]? = some (.ref j) → k < vs.length → ∃ w, vs[k]? = some w ∧ σ[j]? = some (some w) := fun k j h1 h2 => by
    have hk : k < as.length := by rw [l1]; exact h2
    rcases at_ k as[k] vs[k] (List.getElem?_eq_getElem hk) (List.getElem?_eq_getElem h2) with ⟨d, e1, _⟩ | ⟨i, e1, _, e3⟩
    · rw [h1] at e1; cases e1
    · rw [h1] at e1; cases e1; exact ⟨_, List.getElem?_eq_getElem h2, e3⟩
  have cases' : ∀ (j : Nat) (s : Sl), (putBack os as' st)[j]? = some s → (∃ k w, os[k]? = some (Opd.ref j) ∧ as'[k]? = some s ∧ vs[k]? = some w ∧ σ[j]? = some (some w)) ∨ (st[j]? = some s ∧ ∀ k : Nat, k < vs.length → os[k]? ≠ some (Opd.ref j)) := fun j s hj => by
    rcases putBack_at os as' st j s hj with ⟨k, h1, h2⟩ | ⟨h1, h2⟩
    · have hk : k < vs.length := by rw [← ll]; exact (List.getElem?_eq_some_iff.mp h2).1
      obtain ⟨w, h3, h4⟩ := orel k j h1 hk
      exact .inl ⟨k, w, h1, h2, h3, h4⟩
    · refine .inr ⟨h1, fun k hk he => ?_⟩
      have := h2 k he
      rw [List.getElem?_eq_none_iff] at this
      omega
  -- an object of a slot that was not handed in
  have apart : ∀ (j : Nat) (s : Sl) (p : Addr), st[j]? = some s → s.mt = true → σ[j]? = some (some (.ref p)) → (∀ k : Nat, k < vs.length → os[k]? ≠ some (Opd.ref j)) → ¬ Own as (vst vs) p := fun j s p h1 m h2 h3 o => by
    obtain ⟨k, hk, h4⟩ := hit p j s o h1 m h2
    exact h3 k hk h4
  have own2 : ∀ a, Own (putBack os as' st) σ a → Own as' (vst vs) a ∨ ∃ (j : Nat) (s : Sl), st[j]? = some s ∧ s.mt = true ∧ σ[j]? = some (some (.ref a)) ∧ ∀ k : Nat, k < vs.length → os[k]? ≠ some (Opd.ref j) := fun a ⟨j, s, h1, m, h2⟩ => by
    rcases cases' j s h1 with ⟨k, w, g1, g2, g3, g4⟩ | ⟨g1, g2⟩
    · rw [h2] at g4; cases g4
      exact .inl ⟨k, s, g2, m, vst_at g3⟩
    · exact .inr ⟨j, s, g1, m, h2, g2⟩
  refine ⟨⟨by rw [putBack_len]; exact r.len, fun j s w h1 h2 => ?_, fun i j s t p h1 h2 m1 m2 h3 h4 => ?_, r'.ex⟩, ⟨s'.g, fun a o h1 h2 => s'.keep a o h1 fun z => h2 (sub a z), fun a h1 => ?_, fun a o h1 => (s'.new a o h1).imp id (.imp id (sub a)), s'.live⟩, ?_⟩
  · rcases cases' j s h1 with ⟨k, w', g1, g2, g3, g4⟩ | ⟨g1, g2⟩
    · rw [h2] at g4; cases g4
      exact r'.at_ k s _ g2 (vst_at g3)
    · have q := r.at_ j s w g1 h2
      have mm : s.mt = true → SlRel K G' H' s w := fun m => by
        obtain ⟨p, ep, q1, q2⟩ := (slrel_mt m).mp q
        subst ep
        have no := apart j s p g1 m h2 g2
        refine (slrel_mt m).mpr ⟨p, rfl, ?_, q2.mono s'.g fun o z => s'.keep p o z no⟩
        cases y : G' p with
        | none => rfl
        | some o =>
          rcases s'.new p o y with ⟨u, z⟩ | z | z
          · rw [q1] at z; cases z
          · obtain ⟨u, hu⟩ := q2.live
            rw [z] at hu; cases hu
          · exact (no z).elim
      cases s with
      | un => trivial
      | fz d => obtain ⟨y, ey, q2⟩ := q; exact ⟨y, ey, dp_mono s'.g q2⟩
      | ow xs => exact mm rfl
      | od xs => exact mm rfl
  · -- no two slots, one object
    have one : ∀ (i j : Nat) (s t : Sl), (∃ (k : Nat) (w : V), os[k]? = some (Opd.ref i) ∧ as'[k]? = some s ∧ vs[k]? = some w ∧ σ[i]? = some (some w)) → (st[j]? = some t ∧ ∀ k : Nat, k < vs.length → os[k]? ≠ some (Opd.ref j)) → s.mt = true → t.mt = true → σ[i]? = some (some (.ref p)) → σ[j]? = some (some (.ref p)) → False := by
      rintro i j s t ⟨k, w, g1, g2, g3, g4⟩ ⟨g5, g6⟩ ms mt e1 e2
      rw [e1] at g4; cases g4
      have o' : Own as' (vst vs) p := ⟨k, s, g2, ms, vst_at g3⟩
      rcases s'.own p o' with z | z
      · exact apart j t p g5 mt e2 g6 z
      · obtain ⟨_, u, hu⟩ := r.own ⟨j, t, g5, mt, e2⟩
        rw [z] at hu; cases hu
    rcases cases' i s h1 with ⟨k, w, g1, g2, g3, g4⟩ | g
    · rcases cases' j t h2 with ⟨l, w', g5, g6, g7, g8⟩ | g'
      · rw [h3] at g4; cases g4
        rw [h4] at g8; cases g8
        have := r'.inj k l s t p g2 g6 m1 m2 (vst_at g3) (vst_at g7)
        subst this
        rw [g1] at g5; cases g5; rfl
      · exact (one i j s t ⟨k, w, g1, g2, g3, g4⟩ g' m1 m2 h3 h4).elim
    · rcases cases' j t h2 with g' | g'
      · exact (one j i t s g' g m2 m1 h4 h3).elim
      · exact r.inj i j s t p g.1 g'.1 m1 m2 h3 h4
  · rcases own2 a h1 with z | ⟨j, s, g1, m, g2, _⟩
    · exact (s'.own a z).imp (sub a) id
    · exact .inl ⟨j, s, g1, m, g2⟩
  · have mm : z.mt = true → VRel K (Own st σ) H (Own (putBack os as' st) σ) G' H' z v := fun m => by
      obtain ⟨p, ep, q1, q2, q3, q4⟩ := (vrel_mt m).mp vr
      refine (vrel_mt m).mpr ⟨p, ep, q1, q2, fun o => ?_, q4.imp (sub p) id⟩
      rcases own2 p o with y | ⟨j, s, g1, ms, g2, g3⟩
      · exact q3 y
      · rcases q4 with y | y
        · exact apart j s p g1 ms g2 g3 y
        · obtain ⟨_, u, hu⟩ := r.own ⟨j, s, g1, ms, g2⟩
          rw [y] at hu; cases hu
    cases z with
    | un => exact vr
    | fz d => exact vr
    | ow xs => exact mm rfl
    | od xs => exact mm rfl
theorem sim_call {K : PySem.W.Frag} {fs : FS} {t : TA} {a : AM} {E : XK} (ha : SimA K t a) : SimE K (tCall (spOf K fs) [] E t) (eCall fs a) := by
  intro st σ G H o st' rl h Q q
  obtain ⟨os, st1, as, z, as', e1, e2, hn, e3, rfl, rfl⟩ := eCall_inv h
  refine ha st σ G H os st1 rl e1 _ fun vs G1 H1 r1 s1 o1 => ?_
  obtain ⟨r0, _, _⟩ := call_rel r1 o1 e2 hn
  show spOf K fs (vs ++ []) H1 Q E
  rw [List.append_nil]
  refine ⟨as, G1, z, as', r0, e3, fun v G2 H2 r2 s2 v2 => ?_⟩
  obtain ⟨a1, a2, a3⟩ := call_back r1 o1 e2 hn r2 s2 v2
  exact q v G2 H2 a1 (s1.trans a2) (VRel.back a3 s1)
section
variable {X : Cx} {k : Nat} {f : Addr} {fd : FuncData} {ps : List Str} {fs : FS} {x : Str} {p pos : Pos} {e : Expr} {es : List Expr} {t : TA} {a : AM}
theorem se_call (F : FnOk X.prog X.w X.K X.mg X.base CX0 k f fd ps (spOf X.K fs)) (hr : Room k X.A) (hg : Gl X x) (hm : X.mg x = some (.ref f)) (hk : PySem.W.keepIn X.K (.ref f) = true) (hb : Binds X.K fd ps []) 
    (ha : SA X (e :: es) t a) (hdb : (x == ("__debug__" : Str)) = false := by decide) (he : starEach (e :: es) X.env = (false, eval e X.env) :: starEach es X.env := by rfl) (hpl : (backTo pos (starEach es X.env)).any (·.1) = false := by rfl) :
    SE X (.Call (.Name x p) (e :: es) [] pos) (tCall (spOf X.K fs) [] E0 t) (eCall fs a) :=
  ⟨pe_call F hr hg hm hk hb .nil pass0 ha.pe hdb he hpl, sim_call ha.sim⟩
end
end Sh

namespace Sh
open PySem PySem.Spec L2

/-! ### what is walked -/
abbrev IM := S → Option (List D × S)
structure Yields (K : PySem.W.Frag) (J : It) (G0 : Hp) (ds : List D) : Prop where
  item : ∀ (i : Nat) (d : D), ds[i]? = some d → ∀ G H, Same G0 G → Same G H → J.go i H ∧ ∀ v H', J.yld i H v H' → ∃ G', Ext G H G' H' ∧ Dp K G' v d
  stop : ∀ G H, Same G0 G → Same G H → J.stop ds.length H
def SimI (K : PySem.W.Frag) (t : TI) (f : IM) : Prop := ∀ (st : S) (σ : St) (G H : Hp) (ds : List D) (st' : S), Rel K st σ G H → f st = some (ds, st') → ∀ R : It → Hp → Prop,
  (∀ J G' H', Rel K st' σ G' H' → Step (Own st σ) (Own st' σ) G H G' H' → Yields K J G' ds → R J H') → t σ H R
structure SI (X : Cx) (tg e : Expr) (t : TI) (f : IM) : Prop where
  pe : PI X tg e t
  sim : SimI X.K t f
theorem pi_or {X : Cx} {tg e : Expr} {t u : TI} (h : PI X tg e t) (h' : PI X tg e u) : PI X tg e (fun σ H R => t σ H R ∨ u σ H R) :=
  ⟨fun pins s σ H R I q => q.elim (h.run pins s σ H R I) (h'.run pins s σ H R I)⟩
def chars (x : Str) : List D := x.cps.toList.map fun c => .str ⟨#[c]⟩
/-- a list, a tuple or a text, from the first to the last -/
def iSeq (a : EM) : IM := fun st => match eFrz a st with
  | some (.tmp (.fz (.list ds)), st1) => some (ds, st1)
  | some (.tmp (.fz (.tuple ds)), st1) => some (ds, st1)
  | some (.tmp (.fz (.str x)), st1) => some (chars x, st1)
  | _ => none
theorem yields_list {K : PySem.W.Frag} {G0 : Hp} {a : Addr} {vs : List V} {ds : List D} (h : SqL K G0 a vs) (hd : DpAll K G0 vs ds) : Yields K (Itl K a) G0 ds := by
  refine ⟨fun i d e G H g1 g2 => ?_, fun G H g1 g2 => ⟨vs, (g1.trans g2).seq h, by rw [dpa_len hd]; exact Nat.le_refl _⟩⟩
  obtain ⟨v, h1, h2⟩ := dpa_get' hd e
  refine ⟨⟨vs, v, (g1.trans g2).seq h, h1⟩, fun w H' ⟨e1, e2⟩ => ?_⟩
  subst e1
  have := e2 vs ((g1.trans g2).seq h)
  rw [h1] at this; cases this
  exact ⟨G, Ext.refl g2, dp_mono g1 h2⟩
theorem yields_tup {K : PySem.W.Frag} {G0 : Hp} {a : Addr} {vs : List V} {ds : List D} (h : SqT K G0 a vs) (hd : DpAll K G0 vs ds) : Yields K (Itt K a) G0 ds := by
  refine ⟨fun i d e G H g1 g2 => ?_, fun G H g1 g2 => ⟨vs, Evl.ex_t (g1.trans g2) h, by rw [dpa_len hd]; exact Nat.le_refl _⟩⟩
  obtain ⟨v, h1, h2⟩ := dpa_get' hd e
  refine ⟨⟨vs, v, Evl.ex_t (g1.trans g2) h, h1⟩, fun w H' ⟨e1, e2⟩ => ?_⟩
  subst e1
  have := e2 vs (Evl.ex_t (g1.trans g2) h)
  rw [h1] at this; cases this
  exact ⟨G, Ext.refl g2, dp_mono g1 h2⟩
theorem yields_str {K : PySem.W.Frag} {G0 : Hp} {x : Str} : Yields K (Its x) G0 (chars x) := by
  have hl : (chars x).length = x.cps.size := by unfold chars; simp
  refine ⟨fun i d e G H g1 g2 => ?_, fun G H g1 g2 => by show x.cps.size ≤ (chars x).length; rw [hl]; exact Nat.le_refl _⟩
  have hi : i < x.cps.size := by rw [← hl]; exact (List.getElem?_eq_some_iff.mp e).1
  refine ⟨hi, fun w H' ⟨e1, c, e2, e3⟩ => ?_⟩
  subst e1; subst e3
  unfold chars at e
  rw [List.getElem?_map, Array.getElem?_toList, e2] at e
  cases e
  exact ⟨G, Ext.refl g2, .str _⟩
theorem sim_seq {K : PySem.W.Frag} {t : TE} {a : EM} (ha : SimE K t a) : SimI K (fun σ H R => iList K t σ H R ∨ (fun σ H R => iTup K t σ H R ∨ iStr t σ H R) σ H R) (iSeq a) := by
  intro st σ G H ds st' r h R q
  have hf := sim_frz ha
  unfold iSeq at h
  split at h
  · rename_i ds' st1 e1
    cases h
    refine .inl (hf st σ G H _ _ r e1 _ fun v G1 H1 r1 s1 o1 => ?_)
    obtain ⟨b, vs, rfl, h1, h2⟩ := dp_list o1
    exact ⟨b, rfl, ⟨vs, r1.ex.seq h1⟩, q _ G1 H1 r1 s1 (yields_list h1 h2)⟩
  · rename_i ds' st1 e1
    cases h
    refine .inr (.inl (hf st σ G H _ _ r e1 _ fun v G1 H1 r1 s1 o1 => ?_))
    obtain ⟨b, vs, rfl, h1, h2⟩ := dp_tuple o1
    exact ⟨b, rfl, ⟨vs, Evl.ex_t r1.ex h1⟩, q _ G1 H1 r1 s1 (yields_tup h1 h2)⟩
  · rename_i x st1 e1
    cases h
    refine .inr (.inr (hf st σ G H _ _ r e1 _ fun v G1 H1 r1 s1 o1 => ?_))
    exact ⟨x, dp_str o1, q _ G1 H1 r1 s1 yields_str⟩
  · cases h
theorem si_seq {X : Cx} {tg e : Expr} {t : TE} {a : EM} (ha : SE X e t a) : SI X tg e (fun σ H R => iList X.K t σ H R ∨ (fun σ H R => iTup X.K t σ H R ∨ iStr t σ H R) σ H R) (iSeq a) :=
  ⟨pi_or (pi_list ha.pe) (pi_or (pi_tup ha.pe) (pi_str ha.pe)), sim_seq ha.sim⟩
/-! range -/
def intsD (lo : Int) (n : Nat) : List D := (List.range n).map fun (i : Nat) => .int (lo + (i : Int))
theorem ints_get {lo : Int} {n i : Nat} {d : D} (h : (intsD lo n)[i]? = some d) : i < n ∧ d = .int (lo + (i : Int)) := by
  unfold intsD at h
  rw [List.getElem?_map] at h
  by_cases hi : i < n
  · rw [List.getElem?_range hi] at h; cases h; exact ⟨hi, rfl⟩
  · rw [List.getElem?_eq_none (by simpa using hi)] at h; cases h
theorem yields_range {K : PySem.W.Frag} {G0 : Hp} {lo : Int} {n : Nat} : Yields K (Itr lo n) G0 (intsD lo n) := by
  refine ⟨fun i d e G H g1 g2 => ?_, fun G H g1 g2 => by show n ≤ (intsD lo n).length; unfold intsD; simp⟩
  obtain ⟨hi, rfl⟩ := ints_get e
  refine ⟨hi, fun w H' ⟨e1, e2⟩ => ?_⟩
  subst e1; subst e2
  exact ⟨G, Ext.refl g2, .int _⟩
def iRng1' (a : AM) : IM := fun st => match a st with
  | some ([.tmp (.fz (.int j))], st1) => if j ≤ 100000 ∧ -100000 ≤ j then some (intsD 0 j.toNat, st1) else none
  | _ => none
def iRng2' (a : AM) : IM := fun st => match a st with
  | some ([.tmp (.fz (.int i)), .tmp (.fz (.int j))], st1) => if (j ≤ 100000 ∧ -100000 ≤ j) ∧ (i ≤ 100000 ∧ -100000 ≤ i) then some (intsD i (j - i).toNat, st1) else none
  | _ => none
theorem orels1 {K : PySem.W.Frag} {σ : St} {O O' : Addr → Prop} {H G' H' : Hp} {o : Opd} {vs : List V} (h : ORels K σ O H O' G' H' [o] vs) : ∃ v, vs = [v] ∧ ORel K σ O H O' G' H' o v := by
  match vs, h with
  | [v], h => exact ⟨v, rfl, h.1⟩
  | [], h => exact h.elim
  | _ :: _ :: _, h => exact h.2.elim
theorem orels2 {K : PySem.W.Frag} {σ : St} {O O' : Addr → Prop} {H G' H' : Hp} {o o2 : Opd} {vs : List V} (h : ORels K σ O H O' G' H' [o, o2] vs) : ∃ v w, vs = [v, w] ∧ ORel K σ O H O' G' H' o v ∧ ORel K σ O H O' G' H' o2 w := by
  match vs, h with
  | [v, w], h => exact ⟨v, w, rfl, h.1, h.2.1⟩
  | [], h => exact h.elim
  | [_], h => exact h.2.elim
  | _ :: _ :: _ :: _, h => exact h.2.2.elim
theorem sim_rng1 {K : PySem.W.Frag} {t : TA} {a : AM} (ha : SimA K t a) : SimI K (iRng1 t) (iRng1' a) := by
  intro st σ G H ds st' r h R q
  unfold iRng1' at h
  split at h
  · rename_i j st1 e1
    split at h
    · rename_i hj
      cases h
      refine ha st σ G H _ _ r e1 _ fun vs G1 H1 r1 s1 o1 => ?_
      obtain ⟨v, rfl, p1⟩ := orels1 o1
      exact ⟨j, by rw [dp_int p1], by omega, by omega, q _ G1 H1 r1 s1 yields_range⟩
    · cases h
  · cases h
theorem sim_rng2 {K : PySem.W.Frag} {t : TA} {a : AM} (ha : SimA K t a) : SimI K (iRng2 t) (iRng2' a) := by
  intro st σ G H ds st' r h R q
  unfold iRng2' at h
  split at h
  · rename_i i j st1 e1
    split at h
    · rename_i hj
      cases h
      refine ha st σ G H _ _ r e1 _ fun vs G1 H1 r1 s1 o1 => ?_
      obtain ⟨v, w, rfl, p1, p2⟩ := orels2 o1
      exact ⟨i, j, by rw [dp_int p1, dp_int p2], ⟨by omega, by omega, by omega, by omega⟩, q _ G1 H1 r1 s1 yields_range⟩
    · cases h
  · cases h
section
variable {X : Cx} {tg a b : Expr} {t : TA} {m : AM} {p pos : Pos}
theorem si_rng1 (hg : Gl X "range") (hm : X.mg "range" = none) (ha : SA X [a] t m) (hs : starEach [a] X.env = [(false, eval a X.env)] := by rfl) : SI X tg (.Call (.Name "range" p) [a] [] pos) (iRng1 t) (iRng1' m) := ⟨pi_range1 hg hm ha.pe hs, sim_rng1 ha.sim⟩
theorem si_rng2 (hg : Gl X "range") (hm : X.mg "range" = none) (ha : SA X [a, b] t m) (hs : starEach [a, b] X.env = [(false, eval a X.env), (false, eval b X.env)] := by rfl) (hs2 : starEach [b] X.env = [(false, eval b X.env)] := by rfl) :
    SI X tg (.Call (.Name "range" p) [a, b] [] pos) (iRng2 t) (iRng2' m) := ⟨pi_range2 hg hm ha.pe hs hs2, sim_rng2 ha.sim⟩
end
/-! zip, enumerate: their arguments are frozen -/
def zipD : List D → List D → List D
  | a :: r, b :: s => .dict [(a, b)] :: zipD r s
  | _, _ => []
theorem zipD_get : ∀ {xs ys : List D} {i : Nat} {d : D}, (zipD xs ys)[i]? = some d → ∃ a b, xs[i]? = some a ∧ ys[i]? = some b ∧ d = .dict [(a, b)]
  | [], _, i, d, h => by simp [zipD] at h
  | _ :: _, [], i, d, h => by simp [zipD] at h
  | a :: r, b :: s, 0, d, h => by
    simp [zipD] at h
    exact ⟨a, b, rfl, rfl, h.symm⟩
  | a :: r, b :: s, i + 1, d, h => by
    obtain ⟨x, y, h1, h2, h3⟩ := zipD_get (xs := r) (ys := s) (i := i) (d := d) (by simpa [zipD] using h)
    exact ⟨x, y, by simpa using h1, by simpa using h2, h3⟩
theorem zipD_len : ∀ (xs ys : List D), (zipD xs ys).length = min xs.length ys.length
  | [], _ => by simp [zipD]
  | _ :: _, [] => by simp [zipD]
  | a :: r, b :: s => by
    show (zipD r s).length + 1 = _
    rw [zipD_len r s, List.length_cons, List.length_cons]
    omega
def iZip' (a : AM) : IM := fun st => match a st with
  | some ([.tmp (.fz (.list xs)), .tmp (.fz (.list ys))], st1) => some (zipD xs ys, st1)
  | some ([.tmp (.fz (.tuple xs)), .tmp (.fz (.tuple ys))], st1) => some (zipD xs ys, st1)
  | _ => none
theorem pair_ext {K : PySem.W.Frag} {G H : Hp} {T : Addr} {v w : V} {d e : D} (g : Same G H) (hT : H T = none) (h1 : Dp K G v d) (h2 : Dp K G w e) : ∃ G', Ext G H G' (upd H T (.tup [v, w])) ∧ Dp K G' (.ref T) (.dict [(d, e)]) := by
  have x := Ext.frozen (o := HO.tup [v, w]) g hT
  exact ⟨_, x, .pr (.inl (.inl upd_same)) (dp_mono x.g h1) (dp_mono x.g h2)⟩
theorem dable_key {d e : D} (h : dab1 d = false) : dable [d, e] = false := by
  unfold dable
  rw [List.all_cons, h]
  rfl
theorem pair_extK {K : PySem.W.Frag} {G H : Hp} {T : Addr} {v w : V} {d e : D} (g : Same G H) (hT : H T = none) (h1 : Dp K G v d) (h2 : Dp K G w e) (nd : dab1 d = false) : ∃ G', Ext G H G' (upd H T (.tup [v, w])) ∧ Dp K G' (.ref T) (.tuple [d, e]) := by
  have x := Ext.frozen (o := HO.tup [v, w]) g hT
  exact ⟨_, x, .tup (.inl (.inl upd_same)) (.cons (dp_mono x.g h1) (.cons (dp_mono x.g h2) .nil)) fun z => by rw [dable_key nd] at z; cases z⟩
theorem yields_zip {K : PySem.W.Frag} {G0 : Hp} {a b : Addr} {vs ws : List V} {xs ys : List D} (h : SqL K G0 a vs) (hd : DpAll K G0 vs xs) (h' : SqL K G0 b ws) (hd' : DpAll K G0 ws ys) : Yields K (Itz K a b) G0 (zipD xs ys) := by
  refine ⟨fun i d e G H g1 g2 => ?_, fun G H g1 g2 => ⟨vs, ws, (g1.trans g2).seq h, (g1.trans g2).seq h', ?_⟩⟩
  · obtain ⟨x, y, e1, e2, rfl⟩ := zipD_get e
    obtain ⟨v, h1, h2⟩ := dpa_get' hd e1
    obtain ⟨w, h3, h4⟩ := dpa_get' hd' e2
    refine ⟨⟨vs, ws, v, w, (g1.trans g2).seq h, (g1.trans g2).seq h', h1, h3⟩, fun z H' ⟨T, v', w', e1, e2, e3, e4, e5⟩ => ?_⟩
    subst e1; subst e3
    have q1 := e4 vs ((g1.trans g2).seq h)
    have q2 := e5 ws ((g1.trans g2).seq h')
    rw [h1] at q1; cases q1
    rw [h3] at q2; cases q2
    exact pair_ext g2 e2 (dp_mono g1 h2) (dp_mono g1 h4)
  · rw [zipD_len, dpa_len hd, dpa_len hd']
    omega
theorem yields_zipT {K : PySem.W.Frag} {G0 : Hp} {a b : Addr} {vs ws : List V} {xs ys : List D} (h : SqT K G0 a vs) (hd : DpAll K G0 vs xs) (h' : SqT K G0 b ws) (hd' : DpAll K G0 ws ys) : Yields K (RZ.ItzT K a b) G0 (zipD xs ys) := by
  refine ⟨fun i d e G H g1 g2 => ?_, fun G H g1 g2 => ⟨vs, ws, Evl.ex_t (g1.trans g2) h, Evl.ex_t (g1.trans g2) h', ?_⟩⟩
  · obtain ⟨x, y, e1, e2, rfl⟩ := zipD_get e
    obtain ⟨v, h1, h2⟩ := dpa_get' hd e1
    obtain ⟨w, h3, h4⟩ := dpa_get' hd' e2
    refine ⟨⟨vs, ws, v, w, Evl.ex_t (g1.trans g2) h, Evl.ex_t (g1.trans g2) h', h1, h3⟩, fun z H' ⟨T, v', w', e1, e2, e3, e4, e5⟩ => ?_⟩
    subst e1; subst e3
    have q1 := e4 vs (Evl.ex_t (g1.trans g2) h)
    have q2 := e5 ws (Evl.ex_t (g1.trans g2) h')
    rw [h1] at q1; cases q1
    rw [h3] at q2; cases q2
    exact pair_ext g2 e2 (dp_mono g1 h2) (dp_mono g1 h4)
  · rw [zipD_len, dpa_len hd, dpa_len hd']
    omega
theorem sim_zip {K : PySem.W.Frag} {t : TA} {a : AM} (ha : SimA K t a) : SimI K (RZ.iZipA K t) (iZip' a) := by
  intro st σ G H ds st' r h R q
  unfold iZip' at h
  split at h
  · rename_i xs ys st1 e1
    cases h
    refine ha st σ G H _ _ r e1 _ fun vs G1 H1 r1 s1 o1 => ?_
    obtain ⟨v, w, rfl, p1, p2⟩ := orels2 o1
    obtain ⟨b, us, rfl, h1, h2⟩ := dp_list p1
    obtain ⟨c, ws, rfl, h3, h4⟩ := dp_list p2
    exact ⟨b, c, us, ws, rfl, .inl ⟨r1.ex.seq h1, r1.ex.seq h3, q _ G1 H1 r1 s1 (yields_zip h1 h2 h3 h4)⟩⟩
  · rename_i xs ys st1 e1
    cases h
    refine ha st σ G H _ _ r e1 _ fun vs G1 H1 r1 s1 o1 => ?_
    obtain ⟨v, w, rfl, p1, p2⟩ := orels2 o1
    obtain ⟨b, us, rfl, h1, h2⟩ := dp_tuple p1
    obtain ⟨c, ws, rfl, h3, h4⟩ := dp_tuple p2
    exact ⟨b, c, us, ws, rfl, .inr ⟨Evl.ex_t r1.ex h1, Evl.ex_t r1.ex h3, q _ G1 H1 r1 s1 (yields_zipT h1 h2 h3 h4)⟩⟩
  · cases h
def enumD : Nat → List D → List D
  | _, [] => []
  | i, d :: r => .tuple [.int (i : Int), d] :: enumD (i + 1) r
theorem enumD_len : ∀ (k : Nat) (xs : List D), (enumD k xs).length = xs.length
  | _, [] => rfl
  | k, d :: r => by
    show (enumD (k + 1) r).length + 1 = r.length + 1
    rw [enumD_len (k + 1) r]
theorem enumD_get : ∀ {k : Nat} {xs : List D} {i : Nat} {d : D}, (enumD k xs)[i]? = some d → ∃ a, xs[i]? = some a ∧ d = .tuple [.int ((k + i : Nat) : Int), a]
  | k, [], i, d, h => by simp [enumD] at h
  | k, a :: r, 0, d, h => by
    simp [enumD] at h
    exact ⟨a, rfl, h.symm⟩
  | k, a :: r, i + 1, d, h => by
    obtain ⟨x, h1, h2⟩ := enumD_get (k := k + 1) (xs := r) (i := i) (d := d) (by simpa [enumD] using h)
    refine ⟨x, by simpa using h1, ?_⟩
    rw [h2, show k + 1 + i = k + (i + 1) by omega]
def iEnum' (a : AM) : IM := fun st => match a st with
  | some ([.tmp (.fz (.list xs))], st1) => some (enumD 0 xs, st1)
  | _ => none
theorem yields_enum {K : PySem.W.Frag} {G0 : Hp} {a : Addr} {vs : List V} {xs : List D} (h : SqL K G0 a vs) (hd : DpAll K G0 vs xs) : Yields K (Ite K a) G0 (enumD 0 xs) := by
  refine ⟨fun i d e G H g1 g2 => ?_, fun G H g1 g2 => ⟨vs, (g1.trans g2).seq h, by rw [enumD_len, dpa_len hd]; exact Nat.le_refl _⟩⟩
  obtain ⟨x, e1, rfl⟩ := enumD_get e
  obtain ⟨v, h1, h2⟩ := dpa_get' hd e1
  refine ⟨⟨vs, v, (g1.trans g2).seq h, h1⟩, fun z H' ⟨T, v', e1, e2, e3, e4⟩ => ?_⟩
  subst e1; subst e3
  have q1 := e4 vs ((g1.trans g2).seq h)
  rw [h1] at q1; cases q1
  rw [Nat.zero_add]
  exact pair_extK g2 e2 (.int _) (dp_mono g1 h2) rfl
theorem sim_enum {K : PySem.W.Frag} {t : TA} {a : AM} (ha : SimA K t a) : SimI K (iEnum K t) (iEnum' a) := by
  intro st σ G H ds st' r h R q
  unfold iEnum' at h
  split at h
  · rename_i xs st1 e1
    cases h
    refine ha st σ G H _ _ r e1 _ fun vs G1 H1 r1 s1 o1 => ?_
    obtain ⟨v, rfl, p1⟩ := orels1 o1
    obtain ⟨b, us, rfl, h1, h2⟩ := dp_list p1
    exact ⟨b, us, rfl, r1.ex.seq h1, q _ G1 H1 r1 s1 (yields_enum h1 h2)⟩
  · cases h
section
variable {X : Cx} {a b : Expr} {t : TA} {m : AM} {p pos tpos : Pos} {elts : List Expr} {kk : Nat}
theorem si_zip (hg : Gl X "zip") (hm : X.mg "zip" = none) (ha : SA X [a, b] t m) (hs : starEach [a, b] X.env = (false, eval a X.env) :: starEach [b] X.env := by rfl) (hpl : (backTo pos (starEach [b] X.env)).any (·.1) = false := by rfl) :
    SI X (.Tuple elts kk tpos) (.Call (.Name "zip" p) [a, b] [] pos) (RZ.iZipA X.K t) (iZip' m) := ⟨RZ.pi_zipA hg hm ha.pe hs hpl, sim_zip ha.sim⟩
theorem si_enum (hg : Gl X "enumerate") (hm : X.mg "enumerate" = none) (ha : SA X [a] t m) (hs : starEach [a] X.env = [(false, eval a X.env)] := by rfl) :
    SI X (.Tuple elts kk tpos) (.Call (.Name "enumerate" p) [a] [] pos) (iEnum X.K t) (iEnum' m) := ⟨pi_enum hg hm ha.pe hs, sim_enum ha.sim⟩
end

/-! ### targets -/
def Kp (A : Nat → Bool) (σ σ' : St) : Prop := σ'.length = σ.length ∧ ∀ i : Nat, A i = false → σ'[i]? = σ[i]?
theorem Kp.refl {A : Nat → Bool} {σ : St} : Kp A σ σ := ⟨rfl, fun _ _ => rfl⟩
theorem Kp.trans {A : Nat → Bool} {σ σ1 σ2 : St} (a : Kp A σ σ1) (b : Kp A σ1 σ2) : Kp A σ σ2 := ⟨b.1.trans a.1, fun i h => (b.2 i h).trans (a.2 i h)⟩
abbrev GM := D → S → Option S
def SimG (K : PySem.W.Frag) (A : Nat → Bool) (g : TG) (f : GM) : Prop := ∀ (st : S) (σ : St) (G H : Hp) (v : V) (d : D) (st' : S), Rel K st σ G H → Dp K G v d → f d st = some st' → ∀ Q : St → Hp → Prop,
  (∀ σ', Rel K st' σ' G H → (∀ a, Own st' σ' a → Own st σ a) → Kp A σ σ' → Q σ' H) → g v σ H Q
structure SG (X : Cx) (A : Nat → Bool) (tg : Expr) (g : TG) (f : GM) : Prop where
  pe : PG X tg g
  sim : SimG X.K A g f
abbrev GMs := List D → S → Option S
def SimGs (K : PySem.W.Frag) (A : Nat → Bool) (g : TGs) (f : GMs) : Prop := ∀ (st : S) (σ : St) (G H : Hp) (vs : List V) (ds : List D) (st' : S), Rel K st σ G H → DpAll K G vs ds → f ds st = some st' → ∀ Q : St → Hp → Prop,
  (∀ σ', Rel K st' σ' G H → (∀ a, Own st' σ' a → Own st σ a) → Kp A σ σ' → Q σ' H) → g vs σ H Q
structure SGs (X : Cx) (A : Nat → Bool) (tgs : List Expr) (g : TGs) (f : GMs) : Prop where
  pe : PGs X tgs g
  sim : SimGs X.K A g f
section
variable {K : PySem.W.Frag} {st st' : S} {σ σ' : St} {G G' G'' H H' H'' : Hp} {O O' O'' : Addr → Prop} {s s' : Sl} {v : V} {i : Nat} {A : Nat → Bool}
theorem set_get' {α : Type} {l : List α} {i j : Nat} {x : α} (e : i ≠ j) : (l.set i x)[j]? = l[j]? := List.getElem?_set_ne e
/-- the name in slot i is bound anew -/
theorem Rel.assign {O0 : Addr → Prop} {H0 : Hp} (r : Rel K st σ G H) (h : VRel K O0 H0 (Own st σ) G H s v) : Rel K (st.set i s) (σ.set i (some v)) G H := by
  have old : ∀ (j : Nat) (t : Sl) (w : Option V), i ≠ j → (st.set i s)[j]? = some t → (σ.set i (some v))[j]? = some w → st[j]? = some t ∧ σ[j]? = some w := fun j t w e h1 h2 => by
    rw [set_get' e] at h1 h2; exact ⟨h1, h2⟩
  have new : ∀ (t : Sl) (w : Option V), (st.set i s)[i]? = some t → (σ.set i (some v))[i]? = some w → t = s ∧ w = some v := fun t w h1 h2 => by
    rcases set_get h1 with ⟨_, e⟩ | ⟨e, _⟩
    · rcases set_get h2 with ⟨_, e2⟩ | ⟨e2, _⟩
      · exact ⟨e, e2⟩
      · exact (e2 rfl).elim
    · exact (e rfl).elim
  refine ⟨by rw [List.length_set, List.length_set]; exact r.len, fun j t w h1 h2 => ?_, fun j k t t' p h1 h2 m1 m2 h3 h4 => ?_, r.ex⟩
  · by_cases e : i = j
    · subst e
      obtain ⟨e1, e2⟩ := new t w h1 h2
      subst e1; subst e2
      cases t with
      | un => exact h.elim
      | fz d => exact ⟨v, rfl, h⟩
      | ow xs => obtain ⟨p, e, h5, h6, _⟩ := h; exact ⟨p, by rw [e], h5, h6⟩
      | od xs => obtain ⟨p, e, h5, h6, _⟩ := h; exact ⟨p, by rw [e], h5, h6⟩
    · obtain ⟨e1, e2⟩ := old j t w e h1 h2
      exact r.at_ j t w e1 e2
  · by_cases e : i = j
    · subst e
      obtain ⟨e1, e2⟩ := new t _ h1 h3
      subst e1
      by_cases e' : i = k
      · exact e'
      · obtain ⟨e5, e6⟩ := old k t' _ e' h2 h4
        obtain ⟨q, eq, _, _, no, _⟩ := (vrel_mt m1).mp h
        rw [eq] at e2
        cases e2
        exact (no ⟨k, t', e5, m2, e6⟩).elim
    · obtain ⟨e1, e2⟩ := old j t _ e h1 h3
      by_cases e' : i = k
      · subst e'
        obtain ⟨e5, e6⟩ := new t' _ h2 h4
        subst e5
        obtain ⟨q, eq, _, _, no, _⟩ := (vrel_mt m2).mp h
        rw [eq] at e6
        cases e6
        exact (no ⟨j, t, e1, m1, e2⟩).elim
      · obtain ⟨e5, e6⟩ := old k t' _ e' h2 h4
        exact r.inj j k t t' p e1 e5 m1 m2 e2 e6
theorem own_assign {a : Addr} (h : Own (st.set i s) (σ.set i (some v)) a) : (s.mt = true ∧ v = .ref a) ∨ Own st σ a := by
  obtain ⟨j, t, h1, m, h2⟩ := h
  by_cases e : i = j
  · subst e
    rcases set_get h1 with ⟨_, e⟩ | ⟨e, _⟩
    · rcases set_get h2 with ⟨_, e2⟩ | ⟨e2, _⟩
      · subst e
        cases e2
        exact .inl ⟨m, rfl⟩
      · exact (e2 rfl).elim
    · exact (e rfl).elim
  · rw [set_get' e] at h1 h2
    exact .inr ⟨j, t, h1, m, h2⟩
theorem own_assign_fz {a : Addr} (hs : s.mt = false) (h : Own (st.set i s) (σ.set i (some v)) a) : Own st σ a := by
  rcases own_assign h with ⟨m, _⟩ | z
  · rw [hs] at m; cases m
  · exact z
theorem kp_set {x : Option V} (h : A i = true) : Kp A σ (σ.set i x) := ⟨List.length_set, fun j hj => set_get' fun e => by rw [e, hj] at h; cases h⟩
end
def gNm (i : Nat) : GM := fun d st => some (st.set i (.fz d))
theorem simG_name {K : PySem.W.Frag} {A : Nat → Bool} {i : Nat} (h : A i = true) : SimG K A (gName i) (gNm i) := by
  intro st σ G H v d st' r hd e Q q
  cases e
  exact q _ (r.assign (s := .fz d) (O0 := fun _ => False) (H0 := H) hd) (fun a z => own_assign_fz rfl z) (kp_set h)
def gsNil : GMs := fun ds st => match ds with
  | [] => some st
  | _ => none
def gsCons (g : GM) (gs : GMs) : GMs := fun ds st => match ds with
  | d :: r => match g d st with
    | some st1 => gs r st1
    | none => none
  | [] => none
theorem simGs_nil {K : PySem.W.Frag} {A : Nat → Bool} : SimGs K A gNil gsNil := by
  intro st σ G H vs ds st' r hd e Q q
  cases hd with
  | nil => cases e; exact ⟨rfl, q σ r (fun _ z => z) Kp.refl⟩
  | cons _ _ => cases e
theorem simGs_cons {K : PySem.W.Frag} {A : Nat → Bool} {t : TG} {u : TGs} {g : GM} {gs : GMs} (h1 : SimG K A t g) (h2 : SimGs K A u gs) : SimGs K A (gCons t u) (gsCons g gs) := by
  intro st σ G H vs ds st' r hd e Q q
  cases hd with
  | nil => cases e
  | cons hx ht =>
    rename_i v vs' d ds'
    unfold gsCons at e
    simp only at e
    cases e1 : g d st with
    | none => rw [e1] at e; cases e
    | some st1 =>
      rw [e1] at e
      refine ⟨v, vs', rfl, h1 st σ G H v d st1 r hx e1 _ fun σ1 r1 o1 k1 => ?_⟩
      exact h2 st1 σ1 G H vs' ds' st' r1 ht e Q fun σ2 r2 o2 k2 => q σ2 r2 (fun a z => o1 a (o2 a z)) (k1.trans k2)
/-- a, b, .. = a tuple or a list of that length -/
def gTp (n : Nat) (gs : GMs) : GM := fun d st => match d with
  | .tuple ds => if ds.length = n then gs ds st else none
  | .list ds => if ds.length = n then gs ds st else none
  | .dict [(a, b)] => if n = 2 then gs [a, b] st else none
  | _ => none
theorem pg_or {X : Cx} {tg : Expr} {t u : TG} (h : PG X tg t) (h' : PG X tg u) : PG X tg (fun v σ H Q => t v σ H Q ∨ u v σ H Q) :=
  ⟨fun pins s σ H v w Q I r q => q.elim (h.run pins s σ H v w Q I r) (h'.run pins s σ H v w Q I r)⟩
theorem simG_tup {K : PySem.W.Frag} {A : Nat → Bool} {n : Nat} {u : TGs} {gs : GMs} (h : SimGs K A u gs) : SimG K A (fun v σ H Q => gTup K n u v σ H Q ∨ gUnl K n u v σ H Q) (gTp n gs) := by
  intro st σ G H v d st' r hd e Q q
  unfold gTp at e
  split at e
  · split at e
    · rename_i hl
      obtain ⟨a, vs, rfl, h1, h2⟩ := dp_tuple hd
      exact .inl ⟨a, vs, rfl, Evl.ex_t r.ex h1, (dpa_len h2).trans hl, h st σ G H vs _ st' r h2 e Q q⟩
    · cases e
  · split at e
    · rename_i hl
      obtain ⟨a, vs, rfl, h1, h2⟩ := dp_list hd
      exact .inr ⟨a, vs, rfl, r.ex.seq h1, (dpa_len h2).trans hl, h st σ G H vs _ st' r h2 e Q q⟩
    · cases e
  · split at e
    · rename_i hl
      obtain ⟨a, x, y, _, _, rfl, ek, h1, h2, h3⟩ := dp_pr hd
      cases ek
      subst hl
      exact .inl ⟨a, [x, y], rfl, Evl.ex_t r.ex h1, rfl, h st σ G H [x, y] _ st' r (.cons h2 (.cons h3 .nil)) e Q q⟩
    · cases e
  · cases e
section
variable {X : Cx} {A : Nat → Bool} {pos : Pos}
theorem sg_name {i : Nat} {x : Str} (hN : X.N.Nodup) (hi : X.N[i]? = some x) (hx : Loc X.env.scope x) (hA : A i = true) (hf : X.fn x = true ∨ X.env.scope.names.lookup x = some .local := by first | exact .inl rfl | exact .inr rfl | assumption) : SG X A (.Name x pos) (gName i) (gNm i) :=
  ⟨pg_name hN hi hx hf, simG_name hA⟩
theorem sgs_nil : SGs X A [] gNil gsNil := ⟨pgs_nil, simGs_nil⟩
theorem sgs_cons {e : Expr} {es : List Expr} {t : TG} {u : TGs} {g : GM} {gs : GMs} (h1 : SG X A e t g) (h2 : SGs X A es u gs) (hs : (assignEach (e :: es) X.env).map (·.2) = assign e X.env :: (assignEach es X.env).map (·.2) := by rfl) : SGs X A (e :: es) (gCons t u) (gsCons g gs) :=
  ⟨pgs_cons h1.pe h2.pe hs, simGs_cons h1.sim h2.sim⟩
theorem sg_tup {es : List Expr} {k : Nat} {u : TGs} {n : Nat} {gs : GMs} (hc : X.calm = true) (h : SGs X A es u gs) (hn : (assignEach es X.env).length = n := by rfl) (hst : (assignEach es X.env).findIdx? (·.1) = none := by rfl) :
    SG X A (.Tuple es k pos) (fun v σ H Q => gTup X.K n u v σ H Q ∨ gUnl X.K n u v σ H Q) (gTp n gs) := ⟨pg_or (pg_tup hc h.pe hn hst) (pg_unl hc h.pe hn hst), simG_tup h.sim⟩
end
end Sh

namespace Sh
open PySem PySem.Spec L2

/-! ### statements -/
inductive Out where
  | nx | bk | ct
  | rt (z : Sl)
abbrev SM := S → Option (Out × S)
def Post (K : PySem.W.Frag) (A : Nat → Bool) (st : S) (σ : St) (G H : Hp) (D : Ends) (o : Out) (st' : S) : Prop := match o with
  | .nx => ∀ σ' G' H', Rel K st' σ' G' H' → Step (Own st σ) (Own st' σ') G H G' H' → Kp A σ σ' → D.nx σ' H'
  | .bk => ∀ σ' G' H', Rel K st' σ' G' H' → Step (Own st σ) (Own st' σ') G H G' H' → Kp A σ σ' → D.bk σ' H'
  | .ct => ∀ σ' G' H', Rel K st' σ' G' H' → Step (Own st σ) (Own st' σ') G H G' H' → Kp A σ σ' → D.ct σ' H'
  | .rt z => ∀ σ' v G' H', Rel K st' σ' G' H' → Step (Own st σ) (Own st' σ') G H G' H' → Kp A σ σ' → VRel K (Own st σ) H (Own st' σ') G' H' z v → D.rt v H'
def SimS (K : PySem.W.Frag) (A : Nat → Bool) (t : TS) (m : SM) : Prop := ∀ (st : S) (σ : St) (G H : Hp) (o : Out) (st' : S), Rel K st σ G H → m st = some (o, st') → ∀ D : Ends, Post K A st σ G H D o st' → t D σ H
structure SS (X : Cx) (A : Nat → Bool) (s : Stmt) (t : TS) (m : SM) : Prop where
  pe : PS X s t
  sim : SimS X.K A t m
structure SSs (X : Cx) (A : Nat → Bool) (s : List Stmt) (t : TS) (m : SM) : Prop where
  pe : PSs X s t
  sim : SimS X.K A t m
section
variable {K : PySem.W.Frag} {A : Nat → Bool} {st st1 st' : S} {σ σ1 : St} {G G1 H H1 : Hp} {D : Ends} {o : Out}
/-- seen from behind a step -/
theorem Post.after (h : Post K A st σ G H D o st') (s : Step (Own st σ) (Own st1 σ1) G H G1 H1) (k : Kp A σ σ1) : Post K A st1 σ1 G1 H1 D o st' := by
  cases o with
  | nx => exact fun σ' G' H' r s' k' => h σ' G' H' r (s.trans s') (k.trans k')
  | bk => exact fun σ' G' H' r s' k' => h σ' G' H' r (s.trans s') (k.trans k')
  | ct => exact fun σ' G' H' r s' k' => h σ' G' H' r (s.trans s') (k.trans k')
  | rt z => exact fun σ' v G' H' r s' k' v' => h σ' v G' H' r (s.trans s') (k.trans k') (v'.back s)
/-- with other ends -/
theorem Post.ends {D' : Ends} (h : Post K A st σ G H D o st') (h1 : o = .nx → ∀ σ' H', D.nx σ' H' → D'.nx σ' H') (h2 : ∀ σ' H', D.bk σ' H' → D'.bk σ' H') (h3 : ∀ σ' H', D.ct σ' H' → D'.ct σ' H') (h4 : ∀ v H', D.rt v H' → D'.rt v H') : Post K A st σ G H D' o st' := by
  cases o with
  | nx => exact fun σ' G' H' r s' k' => h1 rfl _ _ (h σ' G' H' r s' k')
  | bk => exact fun σ' G' H' r s' k' => h2 _ _ (h σ' G' H' r s' k')
  | ct => exact fun σ' G' H' r s' k' => h3 _ _ (h σ' G' H' r s' k')
  | rt z => exact fun σ' v G' H' r s' k' v' => h4 _ _ (h σ' v G' H' r s' k' v')
end
def mSkip : SM := fun st => some (.nx, st)
def mSeq (a b : SM) : SM := fun st => match a st with
  | some (.nx, st1) => b st1
  | r => r
def mBk : SM := fun st => some (.bk, st)
def mCt : SM := fun st => some (.ct, st)
def mIf (c : TM) (a b : SM) : SM := fun st => match c st with
  | some (true, st1) => a st1
  | some (false, st1) => b st1
  | none => none
def mDrop (e : EM) : SM := fun st => match e st with
  | some (_, st1) => some (.nx, st1)
  | none => none
def mRetN : SM := fun st => some (.rt (.fz .none), st)
/-- return: what a slot holds is handed out -/
def mRet (e : EM) : SM := fun st => match e st with
  | some (.tmp z, st1) => some (.rt z, st1)
  | some (.ref i, st1) => match st1[i]? with
    | some s => if s.mt = true then some (.rt s, st1.set i .un) else none
    | none => none
  | none => none
section
variable {K : PySem.W.Frag} {A : Nat → Bool} {t u : TS} {m n : SM} {te : TE} {e : EM} {tc : TT} {c : TM}
theorem simS_next : SimS K A tNext mSkip := fun st σ G H o st' r h D q => by
  cases h
  exact q σ G H r Step.refl Kp.refl
theorem simS_brk : SimS K A tBreak mBk := fun st σ G H o st' r h D q => by
  cases h
  exact q σ G H r Step.refl Kp.refl
theorem simS_cont : SimS K A tCont mCt := fun st σ G H o st' r h D q => by
  cases h
  exact q σ G H r Step.refl Kp.refl
theorem simS_seq (h1 : SimS K A t m) (h2 : SimS K A u n) : SimS K A (tSeq t u) (mSeq m n) := by
  intro st σ G H o st' r h D q
  unfold mSeq at h
  cases e1 : m st with
  | none => rw [e1] at h; cases h
  | some p =>
    obtain ⟨o1, st1⟩ := p
    rw [e1] at h
    refine h1 st σ G H o1 st1 r e1 { D with nx := u D } ?_
    cases o1 with
    | nx =>
      intro σ1 G1 H1 r1 s1 k1
      exact h2 st1 σ1 G1 H1 o st' r1 h D (q.after s1 k1)
    | bk => cases h; exact q
    | ct => cases h; exact q
    | rt z => cases h; exact q
theorem simS_if (hc : SimT K tc c) (h1 : SimS K A t m) (h2 : SimS K A u n) : SimS K A (tIfS tc t u) (mIf c m n) := by
  intro st σ G H o st' r h D q
  unfold mIf at h
  cases e1 : c st with
  | none => rw [e1] at h; cases h
  | some p =>
    obtain ⟨b, st1⟩ := p
    rw [e1] at h
    refine hc st σ G H b st1 r e1 _ fun G1 H1 r1 s1 => ?_
    cases b with
    | true => exact h1 st1 σ G1 H1 o st' r1 h D (q.after s1 Kp.refl)
    | false => exact h2 st1 σ G1 H1 o st' r1 h D (q.after s1 Kp.refl)
theorem simS_drop (h1 : SimE K te e) : SimS K A (tDrop te) (mDrop e) := by
  intro st σ G H o st' r h D q
  unfold mDrop at h
  cases e1 : e st with
  | none => rw [e1] at h; cases h
  | some p =>
    obtain ⟨x, st1⟩ := p
    rw [e1] at h
    cases h
    exact h1 st σ G H x _ r e1 _ fun v G1 H1 r1 s1 o1 => q σ G1 H1 r1 s1 Kp.refl
theorem simS_retN : SimS K A tRetN mRetN := fun st σ G H o st' r h D q => by
  cases h
  exact q σ .non G H r Step.refl Kp.refl .non
theorem simS_ret (h1 : SimE K te e) : SimS K A (tRet te) (mRet e) := by
  intro st σ G H o st' r h D q
  unfold mRet at h
  cases e1 : e st with
  | none => rw [e1] at h; cases h
  | some p =>
    obtain ⟨x, st1⟩ := p
    rw [e1] at h
    refine h1 st σ G H x st1 r e1 _ fun v G1 H1 r1 s1 o1 => ?_
    cases x with
    | tmp z => cases h; exact q σ v G1 H1 r1 s1 Kp.refl o1
    | ref i =>
      simp only at h
      cases e2 : st1[i]? with
      | none => rw [e2] at h; cases h
      | some s =>
        rw [e2] at h
        simp only at h
        by_cases hm : s.mt = true
        · rw [if_pos hm] at h
          cases h
          have o1 : σ[i]? = some (some v) := o1
          obtain ⟨p, h2, h3, h4⟩ := r1.getMt e2 hm
          rw [o1] at h2; cases h2
          have sub : ∀ a, Own (st1.set i .un) σ a → Own st1 σ a := fun a z => own_set_fz rfl z
          refine q σ _ G1 H1 (r1.unset i) (s1.sub sub) Kp.refl ?_
          exact (vrel_mt hm).mpr ⟨p, rfl, h3, h4, not_own_unset r1 e2 hm o1, s1.own p ⟨i, s, e2, hm, o1⟩⟩
        · rw [if_neg hm] at h; cases h
end
/-- x = e -/
def mAsg (i : Nat) (e : EM) : SM := fun st => match e st with
  | some (.tmp z, st1) => some (.nx, st1.set i z)
  | some (.ref j, st1) => match frz (.ref j) st1 with
    | some (d, st2) => some (.nx, st2.set i (.fz d))
    | none => none
  | none => none
theorem simS_asg {K : PySem.W.Frag} {A : Nat → Bool} {i : Nat} {te : TE} {e : EM} (hA : A i = true) (h1 : SimE K te e) : SimS K A (tAsg te (gName i)) (mAsg i e) := by
  intro st σ G H o st' r h D q
  unfold mAsg at h
  cases e1 : e st with
  | none => rw [e1] at h; cases h
  | some p =>
    obtain ⟨x, st1⟩ := p
    rw [e1] at h
    refine h1 st σ G H x st1 r e1 _ fun v G1 H1 r1 s1 o1 => ?_
    show D.nx (σ.set i (some v)) H1
    cases x with
    | tmp z =>
      cases h
      have o1 : VRel K (Own st σ) H (Own st1 σ) G1 H1 z v := o1
      refine q _ G1 H1 (r1.assign o1) ⟨s1.g, s1.keep, fun a ha => ?_, s1.new, s1.live⟩ (kp_set hA)
      rcases own_assign ha with ⟨m, e2⟩ | y
      · obtain ⟨p, e3, _, _, _, f⟩ := (vrel_mt m).mp o1
        rw [e2] at e3; cases e3
        exact f
      · exact s1.own a y
    | ref j =>
      simp only at h
      cases e2 : frz (.ref j) st1 with
      | none => rw [e2] at h; cases h
      | some p =>
        obtain ⟨d, st2⟩ := p
        rw [e2] at h
        cases h
        obtain ⟨G2, r2, s2, d2⟩ := freeze s1 r1 o1 e2
        exact q _ G2 H1 (r2.assign (s := .fz d) (O0 := Own st σ) (H0 := H) d2) (s2.sub fun a z => own_assign_fz rfl z) (kp_set hA)
/-- target = e, e frozen -/
def mAsgG (g : GM) (e : EM) : SM := fun st => match eFrz e st with
  | some (.tmp (.fz d), st1) => match g d st1 with
    | some st2 => some (.nx, st2)
    | none => none
  | _ => none
theorem simS_asgG {K : PySem.W.Frag} {A : Nat → Bool} {te : TE} {e : EM} {g : TG} {f : GM} (h1 : SimE K te e) (hg : SimG K A g f) : SimS K A (tAsg te g) (mAsgG f e) := by
  intro st σ G H o st' r h D q
  unfold mAsgG at h
  split at h
  · rename_i d st1 e1
    split at h
    · rename_i st2 e2
      cases h
      refine sim_frz h1 st σ G H _ st1 r e1 _ fun v G1 H1 r1 s1 o1 => ?_
      exact hg st1 σ G1 H1 v d _ r1 o1 e2 _ fun σ2 r2 o2 k2 => q σ2 G1 H1 r2 (s1.sub o2) k2
    · cases h
  · cases h
/-- a, b = e1, e2 -/
def mPar (i j : Nat) (a : AM) : SM := fun st => match a st with
  | some ([.tmp x, .tmp y], st1) => some (.nx, (st1.set i x).set j y)
  | _ => none
theorem vrel_assign {K : PySem.W.Frag} {st : S} {σ : St} {G H H0 : Hp} {O0 : Addr → Prop} {s s' : Sl} {v w : V} {i : Nat} (h : VRel K O0 H0 (Own st σ) G H s v) (ne : s.mt = true → s'.mt = true → v ≠ w) : VRel K O0 H0 (Own (st.set i s') (σ.set i (some w))) G H s v := by
  have mm : s.mt = true → VRel K O0 H0 (Own (st.set i s') (σ.set i (some w))) G H s v := fun m => by
    obtain ⟨p, e, h1, h2, h3, h4⟩ := (vrel_mt m).mp h
    refine (vrel_mt m).mpr ⟨p, e, h1, h2, fun z => ?_, h4⟩
    rcases own_assign z with ⟨m', e'⟩ | z
    · exact ne m m' (e.trans e'.symm)
    · exact h3 z
  cases s with
  | un => exact h
  | fz d => exact h
  | ow xs => exact mm rfl
  | od xs => exact mm rfl
/-- two results of one row are two objects -/
def Apart2 (K : PySem.W.Frag) (t : TA) (a : AM) : Prop := ∀ (st : S) (σ : St) (G H : Hp) (x y : Sl) (st' : S), Rel K st σ G H → a st = some ([.tmp x, .tmp y], st') → ∀ Q : List V → Hp → Prop,
  (∀ v w G' H', Rel K st' σ G' H' → Step (Own st σ) (Own st' σ) G H G' H' → VRel K (Own st σ) H (Own st' σ) G' H' x v → VRel K (Own st σ) H (Own st' σ) G' H' y w → (x.mt = true → y.mt = true → v ≠ w) → Q [v, w] H') → t σ H Q
theorem apart2 {K : PySem.W.Frag} {ta tb : TE} {a b : EM} (ha : SimE K ta a) (hb : SimE K tb b) : Apart2 K (tCons ta (tCons tb tNil)) (aCons a (aCons b aNil)) := by
  intro st σ G H x y st' r h Q q
  unfold aCons at h
  cases e1 : a st with
  | none => rw [e1] at h; cases h
  | some p =>
    obtain ⟨o, st1⟩ := p
    rw [e1] at h
    simp only at h
    cases e2 : b st1 with
    | none => rw [e2] at h; cases h
    | some p =>
      obtain ⟨o2, st2⟩ := p
      rw [e2] at h
      simp only [aNil] at h
      cases h
      refine ha st σ G H _ st1 r e1 _ fun v G1 H1 r1 s1 o1 => ?_
      refine hb st1 σ G1 H1 _ _ r1 e2 _ fun w G2 H2 r2 s2 o2 => ?_
      have o1 : VRel K (Own st σ) H (Own st1 σ) G1 H1 x v := o1
      have o2 : VRel K (Own st1 σ) H1 (Own st' σ) G2 H2 y w := o2
      refine q v w G2 H2 r2 (s1.trans s2) (o1.step s2) (o2.back s1) fun mx my e => ?_
      obtain ⟨p, ep, _, b1, n1, _⟩ := (vrel_mt mx).mp o1
      obtain ⟨p', ep', _, _, _, f⟩ := (vrel_mt my).mp o2
      rw [ep, ep'] at e
      cases e
      rcases f with z | z
      · exact n1 z
      · obtain ⟨u, hu⟩ := b1.live
        rw [z] at hu; cases hu
theorem simS_par {K : PySem.W.Frag} {A : Nat → Bool} {i j : Nat} {t : TA} {a : AM} (hi : A i = true) (hj : A j = true) (ha : Apart2 K t a) : SimS K A (tPar i j t) (mPar i j a) := by
  intro st σ G H o st' r h D q
  unfold mPar at h
  split at h
  · rename_i x y st1 e1
    cases h
    refine ha st σ G H x y st1 r e1 _ fun v w G1 H1 r1 s1 o1 o2 ne => ⟨v, w, rfl, ?_⟩
    have r2 := r1.assign (i := i) o1
    have o2' : VRel K (Own st σ) H (Own (st1.set i x) (σ.set i (some v))) G1 H1 y w := vrel_assign o2 fun m m' e => ne m' m e.symm
    refine q _ G1 H1 (r2.assign (i := j) o2') ⟨s1.g, s1.keep, fun c hc => ?_, s1.new, s1.live⟩ ((kp_set hi).trans (kp_set hj))
    rcases own_assign hc with ⟨m, e2⟩ | z
    · obtain ⟨p, e3, _, _, _, f⟩ := (vrel_mt m).mp o2
      rw [e2] at e3; cases e3
      exact f
    · rcases own_assign z with ⟨m, e2⟩ | z
      · obtain ⟨p, e3, _, _, _, f⟩ := (vrel_mt m).mp o1
        rw [e2] at e3; cases e3
        exact f
      · exact s1.own c z
  · cases h
/-! x[i] = e -/
def putM (s : Sl) (di d : D) : Option Sl := match s with
  | .ow xs => match di with
    | .int k => match ixN xs.length k with
      | some j => some (.ow (xs.set j d))
      | none => none
    | _ => none
  | .od kvs => match toKey di with
    | some k' => if kvs.length < 100000 then some (.od (dput kvs k' d)) else none
    | none => none
  | _ => none
def rPutD : V → V → V → Hp → (Hp → Prop) → Prop := fun o i v H Q => ∃ a H', o = V.ref a ∧ DPut H a i v H' ∧ Q H'
theorem set_dict {X : Cx} (hu : X.A.units + 1 < cLine) : PSet X rPutD := by
  intro pins s σ H o i v ov iv u Q I ro ri rv h
  obtain ⟨a, H', rfl, g, q⟩ := h
  cases ro
  exact d_setItem hu I g ri rv fun s' I' => ⟨H', I', q⟩
theorem pset_or {X : Cx} {t u : TSet} (h : PSet X t) (h' : PSet X u) : PSet X (fun o i v H Q => t o i v H Q ∨ u o i v H Q) := by
  intro pins s σ H o i v ov iv w Q I ro ri rv q
  rcases q with q | q
  · exact h pins s σ H o i v ov iv w Q I ro ri rv q
  · exact h' pins s σ H o i v ov iv w Q I ro ri rv q
theorem put_ok {K : PySem.W.Frag} {G H : Hp} {p : Addr} {s s' : Sl} {iv v : V} {di d : D} (e : Same G H) (b : Bears K G H p s) (hi : Dp K G iv di) (hd : Dp K G v d) (h : putM s di d = some s') {Q : Hp → Prop} (q : ∀ u, Bears K G (upd H p u) p s' → Q (upd H p u)) :
    (fun o i v H Q => rSetL o i v H Q ∨ rPutD o i v H Q) (V.ref p) iv v H Q := by
  unfold putM at h
  split at h
  · rename_i xs
    split at h
    · rename_i k
      split at h
      · rename_i j hj
        cases h
        obtain ⟨vs, h1, h2⟩ := b
        rw [← dpa_len h2] at hj
        exact .inl ⟨p, vs, k, j, rfl, dp_int hi, h1, hj, q _ ⟨_, upd_same, dpa_set j h2 hd⟩⟩
      · cases h
    · cases h
  · rename_i kvs
    split at h
    · rename_i k' hk
      split at h
      · rename_i hl
        cases h
        obtain ⟨ws, h1, h2, h3⟩ := b
        have ek := toKey_ok hi hk
        subst ek
        exact .inr ⟨p, _, rfl, DPut.k h1 (Evl.sz_lt (by rw [kvp_len h2]; exact hl)), q _ ⟨_, upd_same, kvp_put hd h2 h3, nd_put _ _ _ h3⟩⟩
      · cases h
    · cases h
  · cases h
def mSet (x : Nat) (ix e : EM) : SM := fun st => match eFrz e st with
  | some (.tmp (.fz d), st1) => match st1[x]? with
    | some s0 => if s0.mt = true then match ix st1 with
      | some (.tmp (.fz di), st2) => match st2[x]? with
        | some s => if s.mt = true then match putM s di d with
          | some s' => some (.nx, st2.set x s')
          | none => none else none
        | none => none
      | _ => none else none
    | none => none
  | _ => none
theorem mSet_inv {x : Nat} {ix e : EM} {st st' : S} {o : Out} (h : mSet x ix e st = some (o, st')) : ∃ d st1 s0 di st2 s s', eFrz e st = some (.tmp (.fz d), st1) ∧ st1[x]? = some s0 ∧ s0.mt = true ∧ ix st1 = some (.tmp (.fz di), st2) ∧ st2[x]? = some s ∧ s.mt = true ∧ putM s di d = some s' ∧ o = .nx ∧ st' = st2.set x s' := by
  unfold mSet at h
  split at h
  · rename_i d st1 e1
    split at h
    · rename_i s0 e2
      split at h
      · rename_i m0
        split at h
        · rename_i di st2 e3
          split at h
          · rename_i s e4
            split at h
            · rename_i m
              split at h
              · rename_i s' e5
                cases h
                exact ⟨d, st1, s0, di, st2, s, s', e1, e2, m0, e3, e4, m, e5, rfl, rfl⟩
              · cases h
            · cases h
          · cases h
        · cases h
      · cases h
    · cases h
  · cases h
theorem simS_set {K : PySem.W.Frag} {A : Nat → Bool} {x : Nat} {te ti : TE} {e ix : EM} (h1 : SimE K te e) (h2 : SimE K ti ix) : SimS K A (tAsg te (gSub (tVar x) ti (fun o i v H Q => rSetL o i v H Q ∨ rPutD o i v H Q))) (mSet x ix e) := by
  intro st σ G H o st' r h D q
  obtain ⟨d, st1, s0, di, st2, s, s', e1, e2, m0, e3, e4, m, e5, rfl, rfl⟩ := mSet_inv h
  refine sim_frz h1 st σ G H _ st1 r e1 _ fun v G1 H1 r1 s1 o1 => ?_
  have o1 : Dp K G1 v d := o1
  obtain ⟨p, g1, g2, g3⟩ := r1.getMt e2 m0
  refine ⟨.ref p, g1, ?_⟩
  refine h2 st1 σ G1 H1 _ st2 r1 e3 _ fun iv G2 H2 r2 s2 o2 => ?_
  have o2 : Dp K G2 iv di := o2
  obtain ⟨p', g4, g5, g6⟩ := r2.getMt e4 m
  rw [g1] at g4; cases g4
  refine put_ok r2.ex g6 o2 (dp_mono s2.g o1) e5 fun u b => ?_
  obtain ⟨y, hy⟩ := g6.live
  exact q σ G2 _ (r2.mutate e4 m g1 g5 b) (s1.trans (s2.trans (Step.mutate ⟨x, s, e4, m, g1⟩ hy fun a z => own_set_mut e4 m g1 z))) Kp.refl

/-! ### loops -/
def forL (g : GM) (b : SM) : List D → S → Option (Out × S)
  | [], st => some (.nx, st)
  | d :: ds, st => match g d st with
    | some st1 => match b st1 with
      | some (.nx, st2) => forL g b ds st2
      | some (.ct, st2) => forL g b ds st2
      | some (.bk, st2) => some (.nx, st2)
      | some (.rt z, st2) => some (.rt z, st2)
      | none => none
    | none => none
def mFor (i : IM) (g : GM) (b : SM) : SM := fun st => match i st with
  | some (ds, st1) => forL g b ds st1
  | none => none
theorem simS_for {K : PySem.W.Frag} {A : Nat → Bool} {wi : TI} {i : IM} {tg : TG} {g : GM} {tb : TS} {b : SM} (hi : SimI K wi i) (hg : SimG K A tg g) (hb : SimS K A tb b) : SimS K A (tFor wi tg tb) (mFor i g b) := by
  intro st σ G H o st' r h D q
  unfold mFor at h
  cases e1 : i st with
  | none => rw [e1] at h; cases h
  | some p =>
    obtain ⟨ds, st1⟩ := p
    rw [e1] at h
    refine hi st σ G H ds st1 r e1 _ fun J G1 H1 r1 s1 Y => ?_
    have q1 := q.after s1 Kp.refl
    refine ⟨fun k m σ' H' => m = ds.length - k ∧ k ≤ ds.length ∧ ∃ (sk : S) (Gk : Hp), Rel K sk σ' Gk H' ∧ Step (Own st1 σ) (Own sk σ') G1 H1 Gk H' ∧ Kp A σ σ' ∧ forL g b (ds.drop k) sk = some (o, st'),
      ⟨ds.length, rfl, Nat.zero_le _, st1, G1, r1, Step.refl, Kp.refl, h⟩, ?_⟩
    rintro k m σk Hk ⟨rfl, hk, sk, Gk, rk, stp, kp, hf⟩
    have qk := q1.after stp kp
    by_cases hlt : k < ds.length
    · have ed : ds[k]? = some ds[k] := List.getElem?_eq_getElem hlt
      rw [List.drop_eq_getElem_cons hlt] at hf
      unfold forL at hf
      obtain ⟨hgo, hy⟩ := Y.item k _ ed Gk Hk stp.g rk.ex
      cases e2 : g ds[k] sk with
      | none => rw [e2] at hf; cases hf
      | some s2 =>
        rw [e2] at hf
        simp only at hf
        cases e3 : b s2 with
        | none => rw [e3] at hf; cases hf
        | some p =>
          obtain ⟨o3, s3⟩ := p
          rw [e3] at hf
          let N : St → Hp → Prop := fun σ' H' => ∃ G', Rel K s3 σ' G' H' ∧ Step (Own st1 σ) (Own s3 σ') G1 H1 G' H' ∧ Kp A σ σ' ∧ forL g b (ds.drop (k + 1)) s3 = some (o, st')
          refine .inr ⟨hgo, N, fun σ' H' ⟨G', a1, a2, a3, a4⟩ => ⟨ds.length - (k + 1), by omega, rfl, hlt, s3, G', a1, a2, a3, a4⟩, fun x H' yx => ?_⟩
          obtain ⟨G', ext, dx⟩ := hy x H' yx
          have rk' := rk.ext ext
          have stp' := stp.trans (ext.step (O := Own sk σk))
          refine hg sk σk G' H' x _ s2 rk' dx e2 _ fun σ2 r2 o2 k2 => ?_
          have stp2 := stp'.sub o2
          have kp2 := kp.trans k2
          refine hb s2 σ2 G' H' o3 s3 r2 e3 _ ?_
          have fin : ∀ {σ' : St} {G2 H2 : Hp}, Rel K s3 σ' G2 H2 → Step (Own s2 σ2) (Own s3 σ') G' H' G2 H2 → Kp A σ2 σ' → forL g b (ds.drop (k + 1)) s3 = some (o, st') → N σ' H2 := fun r3 s3' k3 hf => ⟨_, r3, stp2.trans s3', kp2.trans k3, hf⟩
          cases o3 with
          | nx => exact fun σ' G2 H2 r3 s3' k3 => fin r3 s3' k3 hf
          | ct => exact fun σ' G2 H2 r3 s3' k3 => fin r3 s3' k3 hf
          | bk =>
            cases hf
            exact q1.after stp2 kp2
          | rt z =>
            cases hf
            exact q1.after stp2 kp2
    · have ek : k = ds.length := by omega
      subst ek
      rw [List.drop_length] at hf
      cases hf
      exact .inl ⟨Y.stop Gk Hk stp.g rk.ex, q1 σk Gk Hk rk stp kp⟩
def whL (c : TM) (b : SM) : Nat → SM
  | 0 => fun _ => none
  | n + 1 => fun st => match c st with
    | some (true, st1) => match b st1 with
      | some (.nx, st2) => whL c b n st2
      | some (.ct, st2) => whL c b n st2
      | some (.bk, st2) => some (.nx, st2)
      | some (.rt z, st2) => some (.rt z, st2)
      | none => none
    | some (false, st1) => some (.nx, st1)
    | none => none
theorem simS_while {K : PySem.W.Frag} {A : Nat → Bool} {tc : TT} {c : TM} {tb : TS} {b : SM} {n : Nat} (hc : SimT K tc c) (hb : SimS K A tb b) : SimS K A (tWhile tc tb) (whL c b n) := by
  intro st σ G H o st' r h D q
  refine ⟨fun m σ' H' => ∃ (sk : S) (Gk : Hp), Rel K sk σ' Gk H' ∧ Step (Own st σ) (Own sk σ') G H Gk H' ∧ Kp A σ σ' ∧ whL c b m sk = some (o, st'), ⟨n, st, G, r, Step.refl, Kp.refl, h⟩, ?_⟩
  rintro m σk Hk ⟨sk, Gk, rk, stp, kp, hf⟩
  cases m with
  | zero => cases hf
  | succ m =>
    unfold whL at hf
    simp only at hf
    cases e1 : c sk with
    | none => rw [e1] at hf; cases hf
    | some p =>
      obtain ⟨x, s1⟩ := p
      rw [e1] at hf
      refine hc sk σk Gk Hk x s1 rk e1 _ fun G1 H1 r1 s1' => ?_
      have stp1 := stp.trans s1'
      cases x with
      | false =>
        rw [if_neg Bool.false_ne_true]
        cases hf
        exact q σk G1 H1 r1 stp1 kp
      | true =>
        rw [if_pos rfl]
        simp only at hf
        cases e3 : b s1 with
        | none => rw [e3] at hf; cases hf
        | some p =>
          obtain ⟨o3, s3⟩ := p
          rw [e3] at hf
          let N : St → Hp → Prop := fun σ' H' => ∃ G', Rel K s3 σ' G' H' ∧ Step (Own st σ) (Own s3 σ') G H G' H' ∧ Kp A σ σ' ∧ whL c b m s3 = some (o, st')
          refine ⟨N, fun σ' H' ⟨G', a1, a2, a3, a4⟩ => ⟨m, Nat.lt_succ_self _, s3, G', a1, a2, a3, a4⟩, ?_⟩
          refine hb s1 σk G1 H1 o3 s3 r1 e3 _ ?_
          cases o3 with
          | nx => exact fun σ' G2 H2 r3 s3' k3 => ⟨G2, r3, stp1.trans s3', kp.trans k3, hf⟩
          | ct => exact fun σ' G2 H2 r3 s3' k3 => ⟨G2, r3, stp1.trans s3', kp.trans k3, hf⟩
          | bk => cases hf; exact q.after stp1 kp
          | rt z => cases hf; exact q.after stp1 kp
section
variable {X : Cx} {A : Nat → Bool} {st : Stmt} {rest : List Stmt} {t u : TS} {m n : SM} {e : Expr} {te : TE} {ev : EM} {tc : TT} {c : TM} {pos : Pos}
theorem ss_nil : SSs X A [] tNext mSkip := ⟨pss_nil, simS_next⟩
theorem ss_cons (h1 : SS X A st t m) (h2 : SSs X A rest u n) : SSs X A (st :: rest) (tSeq t u) (mSeq m n) := ⟨pss_cons h1.pe h2.pe, simS_seq h1.sim h2.sim⟩
theorem ss_one (h1 : SS X A st t m) : SSs X A [st] t m := ⟨pss_one h1.pe, h1.sim⟩
theorem ss_pass : SS X A (.Pass pos) tNext mSkip := ⟨ps_pass, simS_next⟩
theorem ss_break : SS X A (.Break pos) tBreak mBk := ⟨ps_break, simS_brk⟩
theorem ss_continue : SS X A (.Continue pos) tCont mCt := ⟨ps_continue, simS_cont⟩
theorem ss_if {ce : Expr} {a b : List Stmt} (hc : ST X ce tc c) (h1 : SSs X A a t m) (h2 : SSs X A b u n) : SS X A (.If ce a b pos) (tIfS tc t u) (mIf c m n) := ⟨ps_if hc.pe h1.pe h2.pe, simS_if hc.sim h1.sim h2.sim⟩
theorem ss_expr (h : SE X e te ev) (hs : swapsWith e none pos.line X.env = pure false := by rfl) : SS X A (.Expr e pos) (tDrop te) (mDrop ev) := ⟨ps_expr h.pe hs, simS_drop h.sim⟩
theorem ss_ret (h : SE X e te ev) : SS X A (.Return (some e) pos) (tRet te) (mRet ev) := ⟨ps_ret h.pe, simS_ret h.sim⟩
theorem ss_retN : SS X A (.Return none pos) tRetN mRetN := ⟨ps_retN, simS_retN⟩
theorem ss_set {i : Nat} {x : Str} {pos' : Pos} (hN : X.N.Nodup) (hi : X.N[i]? = some x) (hx : Loc X.env.scope x) (hA : A i = true) (h : SE X e te ev) (hs : swapsWith e (some (.Name x pos')) pos.line X.env = pure false := by rfl) (hf : X.fn x = true ∨ X.env.scope.names.lookup x = some .local := by first | exact .inl rfl | exact .inr rfl | assumption) :
    SS X A (.Assign [.Name x pos'] e pos) (tAsg te (gName i)) (mAsg i ev) := ⟨ps_set hN hi hx h.pe hs hf, simS_asg hA h.sim⟩
theorem ss_asg {tg : Expr} {g : TG} {f : GM} (h : SE X e te ev) (hg : SG X A tg g f) (hs : swapsWithSole [tg] e pos.line X.env = pure false := by rfl) (hw : swappedStores [tg] e X.env = pure none := by rfl) (h1 : (assignEach [tg] X.env).map (·.2) = [assign tg X.env] := by rfl) :
    SS X A (.Assign [tg] e pos) (tAsg te g) (mAsgG f ev) := ⟨ps_asg h.pe hg.pe hs hw h1, simS_asgG h.sim hg.sim⟩
theorem ss_put {x : Nat} {xn : Str} {ie : Expr} {ti : TE} {iv : EM} {npos spos : Pos} (hu : X.A.units + 1 < cLine) (h : SE X e te ev) (ho : SE X (.Name xn npos) (tVar x) (eVar x)) (hi : SE X ie ti iv) (hs : swapsWithSole [.Subscript (.Name xn npos) ie spos] e pos.line X.env = pure false := by rfl)
    (hw : swappedStores [.Subscript (.Name xn npos) ie spos] e X.env = pure none := by rfl) (h1 : (assignEach [.Subscript (.Name xn npos) ie spos] X.env).map (·.2) = [assign (.Subscript (.Name xn npos) ie spos) X.env] := by rfl)
    (ha : ∀ v, assign (.Subscript (.Name xn npos) ie spos) X.env v = (do
      let ov ← holding [v] (eval (.Name xn npos) X.env)
      let iv ← holding [v, ov] (eval ie X.env)
      standAt spos
      holding [v, ov, iv] (setItem ov iv v)
      release [v, ov, iv] []) := by intro _; rfl) :
    SS X A (.Assign [.Subscript (.Name xn npos) ie spos] e pos) (tAsg te (gSub (tVar x) ti (fun o i v H Q => rSetL o i v H Q ∨ rPutD o i v H Q))) (mSet x iv ev) :=
  ⟨ps_asg h.pe (pg_sub ho.pe hi.pe (pset_or set_list (set_dict hu)) ha) hs hw h1, simS_set h.sim hi.sim⟩
theorem ss_for {tg iter : Expr} {body : List Stmt} {wi : TI} {im : IM} {g : TG} {f : GM} {tb : TS} {b : SM} (hp : PassesOwn (model X.prog X.w) X.A X.env X.xe) (hc : X.calm = true) (hi : SI X tg iter wi im) (hg : SG X A tg g f) (hb : SSs X A body tb b)
    (hs : ∀ x, foldedSetIterable iter X.env x = pure x := by intro _; rfl) : SS X A (.For tg iter body [] pos) (tFor wi g tb) (mFor im f b) := ⟨ps_for hp hc hi.pe hg.pe hb.pe hs, simS_for hi.sim hg.sim hb.sim⟩
theorem ss_while {ce : Expr} {body : List Stmt} {tb : TS} {b : SM} {k : Nat} (hp : PassesOwn (model X.prog X.w) X.A X.env X.xe) (hc : ST X ce tc c) (hb : SSs X A body tb b) : SS X A (.While ce body [] pos) (tWhile tc tb) (whL c b k) := ⟨ps_while hp hc.pe hb.pe, simS_while hc.sim hb.sim⟩
end
end Sh

namespace Sh
open PySem PySem.Spec L2

/-! ### comprehensions -/
def wipeS (st : S) : List Nat → S
  | [] => st
  | v :: vs => (wipeS st vs).set v .un
def keepFz : Option Sl → Sl
  | some (.fz d) => .fz d
  | _ => .un
def restoreS (st1 st2 : S) : List Nat → S
  | [] => st2
  | v :: vs => (restoreS st1 st2 vs).set v (keepFz st1[v]?)
section
variable {K : PySem.W.Frag} {st st1 st2 : S} {σ σ' : St} {G G' H H' H0 : Hp} {O O' : Addr → Prop} {p : Addr} {i : Nat}
theorem Rel.unset2 (r : Rel K st σ G H) : Rel K (st.set i .un) (σ.set i none) G H := by
  have old : ∀ (j : Nat) (t : Sl) (w : Option V), i ≠ j → (st.set i .un)[j]? = some t → (σ.set i none)[j]? = some w → st[j]? = some t ∧ σ[j]? = some w := fun j t w e h1 h2 => by
    rw [set_get' e] at h1 h2; exact ⟨h1, h2⟩
  have un : ∀ (t : Sl), (st.set i .un)[i]? = some t → t = .un := fun t h1 => by
    rcases set_get h1 with ⟨_, e⟩ | ⟨e, _⟩
    · exact e
    · exact (e rfl).elim
  refine ⟨by rw [List.length_set, List.length_set]; exact r.len, fun j t w h1 h2 => ?_, fun j k t t' q h1 h2 m1 m2 h3 h4 => ?_, r.ex⟩
  · by_cases e : i = j
    · subst e; rw [un t h1]; trivial
    · obtain ⟨e1, e2⟩ := old j t w e h1 h2
      exact r.at_ j t w e1 e2
  · by_cases e : i = j
    · subst e; rw [un t h1] at m1; cases m1
    · by_cases e' : i = k
      · subst e'; rw [un t' h2] at m2; cases m2
      · obtain ⟨e1, e2⟩ := old j t _ e h1 h3
        obtain ⟨e5, e6⟩ := old k t' _ e' h2 h4
        exact r.inj j k t t' q e1 e5 m1 m2 e2 e6
theorem own_unset2 {a : Addr} (h : Own (st.set i .un) (σ.set i none) a) : Own st σ a := by
  obtain ⟨j, t, h1, m, h2⟩ := h
  by_cases e : i = j
  · subst e
    rcases set_get h1 with ⟨_, e⟩ | ⟨e, _⟩
    · subst e; cases m
    · exact (e rfl).elim
  · rw [set_get' e] at h1 h2
    exact ⟨j, t, h1, m, h2⟩
theorem Rel.wipe (r : Rel K st σ G H) : ∀ vs : List Nat, Rel K (wipeS st vs) (L2.wipe σ vs) G H
  | [] => r
  | v :: vs => (r.wipe vs).unset2
theorem own_wipe {a : Addr} : ∀ {vs : List Nat}, Own (wipeS st vs) (L2.wipe σ vs) a → Own st σ a
  | [], h => h
  | v :: vs, h => own_wipe (vs := vs) (own_unset2 h)
theorem wipeS_out : ∀ {vs : List Nat} {j : Nat}, j ∉ vs → (wipeS st vs)[j]? = st[j]?
  | [], _, _ => rfl
  | v :: vs, j, h => by
    have h1 : v ≠ j := fun e => h (by rw [e]; exact List.mem_cons_self)
    show ((wipeS st vs).set v .un)[j]? = _
    rw [set_get' h1]
    exact wipeS_out fun z => h (List.mem_cons_of_mem _ z)
theorem wipe_eq {σ σ2 : St} {vs : List Nat} (hl : σ2.length = σ.length) (k : ∀ i : Nat, vs.contains i = false → σ2[i]? = σ[i]?) : L2.wipe σ2 vs = L2.wipe σ vs := by
  have gen : ∀ (ws : List Nat) (i : Nat), i ∈ ws → ∀ τ : St, (L2.wipe τ ws)[i]? = if i < τ.length then some none else none := by
    intro ws
    induction ws with
    | nil => intro i h; cases h
    | cons v ws ih =>
      intro i h τ
      show ((L2.wipe τ ws).set v none)[i]? = _
      by_cases e : v = i
      · subst e
        by_cases hi : v < τ.length
        · rw [List.getElem?_set_self (by rw [wipe_length]; exact hi), if_pos hi]
        · rw [List.getElem?_eq_none (by rw [List.length_set, wipe_length]; omega), if_neg hi]
      · rw [set_get' e]
        rcases List.mem_cons.mp h with z | z
        · exact (e z.symm).elim
        · exact ih i z τ
  apply List.ext_getElem?
  intro i
  by_cases h : i ∈ vs
  · rw [gen vs i h, gen vs i h, hl]
  · rw [wipe_out h, wipe_out h]
    exact k i (by simpa using h)
theorem restore_at : ∀ {vs : List Nat} {j : Nat} {s : Sl}, (restoreS st1 st2 vs)[j]? = some s → (s = keepFz st1[j]?) ∨ (j ∉ vs ∧ st2[j]? = some s)
  | [], j, s, h => .inr ⟨by simp, h⟩
  | v :: vs, j, s, h => by
    rcases set_get (show ((restoreS st1 st2 vs).set v (keepFz st1[v]?))[j]? = some s from h) with ⟨e, e2⟩ | ⟨e, e2⟩
    · subst e; exact .inl e2
    · rcases restore_at e2 with z | ⟨z, z2⟩
      · exact .inl z
      · exact .inr ⟨fun q => (List.mem_cons.mp q).elim (fun y => e y.symm) z, z2⟩
theorem restore_len : ∀ (vs : List Nat), (restoreS st1 st2 vs).length = st2.length
  | [] => rfl
  | v :: vs => by
    show ((restoreS st1 st2 vs).set v _).length = _
    rw [List.length_set, restore_len vs]
theorem keepFz_mt {o : Option Sl} : (keepFz o).mt = false := by
  unfold keepFz
  split <;> rfl
theorem Rel.restore {G1 H1 : Hp} {vs : List Nat} (r1 : Rel K st1 σ G1 H1) (r2 : Rel K (wipeS st2 vs) (L2.wipe σ vs) G H) (g : Same G1 G) : Rel K (restoreS st1 st2 vs) σ G H := by
  have hl : st2.length = σ.length := by
    have h := r2.len
    have e : ∀ ws : List Nat, (wipeS st2 ws).length = st2.length := by
      intro ws
      induction ws with
      | nil => rfl
      | cons v ws ih =>
        show ((wipeS st2 ws).set v .un).length = _
        rw [List.length_set, ih]
    rw [e, wipe_length] at h
    exact h
  refine ⟨by rw [restore_len]; exact hl, fun j s w h1 h2 => ?_, fun j k s t p h1 h2 m1 m2 h3 h4 => ?_, r2.ex⟩
  · rcases restore_at h1 with e | ⟨e, e2⟩
    · subst e
      cases e3 : st1[j]? with
      | none => exact trivial
      | some s0 =>
        cases s0 with
        | fz d =>
          obtain ⟨v, h5, h6⟩ := r1.getFz e3
          rw [h2] at h5; cases h5
          exact ⟨v, rfl, dp_mono g h6⟩
        | _ => exact trivial
    · exact r2.at_ j s w (by rw [wipeS_out e]; exact e2) (by rw [wipe_out e]; exact h2)
  · rcases restore_at h1 with e | ⟨e, e2⟩
    · subst e; rw [keepFz_mt] at m1; cases m1
    · rcases restore_at h2 with e' | ⟨e', e2'⟩
      · subst e'; rw [keepFz_mt] at m2; cases m2
      · exact r2.inj j k s t p (by rw [wipeS_out e]; exact e2) (by rw [wipeS_out e']; exact e2') m1 m2 (by rw [wipe_out e]; exact h3) (by rw [wipe_out e']; exact h4)
theorem own_restore {vs : List Nat} {a : Addr} (h : Own (restoreS st1 st2 vs) σ a) : Own (wipeS st2 vs) (L2.wipe σ vs) a := by
  obtain ⟨j, s, h1, m, h2⟩ := h
  rcases restore_at h1 with e | ⟨e, e2⟩
  · subst e; rw [keepFz_mt] at m; cases m
  · exact ⟨j, s, by rw [wipeS_out e]; exact e2, m, by rw [wipe_out e]; exact h2⟩
/-- an object that no one owns and that is not frozen stays so -/
theorem Step.temp (s : Step O O' G H G' H') {u : HO} (h1 : H p = some u) (h2 : G p = none) (h3 : ¬ O p) : H' p = some u ∧ G' p = none ∧ ¬ O' p := by
  refine ⟨s.keep p u h1 h3, ?_, fun q => ?_⟩
  · cases z : G' p with
    | none => rfl
    | some o =>
      rcases s.new p o z with ⟨x, y⟩ | y | y
      · rw [h2] at y; cases y
      · rw [y] at h1; cases h1
      · exact (h3 y).elim
  · rcases s.own p q with z | z
    · exact h3 z
    · rw [z] at h1; cases h1
theorem Rel.other {u : HO} (r : Rel K st σ G H) (hn : G p = none) (ho : ¬ Own st σ p) : Rel K st σ G (upd H p u) := by
  refine ⟨r.len, fun i s v h1 h2 => ?_, r.inj, fun a x q => ?_⟩
  · have q := r.at_ i s v h1 h2
    have mm : s.mt = true → SlRel K G (upd H p u) s v := fun m => by
      obtain ⟨b, e, h3, h4⟩ := (slrel_mt m).mp q
      subst e
      have nb : b ≠ p := fun e => ho ⟨i, s, h1, m, by rw [← e]; exact h2⟩
      exact (slrel_mt m).mpr ⟨b, rfl, h3, h4.mono (Same.refl _) fun x z => by rw [upd_ne nb]; exact z⟩
    cases s with
    | un => trivial
    | fz d => exact q
    | ow xs => exact mm rfl
    | od xs => exact mm rfl
  · have np : a ≠ p := fun z => by rw [z, hn] at q; cases q
    rw [upd_ne np]
    exact r.ex a x q
theorem Step.other {u : HO} (s : Step O O' G H G' H') (h : H p = none) : Step O O' G H G' (upd H' p u) where
  g := s.g
  keep := fun a x q n => by
    have np : a ≠ p := fun z => by rw [z, h] at q; cases q
    rw [upd_ne np]; exact s.keep a x q n
  own := s.own
  new := s.new
  live := fun a q => by
    by_cases e : a = p
    · subst e; exact h
    · rw [upd_ne e] at q; exact s.live a q
end
def lcL (vs : List Nat) (g : GM) (c : TM) (e : EM) : List D → S → Option (List D × S)
  | [], st => some ([], st)
  | d :: ds, st => match g d (wipeS st vs) with
    | some s1 => match c s1 with
      | some (true, s2) => match eFrz e s2 with
        | some (.tmp (.fz y), s3) => match lcL vs g c e ds s3 with
          | some (ys, s4) => some (y :: ys, s4)
          | none => none
        | _ => none
      | some (false, s2) => lcL vs g c e ds s2
      | none => none
    | none => none
def eLc (vs : List Nat) (i : IM) (g : GM) (c : TM) (e : EM) : EM := fun st => match i st with
  | some (ds, st1) => if ds.length ≤ 100000 then match lcL vs g c e ds st1 with
    | some (ys, st2) => some (.tmp (.ow ys), restoreS st1 st2 vs)
    | none => none else none
  | none => none
theorem eLc_inv {vs : List Nat} {i : IM} {g : GM} {c : TM} {e : EM} {st st' : S} {o : Opd} (h : eLc vs i g c e st = some (o, st')) : ∃ ds st1 ys st2, i st = some (ds, st1) ∧ ds.length ≤ 100000 ∧ lcL vs g c e ds st1 = some (ys, st2) ∧ o = .tmp (.ow ys) ∧ st' = restoreS st1 st2 vs := by
  unfold eLc at h
  split at h
  · rename_i ds st1 e1
    split at h
    · rename_i hl
      split at h
      · rename_i ys st2 e2
        cases h
        exact ⟨ds, st1, ys, st2, e1, hl, e2, rfl, rfl⟩
      · cases h
    · cases h
  · cases h
def tYes' : TM := fun st => some (true, st)
theorem simT_yes {K : PySem.W.Frag} : SimT K tYes tYes' := fun st σ G H b st' r h Q q => by
  cases h
  exact q G H r Step.refl
theorem sim_lc {K : PySem.W.Frag} {vs : List Nat} {wi : TI} {i : IM} {tg : TG} {g : GM} {tt : TT} {c : TM} {te : TE} {e : EM} (hi : SimI K wi i) (hg : SimG K (fun k => vs.contains k) tg g) (hc : SimT K tt c) (he : SimE K te e) : SimE K (tLc wi tg tt te vs) (eLc vs i g c e) := by
  intro st σ G H o st' r h Q q
  obtain ⟨ds, st1, ys, stE, e1, hlen, e2, rfl, rfl⟩ := eLc_inv h
  refine hi st σ G H ds st1 r e1 _ fun J G1 H1 r1 s1 Y => ?_
  intro Dd hDd
  have x0 := Ext.fresh (o := HO.lst []) r1.ex hDd
  have r1' := r1.ext x0
  have nown : ¬ Own st1 σ Dd := fun z => by
    obtain ⟨_, u, hu⟩ := r1.own z
    rw [hDd] at hu; cases hu
  refine ⟨fun k m Hk => m = ds.length - k ∧ k ≤ ds.length ∧ ∃ (sk : S) (Gk : Hp) (accV : List V) (acc yr : List D), Rel K (wipeS sk vs) (L2.wipe σ vs) Gk Hk ∧ Step (Own st1 σ) (Own (wipeS sk vs) (L2.wipe σ vs)) G1 H1 Gk Hk ∧
      Hk Dd = some (.lst accV) ∧ Gk Dd = none ∧ ¬ Own (wipeS sk vs) (L2.wipe σ vs) Dd ∧ DpAll K Gk accV acc ∧ acc.length ≤ k ∧ lcL vs g c e (ds.drop k) sk = some (yr, stE) ∧ ys = acc ++ yr,
    ⟨ds.length, rfl, Nat.zero_le _, st1, G1, [], [], ys, r1'.wipe vs, (x0.step (O := Own st1 σ)).sub fun a z => own_wipe z, upd_same, r1.ex.free hDd, fun z => nown (own_wipe z), .nil, Nat.le_refl _, e2, rfl⟩, ?_⟩
  rintro k m Hk ⟨rfl, hk, sk, Gk, accV, acc, yr, rk, stp, hD, gD, oD, hacc, hal, hf, hys⟩
  by_cases hlt : k < ds.length
  · have ed : ds[k]? = some ds[k] := List.getElem?_eq_getElem hlt
    rw [List.drop_eq_getElem_cons hlt] at hf
    unfold lcL at hf
    obtain ⟨hgo, hy⟩ := Y.item k _ ed Gk Hk stp.g rk.ex
    cases e3 : g ds[k] (wipeS sk vs) with
    | none => rw [e3] at hf; cases hf
    | some s2 =>
      rw [e3] at hf
      simp only at hf
      cases e4 : c s2 with
      | none => rw [e4] at hf; cases hf
      | some pb =>
        obtain ⟨b, s3⟩ := pb
        rw [e4] at hf
        let Nx : Hp → Prop := fun H' => ∃ (sk : S) (Gk : Hp) (accV : List V) (acc yr : List D), Rel K (wipeS sk vs) (L2.wipe σ vs) Gk H' ∧ Step (Own st1 σ) (Own (wipeS sk vs) (L2.wipe σ vs)) G1 H1 Gk H' ∧
          H' Dd = some (.lst accV) ∧ Gk Dd = none ∧ ¬ Own (wipeS sk vs) (L2.wipe σ vs) Dd ∧ DpAll K Gk accV acc ∧ acc.length ≤ k + 1 ∧ lcL vs g c e (ds.drop (k + 1)) sk = some (yr, stE) ∧ ys = acc ++ yr
        refine .inr ⟨hgo, Nx, fun H' hN => ⟨ds.length - (k + 1), by omega, rfl, hlt, hN⟩, fun x H' yx => ?_⟩
        obtain ⟨G', ext, dx⟩ := hy x H' yx
        have rk' := rk.ext ext
        have sx := ext.step (O := Own (wipeS sk vs) (L2.wipe σ vs))
        have stp' := stp.trans sx
        obtain ⟨hD', gD', oD'⟩ := sx.temp hD gD oD
        refine hg (wipeS sk vs) (L2.wipe σ vs) G' H' x _ s2 rk' dx e3 _ fun σ2 r2 o2 k2 => ?_
        have hw : L2.wipe σ2 vs = L2.wipe σ vs := by
          have h1 : L2.wipe σ2 vs = L2.wipe (L2.wipe σ vs) vs := wipe_eq k2.1 fun i hi' => k2.2 i hi'
          have h2 : L2.wipe (L2.wipe σ vs) vs = L2.wipe σ vs := wipe_eq (wipe_length σ vs) fun i hi' => wipe_out (by simpa using hi')
          exact h1.trans h2
        refine ⟨hw, ?_⟩
        have stp2 := stp'.sub o2
        have oD2 : ¬ Own s2 σ2 Dd := fun z => oD' (o2 Dd z)
        refine hc s2 σ2 G' H' b s3 r2 e4 _ fun G3 H3 r3 s3' => ?_
        obtain ⟨hD3, gD3, oD3⟩ := s3'.temp hD' gD' oD2
        have stp3 := stp2.trans s3'
        have acc3 := dpa_mono (sx.g.trans s3'.g) hacc
        cases b with
        | false =>
          rw [if_neg Bool.false_ne_true]
          refine ⟨s3, G3, accV, acc, yr, by rw [← hw]; exact r3.wipe vs, stp3.sub fun a z => by rw [← hw] at z; exact own_wipe z, hD3, gD3, fun z => oD3 (by rw [← hw] at z; exact own_wipe z), acc3, by omega, hf, hys⟩
        | true =>
          rw [if_pos rfl]
          simp only at hf
          split at hf
          · rename_i y s4 e5
            split at hf
            · rename_i yr' s5 e6
              cases hf
              refine sim_frz he s3 σ2 G3 H3 _ s4 r3 e5 _ fun yv G4 H4 r4 s4' o4 => ?_
              have o4 : Dp K G4 yv y := o4
              obtain ⟨hD4, gD4, oD4⟩ := s4'.temp hD3 gD3 oD3
              refine ⟨accV, hD4, Evl.sz_lt (by rw [dpa_len hacc]; omega), ?_⟩
              have stp4 := stp3.trans s4'
              refine ⟨s4, G4, accV ++ [yv], acc ++ [y], yr', by rw [← hw]; exact (r4.other gD4 oD4).wipe vs, (stp4.other hDd).sub fun a z => by rw [← hw] at z; exact own_wipe z, upd_same, gD4, fun z => oD4 (by rw [← hw] at z; exact own_wipe z), dpa_app (dpa_mono s4'.g acc3) (dpa_one o4), by simp; omega, e6, by rw [hys]; simp⟩
            · cases hf
          · cases hf
  · have ek : k = ds.length := by omega
    subst ek
    rw [List.drop_length] at hf
    cases hf
    rw [List.append_nil] at hys
    subst hys
    have stpE : Step (Own st1 σ) (Own (restoreS st1 stE vs) σ) G1 H1 Gk Hk := stp.sub fun a z => own_restore z
    have sE := s1.trans stpE
    refine .inl ⟨Y.stop Gk Hk stp.g rk.ex, q _ Gk Hk (r1.restore rk stp.g) sE ⟨Dd, rfl, gD, ⟨accV, hD, hacc⟩, fun z => oD (own_restore z), .inr (s1.live Dd hDd)⟩⟩
section
variable {X : Cx} {elt tg iter : Expr} {scope : Scope} {own : List (Str × Nat)} {pos : Pos} {wi : TI} {im : IM} {g : TG} {gm : GM} {te : TE} {ev : EM} {tc : TT} {c : TM} {ce : Expr}
theorem se_lc (hc : X.calm = true) (hN : X.N.Nodup) (hi : SI X tg iter wi im) (ok : BlkOk X.N X.env.scope scope own)
    (hg : ∀ (s : Shared) (H : Hp) (C : Addr) (cl : List (Str × Addr)) (fp : List Addr), SG (X.blk s H scope (compEnvC scope cl C X.env) fp) (fun k => (own.map (·.2)).contains k) tg g gm)
    (he : ∀ (s : Shared) (H : Hp) (C : Addr) (cl : List (Str × Addr)) (fp : List Addr), SE (X.blk s H scope (compEnvC scope cl C X.env) fp) elt te ev) (s0 : Shared) (H0 : Hp) (hs : ∀ x, foldedSetIterable iter X.env x = pure x := by intro _; rfl) :
    SE X (.ListComp elt [⟨tg, iter, [], 0⟩] scope pos) (tLc wi g tYes te (own.map (·.2))) (eLc (own.map (·.2)) im gm tYes' ev) :=
  ⟨pe_lc hc hN hi.pe ok (fun s H C cl fp => (hg s H C cl fp).pe) (fun _ _ _ _ _ => pts_nil) (fun s H C cl fp => (he s H C cl fp).pe) hs, sim_lc hi.sim (hg s0 H0 0 [] []).sim simT_yes (he s0 H0 0 [] []).sim⟩
theorem se_lcIf (hc : X.calm = true) (hN : X.N.Nodup) (hi : SI X tg iter wi im) (ok : BlkOk X.N X.env.scope scope own)
    (hg : ∀ (s : Shared) (H : Hp) (C : Addr) (cl : List (Str × Addr)) (fp : List Addr), SG (X.blk s H scope (compEnvC scope cl C X.env) fp) (fun k => (own.map (·.2)).contains k) tg g gm)
    (ht : ∀ (s : Shared) (H : Hp) (C : Addr) (cl : List (Str × Addr)) (fp : List Addr), ST (X.blk s H scope (compEnvC scope cl C X.env) fp) ce tc c)
    (he : ∀ (s : Shared) (H : Hp) (C : Addr) (cl : List (Str × Addr)) (fp : List Addr), SE (X.blk s H scope (compEnvC scope cl C X.env) fp) elt te ev) (s0 : Shared) (H0 : Hp) (hs : ∀ x, foldedSetIterable iter X.env x = pure x := by intro _; rfl) :
    SE X (.ListComp elt [⟨tg, iter, [ce], 0⟩] scope pos) (tLc wi g tc te (own.map (·.2))) (eLc (own.map (·.2)) im gm c ev) :=
  ⟨pe_lc hc hN hi.pe ok (fun s H C cl fp => (hg s H C cl fp).pe) (fun s H C cl fp => pts_one (ht s H C cl fp).pe) (fun s H C cl fp => (he s H C cl fp).pe) hs, sim_lc hi.sim (hg s0 H0 0 [] []).sim (ht s0 H0 0 [] []).sim (he s0 H0 0 [] []).sim⟩
theorem ss_setLc {A : Nat → Bool} {i : Nat} {y : Str} {py spos : Pos} (hc : X.calm = true) (hN : X.N.Nodup) (hy : X.N[i]? = some y) (hyl : X.env.scope.names.lookup y = some .local) (hA : A i = true)
    (hsw : swapsWith (.ListComp elt [⟨tg, iter, [], 0⟩] scope pos) (some (.Name y py)) spos.line X.env = pure true) (hi : SI X tg iter wi im) (ok : BlkOk X.N X.env.scope scope own)
    (hg : ∀ (s : Shared) (H : Hp) (C : Addr) (cl : List (Str × Addr)) (fp : List Addr), SG (X.blk s H scope (compEnvC scope cl C X.env) fp) (fun k => (own.map (·.2)).contains k) tg g gm)
    (he : ∀ (s : Shared) (H : Hp) (C : Addr) (cl : List (Str × Addr)) (fp : List Addr), SE (X.blk s H scope (compEnvC scope cl C X.env) fp) elt te ev) (s0 : Shared) (H0 : Hp) (hs : ∀ x, foldedSetIterable iter X.env x = pure x := by intro _; rfl) :
    SS X A (.Assign [.Name y py] (.ListComp elt [⟨tg, iter, [], 0⟩] scope pos) spos) (tAsg (tLc wi g tYes te (own.map (·.2))) (gName i)) (mAsg i (eLc (own.map (·.2)) im gm tYes' ev)) :=
  ⟨ps_setLc hc hN hy hyl hsw hi.pe ok (fun s H C cl fp => (hg s H C cl fp).pe) (fun _ _ _ _ _ => pts_nil) (fun s H C cl fp => (he s H C cl fp).pe) hs, simS_asg hA (sim_lc hi.sim (hg s0 H0 0 [] []).sim simT_yes (he s0 H0 0 [] []).sim)⟩
theorem ss_setLcIf {A : Nat → Bool} {i : Nat} {y : Str} {py spos : Pos} (hc : X.calm = true) (hN : X.N.Nodup) (hy : X.N[i]? = some y) (hyl : X.env.scope.names.lookup y = some .local) (hA : A i = true)
    (hsw : swapsWith (.ListComp elt [⟨tg, iter, [ce], 0⟩] scope pos) (some (.Name y py)) spos.line X.env = pure true) (hi : SI X tg iter wi im) (ok : BlkOk X.N X.env.scope scope own)
    (hg : ∀ (s : Shared) (H : Hp) (C : Addr) (cl : List (Str × Addr)) (fp : List Addr), SG (X.blk s H scope (compEnvC scope cl C X.env) fp) (fun k => (own.map (·.2)).contains k) tg g gm)
    (ht : ∀ (s : Shared) (H : Hp) (C : Addr) (cl : List (Str × Addr)) (fp : List Addr), ST (X.blk s H scope (compEnvC scope cl C X.env) fp) ce tc c)
    (he : ∀ (s : Shared) (H : Hp) (C : Addr) (cl : List (Str × Addr)) (fp : List Addr), SE (X.blk s H scope (compEnvC scope cl C X.env) fp) elt te ev) (s0 : Shared) (H0 : Hp) (hs : ∀ x, foldedSetIterable iter X.env x = pure x := by intro _; rfl) :
    SS X A (.Assign [.Name y py] (.ListComp elt [⟨tg, iter, [ce], 0⟩] scope pos) spos) (tAsg (tLc wi g tc te (own.map (·.2))) (gName i)) (mAsg i (eLc (own.map (·.2)) im gm c ev)) :=
  ⟨ps_setLc hc hN hy hyl hsw hi.pe ok (fun s H C cl fp => (hg s H C cl fp).pe) (fun s H C cl fp => pts_one (ht s H C cl fp).pe) (fun s H C cl fp => (he s H C cl fp).pe) hs, simS_asg hA (sim_lc hi.sim (hg s0 H0 0 [] []).sim (ht s0 H0 0 [] []).sim (he s0 H0 0 [] []).sim)⟩
end

/-! ### two at once, methods -/
section
variable {X : Cx} {A : Nat → Bool} {i j : Nat} {x y : Str} {e1 e2 : Expr} {ta tb : TE} {a b : EM} {px py pt pos : Pos} {kt k2 pt2}
theorem ss_par (hc : X.calm = true) (hN : X.N.Nodup) (hi : X.N[i]? = some x) (hj : X.N[j]? = some y) (hij : i ≠ j) (hx : X.env.scope.names.lookup x = some .local) (hy : X.env.scope.names.lookup y = some .local) (hAi : A i = true) (hAj : A j = true)
    (ha : SE X e1 ta a) (hb : SE X e2 tb b) (hw : swappedStores [.Tuple [.Name x px, .Name y py] kt pt] (.Tuple [e1, e2] k2 pt2) X.env = pure (some [x, y])) (hs : swapsWithSole [.Tuple [.Name x px, .Name y py] kt pt] (.Tuple [e1, e2] k2 pt2) pos.line X.env = pure false := by rfl)
    (h1 : starEach [e1, e2] X.env = (false, eval e1 X.env) :: starEach [e2] X.env := by rfl) (h2 : starEach [e2] X.env = (false, eval e2 X.env) :: starEach [] X.env := by rfl) :
    SS X A (.Assign [.Tuple [.Name x px, .Name y py] kt pt] (.Tuple [e1, e2] k2 pt2) pos) (tPar i j (tCons ta (tCons tb tNil))) (mPar i j (aCons a (aCons b aNil))) :=
  ⟨ps_par hc hN hi hj hij hx hy (pa_cons ha.pe (pa_cons hb.pe pa_nil h2) h1) hw hs, simS_par hAi hAj (apart2 ha.sim hb.sim)⟩
end
section
variable {X : Cx} {x name : Str} {npos apos cpos : Pos} {e : Expr} {es : List Expr} {t : TA} {a : AM} {i : Nat} {T id : String} {r : V → List V → Hp → VK → Prop} {m : MN}
theorem se_meth (pa : PlainAttrs T) (slot : Slot T name id) (hty : typeOf (.builtin id) = pure (.type "method_descriptor")) (hm : MtR X id r) (hk : MtOk X.K r m) (ho : SE X (.Name x npos) (tVar i) (eVar i)) (ha : SA X (e :: es) t a)
    (hbase : attributeBase (.Name x npos) name X.env (eval (.Name x npos) X.env) = eval (.Name x npos) X.env := by rfl)
    (hfew : ((backTo cpos (starEach (e :: es) X.env)).all (fun x => !x.1) && (backToKw cpos (keywordEach [] X.env)).all (fun x => x.1.isSome)
      && decide ((e :: es).length + ([] : List Keyword).length + (if ([] : List Keyword).isEmpty then 0 else 1) < 30)) = true := by rfl)
    (hline : (apos.endLine == cpos.line) = true := by rfl) (hs : starEach (e :: es) X.env = (false, eval e X.env) :: starEach es X.env := by rfl) (hplain : (backTo cpos (starEach es X.env)).any (·.1) = false := by rfl) :
    SE X (.Call (.Attribute (.Name x npos) name apos) (e :: es) [] cpos) (tBM X.K T r (tVar i) t) (eMt T i m a) := ⟨pe_bm pa slot hty hm ho.pe ha.pe hbase hfew hline hs hplain, sim_mt hk ha.sim⟩
theorem se_app (ho : SE X (.Name x npos) (tVar i) (eVar i)) (ha : SA X [e] t a)
    (hbase : attributeBase (.Name x npos) "append" X.env (eval (.Name x npos) X.env) = eval (.Name x npos) X.env := by rfl)
    (hfew : ((backTo cpos (starEach [e] X.env)).all (fun x => !x.1) && (backToKw cpos (keywordEach [] X.env)).all (fun x => x.1.isSome)
      && decide (([e] : List Expr).length + ([] : List Keyword).length + (if ([] : List Keyword).isEmpty then 0 else 1) < 30)) = true := by rfl)
    (hline : (apos.endLine == cpos.line) = true := by rfl) (hs : starEach [e] X.env = (false, eval e X.env) :: starEach [] X.env := by rfl) (hplain : (backTo cpos (starEach [] X.env)).any (·.1) = false := by rfl) :
    SE X (.Call (.Attribute (.Name x npos) "append" apos) [e] [] cpos) (tBM X.K "list" rAppend (tVar i) t) (eMt "list" i appM a) :=
  se_meth PySem.F.plainAttrs_list PySem.F.slot_list_append PySem.F.type_list_append mt_append ok_app ho ha hbase hfew hline hs hplain
theorem se_pop (ho : SE X (.Name x npos) (tVar i) (eVar i)) (ha : SA X [e] t a)
    (hbase : attributeBase (.Name x npos) "pop" X.env (eval (.Name x npos) X.env) = eval (.Name x npos) X.env := by rfl)
    (hfew : ((backTo cpos (starEach [e] X.env)).all (fun x => !x.1) && (backToKw cpos (keywordEach [] X.env)).all (fun x => x.1.isSome)
      && decide (([e] : List Expr).length + ([] : List Keyword).length + (if ([] : List Keyword).isEmpty then 0 else 1) < 30)) = true := by rfl)
    (hline : (apos.endLine == cpos.line) = true := by rfl) (hs : starEach [e] X.env = (false, eval e X.env) :: starEach [] X.env := by rfl) (hplain : (backTo cpos (starEach [] X.env)).any (·.1) = false := by rfl) :
    SE X (.Call (.Attribute (.Name x npos) "pop" apos) [e] [] cpos) (tBM X.K "list" rPopAt (tVar i) t) (eMt "list" i popM a) :=
  se_meth PySem.F.plainAttrs_list PySem.F.slot_list_pop PySem.F.type_list_pop mt_popAt ok_pop ho ha hbase hfew hline hs hplain
end

/-! ### a def -/
def mask : List Bool → S → List Sl
  | b :: bs, s :: ss => (if b = true then s else .un) :: mask bs ss
  | _ :: bs, [] => .un :: mask bs []
  | [], _ => []
def fnS (n : Nat) (pm : List Bool) (m : SM) : FS := fun as => if as.length = pm.length then match m (as ++ List.replicate (n - pm.length) .un) with
  | some (.rt z, st') => some (z, mask pm st')
  | some (.nx, st') => some (.fz .none, mask pm st')
  | _ => none else none
theorem fnS_inv {n : Nat} {pm : List Bool} {m : SM} {as as' : List Sl} {z : Sl} (h : fnS n pm m as = some (z, as')) : as.length = pm.length ∧ ∃ o st', m (as ++ List.replicate (n - pm.length) .un) = some (o, st') ∧ as' = mask pm st' ∧ (o = .rt z ∨ (o = .nx ∧ z = .fz .none)) := by
  unfold fnS at h
  split at h
  · rename_i hl
    refine ⟨hl, ?_⟩
    split at h
    · rename_i z' st' e1
      cases h
      exact ⟨_, _, e1, rfl, .inl rfl⟩
    · rename_i st' e1
      cases h
      exact ⟨_, _, e1, rfl, .inr ⟨rfl, rfl⟩⟩
    · cases h
  · cases h
theorem mask_len : ∀ (pm : List Bool) (st : S), (mask pm st).length = pm.length
  | [], st => by cases st <;> rfl
  | b :: bs, [] => by
    show (mask bs []).length + 1 = bs.length + 1
    rw [mask_len bs []]
  | b :: bs, s :: ss => by
    show (mask bs ss).length + 1 = bs.length + 1
    rw [mask_len bs ss]
theorem mask_at : ∀ {pm : List Bool} {st : S} {k : Nat} {s : Sl}, (mask pm st)[k]? = some s → s = .un ∨ (pm[k]? = some true ∧ st[k]? = some s)
  | [], st, k, s, h => by cases st <;> simp [mask] at h
  | b :: bs, [], 0, s, h => by simp [mask] at h; exact .inl h.symm
  | b :: bs, [], k + 1, s, h => by
    rcases mask_at (pm := bs) (st := []) (k := k) (s := s) (by simpa [mask] using h) with z | ⟨_, z⟩
    · exact .inl z
    · simp at z
  | b :: bs, x :: ss, 0, s, h => by
    simp [mask] at h
    by_cases hb : b = true
    · rw [if_pos hb] at h; exact .inr ⟨by rw [hb]; rfl, by rw [h]; rfl⟩
    · rw [if_neg hb] at h; exact .inl h.symm
  | b :: bs, x :: ss, k + 1, s, h => mask_at (pm := bs) (st := ss) (k := k) (s := s) (by simpa [mask] using h)
theorem start_rel {K : PySem.W.Frag} {N : List Str} {vs : List V} {as : List Sl} {G H : Hp} (r : Rel K as (vst vs) G H) (hn : vs.length ≤ N.length) : Rel K (as ++ List.replicate (N.length - as.length) .un) (start N vs) G H ∧ ∀ a, Own (as ++ List.replicate (N.length - as.length) .un) (start N vs) a ↔ Own as (vst vs) a := by
  have hl : as.length = vs.length := by rw [r.len]; unfold vst; rw [List.length_map]
  have sp : start N vs = vst vs ++ List.replicate (N.length - vs.length) none := rfl
  have low : ∀ (j : Nat) (s : Sl), (as ++ List.replicate (N.length - as.length) Sl.un)[j]? = some s → s = .un ∨ (j < as.length ∧ as[j]? = some s) := fun j s h => by
    by_cases hj : j < as.length
    · rw [List.getElem?_append_left hj] at h; exact .inr ⟨hj, h⟩
    · rw [List.getElem?_append_right (by omega)] at h
      rw [List.getElem?_replicate] at h
      split at h
      · exact .inl (Option.some.inj h).symm
      · cases h
  have lowv : ∀ (j : Nat), j < as.length → (start N vs)[j]? = (vst vs)[j]? := fun j hj => by
    rw [sp, List.getElem?_append_left (by unfold vst; rw [List.length_map]; omega)]
  refine ⟨⟨?_, fun j s w h1 h2 => ?_, fun j k s t p h1 h2 m1 m2 h3 h4 => ?_, r.ex⟩, fun a => ⟨fun ⟨j, s, h1, m, h2⟩ => ?_, fun ⟨j, s, h1, m, h2⟩ => ?_⟩⟩
  · rw [sp]
    unfold vst
    rw [List.length_append, List.length_append, List.length_replicate, List.length_replicate, List.length_map, hl]
  · rcases low j s h1 with e | ⟨hj, e⟩
    · subst e; trivial
    · rw [lowv j hj] at h2
      exact r.at_ j s w e h2
  · rcases low j s h1 with e | ⟨hj, e⟩
    · subst e; cases m1
    · rcases low k t h2 with e' | ⟨hk, e'⟩
      · subst e'; cases m2
      · rw [lowv j hj] at h3
        rw [lowv k hk] at h4
        exact r.inj j k s t p e e' m1 m2 h3 h4
  · rcases low j s h1 with e | ⟨hj, e⟩
    · subst e; cases m
    · rw [lowv j hj] at h2
      exact ⟨j, s, e, m, h2⟩
  · have hj := (List.getElem?_eq_some_iff.mp h1).1
    exact ⟨j, s, by rw [List.getElem?_append_left hj]; exact h1, m, by rw [lowv j hj]; exact h2⟩
theorem fn_end {K : PySem.W.Frag} {N : List Str} {vs : List V} {as : List Sl} {G H G' H' : Hp} {A : Nat → Bool} {pm : List Bool} {st' : S} {σ' : St} {z : Sl} {v : V} (r : Rel K as (vst vs) G H) (hn : vs.length ≤ N.length) (hp : as.length = pm.length) (hA : ∀ k : Nat, pm[k]? = some true → A k = false)
    (r' : Rel K st' σ' G' H') (s' : Step (Own (as ++ List.replicate (N.length - as.length) .un) (start N vs)) (Own st' σ') G H G' H') (k' : Kp A (start N vs) σ') (v' : VRel K (Own (as ++ List.replicate (N.length - as.length) .un) (start N vs)) H (Own st' σ') G' H' z v) :
    Rel K (mask pm st') (vst vs) G' H' ∧ Step (Own as (vst vs)) (Own (mask pm st') (vst vs)) G H G' H' ∧ VRel K (Own as (vst vs)) H (Own (mask pm st') (vst vs)) G' H' z v := by
  obtain ⟨_, own0⟩ := start_rel r hn
  have hl : as.length = vs.length := by rw [r.len]; unfold vst; rw [List.length_map]
  have at_ : ∀ (j : Nat) (s : Sl) (w : Option V), (mask pm st')[j]? = some s → (vst vs)[j]? = some w → s = .un ∨ (st'[j]? = some s ∧ σ'[j]? = some w) := fun j s w h1 h2 => by
    rcases mask_at h1 with e | ⟨e1, e2⟩
    · exact .inl e
    · refine .inr ⟨e2, ?_⟩
      rw [k'.2 j (hA j e1)]
      show (vst vs ++ List.replicate (N.length - vs.length) none)[j]? = some w
      rw [List.getElem?_append_left (List.getElem?_eq_some_iff.mp h2).1]
      exact h2
  have sub : ∀ a, Own (mask pm st') (vst vs) a → Own st' σ' a := fun a ⟨j, s, h1, m, h2⟩ => by
    rcases at_ j s _ h1 h2 with e | ⟨e1, e2⟩
    · subst e; cases m
    · exact ⟨j, s, e1, m, e2⟩
  refine ⟨⟨by rw [mask_len]; unfold vst; rw [List.length_map, ← hp, hl], fun j s w h1 h2 => ?_, fun j k s t p h1 h2 m1 m2 h3 h4 => ?_, r'.ex⟩, ⟨s'.g, fun a o h1 h2 => s'.keep a o h1 fun q => h2 ((own0 a).mp q), fun a h => (s'.own a (sub a h)).imp (own0 a).mp id, fun a o h => (s'.new a o h).imp id (.imp id (own0 a).mp), s'.live⟩, ?_⟩
  · rcases at_ j s w h1 h2 with e | ⟨e1, e2⟩
    · subst e; trivial
    · exact r'.at_ j s w e1 e2
  · rcases at_ j s _ h1 h3 with e | ⟨e1, e2⟩
    · subst e; cases m1
    · rcases at_ k t _ h2 h4 with e | ⟨e3, e4⟩
      · subst e; cases m2
      · exact r'.inj j k s t p e1 e3 m1 m2 e2 e4
  · have mm : z.mt = true → VRel K (Own as (vst vs)) H (Own (mask pm st') (vst vs)) G' H' z v := fun m => by
      obtain ⟨p, e, h1, h2, h3, h4⟩ := (vrel_mt m).mp v'
      exact (vrel_mt m).mpr ⟨p, e, h1, h2, fun q => h3 (sub p q), h4.imp (own0 p).mp id⟩
    cases z with
    | un => exact v'
    | fz d => exact v'
    | ow xs => exact mm rfl
    | od xs => exact mm rfl
section
variable {P : Program} {w : World} {K : PySem.W.Frag} {mg : Str → Option Value} {base : Heap}
/-- THE DEF's RULE: its body keeps m -/
theorem fn_ok {x qual : Str} {st : Stmt} {f : Addr} {fd : FuncData} {N ps : List Str} {k n : Nat} {A : Nat → Bool} {pm : List Bool} {m : SM} (F : Fun K x qual st f fd) (S : FnScope N ps (defScope st)) (hn : N.length = n) (hp : ps.length = pm.length) (hA : ∀ k : Nat, pm[k]? = some true → A k = false)
    (body : ∀ (cdv : Value) (A' : Around) (outer : List Env) (s : Shared) (H : Hp) (E : XK), Room k (A'.deeper (PyProof.Rows.envOfC qual (defScope st) s.heap.objs.size f cdv)) → ∃ t, SSs (cxOf CX0 P w K mg base N qual (defScope st) f cdv A' outer s H E).nox A (defBody st) t m) :
    FnOk P w K mg base CX0 (k + 1) f fd ps (spOf K (fnS n pm m)) := by
  have len : ∀ vs H Q E, spOf K (fnS n pm m) vs H Q E → vs.length = ps.length := fun vs H Q E h => by
    obtain ⟨as, G, z, as', r, e, _⟩ := h
    obtain ⟨h1, _⟩ := fnS_inv e
    have h2 := r.len
    unfold vst at h2
    rw [List.length_map] at h2
    rw [hp, ← h1, h2]
  have hpl : ps.length ≤ N.length := by have := congrArg List.length S.pre; rw [List.length_take] at this; omega
  refine F.ok S len fun cdv A' outer s H vs Q E hr h => ?_
  have hvs := len vs H Q E h
  obtain ⟨as, G, z, as', r, e, q⟩ := h
  obtain ⟨h1, o, st', e2, rfl, ho⟩ := fnS_inv e
  obtain ⟨t, bd⟩ := body cdv A' outer s H E hr
  refine ⟨t, bd.pe, ?_⟩
  obtain ⟨r0, _⟩ := start_rel (N := N) r (by omega)
  have ev : N.length - as.length = n - pm.length := by rw [hn, h1]
  refine bd.sim _ (start N vs) G H o st' r0 (by rw [ev]; exact e2) _ ?_
  rcases ho with rfl | ⟨rfl, rfl⟩
  · intro σ' v G' H' r' s' k' v'
    obtain ⟨a1, a2, a3⟩ := fn_end r (by omega) h1 hA r' s' k' v'
    exact q v G' H' a1 a2 a3
  · intro σ' G' H' r' s' k'
    obtain ⟨a1, a2, a3⟩ := fn_end (z := .fz .none) (v := .non) r (by omega) h1 hA r' s' k' Dp.non
    exact q .non G' H' a1 a2 a3
end
end Sh

namespace Sh
open PySem PySem.Spec L2

/-! ### {} and dict comprehensions -/
def eD0 : EM := fun st => some (.tmp (.od []), st)
theorem se_d0 {X : Cx} {pos : Pos} : SE X (.Dict [] [] pos) tDNewK eD0 := ⟨pe_dnewK, fun st σ G H o st' r h Q q => by
  cases h
  intro p hp
  have x := Ext.fresh (o := HO.dK []) r.ex hp
  have f : Fresh X.K H G (upd H p (.dK [])) (.od []) (.ref p) := ⟨p, rfl, r.ex.free hp, ⟨[], upd_same, .nil, rfl⟩, hp⟩
  exact q _ _ _ (r.ext x) x.step (f.vrel r)⟩
/-- {k: v for target in iter if ..} -/
def dcL (vs : List Nat) (g : GM) (c : TM) (k e : EM) : List D → S → List (Key × D) → Option (List (Key × D) × S)
  | [], st, acc => some (acc, st)
  | d :: ds, st, acc => match g d (wipeS st vs) with
    | some s1 => match c s1 with
      | some (true, s2) => match eFrz k s2 with
        | some (.tmp (.fz kd), s3) => match eFrz e s3 with
          | some (.tmp (.fz y), s4) => match toKey kd with
            | some key => dcL vs g c k e ds s4 (dput acc key y)
            | none => none
          | _ => none
        | _ => none
      | some (false, s2) => dcL vs g c k e ds s2 acc
      | none => none
    | none => none
def eDc (vs : List Nat) (i : IM) (g : GM) (c : TM) (k e : EM) : EM := fun st => match i st with
  | some (ds, st1) => if ds.length ≤ 100000 then match dcL vs g c k e ds st1 [] with
    | some (kvs, st2) => some (.tmp (.od kvs), restoreS st1 st2 vs)
    | none => none else none
  | none => none
theorem eDc_inv {vs : List Nat} {i : IM} {g : GM} {c : TM} {k e : EM} {st st' : S} {o : Opd} (h : eDc vs i g c k e st = some (o, st')) : ∃ ds st1 kvs st2, i st = some (ds, st1) ∧ ds.length ≤ 100000 ∧ dcL vs g c k e ds st1 [] = some (kvs, st2) ∧ o = .tmp (.od kvs) ∧ st' = restoreS st1 st2 vs := by
  unfold eDc at h
  split at h
  · rename_i ds st1 e1
    split at h
    · rename_i hl
      split at h
      · rename_i ys st2 e2
        cases h
        exact ⟨ds, st1, ys, st2, e1, hl, e2, rfl, rfl⟩
      · cases h
    · cases h
  · cases h
theorem dput_len (kvs : List (Key × D)) (k : Key) (d : D) : (dput kvs k d).length ≤ kvs.length + 1 := by
  induction kvs with
  | nil => exact Nat.le_refl _
  | cons p r ih =>
    obtain ⟨k', d'⟩ := p
    show (if k' = k then (k', d) :: r else (k', d') :: dput r k d).length ≤ _
    by_cases h : k' = k
    · rw [if_pos h]; simp
    · rw [if_neg h]; simp; exact ih
theorem sim_dc {K : PySem.W.Frag} {vs : List Nat} {wi : TI} {i : IM} {tg : TG} {g : GM} {tt : TT} {c : TM} {tk te : TE} {kx e : EM} (hi : SimI K wi i) (hg : SimG K (fun k => vs.contains k) tg g) (hc : SimT K tt c) (hkx : SimE K tk kx) (he : SimE K te e) : SimE K (tDc wi tg tt tk te vs) (eDc vs i g c kx e) := by
  intro st σ G H o st' r h Q q
  obtain ⟨ds, st1, kvs, stE, e1, hlen, e2, rfl, rfl⟩ := eDc_inv h
  refine hi st σ G H ds st1 r e1 _ fun J G1 H1 r1 s1 Y => ?_
  intro Dd hDd
  have x0 := Ext.fresh (o := HO.dK []) r1.ex hDd
  have r1' := r1.ext x0
  have nown : ¬ Own st1 σ Dd := fun z => by
    obtain ⟨_, u, hu⟩ := r1.own z
    rw [hDd] at hu; cases hu
  refine ⟨fun k m Hk => m = ds.length - k ∧ k ≤ ds.length ∧ ∃ (sk : S) (Gk : Hp) (accV : List (Key × V)) (acc : List (Key × D)), Rel K (wipeS sk vs) (L2.wipe σ vs) Gk Hk ∧ Step (Own st1 σ) (Own (wipeS sk vs) (L2.wipe σ vs)) G1 H1 Gk Hk ∧
      Hk Dd = some (.dK accV) ∧ Gk Dd = none ∧ ¬ Own (wipeS sk vs) (L2.wipe σ vs) Dd ∧ KVp K Gk accV acc ∧ keysNd acc = true ∧ acc.length ≤ k ∧ dcL vs g c kx e (ds.drop k) sk acc = some (kvs, stE),
    ⟨ds.length, rfl, Nat.zero_le _, st1, G1, [], [], r1'.wipe vs, (x0.step (O := Own st1 σ)).sub fun a z => own_wipe z, upd_same, r1.ex.free hDd, fun z => nown (own_wipe z), .nil, rfl, Nat.le_refl _, e2⟩, ?_⟩
  rintro k m Hk ⟨rfl, hk, sk, Gk, accV, acc, rk, stp, hD, gD, oD, hacc, hnd, hal, hf⟩
  by_cases hlt : k < ds.length
  · have ed : ds[k]? = some ds[k] := List.getElem?_eq_getElem hlt
    rw [List.drop_eq_getElem_cons hlt] at hf
    unfold dcL at hf
    obtain ⟨hgo, hy⟩ := Y.item k _ ed Gk Hk stp.g rk.ex
    cases e3 : g ds[k] (wipeS sk vs) with
    | none => rw [e3] at hf; cases hf
    | some s2 =>
      rw [e3] at hf
      simp only at hf
      cases e4 : c s2 with
      | none => rw [e4] at hf; cases hf
      | some pb =>
        obtain ⟨b, s3⟩ := pb
        rw [e4] at hf
        let Nx : Hp → Prop := fun H' => ∃ (sk : S) (Gk : Hp) (accV : List (Key × V)) (acc : List (Key × D)), Rel K (wipeS sk vs) (L2.wipe σ vs) Gk H' ∧ Step (Own st1 σ) (Own (wipeS sk vs) (L2.wipe σ vs)) G1 H1 Gk H' ∧
          H' Dd = some (.dK accV) ∧ Gk Dd = none ∧ ¬ Own (wipeS sk vs) (L2.wipe σ vs) Dd ∧ KVp K Gk accV acc ∧ keysNd acc = true ∧ acc.length ≤ k + 1 ∧ dcL vs g c kx e (ds.drop (k + 1)) sk acc = some (kvs, stE)
        refine .inr ⟨hgo, Nx, fun H' hN => ⟨ds.length - (k + 1), by omega, rfl, hlt, hN⟩, fun x H' yx => ?_⟩
        obtain ⟨G', ext, dx⟩ := hy x H' yx
        have rk' := rk.ext ext
        have sx := ext.step (O := Own (wipeS sk vs) (L2.wipe σ vs))
        have stp' := stp.trans sx
        obtain ⟨hD', gD', oD'⟩ := sx.temp hD gD oD
        refine hg (wipeS sk vs) (L2.wipe σ vs) G' H' x _ s2 rk' dx e3 _ fun σ2 r2 o2 k2 => ?_
        have hw : L2.wipe σ2 vs = L2.wipe σ vs := by
          have h1 : L2.wipe σ2 vs = L2.wipe (L2.wipe σ vs) vs := wipe_eq k2.1 fun i hi' => k2.2 i hi'
          have h2 : L2.wipe (L2.wipe σ vs) vs = L2.wipe σ vs := wipe_eq (wipe_length σ vs) fun i hi' => wipe_out (by simpa using hi')
          exact h1.trans h2
        refine ⟨hw, ?_⟩
        have stp2 := stp'.sub o2
        have oD2 : ¬ Own s2 σ2 Dd := fun z => oD' (o2 Dd z)
        refine hc s2 σ2 G' H' b s3 r2 e4 _ fun G3 H3 r3 s3' => ?_
        obtain ⟨hD3, gD3, oD3⟩ := s3'.temp hD' gD' oD2
        have stp3 := stp2.trans s3'
        have acc3 := kvp_mono (sx.g.trans s3'.g) hacc
        cases b with
        | false =>
          rw [if_neg Bool.false_ne_true]
          refine ⟨s3, G3, accV, acc, by rw [← hw]; exact r3.wipe vs, stp3.sub fun a z => by rw [← hw] at z; exact own_wipe z, hD3, gD3, fun z => oD3 (by rw [← hw] at z; exact own_wipe z), acc3, hnd, by omega, hf⟩
        | true =>
          rw [if_pos rfl]
          simp only at hf
          split at hf
          · rename_i kd s4 e5
            split at hf
            · rename_i y s5 e6
              split at hf
              · rename_i key e7
                refine sim_frz hkx s3 σ2 G3 H3 _ s4 r3 e5 _ fun kv G4 H4 r4 s4' o4 => ?_
                have o4 : Dp K G4 kv kd := o4
                obtain ⟨hD4, gD4, oD4⟩ := s4'.temp hD3 gD3 oD3
                refine sim_frz he s4 σ2 G4 H4 _ s5 r4 e6 _ fun yv G5 H5 r5 s5' o5 => ?_
                have o5 : Dp K G5 yv y := o5
                obtain ⟨hD5, gD5, oD5⟩ := s5'.temp hD4 gD4 oD4
                have ek := toKey_ok o4 e7
                subst ek
                refine ⟨accV, key, rfl, hD5, Evl.sz_lt (by rw [kvp_len hacc]; omega), ?_⟩
                have stp5 := (stp3.trans s4').trans s5'
                refine ⟨s5, G5, _, dput acc key y, by rw [← hw]; exact (r5.other gD5 oD5).wipe vs, (stp5.other hDd).sub fun a z => by rw [← hw] at z; exact own_wipe z, upd_same, gD5, fun z => oD5 (by rw [← hw] at z; exact own_wipe z), kvp_put o5 (kvp_mono (s4'.g.trans s5'.g) acc3) hnd, nd_put _ _ _ hnd, by have := dput_len acc key y; omega, hf⟩
              · cases hf
            · cases hf
          · cases hf
  · have ek : k = ds.length := by omega
    subst ek
    rw [List.drop_length] at hf
    cases hf
    have stpE : Step (Own st1 σ) (Own (restoreS st1 stE vs) σ) G1 H1 Gk Hk := stp.sub fun a z => own_restore z
    have sE := s1.trans stpE
    refine .inl ⟨Y.stop Gk Hk stp.g rk.ex, q _ Gk Hk (r1.restore rk stp.g) sE ⟨Dd, rfl, gD, ⟨accV, hD, hacc, hnd⟩, fun z => oD (own_restore z), .inr (s1.live Dd hDd)⟩⟩
section
variable {X : Cx} {kx vx tg iter : Expr} {scope : Scope} {own : List (Str × Nat)} {pos : Pos} {wi : TI} {im : IM} {g : TG} {gm : GM} {tk te : TE} {kv ev : EM} {tc : TT} {c : TM} {ce : Expr}
theorem se_dc (hc : X.calm = true) (hN : X.N.Nodup) (hi : SI X tg iter wi im) (ok : BlkOk X.N X.env.scope scope own)
    (hg : ∀ (s : Shared) (H : Hp) (C : Addr) (cl : List (Str × Addr)) (fp : List Addr), SG (X.blk s H scope (compEnvC scope cl C X.env) fp) (fun k => (own.map (·.2)).contains k) tg g gm)
    (hk : ∀ (s : Shared) (H : Hp) (C : Addr) (cl : List (Str × Addr)) (fp : List Addr), SE (X.blk s H scope (compEnvC scope cl C X.env) fp) kx tk kv)
    (he : ∀ (s : Shared) (H : Hp) (C : Addr) (cl : List (Str × Addr)) (fp : List Addr), SE (X.blk s H scope (compEnvC scope cl C X.env) fp) vx te ev) (s0 : Shared) (H0 : Hp) (hs : ∀ x, foldedSetIterable iter X.env x = pure x := by intro _; rfl) :
    SE X (.DictComp kx vx [⟨tg, iter, [], 0⟩] scope pos) (tDc wi g tYes tk te (own.map (·.2))) (eDc (own.map (·.2)) im gm tYes' kv ev) :=
  ⟨pe_dc hc hN hi.pe ok (fun s H C cl fp => (hg s H C cl fp).pe) (fun _ _ _ _ _ => pts_nil) (fun s H C cl fp => (hk s H C cl fp).pe) (fun s H C cl fp => (he s H C cl fp).pe) hs, sim_dc hi.sim (hg s0 H0 0 [] []).sim simT_yes (hk s0 H0 0 [] []).sim (he s0 H0 0 [] []).sim⟩
end

/-! ### sorted -/
def alikeB (ds : List D) : Bool := ds.all fun d => ds.all fun d' => PySem.W.alike d d'
def isTupB : D → Bool
  | .tuple (_ :: _) => true
  | _ => false
def noTupB : D → Bool
  | .none => false
  | .tuple _ => false
  | _ => true
def sortOk (ds : List D) : Bool := alikeB ds && (ds.all isTupB || ds.all noTupB) && ds.all (fun d => decide (d.depth ≤ 8)) && decide (ds.length ≤ 100000)
def sortD (ds : List D) : List D := ds.mergeSort (PySem.W.dataLe false id)
theorem sortOk_alike {ds : List D} (h : sortOk ds = true) : PySem.W.AllAlike ds := by
  unfold sortOk alikeB at h
  simp only [Bool.and_eq_true, List.all_eq_true] at h
  intro d hd d' hd'
  exact h.1.1.1 d hd d' hd'
theorem sortOk_sortable {ds : List D} (h : sortOk ds = true) : PySem.W.Sortable ds := by
  unfold sortOk at h
  simp only [Bool.and_eq_true, Bool.or_eq_true, List.all_eq_true] at h
  rcases h.1.1.2 with z | z
  · refine .inl fun d hd => ?_
    have y := z d hd
    unfold isTupB at y
    split at y
    · exact ⟨_, _, rfl⟩
    · cases y
  · refine .inr fun d hd => ?_
    have y := z d hd
    unfold noTupB at y
    split at y
    · cases y
    · cases y
    · rename_i n1 n2
      exact ⟨fun e => n1 e, fun xs e => n2 xs e⟩
theorem sortOk_depth {ds : List D} (h : sortOk ds = true) : ∀ d ∈ ds, d.depth ≤ 8 := by
  unfold sortOk at h
  simp only [Bool.and_eq_true, List.all_eq_true, decide_eq_true_eq] at h
  exact h.1.2
theorem sortOk_len {ds : List D} (h : sortOk ds = true) : ds.length ≤ 100000 := by
  unfold sortOk at h
  simp only [Bool.and_eq_true, decide_eq_true_eq] at h
  exact h.2
theorem sort_map {β : Type} (f : β → D) (bs : List β) : (bs.mergeSort (PySem.W.dataLe false f)).map f = sortD (bs.map f) := by
  unfold sortD
  rw [List.map_mergeSort (r := PySem.W.dataLe false f) (s := PySem.W.dataLe false id)]
  intro a _ b _
  rfl
theorem sort_len (ds : List D) : (sortD ds).length = ds.length := List.length_mergeSort _
/-- the values and what they stand for, side by side -/
theorem pair_up {K : PySem.W.Frag} {G : Hp} : ∀ {vs : List V} {ds : List D}, DpAll K G vs ds → ∃ bs : List (V × D), bs.map (·.1) = vs ∧ bs.map (·.2) = ds ∧ ∀ b ∈ bs, Dp K G b.1 b.2
  | _, _, .nil => ⟨[], rfl, rfl, fun b h => by cases h⟩
  | v :: vs, d :: ds, .cons h t => by
    obtain ⟨bs, h1, h2, h3⟩ := pair_up t
    refine ⟨(v, d) :: bs, by rw [List.map_cons, h1], by rw [List.map_cons, h2], fun b hb => ?_⟩
    rcases List.mem_cons.mp hb with rfl | hb
    · exact h
    · exact h3 b hb
theorem dpa_of_pairs {K : PySem.W.Frag} {G : Hp} : ∀ {bs : List (V × D)}, (∀ b ∈ bs, Dp K G b.1 b.2) → DpAll K G (bs.map (·.1)) (bs.map (·.2))
  | [], _ => .nil
  | b :: bs, h => .cons (h b (List.mem_cons_self ..)) (dpa_of_pairs fun c hc => h c (List.mem_cons_of_mem _ hc))
theorem each_vals : ∀ {us : List Value} {bs : List (V × D)}, Vals (bs.map (·.1)) us → PySem.W.EachIs (fun u b => RelV b.1 u) us bs
  | _, [], r => by cases r; exact .nil
  | _, b :: bs, r => by
    cases r with
    | cons h t => exact .cons h (each_vals t)
theorem vals_each : ∀ {us : List Value} {bs : List (V × D)}, PySem.W.EachIs (fun u b => RelV b.1 u) us bs → Vals (bs.map (·.1)) us
  | _, _, .nil => .nil
  | _, _, .cons h t => .cons h (vals_each t)
end Sh

namespace Sh
open PySem PySem.Spec L2

/-! ### sorted(xs) -/
def rSortD (K : PySem.W.Frag) : List V → Hp → VK → Prop := fun xs H Q => ∃ (a : Addr) (G : Hp) (vs : List V) (ds : List D), xs = [V.ref a] ∧ Same G H ∧ SqL K H a vs ∧ DpAll K G vs ds ∧ sortOk ds = true ∧
  ∀ (p : Addr) (ws : List V), H p = none → DpAll K G ws (sortD ds) → Q (.ref p) (upd H p (.lst ws))
theorem each_and {α β : Type} {R S : α → β → Prop} : ∀ {xs : List α} {ys : List β}, PySem.W.EachIs R xs ys → (∀ x y, R x y → y ∈ ys → S x y) → PySem.W.EachIs S xs ys
  | _, _, .nil, _ => .nil
  | _, _, .cons h t, f => .cons (f _ _ h (List.mem_cons_self ..)) (each_and t fun x y r m => f x y r (List.mem_cons_of_mem _ m))
theorem cr_sortD {X : Cx} (hu : X.A.units + 64 < cLine) : CallR X (.builtin "sorted") (rSortD X.K) := by
  intro pins s σ H xs us Q I r h
  obtain ⟨a, G, vs, ds, rfl, hG, hs, hd, hok, q⟩ := h
  obtain ⟨its, rv, hl, _⟩ := I.list hs
  rw [Vals.ref1 r]
  obtain ⟨bs, b1, b2, b3⟩ := pair_up hd
  subst b1; subst b2
  have e := each_vals rv
  have er : PySem.W.EachIs (fun v (b : V × D) => ∃ as, Reads s.heap v b.2 as) its bs := each_and e fun u b ru hb => Dp.reads I b.2 b.1 u (dp_mono hG (b3 b hb)) (noD_alike (sortOk_alike hok _ (List.mem_map.mpr ⟨b, hb, rfl⟩) _ (List.mem_map.mpr ⟨b, hb, rfl⟩))) ru
  have hlen : bs.length ≤ 100000 := by have := sortOk_len hok; rwa [List.length_map] at this
  refine PySem.W.sorted_data (enc := fun b : V × D => b.2) hl.isList e er (sortOk_alike hok) (sortOk_sortable hok) (Evl.sz_of hlen) (fun b hb => ?_) fun out h1 h2 => ?_
  · have := sortOk_depth hok b.2 (List.mem_map.mpr ⟨b, hb, rfl⟩)
    omega
  · obtain ⟨ep, he'⟩ := PyProof.Rows.sortedAll_at s.heap its out.toArray
    have hv := vals_each h2
    have hz : ((bs.mergeSort (PySem.W.dataLe false fun b : V × D => b.2)).map (·.1)).length ≤ sizeLine := by
      rw [List.length_map, List.length_mergeSort]; exact Evl.sz_of hlen
    refine ⟨.ref _, upd H (s.heap.objs.size + 1) (.lst ((bs.mergeSort (PySem.W.dataLe false fun b : V × D => b.2)).map (·.1))), I.laid (t' := s.toks) (fun _ _ => PyProof.Rows.sortedAll_old) (Nat.le_succ _) ⟨hz, out, ep, hv, he'⟩, rfl, q _ _ (I.hok.fresh (Nat.le_succ _)) ?_⟩
    rw [← sort_map (fun b : V × D => b.2) bs]
    exact dpa_of_pairs fun b hb => b3 b (List.mem_mergeSort.mp hb)
def sortF : Sl → Option Sl := fun s => match s.l with
  | some ds => if sortOk ds = true then some (.ow (sortD ds)) else none
  | none => none
theorem ok_sortF {K : PySem.W.Frag} : CallOk K (rSortD K) (one sortF) := by
  intro G H xs ss z e l hz0 Q q
  obtain ⟨s, rfl, hz⟩ := one_inv hz0
  obtain ⟨x, rfl, lx⟩ := looks1 l
  unfold sortF at hz
  split at hz
  · rename_i ds hs
    split at hz
    · rename_i hok
      cases hz
      obtain ⟨a, vs, rfl, h1, h2⟩ := look_l e lx hs
      exact ⟨a, G, vs, ds, rfl, e, h1, h2, hok, fun p ws hp hw => ans_ow e hw q hp⟩
    · cases hz
  · cases hz
theorem se_sorted {X : Cx} {p pos : Pos} {e : Expr} {t : TA} {a : AM} (hu : X.A.units + 64 < cLine) (hg : Gl X "sorted") (hm : X.mg "sorted" = none) (ha : SA X [e] t a) (he : starEach [e] X.env = (false, eval e X.env) :: starEach [] X.env := by rfl) :
    SE X (.Call (.Name "sorted" p) [e] [] pos) (tCB (rSortD X.K) t) (eFn (one sortF) a) := se_callB (cr_sortD hu) ok_sortF hg hm (by decide +kernel) ha (he := he)

/-! ### d.items(): a view, then sorted or list of it -/
def keyD : Key → D
  | .inl i => .int i
  | .inr x => .str x
theorem dab_key (k : Key) : dab1 (keyD k) = false := by cases k <;> rfl
theorem dp_key {K : PySem.W.Frag} {G : Hp} (k : Key) : Dp K G (kV k) (keyD k) := by
  cases k with
  | inl i => exact .int i
  | inr x => exact .str x
def itemsD (kvs : List (Key × D)) : List D := kvs.map fun p => .tuple [keyD p.1, p.2]
def rItemsK : V → List V → Hp → VK → Prop := fun x xs H Q => ∃ (a : Addr) (kvs : List (Key × V)), x = .ref a ∧ xs = [] ∧ H a = some (.dK kvs) ∧ ∀ p, H p = none → Q (.ref p) (upd H p (DX.itemsO p a))
theorem mt_itemsK {X : Cx} : MtR X "dict.items" rItemsK := by
  intro pins s σ H x xs v us Q I rx rxs h
  obtain ⟨a, kvs, rfl, rfl, ha, q⟩ := h
  cases rx
  cases rxs
  obtain ⟨z, hd, vs, rel, dd⟩ := dk_of I.hok ha
  obtain ⟨es, ep, hr, _⟩ := PySem.Heap.DictOf.raw dd
  refine DT.callItems (es := es) (ep := ep) hd hr ?_
  have hf : H s.heap.objs.size = none := I.hok.fresh (Nat.le_refl _)
  exact ⟨.ref s.heap.objs.size, upd H s.heap.objs.size (DX.itemsO s.heap.objs.size a), I.laid (t' := s.toks) (fun b u e => Heap.get?_push_of_some _ e) (Nat.le_refl _) (DX.itemsO_ok (Heap.get?_push_size _ rfl)), rfl, q _ hf⟩
/-- plain values: no objects -/
def flatD : D → Bool
  | .none => true
  | .bool _ => true
  | .int _ => true
  | .str _ => true
  | _ => false
/-- the pairs sorted into a new list of new pairs -/
theorem noD_flat {d : D} (h : flatD d = true) : noD d = true := by
  cases d <;> first | rfl | cases h
def rSortItK (K : PySem.W.Frag) : List V → Hp → VK → Prop := fun xs H Q => ∃ (p a : Addr) (G : Hp) (ws : List (Key × V)) (kvs : List (Key × D)), xs = [V.ref p] ∧ H p = some (DX.itemsO p a) ∧ H a = some (.dK ws) ∧ Same G H ∧ KVp K G ws kvs ∧ sortOk (itemsD kvs) = true ∧ kvs.all (fun q => flatD q.2) = true ∧
  ∀ v G' H', Ext G H G' H' → Fresh K H G' H' (.ow (sortD (itemsD kvs))) v → Q v H'
theorem reads_flat {h : Heap} {u : Value} {x : V} {d : D} {as : List Addr} (hd : flatD d = true) (r : Reads h u d as) : as = [] := by
  cases r <;> first | rfl | cases hd
theorem paired_ix' {α β : Type} {F : α → β → Prop} : ∀ {xs : List α} {ys : List β}, Paired F xs ys → ∀ {j : Nat} {y : β}, ys[j]? = some y → ∃ x, xs[j]? = some x ∧ F x y
  | _, _, .nil, j, y, h => by simp at h
  | _, _, .cons r t, 0, y, h => by simp at h; subst h; exact ⟨_, rfl, r⟩
  | _, _, .cons r t, j + 1, y, h => by
    obtain ⟨x, h1, h2⟩ := paired_ix' t (j := j) (y := y) (by simpa using h)
    exact ⟨x, by simpa using h1, h2⟩
end Sh

namespace Sh
open PySem PySem.Spec L2

theorem key_relv {P : Program} {w : World} {k : Key} {u : Value} (h : (mixKind P w).is k u = true) : RelV (kV k) u := by
  rcases keyIs_shape (show keyIs k u = true from h) with ⟨i, t, rfl, rfl⟩ | ⟨x, t, rfl, rfl⟩
  · exact ⟨t, rfl⟩
  · exact ⟨t, rfl⟩
theorem reads_key {h : Heap} {k : Key} {u : Value} (r : RelV (kV k) u) : Reads h u (keyD k) [] := by
  cases k with
  | inl i => obtain ⟨t, e⟩ := (show ∃ t, u = Value.int i t from r); subst e; exact .int _ _
  | inr x => obtain ⟨t, e⟩ := (show ∃ t, u = Value.str x t from r); subst e; exact .str _ _
abbrev It := Addr × (Key × V) × (Key × D)
def encIt (b : It) : D := .tuple [keyD b.2.2.1, b.2.2.2]
theorem each_zip : ∀ (as : List Addr) (rs : List ((Key × V) × (Key × D))), as.length = rs.length → PySem.W.EachIs (fun v (b : It) => v = Value.ref b.1) (as.map Value.ref) (as.zip rs)
  | [], [], _ => .nil
  | a :: as, [], h => by simp at h
  | [], r :: rs, h => by simp at h
  | a :: as, r :: rs, h => .cons rfl (each_zip as rs (by simpa using h))
theorem each_of_ix {α β : Type} {R S : α → β → Prop} : ∀ {xs : List α} {ys : List β}, PySem.W.EachIs R xs ys → (∀ (j : Nat) x y, xs[j]? = some x → ys[j]? = some y → R x y → S x y) → PySem.W.EachIs S xs ys
  | _, _, .nil, _ => .nil
  | _, _, .cons h t, f => .cons (f 0 _ _ rfl rfl h) (each_of_ix t fun j x y h1 h2 r => f (j + 1) x y h1 h2 r)
theorem each_refs : ∀ {out : List Value} {zs : List It}, PySem.W.EachIs (fun v (b : It) => v = Value.ref b.1) out zs → out = zs.map fun z => Value.ref z.1
  | _, _, .nil => rfl
  | _, _, .cons h t => by rw [List.map_cons, ← each_refs t, h]
theorem enc_zip : ∀ (as : List Addr) (ws : List (Key × V)) (kvs : List (Key × D)), as.length = kvs.length → ws.length = kvs.length → (as.zip (ws.zip kvs)).map encIt = itemsD kvs
  | [], [], [], _, _ => rfl
  | a :: as, w :: ws, q :: qs, h1, h2 => by
    show encIt (a, w, q) :: (as.zip (ws.zip qs)).map encIt = _
    rw [enc_zip as ws qs (by simpa using h1) (by simpa using h2)]
    rfl
  | [], w :: ws, [], _, h2 => by simp at h2
  | a :: as, [], q :: qs, _, h2 => by simp at h2
  | [], [], q :: qs, h1, _ => by simp at h1
  | [], w :: ws, q :: qs, h1, _ => by simp at h1
  | a :: as, ws, [], h1, _ => by simp at h1
theorem cr_sortItK {X : Cx} (hc : X.calm = true) (hu : X.A.units + 64 < cLine) : CallR X (.builtin "sorted") (rSortItK X.K) := by
  intro pins s σ H xs us Q I r h
  obtain ⟨p, a, G, ws, kvs, rfl, hp, ha, hG, hkv, hok, hfl, q⟩ := h
  rw [Vals.ref1 r]
  have view : s.heap.IsItemsView p a := (show ObjOk X.prog X.w H s.heap p (DX.itemsO p a) from I.hok p _ hp).1
  obtain ⟨z, hd, vs, rel, dd⟩ := dk_of I.hok ha
  obtain ⟨es, ep, hr, hes, hge⟩ := PySem.Heap.DictOf.raw dd
  have l1 : ws.length = vs.length := KV.length rel
  have l0 : ws.length = kvs.length := Paired.length hkv
  have hlen : kvs.length ≤ 100000 := by have := sortOk_len hok; rwa [itemsD, List.length_map] at this
  have hh : X.A.handled = none := I.ok.hd hc
  refine DT.sortedI (es := es) (ep := ep) hh view hr (by rw [sizeLine_eq]; omega) fun h' tk as hk hlt hl hM => ?_
  have lak : as.length = kvs.length := by omega
  have nd : as.Nodup := List.Pairwise.imp (fun h => Nat.ne_of_lt h) hM.rise
  have pr : ∀ (j : Nat) (b : Addr), as[j]? = some b → ∃ (wv : Key × V) (kv : Key × D) (u1 u2 : Value), ws[j]? = some wv ∧ kvs[j]? = some kv ∧ wv.1 = kv.1 ∧ RelV (kV wv.1) u1 ∧ RelV wv.2 u2 ∧ Dp X.K G wv.2 kv.2 ∧ flatD kv.2 = true ∧ h'.get? b = some { cls := .type "tuple", data := .seq #[u1, u2] } := by
    intro j b hj
    obtain ⟨en, he, hg⟩ := hM.pairs j b hj
    have hjk : j < kvs.length := by rw [← lak]; exact (List.getElem?_eq_some_iff.mp hj).1
    obtain ⟨wv, h1, h2, h3⟩ := paired_ix' hkv (List.getElem?_eq_getElem hjk)
    have hjv : j < vs.length := by omega
    obtain ⟨wv', h1', h4, h5⟩ := paired_ix' rel (List.getElem?_eq_getElem hjv)
    have ew : wv' = wv := Option.some.inj (h1'.symm.trans h1)
    subst ew
    have hje : j < es.size := by omega
    have een : es[j] = en := Option.some.inj ((Array.getElem?_eq_getElem hje).symm.trans he)
    obtain ⟨k1, k2⟩ := hge j hje vs[j].1 vs[j].2 (List.getElem?_eq_getElem hjv)
    rw [een] at k1 k2
    refine ⟨wv', kvs[j], en.key, en.val, h1, List.getElem?_eq_getElem hjk, h2, ?_, by rw [k2]; exact h5, h3, List.all_eq_true.mp hfl _ (List.getElem_mem hjk), hg⟩
    rw [h4]
    exact key_relv k1
  have hob : (h'.push { cls := .type "list", data := .seq (as.map Value.ref).toArray }).get? h'.objs.size = some (PyProof.Rows.seqObj "list" (as.map Value.ref).toArray 0) := Heap.get?_push_size _ rfl
  have ka : ∀ b o, h'.get? b = some o → (h'.push { cls := .type "list", data := .seq (as.map Value.ref).toArray }).get? b = some o := fun b o e => Heap.get?_push_of_some _ e
  have ne0 : ∀ b o, h'.get? b = some o → b ≠ h'.objs.size := fun b o e => Nat.ne_of_lt (Heap.lt_size e)
  generalize hh2 : h'.push { cls := .type "list", data := .seq (as.map Value.ref).toArray } = h2 at hob ka ⊢
  have e0 := each_zip as (ws.zip kvs) (by rw [List.length_zip]; omega)
  have hlb : (as.zip (ws.zip kvs)).length = kvs.length := by rw [List.length_zip, List.length_zip]; omega
  have em := enc_zip as ws kvs lak l0
  have at_ : ∀ (j : Nat) (b : It), (as.zip (ws.zip kvs))[j]? = some b → as[j]? = some b.1 ∧ ws[j]? = some b.2.1 ∧ kvs[j]? = some b.2.2 := by
    intro j b hb
    obtain ⟨h1, h2⟩ := List.getElem?_zip_eq_some.mp hb
    obtain ⟨h3, h4⟩ := List.getElem?_zip_eq_some.mp h2
    exact ⟨h1, h3, h4⟩
  refine PySem.W.list_sort_data (s := { s with heap := h2, toks := tk }) (enc := encIt) (R := fun v (b : It) => v = Value.ref b.1) hob e0 (each_of_ix e0 fun j v b _ hb ev => ?_) (by rw [em]; exact sortOk_alike hok) (by rw [em]; exact sortOk_sortable hok) (by rw [hlb]; exact Evl.sz_of hlen) (fun b hb => ?_) fun out o1 o2 => ?_
  · obtain ⟨j1, j2, j3⟩ := at_ j b hb
    obtain ⟨wv, kv, u1, u2, c1, c2, c3, c4, c5, c6, c7, c8⟩ := pr j b.1 j1
    have d1 : wv = b.2.1 := Option.some.inj (c1.symm.trans j2)
    have d2 : kv = b.2.2 := Option.some.inj (c2.symm.trans j3)
    subst d1
    rw [d2] at c3 c6 c7
    subst ev
    obtain ⟨as', r2⟩ := Dp.reads I b.2.2.2 b.2.1.2 u2 (dp_mono hG c6) (noD_flat c7) c5
    have ea := reads_flat (x := V.non) c7 r2
    subst ea
    have r2' : Reads h2 u2 b.2.2.2 [] := PyProof.Rows.Reads.keeps (fun c o e => ka c o (hk c o e)) r2
    refine ⟨[], Reads.tuple (ka _ _ c8) rfl rfl ?_, by simp⟩
    exact ReadsAll.cons (reads_key (by rw [← c3]; exact c4)) (ReadsAll.cons r2' .nil)
  · have := sortOk_depth hok (encIt b) (by rw [← em]; exact List.mem_map.mpr ⟨b, hb, rfl⟩)
    show X.A.in1.units + 1 + _ < _
    have hi : X.A.in1.units = X.A.units + 1 := rfl
    omega
  · show EP X pins σ Q (.ref h'.objs.size) { s with heap := PyProof.Rows.sortedHeap h2 h'.objs.size (as.map Value.ref) (List.toArray out), toks := tk }
    generalize hzs : (as.zip (ws.zip kvs)).mergeSort (PySem.W.dataLe false encIt) = zs at o2
    have hout : out = zs.map fun z => Value.ref z.1 := each_refs o2
    have pz : zs.Perm (as.zip (ws.zip kvs)) := by rw [← hzs]; exact List.mergeSort_perm _ _
    have idx : ∀ z ∈ zs, ∃ j : Nat, as[j]? = some z.1 ∧ ws[j]? = some z.2.1 ∧ kvs[j]? = some z.2.2 := by
      intro z' hz'
      obtain ⟨j, hj⟩ := List.mem_iff_getElem?.mp (pz.mem_iff.mp hz')
      exact ⟨j, at_ j _ hj⟩
    have hsrt : zs.map encIt = sortD (itemsD kvs) := by rw [← hzs, sort_map, em]
    have kF : ∀ b o, b ≠ h'.objs.size → h2.get? b = some o → (PyProof.Rows.sortedHeap h2 h'.objs.size (as.map Value.ref) (List.toArray out)).get? b = some o := fun b o hb e => (PyProof.Rows.sortedHeap_old hb (Heap.lt_size e)).trans e
    have kS : ∀ b o, s.heap.get? b = some o → (PyProof.Rows.sortedHeap h2 h'.objs.size (as.map Value.ref) (List.toArray out)).get? b = some o := fun b o e => kF b o (ne0 _ _ (hk b o e)) (ka b o (hk b o e))
    obtain ⟨eF, heF⟩ := PyProof.Rows.sortedHeap_at (vs := as.map Value.ref) (out := List.toArray out) hob
    have I1 : Inv X pins σ H { s with heap := PyProof.Rows.sortedHeap h2 h'.objs.size (as.map Value.ref) (List.toArray out), toks := tk } := I.kept (t' := tk) kS
    have hn0 : H h'.objs.size = none := I.hok.fresh (Nat.le_of_lt hlt)
    have hlen' : (zs.map fun z => V.ref z.1).length ≤ sizeLine := by
      have e := pz.length_eq
      rw [List.length_map, sizeLine_eq]
      omega
    have rv : Vals (zs.map fun z => V.ref z.1) out := by
      rw [hout]
      exact vals_maps (fun z : It => V.ref z.1) (fun z => Value.ref z.1) zs fun _ _ => rfl
    have I2 : Inv X pins σ (upd H h'.objs.size (.lst (zs.map fun z => V.ref z.1))) { s with heap := PyProof.Rows.sortedHeap h2 h'.objs.size (as.map Value.ref) (List.toArray out), toks := tk } :=
      I1.take (h' := PyProof.Rows.sortedHeap h2 h'.objs.size (as.map Value.ref) (List.toArray out)) (t' := tk) (fun b ob _ e => e) (I.fpOk (Nat.le_of_lt hlt) hn0) ⟨hlen', out, eF, rv, heF⟩
    have hfree : ∀ b ∈ as, H b = none ∧ s.heap.objs.size ≤ b := fun b hb => ⟨I.hok.fresh (Nat.le_of_lt (hM.above b hb)), Nat.le_of_lt (hM.above b hb)⟩
    obtain ⟨H3, I3, g, qt⟩ := DX.takeT (P := fun b vs => ∃ (j : Nat) (wv : Key × V), as[j]? = some b ∧ ws[j]? = some wv ∧ vs = [kV wv.1, wv.2]) I as _ I2 nd fun b hb => by
      obtain ⟨j, hj⟩ := List.mem_iff_getElem?.mp hb
      obtain ⟨wv, kv, u1, u2, c1, c2, c3, c4, c5, c6, c7, c8⟩ := pr j b hj
      refine ⟨(hfree b hb).2, ?_, [kV wv.1, wv.2], ⟨j, wv, hj, c1, rfl⟩, fun H3 => ⟨(by rw [sizeLine_eq]; show 2 ≤ 16777216; omega), [u1, u2], .cons c4 (.cons c5 .nil), ⟨_, kF _ _ (ne0 _ _ c8) (ka _ _ c8), rfl, 0, rfl⟩⟩⟩
      rw [upd_ne (ne0 _ _ c8)]
      exact (hfree b hb).1
    have gr : ∀ b o, H b = some o → H3 b = some o := fun b o e => g b o (by rw [upd_ne (ne_of_none e hn0)]; exact e)
    have hnl : h'.objs.size ∉ as := fun hb => Nat.lt_irrefl _ (hM.there hb)
    let G' : Hp := fun b => if b ∈ as then H3 b else G b
    have gin : ∀ b, b ∈ as → G' b = H3 b := fun b hb => if_pos hb
    have gout : ∀ b, b ∉ as → G' b = G b := fun b hb => if_neg hb
    have gnone : ∀ b o, b ∈ as → G b = some o → False := fun b o hb e => by
      have := hG b o e
      rw [(hfree b hb).1] at this
      cases this
    have ext : Ext G H G' H3 := by
      refine ⟨fun b o e => ?_, gr, fun b o e => ?_, fun b o e => ?_⟩
      · rw [gout b fun hb => gnone b o hb e]; exact e
      · by_cases hb : b ∈ as
        · rw [gin b hb] at e; exact e
        · rw [gout b hb] at e; exact gr b o (hG b o e)
      · by_cases hb : b ∈ as
        · exact .inr (hfree b hb).1
        · rw [gout b hb] at e; exact .inl ⟨o, e⟩
    refine ⟨.ref h'.objs.size, H3, I3, rfl, q _ G' H3 ext ⟨h'.objs.size, rfl, ?_, ⟨zs.map fun z => V.ref z.1, g _ _ upd_same, ?_⟩, hn0⟩⟩
    · rw [gout _ hnl]; exact hG.free hn0
    · rw [← hsrt]
      have all : ∀ b ∈ zs.map (fun z => (V.ref z.1, encIt z)), Dp X.K G' b.1 b.2 := by
        intro b hb
        obtain ⟨z', hz', rfl⟩ := List.mem_map.mp hb
        obtain ⟨i, i1, i2, i3⟩ := idx z' hz'
        obtain ⟨vs', ⟨j, wv, j1, j2, ev⟩, hH⟩ := qt z'.1 (List.mem_of_getElem? i1)
        have eij : i = j := (List.getElem?_inj (List.getElem?_eq_some_iff.mp i1).1 nd).mp (i1.trans j1.symm)
        subst eij
        obtain ⟨wv', kv, u1, u2, c1, c2, c3, c4, c5, c6, c7, c8⟩ := pr i z'.1 i1
        have d0 : wv' = wv := Option.some.inj (c1.symm.trans j2)
        have d2 : kv = z'.2.2 := Option.some.inj (c2.symm.trans i3)
        subst d0
        rw [d2] at c3 c6
        subst ev
        refine .tup (vs := [kV wv'.1, wv'.2]) (.inl (.inl ?_)) (.cons ?_ (.cons ?_ .nil)) (fun z => by rw [dable_key (dab_key _)] at z; cases z)
        · rw [gin _ (List.mem_of_getElem? i1)]; exact hH
        · rw [c3]; exact dp_key _
        · exact dp_mono ext.g c6
      have := dpa_of_pairs all
      rw [List.map_map, List.map_map] at this
      exact this
end Sh

namespace Sh
open PySem PySem.Spec L2

/-! ### sorted(d.items()) -/
def eSortIt (e : EM) : EM := fun st => match e st with
  | some (o, st1) => match o.get st1 with
    | some (.od kvs) => if sortOk (itemsD kvs) = true ∧ kvs.all (fun q => flatD q.2) = true then some (.tmp (.ow (sortD (itemsD kvs))), st1) else none
    | _ => none
  | none => none
theorem eSortIt_inv {e : EM} {st st' : S} {o : Opd} (h : eSortIt e st = some (o, st')) : ∃ o1 kvs, e st = some (o1, st') ∧ o1.get st' = some (.od kvs) ∧ sortOk (itemsD kvs) = true ∧ kvs.all (fun q => flatD q.2) = true ∧ o = .tmp (.ow (sortD (itemsD kvs))) := by
  unfold eSortIt at h
  split at h
  · rename_i o1 st1 e1
    split at h
    · rename_i kvs e2
      split at h
      · rename_i hc
        cases h
        exact ⟨o1, kvs, e1, e2, hc.1, hc.2, rfl⟩
      · cases h
    · cases h
  · cases h
abbrev tSortIt (K : PySem.W.Frag) (t : TE) : TE := tCB (rSortItK K) (tCons (tBM0 K "dict" rItemsK t) tNil)
theorem sim_sortIt {K : PySem.W.Frag} {t : TE} {e : EM} (he : SimE K t e) : SimE K (tSortIt K t) (eSortIt e) := by
  intro st σ G H o st' r h Q q
  obtain ⟨o1, kvs, e1, e2, h1, h2, rfl⟩ := eSortIt_inv h
  refine he st σ G H o1 st' r e1 _ fun v G1 H1 r1 s1 v1 => ?_
  obtain ⟨a, ev, ws, ha, hk, hn⟩ := ORel.look r1 v1 (fun z => by cases z) e2
  subst ev
  refine ⟨.inr (.inr (.inl ⟨rfl, .inl ⟨ws, ha⟩⟩)), a, ws, rfl, rfl, ha, fun p hp => ?_⟩
  have x := Ext.fresh (o := DX.itemsO p a) r1.ex hp
  have r2 := r1.ext x
  have nv : a ≠ p := fun z => by rw [z, hp] at ha; cases ha
  refine ⟨p, a, G1, ws, kvs, rfl, upd_same, by rw [upd_ne nv]; exact ha, r2.ex, hk, h1, h2, fun v2 G2 H2 x2 f2 => ?_⟩
  exact q _ _ _ (r2.ext x2) ((s1.trans x.step).trans x2.step) (VRel.back (VRel.back (f2.vrel r2) x.step) s1)
theorem se_sortIt {X : Cx} {p pos apos cpos : Pos} {e : Expr} {t : TE} {m : EM} (hc : X.calm = true) (hu : X.A.units + 64 < cLine) (hg : Gl X "sorted") (hm : X.mg "sorted" = none) (he : SE X e t m)
    (hbase : attributeBase e "items" X.env (eval e X.env) = eval e X.env := by rfl) (hline : (apos.endLine == cpos.line) = true := by rfl)
    (hs : starEach [.Call (.Attribute e "items" apos) [] [] cpos] X.env = (false, eval (.Call (.Attribute e "items" apos) [] [] cpos) X.env) :: starEach [] X.env := by rfl) :
    SE X (.Call (.Name "sorted" p) [.Call (.Attribute e "items" apos) [] [] cpos] [] pos) (tSortIt X.K t) (eSortIt m) :=
  ⟨pe_callB (cr_sortItK hc hu) hg hm (by decide +kernel) (pa_cons (pe_bm0 PySem.F.plainAttrs_dict PySem.F.slot_dict_items PySem.F.type_dict_items mt_itemsK he.pe hbase hline) pa_nil hs) (by decide) (by decide) hs rfl, sim_sortIt he.sim⟩

/-! ### isinstance -/
def tyN : Sl → Option String
  | .fz .none => some "NoneType"
  | .fz (.bool _) => some "bool"
  | .fz (.int _) => some "int"
  | .fz (.str _) => some "str"
  | .fz (.list _) => some "list"
  | .fz (.tuple _) => some "tuple"
  | .ow _ => some "list"
  | .od _ => some "dict"
  | _ => none
def isB (a T : String) : Bool := a == T || (a == "bool" && T == "int")
def tyNames : List String := ["NoneType", "bool", "int", "str", "list", "tuple", "dict"]
theorem kit_tab : ∀ a ∈ tyNames, ∀ T ∈ ["bool", "int", "str", "list", "tuple"], kitB a T = some (isB a T) := by decide +kernel
theorem tyN_in {s : Sl} {a : String} (h : tyN s = some a) : a ∈ tyNames := by
  unfold tyN at h
  split at h <;> first | (cases h; decide) | cases h
theorem look_ty {K : PySem.W.Frag} {G H : Hp} {s : Sl} {v : V} {a : String} (e : Same G H) (l : Look K G H s v) (h : tyN s = some a) : TyX K H v (.type a) := by
  have sq : ∀ {p : Addr} {vs : List V}, SqL K H p vs → TyX K H (.ref p) (.type "list") := fun {p vs} hs => by
    rcases hs with (hs | ⟨o, hs⟩) | ⟨o, its, n, h1, h2, _⟩
    · exact .base (.lst hs)
    · exact .base (.frz hs)
    · exact .kList h1 h2
  have sqt : ∀ {p : Addr} {vs : List V}, SqT K H p vs → TyX K H (.ref p) (.type "tuple") := fun {p vs} hs => by
    rcases hs with (hs | ⟨o, hs⟩) | ⟨o, its, n, h1, h2, _⟩
    · exact .base (.tup hs)
    · exact .fTuple hs
    · exact .kTuple h1 h2
  cases s with
  | un => cases h
  | fz d =>
    have l := dp_mono e l
    cases l with
    | non => cases h; exact .base .non
    | bl b => cases h; exact .base (.bl b)
    | int i => cases h; exact .base (.int i)
    | str x => cases h; exact .base (.str x)
    | lst hs _ => cases h; exact sq hs
    | tup hs _ _ => cases h; exact sqt hs
    | pr _ _ _ => cases h
    | ld _ _ _ => cases h
  | ow xs =>
    cases h
    obtain ⟨p, rfl, vs, h1, h2⟩ := l
    exact .base (.lst h1)
  | od xs =>
    cases h
    obtain ⟨p, rfl, vs, h1, h2⟩ := l
    exact .base (.dK h1)
def eIs (Ts : List String) (e : EM) : EM := fun st => match e st with
  | some (o, st1) => match o.get st1 with
    | some s => match tyN s with
      | some a => some (.tmp (.fz (.bool (Ts.any (isB a)))), st1)
      | none => none
    | none => none
  | none => none
theorem eIs_inv {Ts : List String} {e : EM} {st st' : S} {o : Opd} (h : eIs Ts e st = some (o, st')) : ∃ o1 s a, e st = some (o1, st') ∧ o1.get st' = some s ∧ tyN s = some a ∧ o = .tmp (.fz (.bool (Ts.any (isB a)))) := by
  unfold eIs at h
  split at h
  · rename_i o1 st1 e1
    split at h
    · rename_i s e2
      split at h
      · rename_i a e3
        cases h
        exact ⟨o1, s, a, e1, e2, e3, rfl⟩
      · cases h
    · cases h
  · cases h
theorem tyN_un {s : Sl} {a : String} (h : tyN s = some a) : s ≠ .un := fun z => by subst z; cases h
theorem sim_isi {K : PySem.W.Frag} {t : TE} {e : EM} {T : String} (hT : T ∈ ["bool", "int", "str", "list", "tuple"]) (he : SimE K t e) : SimE K (tCB (rIsi K) (tCons t (tCons (tC (.ty T)) tNil))) (eIs [T] e) := by
  intro st σ G H o st' r h Q q
  obtain ⟨o1, s, a, e1, e2, e3, rfl⟩ := eIs_inv h
  refine he st σ G H o1 st' r e1 _ fun v G1 H1 r1 s1 v1 => ?_
  have l := ORel.look r1 v1 (tyN_un e3) e2
  refine ⟨v, .ty T, .type a, .type T, isB a T, rfl, .ty T, look_ty r1.ex l e3, kit_ty (kit_tab a (tyN_in e3) T hT), ?_⟩
  have eb : [T].any (isB a) = isB a T := by simp
  refine q _ _ _ r1 s1 ?_
  rw [eb]
  exact Dp.bl _
theorem sim_isi2 {K : PySem.W.Frag} {t : TE} {e : EM} {T U : String} (hT : T ∈ ["bool", "int", "str", "list", "tuple"]) (hU : U ∈ ["bool", "int", "str", "list", "tuple"]) (he : SimE K t e) :
    SimE K (tCB (rIsiT K) (tCons t (tCons (tTup (tCons (tC (.ty T)) (tCons (tC (.ty U)) tNil))) tNil))) (eIs [T, U] e) := by
  intro st σ G H o st' r h Q q
  obtain ⟨o1, s, a, e1, e2, e3, rfl⟩ := eIs_inv h
  refine he st σ G H o1 st' r e1 _ fun v G1 H1 r1 s1 v1 => ?_
  refine ⟨by show 2 ≤ sizeLine; rw [sizeLine_eq]; omega, fun p hp => ?_⟩
  have x := Ext.fresh (o := HO.tup [V.ty T, V.ty U]) r1.ex hp
  have l := ORel.look (r1.ext x) (ORel.step v1 x.step) (tyN_un e3) e2
  refine ⟨v, p, _, .type a, [.type T, .type U], [T, U].any (isB a), rfl, upd_same, .cons (.ty T) (.cons (.ty U) .nil), look_ty (r1.ext x).ex l e3, ?_, ?_⟩
  · refine kitAny_cons (b := isB a T) (kit_ty (kit_tab a (tyN_in e3) T hT)) (fun z => kitAny_cons (b := isB a U) (kit_ty (kit_tab a (tyN_in e3) U hU)) (fun z2 => ?_) fun z2 => ?_) fun z => ?_
    · rw [show [T, U].any (isB a) = false by simp [z, z2]]; exact kitAny_nil
    · simp [z2]
    · simp [z]
  · exact q _ _ _ (r1.ext x) (s1.trans x.step) (Dp.bl _)
section
variable {X : Cx} {p pos tp tq tpos : Pos} {e : Expr} {t : TE} {m : EM} {x y : Str} {T U : String} {k : Nat}
theorem se_isi (hT : T ∈ ["bool", "int", "str", "list", "tuple"]) (hv : bootBuiltins x = some (.type T)) (hn : x ≠ "__name__") (hd : (x == ("__debug__" : Str)) = false) (hg : Gl X "isinstance") (hm : X.mg "isinstance" = none) (hgx : Gl X x) (hmx : X.mg x = none) (he : SE X e t m)
    (h1 : starEach [e, .Name x tp] X.env = (false, eval e X.env) :: starEach [.Name x tp] X.env := by rfl) :
    SE X (.Call (.Name "isinstance" p) [e, .Name x tp] [] pos) (tCB (rIsi X.K) (tCons t (tCons (tC (.ty T)) tNil))) (eIs [T] m) :=
  ⟨pe_callB call_isi hg hm PyProof.Rows.boot_isinstance (pa_cons he.pe (pa_cons (pe_bltn hgx hmx hv rfl hn hd) pa_nil rfl) h1) (by decide) (by decide) h1 rfl, sim_isi hT he.sim⟩
theorem se_isi2 (hT : T ∈ ["bool", "int", "str", "list", "tuple"]) (hU : U ∈ ["bool", "int", "str", "list", "tuple"]) (hv : bootBuiltins x = some (.type T)) (hn : x ≠ "__name__") (hd : (x == ("__debug__" : Str)) = false)
    (hv' : bootBuiltins y = some (.type U)) (hn' : y ≠ "__name__") (hd' : (y == ("__debug__" : Str)) = false) (hg : Gl X "isinstance") (hm : X.mg "isinstance" = none) (hgx : Gl X x) (hmx : X.mg x = none) (hgy : Gl X y) (hmy : X.mg y = none) (he : SE X e t m)
    (h1 : starEach [e, .Tuple [.Name x tp, .Name y tq] k tpos] X.env = (false, eval e X.env) :: starEach [.Tuple [.Name x tp, .Name y tq] k tpos] X.env := by rfl) :
    SE X (.Call (.Name "isinstance" p) [e, .Tuple [.Name x tp, .Name y tq] k tpos] [] pos) (tCB (rIsiT X.K) (tCons t (tCons (tTup (tCons (tC (.ty T)) (tCons (tC (.ty U)) tNil))) tNil))) (eIs [T, U] m) :=
  ⟨pe_callB call_isiT hg hm PyProof.Rows.boot_isinstance (pa_cons he.pe (pa_cons (pe_tup (pa_cons (pe_bltn hgx hmx hv rfl hn hd) (pa_cons (pe_bltn hgy hmy hv' rfl hn' hd') pa_nil rfl) rfl)) pa_nil rfl) h1) (by decide) (by decide) h1 rfl, sim_isi2 hT hU he.sim⟩
end
end Sh

namespace Sh
open PySem PySem.Spec L2

/-! ### name = {k: v for ..} on one line -/
section
variable {X : Cx} {kx vx tg iter : Expr} {scope : Scope} {own : List (Str × Nat)} {pos spos py : Pos} {wi : TI} {im : IM} {g : TG} {gm : GM} {tk te : TE} {kv ev : EM} {i : Nat} {y : Str}
theorem ps_setDc {tt : TT} {ifs : List Expr} (calm : X.calm = true) (nodup : X.N.Nodup) (at_ : X.N[i]? = some y) (isloc : X.env.scope.names.lookup y = some .local)
    (hsw : swapsWith (.DictComp kx vx [⟨tg, iter, ifs, 0⟩] scope pos) (some (.Name y py)) spos.line X.env = pure true) (walk : PI X tg iter wi) (blk : BlkOk X.N X.env.scope scope own)
    (h1 : ∀ (s : Shared) (H : Hp) (C : Addr) (cl : List (Str × Addr)) (fp : List Addr), PG (X.blk s H scope (compEnvC scope cl C X.env) fp) tg g) (h2 : ∀ (s : Shared) (H : Hp) (C : Addr) (cl : List (Str × Addr)) (fp : List Addr), PTs (X.blk s H scope (compEnvC scope cl C X.env) fp) ifs tt)
    (h3 : ∀ (s : Shared) (H : Hp) (C : Addr) (cl : List (Str × Addr)) (fp : List Addr), PE (X.blk s H scope (compEnvC scope cl C X.env) fp) kx tk) (h4 : ∀ (s : Shared) (H : Hp) (C : Addr) (cl : List (Str × Addr)) (fp : List Addr), PE (X.blk s H scope (compEnvC scope cl C X.env) fp) vx te)
    (hs : ∀ x, foldedSetIterable iter X.env x = pure x := by intro _; rfl) : PS X (.Assign [.Name y py] (.DictComp kx vx [⟨tg, iter, ifs, 0⟩] scope pos) spos) (tAsg (tDc wi g tt tk te (own.map (·.2))) (gName i)) := by
  constructor
  intro pins s σ H D inv0 hyp
  rw [exec_Assign_Name_used _ _ _ _ hsw]
  refine wpAny_bind (wpAny_standAt (wpAny_bind ?_))
  show wpAny _ X.A (do let _ ← comprehension (.DictComp kx vx [⟨tg, iter, ifs, 0⟩] scope pos) scope X.env (firstIterPos [⟨tg, iter, ifs, 0⟩] pos) newDict false (eval iter X.env) (some (assign (.Name y py) X.env))) _ _ s
  have hyp : tDc wi g tt tk te (own.map (·.2)) σ H (fun x H1 => gName i x σ H1 D.nx) := hyp
  refine wpAny_bind (thn (dc_core (Qf := fun _ s2 => SP X pins D .next s2) calm nodup inv0 walk blk h1 h2 h3 h4 hs hyp fun L C s2 m H2 inv2 fin hn ff => ?_) fun _ s3 hq => wpAny_pure (wpAny_pure hq))
  show wpAny _ _ (assign (.Name y py) X.env (.ref L)) _ _ _
  refine wpAny_assign_Name (store_ok2 (v := V.ref L) inv2 nodup at_ (.inl isloc) rfl (fun s3 inv3 ⟨b, sb, hb⟩ => ?_) (.inr isloc))
  have ne : C ≠ b := by
    rcases hb with e | e
    · rw [e]; exact ff.2.1
    · exact fun z => ff.2.2.2.2.1 y b e z.symm
  refine ⟨m, hn.sameBut sb ne, fun h5 sb5 => ⟨_, H2, inv3.turned (t' := s3.toks) (fun c o hc z => (sb5.2 c hc).trans z) ff.1 ff.2.1 ff.2.2.2.1 ff.2.2.2.2.1 ff.2.2.2.2.2, fin⟩⟩
theorem ss_setDc {A : Nat → Bool} (hc : X.calm = true) (hN : X.N.Nodup) (hy : X.N[i]? = some y) (hyl : X.env.scope.names.lookup y = some .local) (hA : A i = true)
    (hsw : swapsWith (.DictComp kx vx [⟨tg, iter, [], 0⟩] scope pos) (some (.Name y py)) spos.line X.env = pure true) (hi : SI X tg iter wi im) (ok : BlkOk X.N X.env.scope scope own)
    (hg : ∀ (s : Shared) (H : Hp) (C : Addr) (cl : List (Str × Addr)) (fp : List Addr), SG (X.blk s H scope (compEnvC scope cl C X.env) fp) (fun k => (own.map (·.2)).contains k) tg g gm)
    (hk : ∀ (s : Shared) (H : Hp) (C : Addr) (cl : List (Str × Addr)) (fp : List Addr), SE (X.blk s H scope (compEnvC scope cl C X.env) fp) kx tk kv)
    (he : ∀ (s : Shared) (H : Hp) (C : Addr) (cl : List (Str × Addr)) (fp : List Addr), SE (X.blk s H scope (compEnvC scope cl C X.env) fp) vx te ev) (s0 : Shared) (H0 : Hp) (hs : ∀ x, foldedSetIterable iter X.env x = pure x := by intro _; rfl) :
    SS X A (.Assign [.Name y py] (.DictComp kx vx [⟨tg, iter, [], 0⟩] scope pos) spos) (tAsg (tDc wi g tYes tk te (own.map (·.2))) (gName i)) (mAsg i (eDc (own.map (·.2)) im gm tYes' kv ev)) :=
  ⟨ps_setDc hc hN hy hyl hsw hi.pe ok (fun s H C cl fp => (hg s H C cl fp).pe) (fun _ _ _ _ _ => pts_nil) (fun s H C cl fp => (hk s H C cl fp).pe) (fun s H C cl fp => (he s H C cl fp).pe) hs, simS_asg hA (sim_dc hi.sim (hg s0 H0 0 [] []).sim simT_yes (hk s0 H0 0 [] []).sim (he s0 H0 0 [] []).sim)⟩
theorem sw_dc {py : Pos} {gs : List Comprehension} {l : Nat} {env : Env} (hk : env.scope.kind = .function) (hy : env.scope.names.lookup y = some .local) (hl : (py.line == pos.line) = true)
    (ha : (scope.names.any fun (n, k) => n == y && (k == .local || k == .cell)) = false) : swapsWith (.DictComp kx vx gs scope pos) (some (.Name y py)) l env = pure true := by
  have k1 : env.blockKind = .function := by unfold Env.blockKind; rw [hk]; rfl
  have k2 : env.kindOf y = some .local := hy
  unfold swapsWith
  simp only [k1, k2, ha, Expr.pos, hl]
  rfl
end
end Sh

namespace Sh
open PySem PySem.Spec L2

/-! ### calls that are handed one new object -/
theorem Rel.snoc {K : PySem.W.Frag} {st : S} {σ : St} {G H : Hp} {s : Sl} {p : Addr} (r : Rel K st σ G H) (m : s.mt = true) (hg : G p = none) (hb : Bears K G H p s) (ho : ¬ Own st σ p) : Rel K (st ++ [s]) (σ ++ [some (.ref p)]) G H := by
  have ln := r.len
  have cs : ∀ (i : Nat) (t : Sl) (w : Option V), (st ++ [s])[i]? = some t → (σ ++ [some (.ref p)])[i]? = some w → (st[i]? = some t ∧ σ[i]? = some w) ∨ (i = st.length ∧ t = s ∧ w = some (.ref p)) := fun i t w h1 h2 => by
    by_cases hi : i < st.length
    · rw [List.getElem?_append_left hi] at h1
      rw [List.getElem?_append_left (by omega)] at h2
      exact .inl ⟨h1, h2⟩
    · have h3 := (List.getElem?_eq_some_iff.mp h1).1
      rw [List.length_append, List.length_singleton] at h3
      have e : i = st.length := by omega
      subst e
      rw [List.getElem?_append_right (Nat.le_refl _), Nat.sub_self] at h1
      rw [List.getElem?_append_right (by omega), show st.length - σ.length = 0 by omega] at h2
      cases h1
      cases h2
      exact .inr ⟨rfl, rfl, rfl⟩
  refine ⟨by rw [List.length_append, List.length_append, ln] <;> rfl, fun i t w h1 h2 => ?_, fun i j t t' q h1 h2 m1 m2 h3 h4 => ?_, r.ex⟩
  · rcases cs i t w h1 h2 with ⟨a, b⟩ | ⟨_, rfl, rfl⟩
    · exact r.at_ i t w a b
    · exact (slrel_mt m).mpr ⟨p, rfl, hg, hb⟩
  · rcases cs i t _ h1 h3 with ⟨a, b⟩ | ⟨a, _, b⟩
    · rcases cs j t' _ h2 h4 with ⟨c, d⟩ | ⟨c, _, d⟩
      · exact r.inj i j t t' q a c m1 m2 b d
      · cases d
        exact (ho ⟨i, t, a, m1, b⟩).elim
    · rcases cs j t' _ h2 h4 with ⟨c, d⟩ | ⟨c, _, d⟩
      · cases b
        exact (ho ⟨j, t', c, m2, d⟩).elim
      · omega
theorem Rel.front {K : PySem.W.Frag} {st : S} {σ : St} {G H : Hp} {w : Option V} (r : Rel K st (σ ++ [w]) G H) : Rel K (st.take σ.length) σ G H := by
  have ln := r.len
  rw [List.length_append, List.length_singleton] at ln
  have cs : ∀ (i : Nat) (t : Sl), (st.take σ.length)[i]? = some t → i < σ.length ∧ st[i]? = some t := fun i t h => by
    have h1 := (List.getElem?_eq_some_iff.mp h).1
    rw [List.length_take] at h1
    have hi : i < σ.length := by omega
    rw [List.getElem?_take, if_pos hi] at h
    exact ⟨hi, h⟩
  have up : ∀ (i : Nat) (x : Option V), σ[i]? = some x → (σ ++ [w])[i]? = some x := fun i x h => by
    rw [List.getElem?_append_left (List.getElem?_eq_some_iff.mp h).1]
    exact h
  refine ⟨by rw [List.length_take]; omega, fun i t x h1 h2 => r.at_ i t x (cs i t h1).2 (up i x h2), fun i j t t' q h1 h2 m1 m2 h3 h4 => r.inj i j t t' q (cs i t h1).2 (cs j t' h2).2 m1 m2 (up _ _ h3) (up _ _ h4), r.ex⟩
theorem own_front {st : S} {σ : St} {w : Option V} {a : Addr} (h : Own (st.take σ.length) σ a) : Own st (σ ++ [w]) a := by
  obtain ⟨i, t, h1, m, h2⟩ := h
  have h3 := (List.getElem?_eq_some_iff.mp h2).1
  rw [List.getElem?_take, if_pos h3] at h1
  exact ⟨i, t, h1, m, by rw [List.getElem?_append_left h3]; exact h2⟩
def newOf : List Opd → List Sl
  | [] => []
  | .tmp (.ow xs) :: os => .ow xs :: newOf os
  | .tmp (.od xs) :: os => .od xs :: newOf os
  | _ :: os => newOf os
def parked (n : Nat) : List Opd → List Opd
  | [] => []
  | .tmp (.ow _) :: os => .ref n :: parked n os
  | .tmp (.od _) :: os => .ref n :: parked n os
  | o :: os => o :: parked n os
theorem new_mt : ∀ {os : List Opd} {s : Sl}, s ∈ newOf os → s.mt = true
  | [], _, h => by cases h
  | .tmp (.ow xs) :: os, s, h => by
    rcases List.mem_cons.mp h with rfl | h
    · rfl
    · exact new_mt h
  | .tmp (.od xs) :: os, s, h => by
    rcases List.mem_cons.mp h with rfl | h
    · rfl
    · exact new_mt h
  | .tmp (.fz d) :: os, s, h => new_mt (os := os) h
  | .tmp .un :: os, s, h => new_mt (os := os) h
  | .ref i :: os, s, h => new_mt (os := os) h
section
variable {K : PySem.W.Frag} {σ : St} {O O' O'' : Addr → Prop} {H0 G H : Hp}
theorem park0 (w : Option V) : ∀ {os : List Opd} {vs : List V}, ORels K σ O H0 O' G H os vs → newOf os = [] → ORels K (σ ++ [w]) O H0 O'' G H (parked σ.length os) vs
  | [], [], _, _ => True.intro
  | [], _ :: _, h, _ => h.elim
  | _ :: _, [], h, _ => h.elim
  | .tmp (.ow xs) :: os, v :: vs, _, e => by cases e
  | .tmp (.od xs) :: os, v :: vs, _, e => by cases e
  | .tmp .un :: os, v :: vs, h, _ => h.1.elim
  | .tmp (.fz d) :: os, v :: vs, h, e => ⟨h.1, park0 w h.2 e⟩
  | .ref i :: os, v :: vs, h, e => ⟨(by
      have q : σ[i]? = some (some v) := h.1
      show (σ ++ [w])[i]? = some (some v)
      rw [List.getElem?_append_left (List.getElem?_eq_some_iff.mp q).1]
      exact q), park0 w h.2 e⟩
theorem park1 {s : Sl} : ∀ {os : List Opd} {vs : List V}, ORels K σ O H0 O' G H os vs → newOf os = [s] → ∃ v, VRel K O H0 O' G H s v ∧ ∀ O2 : Addr → Prop, ORels K (σ ++ [some v]) O H0 O2 G H (parked σ.length os) vs
  | [], _, _, e => by cases e
  | _ :: _, [], h, _ => h.elim
  | .tmp (.ow xs) :: os, v :: vs, h, e => by
    injection e with e1 e2
    subst e1
    exact ⟨v, h.1, fun O2 => ⟨(by show (σ ++ [some v])[σ.length]? = _; rw [List.getElem?_append_right (Nat.le_refl _), Nat.sub_self] <;> rfl), park0 _ h.2 e2⟩⟩
  | .tmp (.od xs) :: os, v :: vs, h, e => by
    injection e with e1 e2
    subst e1
    exact ⟨v, h.1, fun O2 => ⟨(by show (σ ++ [some v])[σ.length]? = _; rw [List.getElem?_append_right (Nat.le_refl _), Nat.sub_self] <;> rfl), park0 _ h.2 e2⟩⟩
  | .tmp .un :: os, v :: vs, h, _ => h.1.elim
  | .tmp (.fz d) :: os, v :: vs, h, e => by
    obtain ⟨x, h1, h2⟩ := park1 h.2 e
    exact ⟨x, h1, fun O2 => ⟨h.1, h2 O2⟩⟩
  | .ref i :: os, v :: vs, h, e => by
    obtain ⟨x, h1, h2⟩ := park1 h.2 e
    refine ⟨x, h1, fun O2 => ⟨?_, h2 O2⟩⟩
    have q : σ[i]? = some (some v) := h.1
    show (σ ++ [some x])[i]? = some (some v)
    rw [List.getElem?_append_left (List.getElem?_eq_some_iff.mp q).1]
    exact q
end
def eCallN (fs : FS) (a : AM) : EM := fun st => match a st with
  | some (os, st1) => match newOf os with
    | [s] => match argsOf (st1 ++ [s]) (parked st1.length os) with
      | some as => if nodupB (refsOf (parked st1.length os)) = true then match fs as with
        | some (z, as') => some (.tmp z, (putBack (parked st1.length os) as' (st1 ++ [s])).take st1.length)
        | none => none else none
      | none => none
    | _ => none
  | none => none
theorem eCallN_inv {fs : FS} {a : AM} {st st' : S} {o : Opd} (h : eCallN fs a st = some (o, st')) : ∃ os st1 s as z as', a st = some (os, st1) ∧ newOf os = [s] ∧ argsOf (st1 ++ [s]) (parked st1.length os) = some as ∧ nodupB (refsOf (parked st1.length os)) = true ∧ fs as = some (z, as') ∧ o = .tmp z ∧ st' = (putBack (parked st1.length os) as' (st1 ++ [s])).take st1.length := by
  unfold eCallN at h
  split at h
  · rename_i os st1 e1
    split at h
    · rename_i s e0
      split at h
      · rename_i as e2
        split at h
        · rename_i hn
          split at h
          · rename_i z as' e3
            cases h
            exact ⟨os, st1, s, as, z, as', e1, e0, e2, hn, e3, rfl, rfl⟩
          · cases h
        · cases h
      · cases h
    · cases h
  · cases h
theorem sim_callN {K : PySem.W.Frag} {fs : FS} {t : TA} {a : AM} {E : XK} (ha : SimA K t a) : SimE K (tCall (spOf K fs) [] E t) (eCallN fs a) := by
  intro st σ G H o st' rl h Q q
  obtain ⟨os, st1, s, as, z, as', e1, e0, e2, hn, e3, rfl, rfl⟩ := eCallN_inv h
  refine ha st σ G H os st1 rl e1 _ fun vs G1 H1 r1 s1 o1 => ?_
  have l1 := r1.len
  have ms : s.mt = true := new_mt (by rw [e0]; exact List.mem_cons_self)
  obtain ⟨x, hx, hp⟩ := park1 o1 e0
  obtain ⟨p, rfl, g1, g2, g3, g4⟩ := (vrel_mt ms).mp hx
  have rN := r1.snoc ms g1 g2 g3
  have oN := hp (Own (st1 ++ [s]) (σ ++ [some (.ref p)]))
  rw [← l1] at oN
  have onew : ∀ a, Own (st1 ++ [s]) (σ ++ [some (.ref p)]) a → Own st1 σ a ∨ a = p := fun a ⟨i, t, h1, m, h2⟩ => by
    by_cases hi : i < st1.length
    · rw [List.getElem?_append_left hi] at h1
      rw [List.getElem?_append_left (by omega)] at h2
      exact .inl ⟨i, t, h1, m, h2⟩
    · have h3 := (List.getElem?_eq_some_iff.mp h1).1
      rw [List.length_append, List.length_singleton] at h3
      rw [List.getElem?_append_right (by omega), show i - σ.length = 0 by omega] at h2
      cases h2
      exact .inr rfl
  have sN : Step (Own st σ) (Own (st1 ++ [s]) (σ ++ [some (.ref p)])) G H G1 H1 := ⟨s1.g, s1.keep, fun a h => by
    rcases onew a h with z | z
    · exact s1.own a z
    · rw [z]; exact g4, s1.new, s1.live⟩
  obtain ⟨r0, _, _⟩ := call_rel rN oN e2 hn
  show spOf K fs (vs ++ []) H1 Q E
  rw [List.append_nil]
  refine ⟨as, G1, z, as', r0, e3, fun v G2 H2 r2 s2 v2 => ?_⟩
  obtain ⟨a1, a2, a3⟩ := call_back rN oN e2 hn r2 s2 v2
  have fr : ∀ a, Own ((putBack (parked st1.length os) as' (st1 ++ [s])).take st1.length) σ a → Own (putBack (parked st1.length os) as' (st1 ++ [s])) (σ ++ [some (.ref p)]) a := fun a h => by
    rw [l1] at h ⊢
    exact own_front h
  have rF := a1.front
  rw [← l1] at rF
  refine q v G2 H2 rF ((sN.trans a2).sub fr) ?_
  have a4 := VRel.back a3 sN
  have mm : z.mt = true → VRel K (Own st σ) H (Own ((putBack (parked st1.length os) as' (st1 ++ [s])).take st1.length) σ) G2 H2 z v := fun m => by
    obtain ⟨b, b0, b1, b2, b3, b4⟩ := (vrel_mt m).mp a4
    exact (vrel_mt m).mpr ⟨b, b0, b1, b2, fun y => b3 (fr b y), b4⟩
  cases z with
  | un => exact a4
  | fz d => exact a4
  | ow xs => exact mm rfl
  | od xs => exact mm rfl
section
variable {X : Cx} {k : Nat} {f : Addr} {fd : FuncData} {ps : List Str} {fs : FS} {x : Str} {p pos : Pos} {e : Expr} {es : List Expr} {t : TA} {a : AM}
theorem se_callN (F : FnOk X.prog X.w X.K X.mg X.base CX0 k f fd ps (spOf X.K fs)) (hr : Room k X.A) (hg : Gl X x) (hm : X.mg x = some (.ref f)) (hk : PySem.W.keepIn X.K (.ref f) = true) (hb : Binds X.K fd ps [])
    (ha : SA X (e :: es) t a) (hdb : (x == ("__debug__" : Str)) = false := by decide) (he : starEach (e :: es) X.env = (false, eval e X.env) :: starEach es X.env := by rfl) (hpl : (backTo pos (starEach es X.env)).any (·.1) = false := by rfl) :
    SE X (.Call (.Name x p) (e :: es) [] pos) (tCall (spOf X.K fs) [] E0 t) (eCallN fs a) :=
  ⟨pe_call F hr hg hm hk hb .nil pass0 ha.pe hdb he hpl, sim_callN ha.sim⟩
theorem room1 {k : Nat} {A : Around} (r : Room k A) : A.units + 1 < cLine := by have := r.un; omega
theorem room65 {k : Nat} {A : Around} (r : Room k A) : A.units + 65 < cLine := by have := r.un; omega
/-- a call that is never made -/
theorem fn_none {P : Program} {w : World} {K : PySem.W.Frag} {mg : Str → Option Value} {base : Heap} {k : Nat} {f : Addr} {fd : FuncData} {ps : List Str} : FnOk P w K mg base CX0 k f fd ps (spOf K fun _ => none) := by
  constructor
  · intro vs H Q E h
    obtain ⟨_, _, _, _, _, e, _⟩ := h
    cases e
  · intro A outer s H args us vs Q E _ _ _ _ h
    obtain ⟨_, _, _, _, _, e, _⟩ := h
    cases e
end
end Sh
namespace Sh
/-- the slots that a body may set: all but the parameters that it leaves as they are -/
def Aof (pm : List Bool) : Nat → Bool := fun k => !(pm.getD k false)
theorem Aof_ok (pm : List Bool) : ∀ k : Nat, pm[k]? = some true → Aof pm k = false := fun k h => by
  unfold Aof
  rw [List.getD_eq_getElem?_getD, h]
  rfl
end Sh

namespace Sh
open PySem PySem.Spec L2

/-! ### comprehensions: each part is told at one block first, so that its reading is known -/
abbrev Cx.b0 (X : Cx) (scope : Scope) (s : Shared) (H : Hp) : Cx := X.blk s H scope (compEnvC scope [] 0 X.env) []
section
variable {X : Cx} {elt tg iter kx vx : Expr} {scope : Scope} {own : List (Str × Nat)} {pos : Pos} {wi : TI} {im : IM} {g : TG} {gm : GM} {te tk : TE} {ev kv : EM} {tc : TT} {c : TM} {ce : Expr}
theorem se_lcA (s0 : Shared) (H0 : Hp) (hc : X.calm = true) (hN : X.N.Nodup) (ok : BlkOk X.N X.env.scope scope own) (hi : SI X tg iter wi im)
    (g0 : SG (Cx.b0 X scope s0 H0) (fun k => (own.map (·.2)).contains k) tg g gm) (e0 : SE (Cx.b0 X scope s0 H0) elt te ev)
    (hg : ∀ (s : Shared) (H : Hp) (C : Addr) (cl : List (Str × Addr)) (fp : List Addr), SG (X.blk s H scope (compEnvC scope cl C X.env) fp) (fun k => (own.map (·.2)).contains k) tg g gm)
    (he : ∀ (s : Shared) (H : Hp) (C : Addr) (cl : List (Str × Addr)) (fp : List Addr), SE (X.blk s H scope (compEnvC scope cl C X.env) fp) elt te ev) (hs : ∀ x, foldedSetIterable iter X.env x = pure x := by intro _; rfl) :
    SE X (.ListComp elt [⟨tg, iter, [], 0⟩] scope pos) (tLc wi g tYes te (own.map (·.2))) (eLc (own.map (·.2)) im gm tYes' ev) := se_lc hc hN hi ok hg he s0 H0 hs
theorem se_lcIfA (s0 : Shared) (H0 : Hp) (hc : X.calm = true) (hN : X.N.Nodup) (ok : BlkOk X.N X.env.scope scope own) (hi : SI X tg iter wi im)
    (g0 : SG (Cx.b0 X scope s0 H0) (fun k => (own.map (·.2)).contains k) tg g gm) (c0 : ST (Cx.b0 X scope s0 H0) ce tc c) (e0 : SE (Cx.b0 X scope s0 H0) elt te ev)
    (hg : ∀ (s : Shared) (H : Hp) (C : Addr) (cl : List (Str × Addr)) (fp : List Addr), SG (X.blk s H scope (compEnvC scope cl C X.env) fp) (fun k => (own.map (·.2)).contains k) tg g gm)
    (ht : ∀ (s : Shared) (H : Hp) (C : Addr) (cl : List (Str × Addr)) (fp : List Addr), ST (X.blk s H scope (compEnvC scope cl C X.env) fp) ce tc c)
    (he : ∀ (s : Shared) (H : Hp) (C : Addr) (cl : List (Str × Addr)) (fp : List Addr), SE (X.blk s H scope (compEnvC scope cl C X.env) fp) elt te ev) (hs : ∀ x, foldedSetIterable iter X.env x = pure x := by intro _; rfl) :
    SE X (.ListComp elt [⟨tg, iter, [ce], 0⟩] scope pos) (tLc wi g tc te (own.map (·.2))) (eLc (own.map (·.2)) im gm c ev) := se_lcIf hc hN hi ok hg ht he s0 H0 hs
theorem se_dcA (s0 : Shared) (H0 : Hp) (hc : X.calm = true) (hN : X.N.Nodup) (ok : BlkOk X.N X.env.scope scope own) (hi : SI X tg iter wi im)
    (g0 : SG (Cx.b0 X scope s0 H0) (fun k => (own.map (·.2)).contains k) tg g gm) (k0 : SE (Cx.b0 X scope s0 H0) kx tk kv) (e0 : SE (Cx.b0 X scope s0 H0) vx te ev)
    (hg : ∀ (s : Shared) (H : Hp) (C : Addr) (cl : List (Str × Addr)) (fp : List Addr), SG (X.blk s H scope (compEnvC scope cl C X.env) fp) (fun k => (own.map (·.2)).contains k) tg g gm)
    (hk : ∀ (s : Shared) (H : Hp) (C : Addr) (cl : List (Str × Addr)) (fp : List Addr), SE (X.blk s H scope (compEnvC scope cl C X.env) fp) kx tk kv)
    (he : ∀ (s : Shared) (H : Hp) (C : Addr) (cl : List (Str × Addr)) (fp : List Addr), SE (X.blk s H scope (compEnvC scope cl C X.env) fp) vx te ev) (hs : ∀ x, foldedSetIterable iter X.env x = pure x := by intro _; rfl) :
    SE X (.DictComp kx vx [⟨tg, iter, [], 0⟩] scope pos) (tDc wi g tYes tk te (own.map (·.2))) (eDc (own.map (·.2)) im gm tYes' kv ev) := se_dc hc hN hi ok hg hk he s0 H0 hs
variable {A : Nat → Bool} {i : Nat} {y : Str} {py spos : Pos}
theorem ss_setLcA (s0 : Shared) (H0 : Hp) (hc : X.calm = true) (hN : X.N.Nodup) (hy : X.N[i]? = some y) (hyl : X.env.scope.names.lookup y = some .local) (hA : A i = true)
    (hsw : swapsWith (.ListComp elt [⟨tg, iter, [], 0⟩] scope pos) (some (.Name y py)) spos.line X.env = pure true) (ok : BlkOk X.N X.env.scope scope own) (hi : SI X tg iter wi im)
    (g0 : SG (Cx.b0 X scope s0 H0) (fun k => (own.map (·.2)).contains k) tg g gm) (e0 : SE (Cx.b0 X scope s0 H0) elt te ev)
    (hg : ∀ (s : Shared) (H : Hp) (C : Addr) (cl : List (Str × Addr)) (fp : List Addr), SG (X.blk s H scope (compEnvC scope cl C X.env) fp) (fun k => (own.map (·.2)).contains k) tg g gm)
    (he : ∀ (s : Shared) (H : Hp) (C : Addr) (cl : List (Str × Addr)) (fp : List Addr), SE (X.blk s H scope (compEnvC scope cl C X.env) fp) elt te ev) (hs : ∀ x, foldedSetIterable iter X.env x = pure x := by intro _; rfl) :
    SS X A (.Assign [.Name y py] (.ListComp elt [⟨tg, iter, [], 0⟩] scope pos) spos) (tAsg (tLc wi g tYes te (own.map (·.2))) (gName i)) (mAsg i (eLc (own.map (·.2)) im gm tYes' ev)) := ss_setLc hc hN hy hyl hA hsw hi ok hg he s0 H0 hs
theorem ss_setLcIfA (s0 : Shared) (H0 : Hp) (hc : X.calm = true) (hN : X.N.Nodup) (hy : X.N[i]? = some y) (hyl : X.env.scope.names.lookup y = some .local) (hA : A i = true)
    (hsw : swapsWith (.ListComp elt [⟨tg, iter, [ce], 0⟩] scope pos) (some (.Name y py)) spos.line X.env = pure true) (ok : BlkOk X.N X.env.scope scope own) (hi : SI X tg iter wi im)
    (g0 : SG (Cx.b0 X scope s0 H0) (fun k => (own.map (·.2)).contains k) tg g gm) (c0 : ST (Cx.b0 X scope s0 H0) ce tc c) (e0 : SE (Cx.b0 X scope s0 H0) elt te ev)
    (hg : ∀ (s : Shared) (H : Hp) (C : Addr) (cl : List (Str × Addr)) (fp : List Addr), SG (X.blk s H scope (compEnvC scope cl C X.env) fp) (fun k => (own.map (·.2)).contains k) tg g gm)
    (ht : ∀ (s : Shared) (H : Hp) (C : Addr) (cl : List (Str × Addr)) (fp : List Addr), ST (X.blk s H scope (compEnvC scope cl C X.env) fp) ce tc c)
    (he : ∀ (s : Shared) (H : Hp) (C : Addr) (cl : List (Str × Addr)) (fp : List Addr), SE (X.blk s H scope (compEnvC scope cl C X.env) fp) elt te ev) (hs : ∀ x, foldedSetIterable iter X.env x = pure x := by intro _; rfl) :
    SS X A (.Assign [.Name y py] (.ListComp elt [⟨tg, iter, [ce], 0⟩] scope pos) spos) (tAsg (tLc wi g tc te (own.map (·.2))) (gName i)) (mAsg i (eLc (own.map (·.2)) im gm c ev)) := ss_setLcIf hc hN hy hyl hA hsw hi ok hg ht he s0 H0 hs
theorem ss_setDcA (s0 : Shared) (H0 : Hp) (hc : X.calm = true) (hN : X.N.Nodup) (hy : X.N[i]? = some y) (hyl : X.env.scope.names.lookup y = some .local) (hA : A i = true)
    (hsw : swapsWith (.DictComp kx vx [⟨tg, iter, [], 0⟩] scope pos) (some (.Name y py)) spos.line X.env = pure true) (ok : BlkOk X.N X.env.scope scope own) (hi : SI X tg iter wi im)
    (g0 : SG (Cx.b0 X scope s0 H0) (fun k => (own.map (·.2)).contains k) tg g gm) (k0 : SE (Cx.b0 X scope s0 H0) kx tk kv) (e0 : SE (Cx.b0 X scope s0 H0) vx te ev)
    (hg : ∀ (s : Shared) (H : Hp) (C : Addr) (cl : List (Str × Addr)) (fp : List Addr), SG (X.blk s H scope (compEnvC scope cl C X.env) fp) (fun k => (own.map (·.2)).contains k) tg g gm)
    (hk : ∀ (s : Shared) (H : Hp) (C : Addr) (cl : List (Str × Addr)) (fp : List Addr), SE (X.blk s H scope (compEnvC scope cl C X.env) fp) kx tk kv)
    (he : ∀ (s : Shared) (H : Hp) (C : Addr) (cl : List (Str × Addr)) (fp : List Addr), SE (X.blk s H scope (compEnvC scope cl C X.env) fp) vx te ev) (hs : ∀ x, foldedSetIterable iter X.env x = pure x := by intro _; rfl) :
    SS X A (.Assign [.Name y py] (.DictComp kx vx [⟨tg, iter, [], 0⟩] scope pos) spos) (tAsg (tDc wi g tYes tk te (own.map (·.2))) (gName i)) (mAsg i (eDc (own.map (·.2)) im gm tYes' kv ev)) := ss_setDc hc hN hy hyl hA hsw hi ok hg hk he s0 H0 hs
end
end Sh

namespace Sh
open PySem PySem.Spec L2

/-! ### calls with nothing but keywords, in any order -/
def pick {α : Type} (ix : List Nat) (xs : List α) : List α := ix.filterMap fun i => xs[i]?
def kg {α : Type} (n : Nat) (ix : List Nat) (us ws : List α) : List α := if us.length = 0 ∧ ws.length = n then pick ix ws else []
theorem vals_at : ∀ {vs : List V} {us : List Value} (i : Nat), Vals vs us → (vs[i]? = none ∧ us[i]? = none) ∨ ∃ v u, vs[i]? = some v ∧ us[i]? = some u ∧ RelV v u
  | _, _, _, .nil => .inl ⟨by simp, by simp⟩
  | _, _, 0, .cons h _ => .inr ⟨_, _, rfl, rfl, h⟩
  | _, _, i + 1, .cons _ t => by
    rcases vals_at i t with ⟨a, b⟩ | ⟨v, u, a, b, c⟩
    · exact .inl ⟨by simpa using a, by simpa using b⟩
    · exact .inr ⟨v, u, by simpa using a, by simpa using b, c⟩
theorem pick_vals {vs : List V} {us : List Value} (h : Vals vs us) : ∀ ix : List Nat, Vals (pick ix vs) (pick ix us)
  | [] => .nil
  | i :: ix => by
    rcases vals_at i h with ⟨a, b⟩ | ⟨v, u, a, b, c⟩
    · unfold pick
      rw [List.filterMap_cons_none a, List.filterMap_cons_none b]
      exact pick_vals h ix
    · unfold pick
      rw [List.filterMap_cons_some a, List.filterMap_cons_some b]
      exact .cons c (pick_vals h ix)
theorem kg_vals {vs zs : List V} {us ws : List Value} (n : Nat) (ix : List Nat) (h : Vals vs us) (k : Vals zs ws) : Vals (kg n ix vs zs) (kg n ix us ws) := by
  unfold kg
  rw [h.length, k.length]
  by_cases c : us.length = 0 ∧ ws.length = n
  · rw [if_pos c, if_pos c]; exact pick_vals k ix
  · rw [if_neg c, if_neg c]; exact .nil
theorem fun_kb {K : PySem.W.Frag} {x qual : Str} {st : Stmt} {f : Addr} {fd : FuncData} {ps ks : List Str} (F : Fun K x qual st f fd) (n : Nat) (ix : List Nat) (hp : ps.length ≠ 0)
    (h : ∀ (kV doc pm : Value) (an : Option Addr) (cdv ct : Value) (ws : List Value), ws.length = n → bindArgs (PySem.W.fnOf x qual (defArgs st) (defBody st) (defScope st) .none kV doc pm an cdv ct) ⟨[], ks.zip ws⟩ = pure (ps.zip (pick ix ws))) : KBinds K fd ps ks (kg n ix) (kg n ix) := by
  obtain ⟨oc, od, kV, doc, pm, an, cdv, ct, osl, rfl, lk, hcd⟩ := F.ex
  refine ⟨fun s us ws X hl => ?_, fun a b => kg_vals n ix a b⟩
  by_cases c : us.length = 0 ∧ ws.length = n
  · have e : kg n ix us ws = pick ix ws := if_pos c
    rw [e]
    obtain rfl := List.length_eq_zero_iff.mp c.1
    exact .of_eq (h kV doc pm an cdv ct ws c.2)
  · have e : kg n ix us ws = [] := if_neg c
    rw [e] at hl
    exact (hp hl.symm).elim
structure SK (X : Cx) (kws : List Keyword) (t : TA) (f : AM) : Prop where
  pe : PK X kws t
  sim : SimA X.K t f
theorem sk_nil {X : Cx} : SK X [] tNil aNil := ⟨pk_nil, simA_nil⟩
theorem sk_cons {X : Cx} {e : Expr} {kws : List Keyword} {nm : Option Str} {kpos : Pos} {t : TE} {u : TA} {a : EM} {r : AM} (ha : SE X e t a) (hr : SK X kws u r) : SK X (⟨nm, e, kpos⟩ :: kws) (tCons t u) (aCons a r) := ⟨pk_cons ha.pe hr.pe, simA_cons ha.sim hr.sim⟩
def eCallK (n : Nat) (ix : List Nat) (fs : FS) (a : AM) : EM := fun st => match a st with
  | some (os, st1) => if os.length = n then match argsOf st1 (pick ix os) with
    | some as => if nodupB (refsOf (pick ix os)) = true then match fs as with
      | some (z, as') => some (.tmp z, putBack (pick ix os) as' st1)
      | none => none else none
    | none => none else none
  | none => none
theorem eCallK_inv {n : Nat} {ix : List Nat} {fs : FS} {a : AM} {st st' : S} {o : Opd} (h : eCallK n ix fs a st = some (o, st')) : ∃ os st1 as z as', a st = some (os, st1) ∧ os.length = n ∧ argsOf st1 (pick ix os) = some as ∧ nodupB (refsOf (pick ix os)) = true ∧ fs as = some (z, as') ∧ o = .tmp z ∧ st' = putBack (pick ix os) as' st1 := by
  unfold eCallK at h
  split at h
  · rename_i os st1 e1
    split at h
    · rename_i hl
      split at h
      · rename_i as e2
        split at h
        · rename_i hn
          split at h
          · rename_i z as' e3
            cases h
            exact ⟨os, st1, as, z, as', e1, hl, e2, hn, e3, rfl, rfl⟩
          · cases h
        · cases h
      · cases h
    · cases h
  · cases h
section
variable {K : PySem.W.Frag} {σ : St} {O O' : Addr → Prop} {H0 G H : Hp}
theorem orels_len : ∀ {os : List Opd} {vs : List V}, ORels K σ O H0 O' G H os vs → os.length = vs.length
  | [], [], _ => rfl
  | [], _ :: _, h => h.elim
  | _ :: _, [], h => h.elim
  | _ :: os, _ :: vs, h => by rw [List.length_cons, List.length_cons, orels_len h.2]
theorem orels_at : ∀ {os : List Opd} {vs : List V} (i : Nat), ORels K σ O H0 O' G H os vs → (os[i]? = none ∧ vs[i]? = none) ∨ ∃ o v, os[i]? = some o ∧ vs[i]? = some v ∧ ORel K σ O H0 O' G H o v
  | [], [], _, _ => .inl ⟨by simp, by simp⟩
  | [], _ :: _, _, h => h.elim
  | _ :: _, [], _, h => h.elim
  | o :: os, v :: vs, 0, h => .inr ⟨o, v, rfl, rfl, h.1⟩
  | o :: os, v :: vs, i + 1, h => by
    rcases orels_at i h.2 with ⟨a, b⟩ | ⟨x, y, a, b, c⟩
    · exact .inl ⟨by simpa using a, by simpa using b⟩
    · exact .inr ⟨x, y, by simpa using a, by simpa using b, c⟩
theorem orels_pick {os : List Opd} {vs : List V} (h : ORels K σ O H0 O' G H os vs) : ∀ ix : List Nat, ORels K σ O H0 O' G H (pick ix os) (pick ix vs)
  | [] => True.intro
  | i :: ix => by
    rcases orels_at i h with ⟨a, b⟩ | ⟨x, y, a, b, c⟩
    · unfold pick
      rw [List.filterMap_cons_none a, List.filterMap_cons_none b]
      exact orels_pick h ix
    · unfold pick
      rw [List.filterMap_cons_some a, List.filterMap_cons_some b]
      exact ⟨c, orels_pick h ix⟩
end
theorem sim_callK {K : PySem.W.Frag} {n : Nat} {ix : List Nat} {fs : FS} {t : TA} {a : AM} {E : XK} (ha : SimA K t a) : SimE K (tCallK (spOf K fs) (kg n ix) E tNil t) (eCallK n ix fs a) := by
  intro st σ G H o st' rl h Q q
  obtain ⟨os, st1, as, z, as', e1, hl, e2, hn, e3, rfl, rfl⟩ := eCallK_inv h
  show t σ H fun zs H2 => spOf K fs (kg n ix [] zs) H2 Q E
  refine ha st σ G H os st1 rl e1 _ fun vs G1 H1 r1 s1 o1 => ?_
  have lv : vs.length = n := by rw [← orels_len o1]; exact hl
  have ek : kg n ix ([] : List V) vs = pick ix vs := if_pos ⟨rfl, lv⟩
  rw [ek]
  have o2 := orels_pick o1 ix
  obtain ⟨r0, _, _⟩ := call_rel r1 o2 e2 hn
  refine ⟨as, G1, z, as', r0, e3, fun v G2 H2 r2 s2 v2 => ?_⟩
  obtain ⟨a1, a2, a3⟩ := call_back r1 o2 e2 hn r2 s2 v2
  exact q v G2 H2 a1 (s1.trans a2) (VRel.back a3 s1)
section
variable {X : Cx} {k n : Nat} {ix : List Nat} {f : Addr} {fd : FuncData} {ps ks : List Str} {fs : FS} {x : Str} {p pos : Pos} {kws : List Keyword} {t : TA} {a : AM}
theorem se_callK (F : FnOk X.prog X.w X.K X.mg X.base CX0 k f fd ps (spOf X.K fs)) (hr : Room k X.A) (hg : Gl X x) (hm : X.mg x = some (.ref f)) (hk : PySem.W.keepIn X.K (.ref f) = true) (hb : KBinds X.K fd ps ks (kg n ix) (kg n ix))
    (ha : SK X kws t a) (h1 : (backToKw pos (keywordEach kws X.env)).all (·.1.isSome) = true := by rfl) (h2 : (backToKw pos (keywordEach kws X.env)).filterMap (·.1) = ks := by rfl) (hdb : (x == ("__debug__" : Str)) = false := by decide)
    (h3 : ((backTo pos (starEach [] X.env)).any (·.1) || (backToKw pos (keywordEach kws X.env)).any (·.1.isNone)) = false := by rfl) :
    SE X (.Call (.Name x p) [] kws pos) (tCallK (spOf X.K fs) (kg n ix) E0 tNil t) (eCallK n ix fs a) := by
  refine ⟨⟨fun pins s σ H Q inv hyp => ?_⟩, sim_callK ha.sim⟩
  refine wpAny_Call_Name_kw (ld_glob inv hg hm ?_ hdb)
  refine PySem.W.callWith_KW0 (h₀ := X.base) inv.ok.mod.kin hk h1 (thn (ha.pe.run pos pins s σ H _ inv hyp) fun ws s2 ⟨zs, H2, inv2, rz, q2⟩ => ⟨inv2.kIn, ?_⟩) h3
  rw [h2]
  exact run_fnk F hr hb pass0 inv2 .nil rz q2
end
end Sh

namespace Sh
open PySem PySem.Spec L2

/-! ### dict(xs), xs a list of pairs -/
def pairK : D → Option (Key × D)
  | .tuple [k, y] => match toKey k with
    | some key => some (key, y)
    | none => none
  | _ => none
def pairsK : List D → Option (List (Key × D))
  | [] => some []
  | d :: ds => match pairK d with
    | some p => match pairsK ds with
      | some ps => some (p :: ps)
      | none => none
    | none => none
def putAll (acc : List (Key × D)) (ps : List (Key × D)) : List (Key × D) := ps.foldl (fun a p => dput a p.1 p.2) acc
theorem pairK_inv {d : D} {p : Key × D} (h : pairK d = some p) : ∃ k, d = .tuple [k, p.2] ∧ toKey k = some p.1 := by
  unfold pairK at h
  split at h
  · rename_i k y
    split at h
    · rename_i key e
      cases h
      exact ⟨k, rfl, e⟩
    · cases h
  · cases h
theorem dpa_pairs {K : PySem.W.Frag} {G : Hp} : ∀ {vs : List V} {ds : List D} {ps : List (Key × D)}, DpAll K G vs ds → pairsK ds = some ps →
    ∃ (as : List Addr) (ws : List (Key × V)), vs = as.map V.ref ∧ Paired (fun p (kv : Key × V) => SqT K G p [kV kv.1, kv.2]) as ws ∧ KVp K G ws ps
  | _, [], _, .nil, e => by
    cases e
    exact ⟨[], [], rfl, .nil, .nil⟩
  | _, d :: ds, _, .cons h t, e => by
    unfold pairsK at e
    cases e1 : pairK d with
    | none => rw [e1] at e; cases e
    | some p =>
      rw [e1] at e
      simp only at e
      cases e2 : pairsK ds with
      | none => rw [e2] at e; cases e
      | some ps =>
        rw [e2] at e
        cases e
        obtain ⟨as, ws, h1, h2, h3⟩ := dpa_pairs t e2
        obtain ⟨k, rfl, ek⟩ := pairK_inv e1
        obtain ⟨a, xs, rfl, hs, hd⟩ := dp_tuple h
        cases hd with
        | cons d1 r =>
          cases r with
          | cons d2 r2 =>
            cases r2
            have := toKey_ok d1 ek
            subst this
            exact ⟨a :: as, (p.1, _) :: ws, by rw [List.map_cons, h1], .cons hs h2, .cons ⟨rfl, d2⟩ h3⟩
theorem put_all {K : PySem.W.Frag} {G : Hp} : ∀ {ps : List (Key × D)} {ws : List (Key × V)} {acc : List (Key × D)} {accV : List (Key × V)}, KVp K G ws ps → KVp K G accV acc → keysNd acc = true →
    KVp K G (mergeK accV ws) (putAll acc ps) ∧ keysNd (putAll acc ps) = true
  | [], _, acc, accV, .nil, h, n => ⟨h, n⟩
  | p :: ps, _, acc, accV, .cons (a := w) r t, h, n => by
    have h1 := kvp_put (k := p.1) r.2 h n
    have h2 := nd_put acc p.1 p.2 n
    have e : putK accV w.1 w.2 = putK accV p.1 w.2 := by rw [r.1]
    obtain ⟨q1, q2⟩ := put_all t h1 h2
    refine ⟨?_, q2⟩
    show KVp K G (mergeK (putK accV w.1 w.2) _) _
    rw [e]
    exact q1
theorem dable_pairs : ∀ {ds : List D} {ps : List (Key × D)}, pairsK ds = some ps → dable ds = true
  | [], _, _ => rfl
  | d :: ds, _, e => by
    unfold pairsK at e
    cases e1 : pairK d with
    | none => rw [e1] at e; cases e
    | some p =>
      rw [e1] at e
      cases e2 : pairsK ds with
      | none => rw [e2] at e; cases e
      | some qs =>
        have h := dable_pairs e2
        obtain ⟨k, rfl, ek⟩ := pairK_inv e1
        unfold dable at h ⊢
        rw [List.all_cons, h, Bool.and_true]
        cases k <;> first | rfl | cases ek
/-- the pairs at addresses, once by keys and once by their values -/
theorem pairs_two {X : Cx} {pins : List (Addr × Obj)} {σ : St} {H : Hp} {s : Shared} (I : Inv X pins σ H s) : ∀ {ps : List Addr} {kvs : List (Key × V)}, Paired (fun p kv => SqT X.K H p [kV kv.1, kv.2]) ps kvs →
    ∃ (prs : List (Key × Value)) (qs : List (Value × Value)), KV kvs prs ∧ prs.length = ps.length ∧ qs.length = ps.length ∧
      ∀ (j : Nat) (k v : Value), qs[j]? = some (k, v) → ∃ (b : Addr) (key : Key), ps[j]? = some b ∧ prs[j]? = some (key, v) ∧ PairAt s.heap b k v ∧ (mixKind X.prog X.w).is key k = true
  | _, _, .nil => ⟨[], [], .nil, rfl, rfl, fun j k v e => by simp at e⟩
  | _, _, .cons (a := p) (b := kv) h t => by
    obtain ⟨prs, qs, r, h1, h2, h3⟩ := pairs_two I t
    obtain ⟨its, rv, ht, _⟩ := I.tuple h
    obtain ⟨u, y, rfl, ru, ry⟩ := vals2 rv
    refine ⟨(kv.1, y) :: prs, (u, y) :: qs, .cons ⟨rfl, ry⟩ r, by simp [h1], by simp [h2], fun j k v e => ?_⟩
    match j, e with
    | 0, e =>
      cases e
      exact ⟨p, kv.1, rfl, rfl, .inl ht, kV_is (P := X.prog) (w := X.w) ru⟩
    | j + 1, e =>
      obtain ⟨b, key, e1, e2, e3⟩ := h3 j k v e
      exact ⟨b, key, e1, e2, e3⟩
def rDictP (K : PySem.W.Frag) : List V → Hp → VK → Prop := fun xs H Q => ∃ (a : Addr) (ps : List Addr) (kvs : List (Key × V)), xs = [.ref a] ∧ SqL K H a (ps.map V.ref) ∧ Paired (fun p kv => SqT K H p [kV kv.1, kv.2]) ps kvs ∧ ∀ p, H p = none → Q (.ref p) (upd H p (.dK (mergeK [] kvs)))
def rDictT (K : PySem.W.Frag) : List V → Hp → VK → Prop := fun xs H Q => ∃ (a : Addr) (ps : List Addr) (kvs : List (Key × V)), xs = [.ref a] ∧ SqT K H a (ps.map V.ref) ∧ Pl H a ∧ Paired (fun p kv => SqT K H p [kV kv.1, kv.2]) ps kvs ∧ ∀ p, H p = none → Q (.ref p) (upd H p (.dK (mergeK [] kvs)))
theorem call_dictT {X : Cx} (hcalm : X.calm = true) : CallR X (.type "dict") (rDictT X.K) := by
  intro pins s σ H xs us Q I r ⟨a, ps, kvs, ex, hq, ⟨o, w, hfr, hnd⟩, hp, q⟩
  subst ex
  obtain ⟨u, rfl, rx⟩ := vals1 r
  cases rx
  obtain ⟨its, rv, ⟨o', ho', hc', n', hd'⟩, hz⟩ := I.tuple hq
  obtain rfl := refs_at rv
  obtain ⟨hob, _⟩ := (show ObjOk X.prog X.w H s.heap a (.frz o w) from I.hok a _ hfr)
  obtain rfl : o' = o := Option.some.inj (ho'.symm.trans hob)
  obtain ⟨prs, qs, rel, l1, l2, hpr⟩ := pairs_two I hp
  rw [List.length_map] at hz
  have pa := PairArg.tuple (prog := X.prog) (w := X.w) a (ps.map Value.ref).toArray (fun j => (ps[j]?).getD 0) qs
  have hok : PlainSeq "tuple" s.heap a (ps.map Value.ref).toArray ∧ PairItems s.heap (ps.map Value.ref).toArray (fun j => (ps[j]?).getD 0) qs := by
    refine ⟨⟨o', n', ho', hc', hnd, hd'⟩, by simp [l2], fun j k v e => ?_⟩
    obtain ⟨b, key, e1, e2, e3, e4⟩ := hpr j k v e
    refine ⟨by simp [e1], ?_⟩
    simp only [e1, Option.getD_some]
    exact e3
  have hav : PairsHave (mixKind X.prog X.w) qs.length (PairRel qs) prs := by
    refine ⟨l1.trans l2.symm, fun i k v e => ?_⟩
    obtain ⟨b, key, e1, e2, e3, e4⟩ := hpr i k v e
    exact ⟨key, e2, e4⟩
  refine PySem.call_dict_pairs pa (I.ok.hd hcalm) hok hav (by rw [l2]; exact hz) fun h' tk hdd k => ?_
  have hm : (s.heap.objs.size == sysModules) = false := beq_eq_false_iff_ne.mpr (Nat.ne_of_gt I.big)
  have hlen : (mergeK [] kvs).length ≤ sizeLine := by
    have h1 := length_mergeK kvs []
    have h2 := rel.length
    simp only [List.length_nil, Nat.zero_add] at h1
    omega
  have new : ObjOk X.prog X.w (upd H s.heap.objs.size (.dK (mergeK [] kvs))) h' s.heap.objs.size (.dK (mergeK [] kvs)) := ⟨hlen, hm, merged [] prs, KV.merge rel .nil, hdd⟩
  exact ⟨.ref s.heap.objs.size, _, I.laid (t' := tk) (fun b o e => k b o (fun z => nomatch z) e) (Nat.le_refl _) new, rfl, q _ (I.hok.fresh (Nat.le_refl _))⟩
def rDictD : List V → Hp → VK → Prop := fun xs H Q => ∃ (a : Addr) (kvs : List (Key × V)), xs = [.ref a] ∧ Rd H a (.dK kvs) ∧ ∀ p, H p = none → Q (.ref p) (upd H p (.dK kvs))
def rDict2 (K : PySem.W.Frag) : List V → Hp → VK → Prop := fun xs H Q => (rDictP K xs H Q ∨ rDictT K xs H Q) ∨ rDictD xs H Q
def dictP : Sl → Option Sl := fun s => match seqS s with
  | some ds => match pairsK ds with
    | some ps => some (.od (putAll [] ps))
    | none => none
  | none => none
def dictF : Sl → Option Sl
  | .od kvs => some (.od kvs)
  | s => dictP s
theorem ok_dictP {K : PySem.W.Frag} : CallOk K (fun xs H Q => rDictP K xs H Q ∨ rDictT K xs H Q) (one dictP) := by
  intro G H xs ss z e l hz0 Q q
  obtain ⟨s, rfl, hz⟩ := one_inv hz0
  obtain ⟨x, rfl, lx⟩ := looks1 l
  unfold dictP at hz
  split at hz
  · rename_i ds hs
    split at hz
    · rename_i ps hp
      cases hz
      have fin : ∀ {ws : List (Key × V)}, KVp K G ws ps → ∀ p, H p = none → Q (.ref p) (upd H p (.dK (mergeK [] ws))) := by
        intro ws h4 p hp
        obtain ⟨q1, q2⟩ := put_all h4 (.nil (F := fun (a : Key × V) (b : Key × D) => a.1 = b.1 ∧ Dp K G a.2 b.2)) rfl
        exact q _ G _ (Ext.fresh e hp) ⟨p, rfl, e.free hp, ⟨_, upd_same, q1, q2⟩, hp⟩
      unfold seqS at hs
      split at hs
      · cases hs
        obtain ⟨a, vs, rfl, h1, h2, ⟨o, w, h3, h4⟩⟩ := dp_tupleP lx (dable_pairs hp)
        obtain ⟨as, ws, rfl, h5, h6⟩ := dpa_pairs h2 hp
        exact .inr ⟨a, as, ws, rfl, Evl.ex_t e h1, ⟨o, w, e _ _ h3, h4⟩, Paired.mapP h5 fun _ _ z => Evl.ex_t e z, fin h6⟩
      · obtain ⟨a, vs, rfl, h1, h2⟩ := look_l e lx hs
        obtain ⟨as, ws, rfl, h3, h4⟩ := dpa_pairs h2 hp
        exact .inl ⟨a, as, ws, rfl, h1, Paired.mapP h3 fun _ _ z => Evl.ex_t e z, fin h4⟩
    · cases hz
  · cases hz
theorem ok_dictF {K : PySem.W.Frag} : CallOk K (rDict2 K) (one dictF) := by
  intro G H xs ss z e l hz0 Q q
  obtain ⟨s, rfl, hz⟩ := one_inv hz0
  cases s with
  | od kvs =>
    cases hz
    obtain ⟨x, rfl, lx⟩ := looks1 l
    obtain ⟨p, rfl, ws, h1, h2, h3⟩ := lx
    exact .inr ⟨p, ws, rfl, .of h1, fun p' hp => q _ G _ (Ext.fresh e hp) ⟨p', rfl, e.free hp, ⟨_, upd_same, h2, h3⟩, hp⟩⟩
  | un => cases hz
  | fz d => exact .inl (ok_dictP G H xs _ z e l hz0 Q q)
  | ow ds => exact .inl (ok_dictP G H xs _ z e l hz0 Q q)
theorem se_dictF {X : Cx} {p pos : Pos} {e : Expr} {t : TA} {a : AM} (hc : X.calm = true) (hg : Gl X "dict") (hm : X.mg "dict" = none) (ha : SA X [e] t a) (he : starEach [e] X.env = (false, eval e X.env) :: starEach [] X.env := by rfl) :
    SE X (.Call (.Name "dict" p) [e] [] pos) (tCB (rDict2 X.K) t) (eFn (one dictF) a) := se_callTy (((call_dictP hc).or (call_dictT hc)).or call_dictD) ok_dictF hg hm (by decide +kernel) ha (he := he)

/-! ### list(d.items()) -/
def eListIt (e : EM) : EM := fun st => match e st with
  | some (o, st1) => match o.get st1 with
    | some (.od kvs) => some (.tmp (.ow (itemsD kvs)), st1)
    | _ => none
  | none => none
theorem eListIt_inv {e : EM} {st st' : S} {o : Opd} (h : eListIt e st = some (o, st')) : ∃ o1 kvs, e st = some (o1, st') ∧ o1.get st' = some (.od kvs) ∧ o = .tmp (.ow (itemsD kvs)) := by
  unfold eListIt at h
  split at h
  · rename_i o1 st1 e1
    split at h
    · rename_i kvs e2
      cases h
      exact ⟨o1, kvs, e1, e2, rfl⟩
    · cases h
  · cases h
theorem items_dp {K : PySem.W.Frag} {G G' : Hp} (g : Same G G') : ∀ {ts : List Addr} {ws : List (Key × V)} {kvs : List (Key × D)}, Paired (fun (t : Addr) (q : Key × V) => G' t = some (.tup [kV q.1, q.2])) ts ws → KVp K G ws kvs → DpAll K G' (ts.map V.ref) (itemsD kvs)
  | _, _, _, .nil, .nil => .nil
  | _, _, _, .cons h t, .cons (b := q) r u => by
    refine .cons (.tup (.inl (.inl h)) (.cons ?_ (.cons (dp_mono g r.2) .nil)) fun z => by rw [dable_key (dab_key _)] at z; cases z) (items_dp g t u)
    rw [r.1]
    exact dp_key _
theorem sim_listIt {K : PySem.W.Frag} {t : TE} {e : EM} (he : SimE K t e) : SimE K (LiI.tListItems t) (eListIt e) := by
  intro st σ G H o st' r h Q q
  obtain ⟨o1, kvs, e1, e2, rfl⟩ := eListIt_inv h
  refine he st σ G H o1 st' r e1 _ fun v G1 H1 r1 s1 v1 => ?_
  obtain ⟨a, ev, ws, ha, hk, hn⟩ := ORel.look r1 v1 (fun z => by cases z) e2
  subst ev
  refine ⟨a, ws, rfl, ha, fun H2 p ts h1 h2 h3 h4 h5 h6 => ?_⟩
  let G2 : Hp := fun b => if b ∈ ts then H2 b else G1 b
  have gin : ∀ b, b ∈ ts → G2 b = H2 b := fun b hb => if_pos hb
  have gout : ∀ b, b ∉ ts → G2 b = G1 b := fun b hb => if_neg hb
  have ext : Ext G1 H1 G2 H2 := by
    refine ⟨fun b o e => ?_, h1, fun b o e => ?_, fun b o e => ?_⟩
    · rw [gout b fun hb => by have := r1.ex b o e; rw [h3 b hb] at this; cases this]; exact e
    · by_cases hb : b ∈ ts
      · rw [gin b hb] at e; exact e
      · rw [gout b hb] at e; exact h1 b o (r1.ex b o e)
    · by_cases hb : b ∈ ts
      · exact .inr (h3 b hb)
      · rw [gout b hb] at e; exact .inl ⟨o, e⟩
  have hp6 : Paired (fun (t : Addr) (q : Key × V) => G2 t = some (.tup [kV q.1, q.2])) ts ws := by
    have key : ∀ {us : List Addr} {qs : List (Key × V)}, Paired (fun (t : Addr) (q : Key × V) => H2 t = some (.tup [kV q.1, q.2])) us qs → (∀ u ∈ us, u ∈ ts) → Paired (fun (t : Addr) (q : Key × V) => G2 t = some (.tup [kV q.1, q.2])) us qs := by
      intro us qs z
      induction z with
      | nil => intro _; exact .nil
      | cons z zs ih =>
        intro hu
        exact .cons (by rw [gin _ (hu _ List.mem_cons_self)]; exact z) (ih fun u hu' => hu u (List.mem_cons_of_mem _ hu'))
    exact key h6 fun u hu => hu
  refine q _ G2 H2 (r1.ext ext) (s1.trans ext.step) ?_
  have f : Fresh K H1 G2 H2 (.ow (itemsD kvs)) (.ref p) := ⟨p, rfl, by rw [gout _ h4]; exact r1.ex.free h2, ⟨_, h5, items_dp ext.g hp6 hk⟩, h2⟩
  exact VRel.back (f.vrel r1) s1
theorem se_listIt {X : Cx} {p pos apos cpos : Pos} {e : Expr} {t : TE} {m : EM} (hc : X.calm = true) (hg : Gl X "list") (hm : X.mg "list" = none) (he : SE X e t m)
    (hbase : attributeBase e "items" X.env (eval e X.env) = eval e X.env := by rfl) (hline : (apos.endLine == cpos.line) = true := by rfl)
    (hs : starEach [.Call (.Attribute e "items" apos) [] [] cpos] X.env = (false, eval (.Call (.Attribute e "items" apos) [] [] cpos) X.env) :: starEach [] X.env := by rfl) :
    SE X (.Call (.Name "list" p) [.Call (.Attribute e "items" apos) [] [] cpos] [] pos) (LiI.tListItems t) (eListIt m) :=
  ⟨LiI.pe_listItems hc he.pe hg hm (by decide +kernel) hbase hline hs, sim_listIt he.sim⟩
end Sh

namespace Sh
open PySem PySem.Spec L2

/-! ### list(range(n)) -/
def eLstRg (a : EM) : EM := fun st => match a st with
  | some (o, st1) => match o.get st1 with
    | some (.fz (.int n)) => if -100000 ≤ n ∧ n ≤ 100000 then some (.tmp (.ow (intsD 0 n.toNat)), st1) else none
    | _ => none
  | none => none
theorem eLstRg_inv {e : EM} {st st' : S} {o : Opd} (h : eLstRg e st = some (o, st')) : ∃ o1 n, e st = some (o1, st') ∧ o1.get st' = some (.fz (.int n)) ∧ -100000 ≤ n ∧ n ≤ 100000 ∧ o = .tmp (.ow (intsD 0 n.toNat)) := by
  unfold eLstRg at h
  split at h
  · rename_i o1 st1 e1
    split at h
    · rename_i n e2
      split at h
      · rename_i hn
        cases h
        exact ⟨o1, n, e1, e2, hn.1, hn.2, rfl⟩
      · cases h
    · cases h
  · cases h
theorem range_dp {K : PySem.W.Frag} {G : Hp} (lo : Int) : ∀ l : List Nat, DpAll K G (l.map fun i => V.int (lo + (i : Nat))) (l.map fun (i : Nat) => .int (lo + (i : Int)))
  | [] => .nil
  | i :: l => .cons (.int _) (range_dp lo l)
theorem sim_lstRg {K : PySem.W.Frag} {t : TE} {e : EM} (he : SimE K t e) : SimE K (tLstRg (tRg1 t)) (eLstRg e) := by
  intro st σ G H o st' r h Q q
  obtain ⟨o1, n, e1, e2, h1, h2, rfl⟩ := eLstRg_inv h
  refine he st σ G H o1 st' r e1 _ fun v G1 H1 r1 s1 v1 => ?_
  have l := look_int (ORel.look r1 v1 (fun z => by cases z) e2)
  refine ⟨n, l, ⟨by omega, by omega, by omega, by omega, by omega⟩, fun p hp => ?_⟩
  have x := Ext.fresh (o := HO.lst (rgV 0 n)) r1.ex hp
  have hd : DpAll K G1 (rgV 0 n) (intsD 0 n.toNat) := by
    unfold rgV intsD
    rw [show (n - 0).toNat = n.toNat by omega]
    exact range_dp 0 _
  have f : Fresh K H1 G1 (upd H1 p (.lst (rgV 0 n))) (.ow (intsD 0 n.toNat)) (.ref p) := ⟨p, rfl, r1.ex.free hp, ⟨_, upd_same, hd⟩, hp⟩
  exact q _ _ _ (r1.ext x) (s1.trans x.step) (VRel.back (f.vrel r1) s1)
theorem se_lstRg {X : Cx} {p p2 pos pos2 : Pos} {e : Expr} {t : TE} {m : EM} (hc : X.calm = true) (hg : Gl X "list") (hm : X.mg "list" = none) (hg2 : Gl X "range") (hm2 : X.mg "range" = none) (he : SE X e t m)
    (h1 : starEach [.Call (.Name "range" p2) [e] [] pos2] X.env = (false, eval (.Call (.Name "range" p2) [e] [] pos2) X.env) :: starEach [] X.env := by rfl) (h2 : starEach [e] X.env = (false, eval e X.env) :: starEach [] X.env := by rfl) :
    SE X (.Call (.Name "list" p) [.Call (.Name "range" p2) [e] [] pos2] [] pos) (tLstRg (tRg1 t)) (eLstRg m) := ⟨pe_listRg hc hg hm (prg_1 hg2 hm2 he.pe h2) h1, sim_lstRg he.sim⟩
end Sh

namespace Sh
open PySem PySem.Spec L2

/-! ### list + list, frozen or not -/
def rCatL (K : PySem.W.Frag) : R2 := fun x y H Q => ∃ (a b : Addr) (xs ys : List V), x = .ref a ∧ y = .ref b ∧ SqL K H a xs ∧ SqL K H b ys ∧ xs.length + ys.length ≤ sizeLine ∧ ∀ p, H p = none → Q (.ref p) (upd H p (.lst (xs ++ ys)))
open PyProof.Rows in
theorem op_catL {X : Cx} : OpR X (binaryOp .Add) (rCatL X.K) := by
  intro pins s σ H x y u1 u2 Q inv rx ry h
  obtain ⟨a, b, xs, ys, rfl, rfl, hx, hy, hz, q⟩ := h
  cases rx
  cases ry
  obtain ⟨i1, r1, ⟨⟨c1, d1, t1, w1⟩, n1, g1, k1, k2, k3⟩, z1⟩ := inv.list hx
  obtain ⟨i2, r2, ⟨⟨c2, d2, t2, w2⟩, n2, g2', j1, j2, j3⟩, z2⟩ := inv.list hy
  simp only at k1 k2 k3 j1 j2 j3
  subst k1 k2 k3 j1 j2 j3
  have ea : i1.toArray ++ i2.toArray = (i1 ++ i2).toArray := by simp
  have l1 := r1.length
  have l2 := r2.length
  refine concat_meets ⟨_, g1, rfl⟩ ⟨_, g2', rfl⟩ noFill_list_add seq_list_add PySem.F.slot_list_add PySem.F.entry_list_add (PySem.F.args_list_add_2 _ _) (list_addW a b i1.toArray i2.toArray n1 n2 none none w1 w2 (by simp only [List.size_toArray]; omega)) ⟨g1, g2', ?_⟩
  rw [ea]
  exact ⟨.ref _, _, inv.lnew (t' := s.toks) (r1.append r2) (by rw [List.length_append]; omega), rfl, q _ inv.fresh⟩
def catL : G2 := fun s t => match s.l, t.l with
  | some a, some b => if a.length + b.length ≤ 100000 then some (.ow (a ++ b)) else none
  | _, _ => none
theorem ok_catL {K : PySem.W.Frag} : OpOk K (rCatL K) catL := by
  intro G H x y s t z e lx ly hz Q q
  unfold catL at hz
  split at hz
  · rename_i a b h1 h2
    split at hz
    · rename_i hl
      cases hz
      obtain ⟨p, vs, rfl, s1, d1⟩ := look_l e lx h1
      obtain ⟨p', vs', rfl, s2, d2⟩ := look_l e ly h2
      exact ⟨p, p', vs, vs', rfl, rfl, s1, s2, Evl.sz_of (by rw [dpa_len d1, dpa_len d2]; exact hl), fun l hl => ans_ow e (dpa_app d1 d2) q hl⟩
    · cases hz
  · cases hz
theorem catL1 : ∀ s, catL .un s = none := by intro s; cases s <;> rfl
theorem catL2 : ∀ s, catL s .un = none := by
  intro s
  cases s with
  | fz d => cases d <;> rfl
  | _ => rfl
/-- + as before, and of any two lists -/
def addT : G2 := fun s s' => match addS s s' with
  | some z => some z
  | none => catL s s'
section
variable {X : Cx} {e e2 : Expr} {ta tb : TE} {a b : EM} {pos : Pos}
theorem se_addT (ha : SE X e ta a) (hb : SE X e2 tb b) : SE X (.BinOp e .Add e2 pos) (tOp (fun x y H Q => (fun x y H Q => rI0 (fun i j => .int (i + j)) x y H Q ∨ rCat3 X.K x y H Q) x y H Q ∨ rCatL X.K x y H Q) ta tb) (eBin addT a b) :=
  se_op ((op_add.or op_cat3).or op_catL) (OpOk.or (OpOk.or (ok_rI0 fun i j _ => .int _) ok_cat3) ok_catL) ha hb (fun s => by unfold addT; rw [add1, catL1]) (fun s => by unfold addT; rw [add2, catL2])
end
end Sh

namespace Sh
open PySem PySem.Spec L2

/-! ### comprehensions and loops by what holds at each turn -/
theorem lcL_run {vs : List Nat} {g : GM} {c : TM} {e : EM} (I : S → Prop) (f : D → Option D) : ∀ (xs : List D),
    (∀ d ∈ xs, ∀ st, I st → ∃ s1, g d (wipeS st vs) = some s1 ∧ ((f d = none ∧ ∃ s2, c s1 = some (false, s2) ∧ I s2) ∨ ∃ y s2 s3, f d = some y ∧ c s1 = some (true, s2) ∧ eFrz e s2 = some (.tmp (.fz y), s3) ∧ I s3)) →
    ∀ st, I st → ∃ st', lcL vs g c e xs st = some (xs.filterMap f, st') ∧ I st'
  | [], _, st, h => ⟨st, rfl, h⟩
  | d :: xs, hh, st, h => by
    obtain ⟨s1, e1, h1⟩ := hh d List.mem_cons_self st h
    have rest := lcL_run (vs := vs) (g := g) (c := c) (e := e) I f xs fun x hx => hh x (List.mem_cons_of_mem _ hx)
    rcases h1 with ⟨n1, s2, e2, h2⟩ | ⟨y, s2, s3, n1, e2, e3, h3⟩
    · obtain ⟨st', e4, h4⟩ := rest s2 h2
      refine ⟨st', ?_, h4⟩
      unfold lcL
      simp only [e1, e2, e4, List.filterMap_cons, n1]
    · obtain ⟨st', e4, h4⟩ := rest s3 h3
      refine ⟨st', ?_, h4⟩
      unfold lcL
      simp only [e1, e2, e3, e4, List.filterMap_cons, n1]
theorem lcL_map {vs : List Nat} {g : GM} {e : EM} (I : S → Prop) (f : D → D) (xs : List D)
    (hh : ∀ d ∈ xs, ∀ st, I st → ∃ s1 s3, g d (wipeS st vs) = some s1 ∧ eFrz e s1 = some (.tmp (.fz (f d)), s3) ∧ I s3) (st : S) (h : I st) : ∃ st', lcL vs g tYes' e xs st = some (xs.map f, st') ∧ I st' := by
  obtain ⟨st', e1, h1⟩ := lcL_run (vs := vs) (g := g) (c := tYes') (e := e) I (fun d => some (f d)) xs (fun d hd st h => by
    obtain ⟨s1, s3, e1, e2, h3⟩ := hh d hd st h
    exact ⟨s1, e1, .inr ⟨f d, s1, s3, rfl, rfl, e2, h3⟩⟩) st h
  refine ⟨st', ?_, h1⟩
  rw [e1, List.filterMap_eq_map']
theorem forL_run {g : GM} {b : SM} : ∀ (xs : List D) (I : Nat → S → Prop) (k : Nat), (∀ j d, xs[j]? = some d → ∀ st, I (k + j) st → ∃ s1 s2, g d st = some s1 ∧ b s1 = some (.nx, s2) ∧ I (k + j + 1) s2) →
    ∀ st, I k st → ∃ st', forL g b xs st = some (.nx, st') ∧ I (k + xs.length) st'
  | [], I, k, _, st, h => ⟨st, rfl, h⟩
  | d :: xs, I, k, hh, st, h => by
    obtain ⟨s1, s2, e1, e2, h2⟩ := hh 0 d rfl st h
    obtain ⟨st', e3, h3⟩ := forL_run xs I (k + 1) (fun j d hj st hst => by
      have e : k + 1 + j = k + (j + 1) := by omega
      rw [e] at hst ⊢
      exact hh (j + 1) d (by simpa using hj) st hst) s2 h2
    refine ⟨st', ?_, by rw [List.length_cons, show k + (xs.length + 1) = k + 1 + xs.length by omega]; exact h3⟩
    unfold forL
    simp only [e1, e2, e3]
/-- a loop whose state is one of a kind at every turn -/
theorem forL_inv {g : GM} {b : SM} (I : S → Prop) (xs : List D) (hh : ∀ d ∈ xs, ∀ st, I st → ∃ s1 s2, g d st = some s1 ∧ b s1 = some (.nx, s2) ∧ I s2) (st : S) (h : I st) : ∃ st', forL g b xs st = some (.nx, st') ∧ I st' :=
  forL_run xs (fun _ => I) 0 (fun _ d hj st hst => hh d (List.mem_of_getElem? hj) st hst) st h

/-! ### data of lists, tuples and plain values -/
mutual
theorem eqv_self : ∀ (d : D), noD d = true → PyData.eqv d d = true
  | .none, _ => by rw [PyData.eqv]
  | .bool _, _ => by rw [PyData.eqv]; simp
  | .int _, _ => by rw [PyData.eqv]; simp
  | .str _, _ => by rw [PyData.eqv]; simp
  | .list xs, h => by
    rw [PyData.eqv]
    exact eqvs_self xs (by unfold noD at h; exact h)
  | .tuple xs, h => by
    rw [PyData.eqv]
    exact eqvs_self xs (by unfold noD at h; exact h)
  | .dict _, h => by unfold noD at h; cases h
theorem eqvs_self : ∀ (ds : List D), noDs ds = true → PyData.eqvAll ds ds = true
  | [], _ => by simp [PyData.eqvAll]
  | x :: xs, h => by
    unfold noDs at h
    obtain ⟨h1, h2⟩ := Bool.and_eq_true_iff.mp h
    rw [PySem.W.eqv_all_cons, eqv_self x h1, eqvs_self xs h2]
    rfl
end
theorem eqv_shaped {d : D} (h : SeqAt.shaped d = true) : PyData.eqv d d = true := eqv_self d (noD_shaped h)
mutual
/-- lists in the place of tuples -/
def soft : D → D
  | .list xs => .list (softs xs)
  | .tuple xs => .list (softs xs)
  | .none => .none
  | .bool b => .bool b
  | .int i => .int i
  | .str x => .str x
  | .dict kvs => .dict kvs
def softs : List D → List D
  | [] => []
  | x :: xs => soft x :: softs xs
end
theorem softs_map : ∀ xs : List D, softs xs = xs.map soft
  | [] => rfl
  | x :: xs => by
    unfold softs
    rw [softs_map xs]
    rfl
/-- as a call gives it -/
def softSl : D → Sl
  | .list xs => .ow (softs xs)
  | .tuple xs => .ow (softs xs)
  | d => .fz d
/-- data of no more than so many levels -/
def okD : Nat → D → Bool
  | 0, _ => false
  | n + 1, .list ds => decide (ds.length ≤ 100000) && ds.all (okD n)
  | n + 1, .tuple ds => decide (ds.length ≤ 100000) && ds.all (okD n)
  | _ + 1, .none => true
  | _ + 1, .bool _ => true
  | _ + 1, .int _ => true
  | _ + 1, .str x => SeqAt.shaped (.str x)
  | _ + 1, _ => false
theorem okD_soft : ∀ (n : Nat) (d : D), okD n d = true → okD n (soft d) = true
  | 0, _, h => by cases h
  | n + 1, d, h => by
    have sq : ∀ xs : List D, (decide (xs.length ≤ 100000) && xs.all (okD n)) = true → (decide ((softs xs).length ≤ 100000) && (softs xs).all (okD n)) = true := fun xs h => by
      rw [Bool.and_eq_true, decide_eq_true_eq, List.all_eq_true] at h ⊢
      rw [softs_map, List.length_map]
      refine ⟨h.1, fun d hd => ?_⟩
      obtain ⟨e, he, rfl⟩ := List.mem_map.mp hd
      exact okD_soft n e (h.2 e he)
    cases d with
    | list xs => unfold soft; exact sq xs h
    | tuple xs => unfold soft; exact sq xs h
    | dict kvs => cases h
    | none => exact h
    | bool b => exact h
    | int i => exact h
    | str x => exact h
theorem okD_lay : ∀ (n : Nat) (d : D), okD n d = true → PyData.canLay0 d = true ∧ d.depth ≤ n
  | 0, _, h => by cases h
  | n + 1, d, h => by
    have sq : ∀ xs : List D, (decide (xs.length ≤ 100000) && xs.all (okD n)) = true → PyData.canLayAll0 xs = true ∧ PyData.depthAll xs ≤ n := fun xs h => by
      rw [Bool.and_eq_true, decide_eq_true_eq, List.all_eq_true] at h
      replace h := h.2
      induction xs with
      | nil => exact ⟨by simp [PyData.canLayAll0], by simp [PyData.depthAll]⟩
      | cons x xs ih =>
        obtain ⟨a, b⟩ := okD_lay n x (h x List.mem_cons_self)
        obtain ⟨a', b'⟩ := ih fun y hy => h y (List.mem_cons_of_mem _ hy)
        refine ⟨?_, ?_⟩
        · unfold PyData.canLayAll0
          rw [a, a']
          rfl
        · unfold PyData.depthAll
          exact Nat.max_le.mpr ⟨by omega, b'⟩
    cases d with
    | list xs =>
      obtain ⟨a, b⟩ := sq xs h
      exact ⟨by unfold PyData.canLay0; exact a, by rw [PyData.depth]; omega⟩
    | tuple xs =>
      obtain ⟨a, b⟩ := sq xs h
      exact ⟨by unfold PyData.canLay0; exact a, by rw [PyData.depth]; omega⟩
    | dict kvs => cases h
    | none => exact ⟨rfl, by rw [PyData.depth]; omega⟩
    | bool b => exact ⟨rfl, by rw [PyData.depth]; omega⟩
    | int i => exact ⟨rfl, by rw [PyData.depth]; omega⟩
    | str x => exact ⟨SeqAt.canLay_of_shaped h, by rw [PyData.depth]; omega⟩
theorem okD_shaped {n : Nat} {d : D} (h : okD n d = true) (hn : n ≤ 64) : SeqAt.shaped d = true := by
  obtain ⟨a, b⟩ := okD_lay n d h
  unfold SeqAt.shaped
  rw [a, Bool.true_and, decide_eq_true_eq]
  omega
theorem okD_mono : ∀ (n m : Nat) (d : D), n ≤ m → okD n d = true → okD m d = true
  | 0, _, _, _, h => by cases h
  | n + 1, 0, _, hm, _ => by omega
  | n + 1, m + 1, d, hm, h => by
    have sq : ∀ xs : List D, (decide (xs.length ≤ 100000) && xs.all (okD n)) = true → (decide (xs.length ≤ 100000) && xs.all (okD m)) = true := fun xs h => by
      rw [Bool.and_eq_true, List.all_eq_true] at h ⊢
      exact ⟨h.1, fun d hd => okD_mono n m d (by omega) (h.2 d hd)⟩
    cases d with
    | list xs => exact sq xs h
    | tuple xs => exact sq xs h
    | dict kvs => cases h
    | none => rfl
    | bool b => rfl
    | int i => rfl
    | str x => exact h
end Sh

namespace Sh
open PySem PySem.Spec L2

/-! ### two dicts compared -/
def hitsB (ld : List (Key × D)) : List (Key × D) → Bool
  | [] => true
  | p :: r => match dget ld p.1 with
    | some d => PyData.eqv p.2 d && hitsB ld r
    | none => false
def dicEq (kd ld : List (Key × D)) : Bool := kd.length == ld.length && hitsB ld kd
def shapedK (kd : List (Key × D)) : Bool := kd.all fun p => SeqAt.shaped p.2
theorem shaped_get : ∀ {ld : List (Key × D)} {k : Key} {d : D}, shapedK ld = true → dget ld k = some d → SeqAt.shaped d = true
  | [], _, _, _, e => by cases e
  | (k', d') :: r, k, d, h, e => by
    unfold shapedK at h
    rw [List.all_cons, Bool.and_eq_true] at h
    unfold dget at e
    split at e
    · cases e; exact h.1
    · exact shaped_get (ld := r) h.2 e
theorem hits_run {X : Cx} {pins : List (Addr × Obj)} {σ : St} {H : Hp} {s : Shared} (I : Inv X pins σ H s) (A : Around) (hu : A.in1.units + 64 < cLine) {G : Hp} (e : Same G H) {ls : List (Key × V)} {ld : List (Key × D)} {vb : List (Key × Value)} (hl : KVp X.K G ls ld) (rb : KV ls vb) (sl : shapedK ld = true) :
    ∀ {ks : List (Key × V)} {kd : List (Key × D)} {va : List (Key × Value)}, KVp X.K G ks kd → KV ks va → shapedK kd = true → PySem.W.KeqHits A.in1 s vb va (hitsB ld kd)
  | _, _, _, .nil, .nil, _ => .nil
  | _, p :: kd, _, .cons (a := q) hp tp, .cons (b := z) hq tq, sk => by
    unfold shapedK at sk
    rw [List.all_cons, Bool.and_eq_true] at sk
    have ih := hits_run I A hu e hl rb sl tp tq sk.2
    obtain ⟨zk, zv⟩ := z
    have k1 : q.1 = p.1 := hp.1
    have k2 : q.1 = zk := hq.1
    unfold hitsB
    have rv := rb.val q.1
    rcases kvp_get (k := q.1) hl with ⟨y1, y2⟩ | ⟨v, d, y1, y2, y3⟩
    · rw [← k1, y2]
      rw [y1] at rv
      cases hva : valueAt vb q.1 with
      | none => exact .miss (by rw [← k2]; exact hva)
      | some w => rw [hva] at rv; exact rv.elim
    · rw [← k1, y2]
      rw [y1] at rv
      cases hva : valueAt vb q.1 with
      | none => rw [hva] at rv; exact rv.elim
      | some w =>
        rw [hva] at rv
        have s1 : SeqAt.shaped p.2 = true := sk.1
        have s2 : SeqAt.shaped d = true := shaped_get sl y2
        obtain ⟨as, r1⟩ := Dp.reads I p.2 q.2 zv (dp_mono e hp.2) (noD_shaped s1) hq.2
        obtain ⟨bs, r2⟩ := Dp.reads I d v w (dp_mono e y3) (noD_shaped s2) rv
        exact .hit (by rw [← k2]; exact hva) (PySem.W.keq_at r1 r2 s1 s2 hu) ih
def rEqDic (K : PySem.W.Frag) (neg : Bool) : R2 := fun x y H Q => ∃ (a b : Addr) (G : Hp) (ks ls : List (Key × V)) (kd ld : List (Key × D)), x = .ref a ∧ y = .ref b ∧ Same G H ∧ H a = some (.dK ks) ∧ H b = some (.dK ls) ∧ KVp K G ks kd ∧ KVp K G ls ld ∧
  shapedK kd = true ∧ shapedK ld = true ∧ Q (.bl (if neg = true then !dicEq kd ld else dicEq kd ld)) H
theorem op_eqDic {X : Cx} (hu : X.A.units + 65 < cLine) : OpR X (compareOp .Eq) (rEqDic X.K false) := by
  intro pins s σ H x y v u Q I rx ry ⟨a, b, G, ks, ls, kd, ld, ex, ey, e, ha, hb, h1, h2, s1, s2, q⟩
  subst ex ey
  cases rx
  cases ry
  obtain ⟨_, ya, va, ra, da⟩ := (show ObjOk X.prog X.w H s.heap a (.dK ks) from I.hok a _ ha)
  obtain ⟨_, yb, vb, rb, db⟩ := (show ObjOk X.prog X.w H s.heap b (.dK ls) from I.hok b _ hb)
  have l1 : va.length = kd.length := by rw [← ra.length, kvp_len h1]
  have l2 : vb.length = ld.length := by rw [← rb.length, kvp_len h2]
  have hi : X.A.in1.units = X.A.units + 1 := rfl
  refine PySem.W.keq_eq (knd := mixKind X.prog X.w) ya yb da db (by omega) (fun _ => hits_run I X.A (by omega) e h2 rb s2 h1 ra s1) ⟨.bl (dicEq kd ld), H, I, ?_, q⟩
  show Value.bool _ = Value.bool _
  unfold dicEq
  rw [l1, l2]
theorem op_neDic {X : Cx} (hu : X.A.units + 65 < cLine) : OpR X (compareOp .NotEq) (rEqDic X.K true) := by
  intro pins s σ H x y v u Q I rx ry ⟨a, b, G, ks, ls, kd, ld, ex, ey, e, ha, hb, h1, h2, s1, s2, q⟩
  subst ex ey
  cases rx
  cases ry
  obtain ⟨_, ya, va, ra, da⟩ := (show ObjOk X.prog X.w H s.heap a (.dK ks) from I.hok a _ ha)
  obtain ⟨_, yb, vb, rb, db⟩ := (show ObjOk X.prog X.w H s.heap b (.dK ls) from I.hok b _ hb)
  have l1 : va.length = kd.length := by rw [← ra.length, kvp_len h1]
  have l2 : vb.length = ld.length := by rw [← rb.length, kvp_len h2]
  have hi : X.A.in1.units = X.A.units + 1 := rfl
  refine PySem.W.keq_ne (knd := mixKind X.prog X.w) ya yb da db (by omega) (fun _ => hits_run I X.A (by omega) e h2 rb s2 h1 ra s1) ⟨.bl (!dicEq kd ld), H, I, ?_, q⟩
  show Value.bool _ = Value.bool _
  unfold dicEq
  rw [l1, l2]
def eqD (neg : Bool) : G2 := fun s s' => match s, s' with
  | .od a, .od b => if (shapedK a && shapedK b) = true then some (.fz (.bool (if neg = true then !dicEq a b else dicEq a b))) else none
  | _, _ => none
theorem eqD1 {neg : Bool} : ∀ s, eqD neg .un s = none := fun s => rfl
theorem eqD2 {neg : Bool} : ∀ s, eqD neg s .un = none := fun s => by cases s <;> rfl
theorem ok_eqD {K : PySem.W.Frag} {neg : Bool} : OpOk K (rEqDic K neg) (eqD neg) := by
  intro G H x y s s' z e lx ly hz Q q
  unfold eqD at hz
  split at hz
  · rename_i kd ld
    split at hz
    · rename_i hs
      cases hz
      obtain ⟨h1, h2⟩ := Bool.and_eq_true_iff.mp hs
      obtain ⟨a, ws, rfl, h3, h4⟩ := look_od lx
      obtain ⟨b, us, rfl, h5, h6⟩ := look_od ly
      exact ⟨a, b, G, ws, us, kd, ld, rfl, rfl, e, h3, h5, h4, h6, h1, h2, ans_fz e (.bl _) q⟩
    · cases hz
  · cases hz
section
variable {X : Cx} {e e2 : Expr} {ta tb : TE} {a b : EM} {pos : Pos}
theorem se_eqD (hu : X.A.units + 65 < cLine) (ha : SE X e ta a) (hb : SE X e2 tb b) : SE X (.Compare e [.Eq] [e2] pos) (tOp (rEqDic X.K false) ta tb) (eBin (eqD false) a b) := se_cmp (op_eqDic hu) ok_eqD ha hb (nomark _) eqD1 eqD2
theorem se_neD (hu : X.A.units + 65 < cLine) (ha : SE X e ta a) (hb : SE X e2 tb b) : SE X (.Compare e [.NotEq] [e2] pos) (tOp (rEqDic X.K true) ta tb) (eBin (eqD true) a b) := se_cmp (op_neDic hu) ok_eqD ha hb (nomark _) eqD1 eqD2
theorem st_eqD (hu : X.A.units + 65 < cLine) (ha : SE X e ta a) (hb : SE X e2 tb b) : ST X (.Compare e [.Eq] [e2] pos) (tTest (tOp (rEqDic X.K false) ta tb)) (tBl (eBin (eqD false) a b)) := st_cmp (op_eqDic hu) ok_eqD ha hb (nomark _) eqD1 eqD2
theorem st_neD (hu : X.A.units + 65 < cLine) (ha : SE X e ta a) (hb : SE X e2 tb b) : ST X (.Compare e [.NotEq] [e2] pos) (tTest (tOp (rEqDic X.K true) ta tb)) (tBl (eBin (eqD true) a b)) := st_cmp (op_neDic hu) ok_eqD ha hb (nomark _) eqD1 eqD2
end
end Sh

namespace Sh
open PySem PySem.Spec L2

/-! ### d.update(e), e a dict -/
def rUpd : V → List V → Hp → VK → Prop := fun x xs H Q => ∃ (a b : Addr) (ks ls : List (Key × V)), x = .ref a ∧ xs = [.ref b] ∧ a ≠ b ∧ H a = some (.dK ks) ∧ H b = some (.dK ls) ∧ ks.length + ls.length ≤ sizeLine ∧ Q .non (upd H a (.dK (mergeK ks ls)))
theorem mt_upd {X : Cx} : MtR X "dict.update" rUpd := by
  intro pins s σ H x xs v us Q I rx rv ⟨a, b, ks, ls, ex, exs, hab, ha, hb, hz, q⟩
  subst ex exs
  cases rx
  obtain ⟨u, rfl, ru⟩ := vals1 rv
  cases ru
  obtain ⟨_, ya, va, ra, da⟩ := (show ObjOk X.prog X.w H s.heap a (.dK ks) from I.hok a _ ha)
  obtain ⟨_, yb, vb, rb, db⟩ := (show ObjOk X.prog X.w H s.heap b (.dK ls) from I.hok b _ hb)
  refine call_meetsIn F.slot_dict_update da.typeIs F.entry_dict_update (F.args_dict_update_2 _ _) (meets_dict_update (mixKind X.prog X.w) a b hab yb) ⟨va, vb, da, db, by rw [← ra.length, ← rb.length]; exact hz, fun h' hd' ho' hs' => ?_⟩
  have hlen : (mergeK ks ls).length ≤ sizeLine := Nat.le_trans (length_mergeK ls ks) hz
  have hex : ∃ o, h'.get? a = some o := by
    obtain ⟨o, _, _, e, _⟩ := hd'
    exact ⟨o, e⟩
  exact ⟨.non, _, d_write (t' := s.toks) (ob := .dK (mergeK ks ls)) I (by rw [ha]; trivial) hs' hex ⟨hlen, ya, merged va vb, KV.merge rb ra, hd'⟩, rfl, q⟩
def eUpd (i : Nat) (a : EM) : EM := fun st => match st[i]? with
  | some (.od _) => match a st with
    | some (.tmp (.od ls), st1) => match st1[i]? with
      | some (.od ks) => if ks.length + ls.length ≤ 100000 then some (.tmp (.fz .none), st1.set i (.od (putAll ks ls))) else none
      | _ => none
    | _ => none
  | _ => none
theorem eUpd_inv {i : Nat} {a : EM} {st st' : S} {o : Opd} (h : eUpd i a st = some (o, st')) : ∃ k0 ls st1 ks, st[i]? = some (.od k0) ∧ a st = some (.tmp (.od ls), st1) ∧ st1[i]? = some (.od ks) ∧ ks.length + ls.length ≤ 100000 ∧ o = .tmp (.fz .none) ∧ st' = st1.set i (.od (putAll ks ls)) := by
  unfold eUpd at h
  split at h
  · rename_i k0 e0
    split at h
    · rename_i ls st1 e1
      split at h
      · rename_i ks e2
        split at h
        · rename_i hl
          cases h
          exact ⟨k0, ls, st1, ks, e0, e1, e2, hl, rfl, rfl⟩
        · cases h
      · cases h
    · cases h
  · cases h
theorem sim_upd {K : PySem.W.Frag} {i : Nat} {t : TE} {a : EM} (ha : SimE K t a) : SimE K (tBM K "dict" rUpd (tVar i) (tCons t tNil)) (eUpd i a) := by
  intro st σ G H o st' rl h Q q
  obtain ⟨k0, ls, st1, ks, e0, e1, e2, hl, rfl, rfl⟩ := eUpd_inv h
  obtain ⟨p, hp, hn, hb⟩ := rl.getMt e0 rfl
  refine ⟨.ref p, hp, kind_ty (s := .od k0) rfl hb, ?_⟩
  refine ha st σ G H _ st1 rl e1 _ fun v G1 H1 r1 s1 o1 => ?_
  obtain ⟨p1, hp1, hn1, ws, b1, b2, b3⟩ := r1.getMt e2 rfl
  rw [hp] at hp1
  cases hp1
  obtain ⟨d, rfl, _, ⟨us, c1, c2, _⟩, c3, _⟩ := o1
  have hne : p ≠ d := fun z => c3 (by rw [← z]; exact ⟨i, _, e2, rfl, hp⟩)
  obtain ⟨m1, m2⟩ := put_all c2 b2 b3
  refine ⟨p, d, ws, us, rfl, rfl, hne, b1, c1, Evl.sz_of (by rw [kvp_len b2, kvp_len c2]; exact hl), ?_⟩
  refine q .non G1 _ (r1.mutate e2 rfl hp hn1 ⟨_, upd_same, m1, m2⟩) (s1.trans (Step.mutate ⟨i, _, e2, rfl, hp⟩ b1 fun a z => own_set_mut e2 rfl hp z)) (show Dp K G1 .non .none from .non)
section
variable {X : Cx} {x : Str} {npos apos cpos : Pos} {e : Expr} {t : TE} {a : EM} {i : Nat}
theorem se_upd (ho : SE X (.Name x npos) (tVar i) (eVar i)) (ha : SE X e t a)
    (hbase : attributeBase (.Name x npos) "update" X.env (eval (.Name x npos) X.env) = eval (.Name x npos) X.env := by rfl)
    (hfew : ((backTo cpos (starEach [e] X.env)).all (fun x => !x.1) && (backToKw cpos (keywordEach [] X.env)).all (fun x => x.1.isSome)
      && decide (([e] : List Expr).length + ([] : List Keyword).length + (if ([] : List Keyword).isEmpty then 0 else 1) < 30)) = true := by rfl)
    (hline : (apos.endLine == cpos.line) = true := by rfl) (hs : starEach [e] X.env = (false, eval e X.env) :: starEach [] X.env := by rfl) (hplain : (backTo cpos (starEach [] X.env)).any (·.1) = false := by rfl) :
    SE X (.Call (.Attribute (.Name x npos) "update" apos) [e] [] cpos) (tBM X.K "dict" rUpd (tVar i) (tCons t tNil)) (eUpd i a) :=
  ⟨pe_bm PySem.F.plainAttrs_dict PySem.F.slot_dict_update PySem.F.type_dict_update mt_upd ho.pe (pa_cons ha.pe pa_nil hs) hbase hfew hline hs hplain, sim_upd ha.sim⟩
end
end Sh

namespace Sh
open PySem PySem.Spec L2

/-! ### three at once, none of them a thing that changes later -/
def mPar3 (i j l : Nat) (a : AM) : SM := fun st => match a st with
  | some (os, st1) => match allFz os with
    | some [x, y, z] => some (.nx, ((st1.set i (.fz x)).set j (.fz y)).set l (.fz z))
    | _ => none
  | none => none
theorem simS_par3 {K : PySem.W.Frag} {A : Nat → Bool} {i j l : Nat} {t : TA} {a : AM} (hi : A i = true) (hj : A j = true) (hl : A l = true) (ha : SimA K t a) : SimS K A (tPar3 i j l t) (mPar3 i j l a) := by
  intro st σ G H o st' r h D q
  unfold mPar3 at h
  split at h
  · rename_i os st1 e1
    split at h
    · rename_i x y z e2
      cases h
      refine ha st σ G H os st1 r e1 _ fun vs G1 H1 r1 s1 o1 => ?_
      have hd := allFz_ok o1 e2
      cases hd with
      | @cons u _ _ _ d1 hd =>
        cases hd with
        | @cons v _ _ _ d2 hd =>
          cases hd with
          | @cons w _ _ _ d3 hd =>
            cases hd
            refine ⟨u, v, w, rfl, ?_⟩
            have r2 := r1.assign (i := i) (show VRel K (Own st σ) H (Own st1 σ) G1 H1 (.fz x) u from d1)
            have r3 := r2.assign (i := j) (show VRel K (Own st σ) H (Own (st1.set i (.fz x)) (σ.set i (some u))) G1 H1 (.fz y) v from d2)
            have r4 := r3.assign (i := l) (show VRel K (Own st σ) H (Own ((st1.set i (.fz x)).set j (.fz y)) ((σ.set i (some u)).set j (some v))) G1 H1 (.fz z) w from d3)
            refine q _ G1 H1 r4 ⟨s1.g, s1.keep, fun c hc => ?_, s1.new, s1.live⟩ (((kp_set hi).trans (kp_set hj)).trans (kp_set hl))
            rcases own_assign hc with ⟨m, _⟩ | z1
            · cases m
            · rcases own_assign z1 with ⟨m, _⟩ | z2
              · cases m
              · rcases own_assign z2 with ⟨m, _⟩ | z3
                · cases m
                · exact s1.own c z3
    · cases h
  · cases h
section
variable {X : Cx} {A : Nat → Bool} {i j l : Nat} {x y z : Str} {e1 e2 e3 : Expr} {t : TA} {a : AM} {px py pz pt pos : Pos} {kt k2 pt2}
theorem ss_par3 (hc : X.calm = true) (hN : X.N.Nodup) (hi : X.N[i]? = some x) (hj : X.N[j]? = some y) (hl : X.N[l]? = some z) (hij : i ≠ j) (hil : i ≠ l) (hjl : j ≠ l) (hx : X.env.scope.names.lookup x = some .local) (hy : X.env.scope.names.lookup y = some .local) (hz : X.env.scope.names.lookup z = some .local)
    (hAi : A i = true) (hAj : A j = true) (hAl : A l = true) (ha : SA X [e1, e2, e3] t a) (hw : swappedStores [.Tuple [.Name x px, .Name y py, .Name z pz] kt pt] (.Tuple [e1, e2, e3] k2 pt2) X.env = pure (some [x, y, z]))
    (hs : swapsWithSole [.Tuple [.Name x px, .Name y py, .Name z pz] kt pt] (.Tuple [e1, e2, e3] k2 pt2) pos.line X.env = pure false := by rfl) :
    SS X A (.Assign [.Tuple [.Name x px, .Name y py, .Name z pz] kt pt] (.Tuple [e1, e2, e3] k2 pt2) pos) (tPar3 i j l t) (mPar3 i j l a) :=
  ⟨ps_par3 hc hN hi hj hl hij hil hjl hx hy hz ha.pe hw hs, simS_par3 hAi hAj hAl ha.sim⟩
end
end Sh

namespace PySem
open Sem (wp)
open AutoSeq1 (wpAny_loadPart')
/-- enumerate(t), t a tuple: an iterator over t, and the counter -/
theorem sh_enumT (t : Addr) (its : Array Value) (n : Nat) (dd : Option Addr) (sl : Array (Option Value)) :
    Meets (Builtin.«enumerate.__new__» ⟨[.type "enumerate", .ref t], []⟩) (fun _ R s => s.heap.get? t = some { cls := .type "tuple", dict := dd, data := .seq its n, slots := sl } ∧
      R (.ok (.ret (.ref (s.heap.push { cls := .type "tuple_iterator", data := .fields #[.ref t, .int 0 0] }).objs.size)))
        { s with heap := (s.heap.push { cls := .type "tuple_iterator", data := .fields #[.ref t, .int 0 0] }).push { cls := .type "enumerate", data := .fields #[.none, .bool false, .ref s.heap.objs.size, rawInt 0, .none, .none] } }) :=
  .of_wp fun prog w A R s ⟨hl, h⟩ => by
    have hsub := sub_enumerate
    have hT : s.heap.IsTuple t its := ⟨_, hl, rfl, n, rfl⟩
    wp_walk using wpAny_loadPart' hl
    refine wpAny_stack_any fun st => wpAny_pure ?_
    split
    · rename_i c _ _ _ _ _
      cases (c == Value.type "enumerate") <;> (wp_walk using wpAny_loadPart' hl, wpAny_pyIter_tuple hT; exact ⟨_, rfl, h⟩)
    · wp_walk using wpAny_loadPart' hl, wpAny_pyIter_tuple hT
      exact ⟨_, rfl, h⟩
theorem sh_call_enumT {prog : Program} {w : World} {A : Around} {E : Value → Shared → Prop} {s : Shared} {t : Addr} {its : Array Value} {Q : Value → Shared → Prop} (hT : s.heap.IsTuple t its)
    (h : ∀ h', IsEnum h' (s.heap.objs.size + 1) s.heap.objs.size 0 .none → h'.IsTupleIter s.heap.objs.size t 0 → (∀ b o, s.heap.get? b = some o → h'.get? b = some o) → Q (.ref (s.heap.objs.size + 1)) { s with heap := h' }) :
    wpAny (model prog w) A (call (.type "enumerate") [.ref t]) Q E s := by
  obtain ⟨⟨c, dd, dt, sl⟩, hl, hc, n, hd⟩ := hT
  simp only at hc hd
  subst hc hd
  have hz : (s.heap.push { cls := .type "tuple_iterator", data := .fields #[.ref t, .int 0 0] }).objs.size = s.heap.objs.size + 1 := Heap.size_push ..
  have hi := Heap.get?_push_size s.heap (o := { cls := .type "tuple_iterator", data := .fields #[.ref t, .int 0 0] }) rfl
  have he := Heap.get?_push_size (s.heap.push { cls := .type "tuple_iterator", data := .fields #[.ref t, .int 0 0] }) (o := { cls := .type "enumerate", data := .fields #[.none, .bool false, .ref s.heap.objs.size, rawInt 0, .none, .none] }) rfl
  refine callType_new F.called_enumerate (by decide) (F.typeCall_enumerate_1 _) (F.newCall_enumerate_1 _) (fun obj => F.args_object_init_2 obj _) F.entry_enumerate_new (sh_enumT t its n dd sl) ⟨hl, ?_⟩
  show _ ∧ _
  rw [hz] at he ⊢
  exact ⟨⟨_, he, rfl⟩, h _ he ⟨_, Heap.get?_push_of_some _ hi, rfl, rfl⟩ fun b o x => Heap.get?_push_of_some _ (Heap.get?_push_of_some _ x)⟩
end PySem
namespace Sh
open PySem PySem.Spec PyProof.Rows L2

/-! ### enumerate of a tuple -/
def IteT (K : PySem.W.Frag) (a : Addr) (N : Nat) : L2.It :=
  ⟨fun i H => ∃ (vs : List V) (x : V), SqT K H a vs ∧ vs.length = N ∧ vs[i]? = some x,
    fun i H v H' => ∃ T x, v = .ref T ∧ H T = none ∧ H' = upd H T (.tup [.int (i : Nat), x]) ∧ ∀ vs, SqT K H a vs → vs[i]? = some x,
    fun i H => ∃ vs : List V, SqT K H a vs ∧ vs.length = N ∧ N ≤ i⟩
theorem turn_enumT {P : Program} {w : World} {K : PySem.W.Frag} {elts : List Expr} {kk : Nat} {tpos : Pos} (a e it : Addr) (N : Nat) (d1 : e ≠ it) (d2 : e ≠ a) (d3 : a ≠ it) :
    Turn P w K (.Tuple elts kk tpos) (IteT K a N) [e, it] e (fun i h => (∃ old, IsEnum h e it ((i : Nat) : Int) old) ∧ h.IsTupleIter it a i ∧ i ≤ N) where
  mem := List.mem_cons_self
  obj := fun i h st b hb => by
    obtain ⟨⟨old, he⟩, ⟨o, ho, _, hd⟩, _⟩ := st
    rcases List.mem_cons.mp hb with rfl | hb
    · exact ⟨_, he, fun v q => nomatch q⟩
    · rw [List.mem_singleton.mp hb]
      exact ⟨o, ho, fun v q => by rw [hd] at q; cases q⟩
  keep := fun i h h' st k => by
    obtain ⟨⟨old, he⟩, hi, hn⟩ := st
    exact ⟨⟨old, k e List.mem_cons_self _ he⟩, hi.at fun o q => k it (List.mem_cons_of_mem _ List.mem_cons_self) o q, hn⟩
  item := by
    intro X hP hw hK hc i pins s σ H E I hf st hg
    subst hP hw hK
    obtain ⟨⟨old, he⟩, hit, hn⟩ := st
    obtain ⟨vs, x, hq, hN, hx⟩ := hg
    obtain ⟨its, rv, p, hz⟩ := I.tuple hq
    obtain ⟨u, hu, ru⟩ := rv.get hx
    have hel : e < s.heap.objs.size := Heap.lt_size he
    have hil : it < s.heap.objs.size := by obtain ⟨_, q, _⟩ := hit; exact Heap.lt_size q
    have hlt : i < its.toArray.size := by rw [List.size_toArray]; exact (List.getElem?_eq_some_iff.mp hu).1
    have iN : i < N := by rw [← hN]; exact (List.getElem?_eq_some_iff.mp hx).1
    have D := Draws.tuple (prog := X.prog) (w := X.w) (A := X.A.in1) (I.ok.hd hc) it a d3 its.toArray
    refine wpAny_pyNext_enum_itemD D he ⟨hit, p⟩ hlt d1 (by simp [d1, d2]) fun y h' tk hy ho hst hT hsz hk => ?_
    have ey : y = u := by
      have hy : its.toArray[i]? = some y := hy
      rw [List.getElem?_toArray, hu] at hy
      exact (Option.some.inj hy).symm
    subst ey
    refine ⟨_, rfl, wpAny_letOwnedTupleGo_enum (s := { s with heap := h', toks := tk + 1 }) ho fun h'' he' sb => ?_⟩
    have hT2 : h''.get? s.heap.objs.size = some { cls := .type "tuple", data := .seq #[.int i tk, y] } := (sb.2 _ (Nat.ne_of_gt hel)).trans hT
    have new : ObjOk X.prog X.w (upd H s.heap.objs.size (.tup [.int (i : Nat), x])) h'' s.heap.objs.size (.tup [.int (i : Nat), x]) :=
      ⟨by show 2 ≤ sizeLine; decide, [.int i tk, y], .cons ⟨_, rfl⟩ (.cons ru .nil), ⟨_, hT2, rfl, _, rfl⟩⟩
    have I1 : Inv X pins σ (upd H s.heap.objs.size (.tup [.int (i : Nat), x])) { s with heap := h'', toks := tk + 1 } :=
      I.turnedNew (ch := [e, it]) (fun b ob hb q => (sb.2 b fun z => hb (by simp [z])).trans (hk b ob (fun z => hb (by simp [z])) (fun z => hb (by simp [z])) q)) hf (Nat.le_refl _) new
    refine ⟨.ref s.heap.objs.size, _, I1, rfl, ⟨_, x, rfl, I.hok.fresh (Nat.le_refl _), rfl, fun us hy => by rw [I.tuple_inj hy hq]; exact hx⟩, ⟨⟨y, ?_⟩, hst.1.at fun o q => (sb.2 it (Ne.symm d1)).trans q, by omega⟩, fun b hb => ?_⟩
    · rw [show ((i + 1 : Nat) : Int) = (i : Int) + 1 by omega]
      exact he'
    · have hb' : b < s.heap.objs.size := by
        rcases List.mem_cons.mp hb with rfl | hb2
        · exact hel
        · rw [List.mem_singleton.mp hb2]; exact hil
      rw [upd_ne (Nat.ne_of_lt hb')]
      exact (hf b hb).1
  done := by
    intro X hP hw hK hc i pins s σ H E I hf st hg
    subst hP hw hK
    obtain ⟨⟨old, he⟩, hit, hn⟩ := st
    obtain ⟨vs, hq, hN, hx⟩ := hg
    obtain ⟨its, rv, p, hz⟩ := I.tuple hq
    obtain ⟨f0, f1, f2, f3, f4, f5⟩ := hf it (by simp)
    have hl := rv.length
    have ei : i = its.toArray.size := by rw [List.size_toArray]; omega
    have D := Draws.tuple (prog := X.prog) (w := X.w) (A := X.A.in1) (I.ok.hd hc) it a d3 its.toArray
    exact wpAny_pyNext_enum_endD D he ⟨by rw [← ei]; exact hit, p⟩ fun h' eb => ⟨rfl, I.turned (t' := s.toks) (fun b o hb q => eb b o hb q) f0 f1 f3 f4 f5⟩
  self := fun A i s Q E st h => let ⟨⟨_, he⟩, _⟩ := st; wpAny_pyIter_enum he h
def iEnumT (K : PySem.W.Frag) (ta : TA) : TI := fun σ H R => ta σ H fun vs H1 => ∃ a us, vs = [.ref a] ∧ SqT K H1 a us ∧ R (IteT K a us.length) H1
theorem pi_enumT {X : Cx} {e : Expr} {ta : TA} {p pos tpos : Pos} {elts : List Expr} {kk : Nat} (hg : Gl X "enumerate") (hm : X.mg "enumerate" = none) (ha : PA X [e] ta) (hs : starEach [e] X.env = [(false, eval e X.env)] := by rfl) :
    PI X (.Tuple elts kk tpos) (.Call (.Name "enumerate" p) [e] [] pos) (iEnumT X.K ta) where
  run := fun pins s σ H R I h => Call_ (ld_blt I hg hm boot_enumerate (PyProof.Rows.callWith_type1 (thn (ha.run pos pins s σ H _ I h) fun us s1 ⟨vs, H1, I1, r1, a, ws, ex, hq, q⟩ => by
    subst ex
    obtain ⟨v, rfl, r⟩ := vals1 r1
    cases r
    obtain ⟨its, rv, p', hz⟩ := I1.tuple hq
    have al : a < s1.heap.objs.size := by obtain ⟨o, ho, _⟩ := p'; exact Heap.lt_size ho
    refine sh_call_enumT p' fun h' he hit hk => wpAny_pyIter_enum he ?_
    have I2 : Inv X pins σ H1 { s1 with heap := h' } := I1.kept (t' := s1.toks) hk
    refine ⟨s1.heap.objs.size + 1, [s1.heap.objs.size + 1, s1.heap.objs.size], _, _, H1, rfl, I2, turn_enumT a (s1.heap.objs.size + 1) s1.heap.objs.size ws.length (Nat.succ_ne_self _) (Nat.ne_of_gt (Nat.lt_succ_of_lt al)) (Nat.ne_of_lt al), ⟨⟨.none, he⟩, hit, Nat.zero_le _⟩, fun b hb => ?_, q⟩
    have hle : s1.heap.objs.size ≤ b := by
      rcases List.mem_cons.mp hb with rfl | hb
      · omega
      · rw [List.mem_singleton.mp hb]; exact Nat.le_refl _
    exact I1.fpOk hle (I1.hok.fresh hle)) hs rfl))
/-- of a list or a tuple -/
def iEnum2 (a : AM) : IM := fun st => match a st with
  | some ([.tmp (.fz (.tuple xs))], st1) => some (enumD 0 xs, st1)
  | _ => iEnum' a st
theorem yields_enumT {K : PySem.W.Frag} {G0 : Hp} {a : Addr} {vs : List V} {xs : List D} (h : SqT K G0 a vs) (hd : DpAll K G0 vs xs) : Yields K (IteT K a vs.length) G0 (enumD 0 xs) := by
  refine ⟨fun i d e G H h1 h2 => ?_, fun G H h1 h2 => ⟨vs, Evl.ex_t (h1.trans h2) h, rfl, by rw [enumD_len, dpa_len hd]; exact Nat.le_refl _⟩⟩
  obtain ⟨x, e1, rfl⟩ := enumD_get e
  obtain ⟨v, q1, q2⟩ := dpa_get' hd e1
  refine ⟨⟨vs, v, Evl.ex_t (h1.trans h2) h, rfl, q1⟩, fun z H' ⟨T, v', e1, e2, e3, e4⟩ => ?_⟩
  subst e1; subst e3
  have q3 := e4 vs (Evl.ex_t (h1.trans h2) h)
  rw [q1] at q3; cases q3
  rw [Nat.zero_add]
  exact pair_extK h2 e2 (.int _) (dp_mono h1 q2) rfl
theorem sim_enum2 {K : PySem.W.Frag} {t : TA} {a : AM} (ha : SimA K t a) : SimI K (fun σ H R => iEnum K t σ H R ∨ iEnumT K t σ H R) (iEnum2 a) := by
  intro st σ G H ds st' r h R q
  unfold iEnum2 at h
  split at h
  · rename_i xs st1 e1
    cases h
    refine .inr (ha st σ G H _ _ r e1 _ fun vs G1 H1 r1 s1 o1 => ?_)
    obtain ⟨v, rfl, p1⟩ := orels1 o1
    obtain ⟨b, us, rfl, h1, h2⟩ := dp_tuple p1
    exact ⟨b, us, rfl, Evl.ex_t r1.ex h1, q _ G1 H1 r1 s1 (yields_enumT h1 h2)⟩
  · exact .inl (sim_enum ha st σ G H ds st' r h R q)
theorem si_enum2 {X : Cx} {a : Expr} {t : TA} {m : AM} {p pos tpos : Pos} {elts : List Expr} {kk : Nat} (hg : Gl X "enumerate") (hm : X.mg "enumerate" = none) (ha : SA X [a] t m) (hs : starEach [a] X.env = [(false, eval a X.env)] := by rfl) :
    SI X (.Tuple elts kk tpos) (.Call (.Name "enumerate" p) [a] [] pos) (fun σ H R => iEnum X.K t σ H R ∨ iEnumT X.K t σ H R) (iEnum2 m) := ⟨pi_or (pi_enum hg hm ha.pe hs) (pi_enumT hg hm ha.pe hs), sim_enum2 ha.sim⟩
end Sh

namespace PySem.W
open PySem PySem.Calls PyProof.Rows
variable {prog : Program} {w : World} {A : Around} {E : Value → Shared → Prop} {s : Shared} {β : Type} {vs : List Value} {bs : List β} {enc : β → PyData} {R : Value → β → Prop}
/-- sorted(t), t a tuple -/
theorem sh_sortedT {l : Addr} {Q : Value → Shared → Prop} (hl : s.heap.IsTuple l vs.toArray) (e : EachIs R vs bs) (er : EachIs (fun v b => ∃ as, Reads s.heap v (enc b) as) vs bs) (hal : AllAlike (bs.map enc)) (hk : Sortable (bs.map enc)) (hL : bs.length ≤ sizeLine)
    (hu : ∀ b, b ∈ bs → A.units + 2 + (enc b).depth < cLine) (h : ∀ (out : List Value) (h1 h' : Heap) (p : Addr) (c : Nat), out.length = bs.length → EachIs R out (bs.mergeSort (dataLe false enc)) → (∀ b o, s.heap.get? b = some o → h1.get? b = some o) → (∀ b o, h1.get? b = some o → h'.get? b = some o) → h1.objs.size ≤ p → h'.get? p = some (seqObj "list" (List.toArray out) c) → Q (.ref p) { s with heap := h' }) :
    wpAny (model prog w) A (call (.builtin "sorted") [.ref l]) Q E s := by
  obtain ⟨o, ho, hc, n, hd⟩ := hl
  have hlen : vs.length = bs.length := e.length
  refine Calls.call_function_entry kind_sorted plain_sorted entry_sorted (args_sorted1 _) ?_
  unfold Builtin.«sorted»
  refine wpAny_bind (m := checkCount "sorted" 1 1 _) (wpAny_pure ?_)
  refine wpAny_bind (wpAny_collect_seq l (.inr rfl) ho hc hd (fun h' kp => ?_) (by rw [List.size_toArray, hlen]; exact hL))
  refine wpAny_bind (wpAny_newList ?_ (by rw [hlen]; exact hL))
  have hoL : (h'.push (seqObj "list" vs.toArray 0)).get? h'.objs.size = some (seqObj "list" vs.toArray 0) := Heap.get?_push_size _ rfl
  show wpAny _ _ _ _ _ { s with heap := h'.push (seqObj "list" vs.toArray 0) }
  have kp2 : ∀ b o, s.heap.get? b = some o → (sortingHeap (h'.push (seqObj "list" vs.toArray 0)) h'.objs.size vs).get? b = some o := fun b o q => by
    have q2 := kp b o q
    have hb : b < h'.objs.size := Heap.lt_size q2
    exact sortingHeap_old (Nat.ne_of_lt hb) (Heap.get?_push_of_some _ q2)
  have er' : EachIs (fun v b => ∃ as, Reads (sortingHeap (h'.push (seqObj "list" vs.toArray 0)) h'.objs.size vs) v (enc b) as) vs bs := er.mono fun _ _ ⟨as, r⟩ => ⟨as, PyProof.Rows.Reads.keeps kp2 r⟩
  refine wpAny_bind (wpAny_holding (wpAny_call_entry slot_list_sort ⟨_, hoL, rfl⟩ entry_list_sort
    (list_sort_vals (s := { s with heap := h'.push (seqObj "list" vs.toArray 0) }) (κ := dataKind (sortingHeap (h'.push (seqObj "list" vs.toArray 0)) h'.objs.size vs) (bs.map enc)) hoL
      (SortsAt.data (s := { s with heap := sortingHeap (h'.push (seqObj "list" vs.toArray 0)) h'.objs.size vs }) (each_map (R := fun v d => ∃ as, Reads (sortingHeap (h'.push (seqObj "list" vs.toArray 0)) h'.objs.size vs) v d as) enc er') hal hk (bound_map hu)) (by rw [hlen]; exact hL) ⟨_, rfl, ?_⟩)
    (args_list_sort _)))
  obtain ⟨c, hc'⟩ := sortedHeap_at (vs := vs) (out := (sortVals (dataKind (sortingHeap (h'.push (seqObj "list" vs.toArray 0)) h'.objs.size vs) (bs.map enc)) false vs vs).toArray) hoL
  refine wpAny_pure ⟨_, rfl, h _ h' _ _ c (by rw [sortVals_length false rfl]; exact hlen) (sortVals_data false e er' hal) kp (fun b o q2 => ?_) (Nat.le_refl _) hc'⟩
  have hb : b < h'.objs.size := Heap.lt_size q2
  rw [sortedHeap_old (Nat.ne_of_lt hb) (by rw [size_push']; exact Nat.lt_succ_of_lt hb)]
  exact Heap.get?_push_of_some _ q2
end PySem.W
namespace Sh
open PySem PySem.Spec PyProof.Rows L2
def rSortD2 (K : PySem.W.Frag) : List V → Hp → VK → Prop := fun xs H Q => ∃ (a : Addr) (G : Hp) (vs : List V) (ds : List D), xs = [V.ref a] ∧ Same G H ∧ (SqL K H a vs ∨ SqT K H a vs) ∧ DpAll K G vs ds ∧ sortOk ds = true ∧
  ∀ (p : Addr) (ws : List V), H p = none → DpAll K G ws (sortD ds) → Q (.ref p) (upd H p (.lst ws))
theorem cr_sortD2 {X : Cx} (hu : X.A.units + 64 < cLine) : CallR X (.builtin "sorted") (rSortD2 X.K) := by
  intro pins s σ H xs us Q I r h
  obtain ⟨a, G, vs, ds, rfl, hG, hs, hd, hok, q⟩ := h
  rcases hs with hs | hs
  · exact cr_sortD hu pins s σ H _ us Q I r ⟨a, G, vs, ds, rfl, hG, hs, hd, hok, q⟩
  obtain ⟨its, rv, hl, _⟩ := I.tuple hs
  rw [Vals.ref1 r]
  obtain ⟨bs, b1, b2, b3⟩ := pair_up hd
  subst b1; subst b2
  have e := each_vals rv
  have er : PySem.W.EachIs (fun v (b : V × D) => ∃ as, Reads s.heap v b.2 as) its bs := each_and e fun u b ru hb => Dp.reads I b.2 b.1 u (dp_mono hG (b3 b hb)) (noD_alike (sortOk_alike hok _ (List.mem_map.mpr ⟨b, hb, rfl⟩) _ (List.mem_map.mpr ⟨b, hb, rfl⟩))) ru
  have hlen : bs.length ≤ 100000 := by have := sortOk_len hok; rwa [List.length_map] at this
  refine PySem.W.sh_sortedT (enc := fun b : V × D => b.2) hl e er (sortOk_alike hok) (sortOk_sortable hok) (Evl.sz_of hlen) (fun b hb => ?_) fun out h1 h' p c hl1 h2 kp1 kp hp he' => ?_
  · have := sortOk_depth hok b.2 (List.mem_map.mpr ⟨b, hb, rfl⟩)
    omega
  · have hv := vals_each h2
    have hz : ((bs.mergeSort (PySem.W.dataLe false fun b : V × D => b.2)).map (·.1)).length ≤ sizeLine := by
      rw [List.length_map, List.length_mergeSort]; exact Evl.sz_of hlen
    have I1 : Inv X pins σ H { s with heap := h1 } := I.kept (t' := s.toks) kp1
    refine ⟨.ref _, upd H p (.lst ((bs.mergeSort (PySem.W.dataLe false fun b : V × D => b.2)).map (·.1))), I1.laid (t' := s.toks) kp hp ⟨hz, out, c, hv, he'⟩, rfl, q _ _ (I1.hok.fresh hp) ?_⟩
    rw [← sort_map (fun b : V × D => b.2) bs]
    exact dpa_of_pairs fun b hb => b3 b (List.mem_mergeSort.mp hb)
/-- of a list or a tuple -/
def sortF2 : Sl → Option Sl := fun s => match seqS s with
  | some ds => if sortOk ds = true then some (.ow (sortD ds)) else none
  | none => none
theorem ok_sortF2 {K : PySem.W.Frag} : CallOk K (rSortD2 K) (one sortF2) := by
  intro G H xs ss z e l hz0 Q q
  obtain ⟨s, rfl, hz⟩ := one_inv hz0
  obtain ⟨x, rfl, lx⟩ := looks1 l
  unfold sortF2 at hz
  split at hz
  · rename_i ds hs
    split at hz
    · rename_i hok
      cases hz
      obtain ⟨a, vs, rfl, h1, h2⟩ := look_seq e lx hs
      exact ⟨a, G, vs, ds, rfl, e, h1, h2, hok, fun p ws hp hw => ans_ow e hw q hp⟩
    · cases hz
  · cases hz
theorem se_sorted2 {X : Cx} {p pos : Pos} {e : Expr} {t : TA} {a : AM} (hu : X.A.units + 64 < cLine) (hg : Gl X "sorted") (hm : X.mg "sorted" = none) (ha : SA X [e] t a) (he : starEach [e] X.env = (false, eval e X.env) :: starEach [] X.env := by rfl) :
    SE X (.Call (.Name "sorted" p) [e] [] pos) (tCB (rSortD2 X.K) t) (eFn (one sortF2) a) := se_callB (cr_sortD2 hu) ok_sortF2 hg hm (by decide +kernel) ha (he := he)
end Sh

namespace Sh
open PySem PySem.Spec L2

/-! ### d.get(k), d.get(k, x), d an own dict in a slot -/
def getOr (kvs : List (Key × D)) (k : Key) (x : D) : D := (dget kvs k).getD x
def eGet1 (i : Nat) (b : EM) : EM := fun st => match st[i]? with
  | some (.od _) => match b st with
    | some (y, st1) => match y.get st1, st1[i]? with
      | some (.fz d), some (.od kvs) => match toKey d with
        | some k => some (.tmp (.fz (getOr kvs k .none)), st1)
        | none => none
      | _, _ => none
    | none => none
  | _ => none
def eGet2 (i : Nat) (b c : EM) : EM := fun st => match st[i]? with
  | some (.od _) => match b st with
    | some (.tmp (.fz d), st1) => match c st1 with
      | some (.tmp (.fz x), st2) => match toKey d, st2[i]? with
        | some k, some (.od kvs) => some (.tmp (.fz (getOr kvs k x)), st2)
        | _, _ => none
      | _ => none
    | _ => none
  | _ => none
theorem kvp_or {K : PySem.W.Frag} {G : Hp} {ws : List (Key × V)} {kvs : List (Key × D)} (h : KVp K G ws kvs) (k : Key) {x : V} {d : D} (hx : Dp K G x d) : Dp K G ((valV ws k).getD x) (getOr kvs k d) := by
  unfold getOr
  rcases kvp_get (k := k) h with ⟨e1, e2⟩ | ⟨v, z, e1, e2, e3⟩
  · rw [e1, e2]; exact hx
  · rw [e1, e2]; exact e3
theorem sim_get1 {K : PySem.W.Frag} {i : Nat} {b : EM} {tb : TE} (hb : SimE K tb b) : SimE K (tDGet1 (tVar i) tb) (eGet1 i b) := by
  intro st σ G H o st' r h Q q
  unfold eGet1 at h
  split at h
  · rename_i kvs0 e0
    split at h
    · rename_i y st1 e1
      split at h
      · rename_i d kvs e2 e3
        split at h
        · rename_i k hk
          cases h
          obtain ⟨p, h1, _, ws, h2, _⟩ := r.getMt e0 rfl
          refine ⟨.ref p, h1, p, rfl, .inl ⟨ws, .inl h2⟩, ?_⟩
          refine hb st σ G H y _ r e1 _ fun u G1 H1 r1 s1 o1 => ?_
          obtain ⟨p', g1, _, ws1, g2, g3, _⟩ := r1.getMt e3 rfl
          rw [h1] at g1
          cases g1
          have l : Look K G1 H1 (.fz d) u := o1.look r1 (by simp) e2
          have l : Dp K G1 u d := l
          have ek := toKey_ok l hk
          subst ek
          exact ⟨_, DGet.k g2, q _ G1 H1 r1 s1 (kvp_or g3 k .non)⟩
        · cases h
      · cases h
    · cases h
  · cases h
theorem sim_get2 {K : PySem.W.Frag} {i : Nat} {b c : EM} {tb tc : TE} (hb : SimE K tb b) (hc : SimE K tc c) : SimE K (tDGet2 (tVar i) tb tc) (eGet2 i b c) := by
  intro st σ G H o st' r h Q q
  unfold eGet2 at h
  split at h
  · rename_i kvs0 e0
    split at h
    · rename_i d st1 e1
      split at h
      · rename_i x st2 e2
        split at h
        · rename_i k kvs hk e3
          cases h
          obtain ⟨p, h1, _, ws, h2, _⟩ := r.getMt e0 rfl
          refine ⟨.ref p, h1, p, rfl, .inl ⟨ws, .inl h2⟩, ?_⟩
          refine hb st σ G H _ _ r e1 _ fun u G1 H1 r1 s1 o1 => ?_
          refine hc _ σ G1 H1 _ _ r1 e2 _ fun v G2 H2 r2 s2 o2 => ?_
          obtain ⟨p', g1, _, ws1, g2, g3, _⟩ := r2.getMt e3 rfl
          rw [h1] at g1
          cases g1
          have l1 : Dp K G1 u d := o1
          have l2 : Dp K G2 v x := o2
          have ek := toKey_ok l1 hk
          subst ek
          exact ⟨_, DGet.k g2, q _ G2 H2 r2 (s1.trans s2) (kvp_or g3 k l2)⟩
        · cases h
      · cases h
    · cases h
  · cases h
section
variable {X : Cx} {e f : Expr} {apos cpos npos : Pos} {tb tc : TE} {b c : EM} {i : Nat} {xn : Str}
theorem se_get1 (hu : X.A.units + 1 < cLine) (ho : SE X (.Name xn npos) (tVar i) (eVar i)) (hb : SE X e tb b) (m : M1 X (.Name xn npos) "get" apos e cpos := by exact ⟨by rfl, by rfl, by rfl, by rfl⟩) :
    SE X (.Call (.Attribute (.Name xn npos) "get" apos) [e] [] cpos) (tDGet1 (tVar i) tb) (eGet1 i b) := ⟨pe_dget1 hu ho.pe hb.pe m, sim_get1 hb.sim⟩
theorem se_get2 (hu : X.A.units + 1 < cLine) (ho : SE X (.Name xn npos) (tVar i) (eVar i)) (hb : SE X e tb b) (hc : SE X f tc c) (m : M2 X (.Name xn npos) "get" apos e f cpos := by exact ⟨by rfl, by rfl, by rfl, by rfl⟩) :
    SE X (.Call (.Attribute (.Name xn npos) "get" apos) [e, f] [] cpos) (tDGet2 (tVar i) tb tc) (eGet2 i b c) := ⟨pe_dget2 hu ho.pe hb.pe hc.pe m, sim_get2 hb.sim hc.sim⟩
end
end Sh

namespace PySem
section
variable {prog : Program} {w : World} {K : Type} [DecidableEq K] {kd : KeyKind prog w K} {A : Around} {E : Value → Shared → Prop} {s : Shared}
/-- one entry is put into a dict -/
theorem sh_put {a : Addr} {ps : List (K × Value)} {j : K} {kv x : Value} {Q : Unit → Shared → Prop} (hj : kd.is j kv = true) (D : s.heap.DictOf kd a ps) (hz : ps.length ≤ sizeLine)
    (q : ∀ h2, h2.DictOf kd a (stored ps j x) → Heap.SameBut a s.heap h2 → Q () { s with heap := h2 }) : wpAny (model prog w) A (dictPut a (kd.hash j) kv x) Q E s := by
  obtain ⟨ob, tab, n, g1, g2, g3, g4, g5, g6⟩ := D
  have l0 : tab.toList.length = ps.length := g5.length
  have l1 : tab.size ≤ sizeLine := by rw [← Array.length_toList, l0]; exact hz
  have same : (tab.findIdx? fun e => kd.is j e.key) = ps.findIdx? fun p => decide (p.1 = j) := by
    rw [← g5.findIdx j]; obtain ⟨l⟩ := tab; simp
  unfold dictPut
  refine wpAny_bind (wpAny_dictFind_of hj g1 g3 g4 ?_)
  cases f : tab.findIdx? fun e => kd.is j e.key with
  | none =>
    have off : j ∉ ps.map (·.1) := not_mem_of_findIdx_none (same ▸ f)
    have no : ¬ (ps.any fun p => decide (p.1 = j)) = true := fun z => by
      obtain ⟨p, hp, e⟩ := List.any_eq_true.mp z
      exact off (List.mem_map.mpr ⟨p, hp, of_decide_eq_true e⟩)
    have st : stored ps j x = ps ++ [(j, x)] := by rw [stored, if_neg no]
    refine wpAny_updateDictKeys (hz := l1) g1 g3 (q _ ⟨_, _, n + 1, Heap.get?_update_self _ g1 (Obj.isFreed_of_dict (Obj.data_mapDictKeys g3 _)), g2.mapDictKeys _, Obj.data_mapDictKeys g3 _, g4.push hj _, ?_, ?_⟩ (Heap.SameBut.update ..))
    · rw [st]
      have := g5.append hj (kd.hash j) x
      obtain ⟨l⟩ := tab
      simpa using this
    · rw [st, List.map_append, List.nodup_append]
      refine ⟨g6, by simp, fun y hy z hz e => off ?_⟩
      have hz : z = j := by simpa using hz
      rw [← hz, ← e]; exact hy
  | some i =>
    have yes := any_of_findIdx_some (same ▸ f)
    have il : (tab.toList.findIdx? fun e => kd.is j e.key) = some i := by rw [← f]; obtain ⟨l⟩ := tab; simp
    refine wpAny_updateDict g1 g3 (q _ ⟨_, _, n, Heap.get?_update_self _ g1 (Obj.isFreed_of_dict (Obj.data_mapDict g3 _)), g2.mapDict _, Obj.data_mapDict g3 _, g4.modify _ _, ?_, ?_⟩ (Heap.SameBut.update ..))
    · rw [stored, if_pos yes]
      have := g5.modify g6 il x
      obtain ⟨l⟩ := tab
      simpa using this
    · rw [stored, if_pos yes, keys_map_store]; exact g6
/-- a dict's entries, one after the other, into another one -/
theorem sh_puts {a b : Addr} {ob : Obj} {tab : Array DictEntry} {n : Nat} {ls ks : List (K × Value)} {Q : PUnit → Shared → Prop} (ne : a ≠ b) (g1 : s.heap.get? b = some ob) (g3 : ob.data = .dict tab n)
    (g4 : ∀ e ∈ tab, ∃ k, kd.is k e.key = true ∧ e.hash = kd.hash k) (g5 : Pairs kd tab.toList ls) (D : s.heap.DictOf kd a ks) (hz : ks.length + ls.length ≤ sizeLine) (m : Nat) (f : Nat → PUnit → Sem (ForInStep PUnit))
    (hm : m = tab.size) (turn : ∀ (i : Nat) (e : DictEntry) (s' : Shared) (R : ForInStep PUnit → Shared → Prop), s'.heap.get? b = some ob → tab[i]? = some e → wpAny (model prog w) A (dictPut a e.hash e.key e.val) (fun _ s2 => s2.heap.get? b = some ob ∧ R (.yield ⟨⟩) s2) E s' → wpAny (model prog w) A (f i ⟨⟩) R E s')
    (q : ∀ h2, h2.DictOf kd a (merged ks ls) → Heap.SameBut a s.heap h2 → Q ⟨⟩ { s with heap := h2 }) : wpAny (model prog w) A (forIn (List.range m) (⟨⟩ : PUnit) f) Q E s := by
  have ll : ls.length = tab.size := by rw [← g5.length]; simp
  subst hm
  have go : ∀ (r i : Nat) (h2 : Heap), r + i = tab.size → h2.DictOf kd a (merged ks (ls.take i)) → h2.get? b = some ob → Heap.SameBut a s.heap h2 → wpAny (model prog w) A (forIn (List.range' i r) (⟨⟩ : PUnit) f) Q E { s with heap := h2 } := by
    intro r
    induction r with
    | zero =>
      intro i h2 e D2 gb sb
      rw [show List.range' i 0 = [] from rfl, List.forIn_nil]
      rw [show i = ls.length by omega, List.take_length] at D2
      exact wpAny_pure (q h2 D2 sb)
    | succ r ih =>
      intro i h2 e D2 gb sb
      have hi : i < tab.size := by omega
      rw [List.range'_succ, List.forIn_cons]
      obtain ⟨⟨k, v⟩, hkv⟩ : ∃ p, ls[i]? = some p := ⟨ls[i]'(by omega), List.getElem?_eq_getElem _⟩
      obtain ⟨hk1, hv1⟩ := g5.get? (e := tab[i]) (by simp [hi]) hkv
      obtain ⟨k2, hk2, hh⟩ := g4 tab[i] (Array.getElem_mem hi)
      have ek : k2 = k := kd.inj _ _ _ hk2 hk1
      subst ek
      have sz : (merged ks (ls.take i)).length ≤ sizeLine := by
        have z1 := merged_length_le ks (ls.take i)
        have z2 : (ls.take i).length ≤ ls.length := by rw [List.length_take]; omega
        omega
      refine wpAny_bind (turn i tab[i] { s with heap := h2 } _ gb (Array.getElem?_eq_getElem hi) ?_)
      rw [hh, hv1]
      refine sh_put hk1 D2 sz fun h3 D3 sb3 => ⟨(sb3.2 b (Ne.symm ne)).trans gb, ?_⟩
      have D4 : h3.DictOf kd a (merged ks (ls.take (i + 1))) := by rw [merged_take_succ ks ls i (k2, v) hkv]; exact D3
      exact ih (i + 1) h3 (by omega) D4 ((sb3.2 b (Ne.symm ne)).trans gb) (sb.trans sb3)
  have z := go tab.size 0 s.heap (by omega) (by simpa [merged] using D) g1 (Heap.SameBut.refl _ _)
  rw [List.range_eq_range']
  exact z
end
end PySem
namespace Sh
open PySem PySem.Spec L2
section
variable {prog : Program} {w : World} {A : Around} {E : Value → Shared → Prop} {s : Shared}
theorem sh_merge {a b : Addr} {ks ls : List (Key × Value)} {Q : Unit → Shared → Prop} (ne : a ≠ b) (hS : (b == sysModules) = false) (D : s.heap.DictOf (mixKind prog w) a ks) (B : s.heap.DictOf (mixKind prog w) b ls) (hz : ks.length + ls.length ≤ sizeLine)
    (q : ∀ h2, h2.DictOf (mixKind prog w) a (merged ks ls) → Heap.SameBut a s.heap h2 → Q () { s with heap := h2 }) : wpAny (model prog w) A (mergeMapping a (.ref b) false) Q E s := by
  obtain ⟨oa, ta, na, a1, a2, a3, a4, a5, a6⟩ := id D
  obtain ⟨ob, tb, nb, b1, b2, b3, b4, b5, b6⟩ := id B
  unfold mergeMapping
  refine wpAny_bind (wpAny_isInstance B.typeIs isSubtype_dict_dict ?_)
  rw [if_pos rfl]
  refine wpAny_bind (wpAny_specialOf B.typeIs F.slot_dict_iter.lookup ?_)
  refine wpAny_bind (wpAny_pure ?_)
  simp only [beq_self_eq_true]
  rw [if_neg (by rw [hS]; exact Bool.false_ne_true)]
  refine wpAny_bind (wpAny_dictEntries a1 a3 ?_)
  have turns : ∀ (R0 : PUnit → Shared → Prop) (f : Nat → PUnit → Sem (ForInStep PUnit)), (∀ (i : Nat) (e : DictEntry) (s' : Shared) (R : ForInStep PUnit → Shared → Prop), s'.heap.get? b = some ob → tb[i]? = some e →
      wpAny (model prog w) A (dictPut a e.hash e.key e.val) (fun _ s2 => s2.heap.get? b = some ob ∧ R (.yield ⟨⟩) s2) E s' → wpAny (model prog w) A (f i ⟨⟩) R E s') →
      (∀ h2, h2.DictOf (mixKind prog w) a (merged ks ls) → Heap.SameBut a s.heap h2 → R0 ⟨⟩ { s with heap := h2 }) → wpAny (model prog w) A (forIn (List.range tb.size) (⟨⟩ : PUnit) f) R0 E s := fun R0 f hf h0 =>
    sh_puts ne b1 b3 b4 b5 D hz tb.size f rfl hf h0
  have plain : ∀ e ∈ tb, ∀ c, e.key ≠ Value.ref c := fun e he c z => by
    obtain ⟨k, hk, _⟩ := b4 e he
    rw [z] at hk
    rcases keyIs_shape (show keyIs k (Value.ref c) = true from hk) with ⟨i, t, _, e2⟩ | ⟨x, t, _, e2⟩ <;> cases e2
  split
  · refine wpAny_bind (wpAny_dictEntries b1 b3 ?_)
    refine wpAny_bind ?_
    rw [← Array.forIn_toList]
    refine wpAny_forIn_list _ (fun rest _ s' => s' = s ∧ ∀ e ∈ rest, e ∈ tb) _ ?_ ?_ _ _ ⟨rfl, fun e he => Array.mem_toList_iff.mp he⟩
    · rintro x rest ⟨⟩ s' ⟨rfl, hr⟩
      have nx := plain x (hr x List.mem_cons_self)
      split
      · rename_i c hc
        exact (nx c hc).elim
      · exact wpAny_pure ⟨rfl, fun e he => hr e (List.mem_cons_of_mem _ he)⟩
    · rintro ⟨⟩ s' ⟨rfl, _⟩
      refine wpAny_bind (wpAny_dictEntries b1 b3 ?_)
      refine wpAny_bind (wpAny_dictEpoch b1 b3 ?_)
      refine wpAny_bind (turns _ _ (fun i e s' R gb ge k => ?_) fun h2 D2 sb => wpAny_pure (q h2 D2 sb))
      refine wpAny_bind (wpAny_dictEntries gb b3 ?_)
      rw [ge]
      refine wpAny_bind (wpAny_holding ?_)
      rw [if_neg Bool.false_ne_true]
      refine wpAny_mono k (fun _ s2 z => ?_) fun _ _ e => e
      obtain ⟨gb2, r⟩ := z
      refine wpAny_bind (wpAny_dictEpoch gb2 b3 ?_)
      rw [if_neg (by simp)]
      exact wpAny_pure r
  · refine wpAny_bind (wpAny_dictEntries b1 b3 ?_)
    refine wpAny_bind (wpAny_dictEpoch b1 b3 ?_)
    refine wpAny_bind (turns _ _ (fun i e s' R gb ge k => ?_) fun h2 D2 sb => wpAny_pure (q h2 D2 sb))
    refine wpAny_bind (wpAny_dictEntries gb b3 ?_)
    rw [ge]
    refine wpAny_bind (wpAny_holding ?_)
    rw [if_neg Bool.false_ne_true]
    refine wpAny_mono k (fun _ s2 z => ?_) fun _ _ e => e
    obtain ⟨gb2, r⟩ := z
    refine wpAny_bind (wpAny_dictEpoch gb2 b3 ?_)
    rw [if_neg (by simp)]
    exact wpAny_pure r
end
end Sh

namespace Sh
open PySem PySem.Spec PyProof.Rows L2

/-! ### {**a, **b} -/
def tMg2 (ta tb : TE) : TE := fun σ H Q => ∀ p, H p = none → ta σ (upd H p (.dK [])) fun x H1 => ∃ (a : Addr) (ks : List (Key × V)), x = .ref a ∧ p ≠ a ∧ H1 p = some (.dK []) ∧ H1 a = some (.dK ks) ∧ ks.length ≤ sizeLine ∧
  tb σ (upd H1 p (.dK (mergeK [] ks))) fun y H2 => ∃ (b : Addr) (ls : List (Key × V)), y = .ref b ∧ p ≠ b ∧ H2 p = some (.dK (mergeK [] ks)) ∧ H2 b = some (.dK ls) ∧ ks.length + ls.length ≤ sizeLine ∧ Q (.ref p) (upd H2 p (.dK (mergeK (mergeK [] ks) ls)))
theorem into {X : Cx} {pins : List (Addr × Obj)} {σ : L2.St} {H : Hp} {s : Shared} {p a : Addr} {ms ks : List (Key × V)} {E : Value → Shared → Prop} {R : Unit → Shared → Prop} (I : Inv X pins σ H s) (hp : H p = some (.dK ms)) (ha : H a = some (.dK ks)) (ne : p ≠ a) (hz : ms.length + ks.length ≤ sizeLine)
    (q : ∀ h2, Inv X pins σ (upd H p (.dK (mergeK ms ks))) { s with heap := h2 } → R () { s with heap := h2 }) : wpAny (model X.prog X.w) X.A (mergeMapping p (.ref a) false) R E s := by
  obtain ⟨_, y1, vp, r1, d1⟩ := (show ObjOk X.prog X.w H s.heap p (.dK ms) from I.hok p _ hp)
  obtain ⟨_, y2, va, r2, d2⟩ := (show ObjOk X.prog X.w H s.heap a (.dK ks) from I.hok a _ ha)
  refine sh_merge ne y2 d1 d2 (by rw [← r1.length, ← r2.length]; exact hz) fun h2 d3 sb => q h2 ?_
  have hl : (mergeK ms ks).length ≤ sizeLine := Nat.le_trans (length_mergeK ks ms) hz
  have ex : ∃ o, h2.get? p = some o := by
    obtain ⟨o, _, _, e, _⟩ := d3
    exact ⟨o, e⟩
  exact d_write (t' := s.toks) (ob := .dK (mergeK ms ks)) I (show Mut (H p) by rw [hp]; trivial) sb ex ⟨hl, y1, merged vp va, KV.merge r2 r1, d3⟩
theorem pe_mg2 {X : Cx} {e1 e2 : Expr} {pos : Pos} {ta tb : TE} (ha : PE X e1 ta) (hb : PE X e2 tb) : PE X (.Dict [none, none] [e1, e2] pos) (tMg2 ta tb) := by
  refine ⟨fun pins s σ H Q I q => ?_⟩
  have hn := I.hok.fresh (Nat.le_refl s.heap.objs.size)
  have I1 := I.laid (a := s.heap.objs.size) (o := .dK []) (h' := s.heap.push { cls := .type "dict", data := .dict #[] }) (t' := s.toks) (fun _ _ q => Heap.get?_push_of_some _ q) (Nat.le_refl _) (dk_empty s.heap I.big)
  rw [arm_eval_Dict]
  refine wpAny_bind (wpAny_standAt ?_)
  show wpAny _ _ (dictDisplay [(none, _), (none, _)]) _ _ _
  unfold dictDisplay
  simp only [List.forIn_cons, List.forIn_nil, List.isEmpty_nil, if_true, pure_bind]
  refine wpAny_bind (wpAny_bind (wpAny_bind (wpAny_alloc (wpAny_bind (wpAny_holding (wpAny_bind (thn (ha.run pins _ σ _ _ I1 (q _ hn)) fun u s1 hu => wpAny_bind (wpAny_standAt (wpAny_pure ?_)))))))))
  obtain ⟨x, H1, I2, rx, a, ks, ex, ne, e1, e2, hz, q1⟩ := hu
  subst ex
  cases rx
  refine wpAny_bind (wpAny_onRaise (wpAny_tryCatch (wpAny_onRaise (wpAny_holding (into I2 e1 e2 ne (by simpa using hz) fun h2 I3 => ?_)))))
  refine wpAny_pure ?_
  dsimp only
  refine wpAny_bind ?_
  rw [if_pos (by rfl)]
  refine wpAny_bind (wpAny_pure ?_)
  dsimp only
  refine wpAny_bind (wpAny_holding (wpAny_bind (thn (hb.run pins _ σ _ _ I3 q1) fun u s1 hu => wpAny_bind (wpAny_standAt (wpAny_pure ?_)))))
  obtain ⟨y, H2, I4, ry, b, ls, ey, ne2, e3, e4, hz2, q2⟩ := hu
  subst ey
  cases ry
  have hz3 : (mergeK [] ks).length + ls.length ≤ sizeLine := by
    have := length_mergeK ks []
    rw [List.length_nil] at this
    omega
  refine wpAny_bind (wpAny_onRaise (wpAny_tryCatch (wpAny_onRaise (wpAny_holding (into I4 e3 e4 ne2 hz3 fun h3 I5 => ?_)))))
  refine wpAny_pure (wpAny_pure ?_)
  dsimp only
  refine wpAny_bind ?_
  rw [if_pos (by rfl)]
  refine wpAny_pure (wpAny_pure ?_)
  exact ⟨.ref s.heap.objs.size, _, I5, rfl, q2⟩
end Sh

namespace Sh
open PySem PySem.Spec L2

/-! ### the keys of a new dict, in a comprehension or a loop -/
def tLk (td : TE) : TE := fun σ H Q => td σ H fun x H1 => ∃ (d : Addr) (kvs : List (Key × V)), x = .ref d ∧ H1 d = some (.dK kvs) ∧ ∀ od, Q (.ref d) (upd H1 d (.frz od (.dK kvs)))
theorem pe_lk {X : Cx} {e : Expr} {td : TE} (h : PE X e td) : PE X e (tLk td) := by
  refine ⟨fun pins s σ H Q I q => thn (h.run pins s σ H _ I q) fun u s1 ⟨x, H1, I1, rx, d, kvs, ex, hd, q1⟩ => ?_⟩
  subst ex
  obtain ⟨od, I2⟩ := I1.lock hd trivial
  exact ⟨.ref d, _, I2, rx, q1 od⟩
theorem kvp_at {K : PySem.W.Frag} {G : Hp} : ∀ {ws : List (Key × V)} {kvs : List (Key × D)} {i : Nat} {k : Key} {v : V}, KVp K G ws kvs → ws[i]? = some (k, v) → ∃ d, kvs[i]? = some (k, d) ∧ Dp K G v d
  | _, _, 0, k, v, .cons (b := q) r t, h => by
    have h := Option.some.inj (by simpa using h)
    subst h
    obtain ⟨q1, q2⟩ := q
    have e : k = q1 := r.1
    subst e
    exact ⟨q2, rfl, r.2⟩
  | _, _, i + 1, k, v, .cons r t, h => by
    obtain ⟨d, h1, h2⟩ := kvp_at (i := i) t (by simpa using h)
    exact ⟨d, by simpa using h1, h2⟩
def keysD (kvs : List (Key × D)) : List D := kvs.map fun q => keyD q.1
theorem yields_keys {K : PySem.W.Frag} {G : Hp} {p : Addr} {od : Obj} {ms : List (Key × V)} {kvs : List (Key × D)} (h : G p = some (.frz od (.dK ms))) (r : KVp K G ms kvs) : Yields K (Itk p od ms) G (keysD kvs) := by
  have hl := kvp_len r
  refine ⟨fun i d e G1 H1 g1 g2 => ?_, fun G1 H1 g1 g2 => ⟨g2 _ _ (g1 _ _ h), by unfold keysD; rw [List.length_map]; omega⟩⟩
  unfold keysD at e
  rw [List.getElem?_map] at e
  obtain ⟨⟨k, z⟩, e1, rfl⟩ := Option.map_eq_some_iff.mp e
  have hi : i < ms.length := by have := (List.getElem?_eq_some_iff.mp e1).1; omega
  refine ⟨⟨g2 _ _ (g1 _ _ h), hi⟩, fun v H' ⟨e2, k2, v2, e3, e4⟩ => ?_⟩
  subst e2; subst e4
  obtain ⟨d, h1, _⟩ := kvp_at r e3
  rw [e1] at h1
  cases h1
  exact ⟨G1, Ext.refl g2, dp_key k⟩
/-- {**a, **b} -/
def iMg (i j : Nat) : IM := fun st => match st[i]?, st[j]? with
  | some (.od ks), some (.od ls) => if ks.length + ls.length ≤ 100000 then some (keysD (putAll (putAll [] ks) ls), st) else none
  | _, _ => none
theorem sim_img {K : PySem.W.Frag} {i j : Nat} : SimI K (iKeys (tLk (tMg2 (tVar i) (tVar j)))) (iMg i j) := by
  intro st σ G H ds st' r h R q
  unfold iMg at h
  split at h
  · rename_i ks ls ei ej
    split at h
    · rename_i hl
      cases h
      obtain ⟨a, a1, _, ws, a2, a3, _⟩ := r.getMt ei rfl
      obtain ⟨b, b1, _, us, b2, b3, _⟩ := r.getMt ej rfl
      intro p hp
      have na : p ≠ a := fun z => by rw [z, a2] at hp; cases hp
      have nb : p ≠ b := fun z => by rw [z, b2] at hp; cases hp
      have l1 := kvp_len a3
      have l2 := kvp_len b3
      have z1 : ws.length ≤ sizeLine := by rw [l1]; exact Evl.sz_of (by omega)
      have z2 : ws.length + us.length ≤ sizeLine := by rw [l1, l2]; exact Evl.sz_of hl
      refine ⟨.ref a, a1, a, ws, rfl, na, upd_same, by rw [upd_ne (Ne.symm na)]; exact a2, z1, ?_⟩
      refine ⟨.ref b, b1, b, us, rfl, nb, upd_same, by rw [upd_ne (Ne.symm nb), upd_ne (Ne.symm nb)]; exact b2, z2, ?_⟩
      refine ⟨p, _, rfl, upd_same, fun od => ⟨p, od, rfl, .inl ⟨_, upd_same, ?_⟩⟩⟩
      rw [upd_upd, upd_upd, upd_upd]
      obtain ⟨m1, n1⟩ := put_all (accV := []) (acc := []) a3 .nil rfl
      obtain ⟨m2, n2⟩ := put_all b3 m1 n1
      have x := Ext.frozen (o := .frz od (.dK (mergeK (mergeK [] ws) us))) r.ex hp
      exact q _ _ _ (r.ext x) x.step (yields_keys upd_same (kvp_mono x.g m2))
    · cases h
  · cases h
section
variable {X : Cx} {tg : Expr} {x y : Str} {p1 p2 pos : Pos} {i j : Nat}
theorem si_mg2 (ha : SE X (.Name x p1) (tVar i) (eVar i)) (hb : SE X (.Name y p2) (tVar j) (eVar j)) : SI X tg (.Dict [none, none] [.Name x p1, .Name y p2] pos) (iKeys (tLk (tMg2 (tVar i) (tVar j)))) (iMg i j) :=
  ⟨pi_keys (pe_lk (pe_mg2 ha.pe hb.pe)), sim_img⟩
end
end Sh

namespace Sh
open PySem PySem.Spec L2

/-! ### x, y = e1, e2 by a tuple, the values own things or not -/
def mOwn2 (i j : Nat) (a b : EM) : SM := fun st => match a st with
  | some (.tmp x, st1) => match b st1 with
    | some (.tmp y, st2) => some (.nx, (st2.set i x).set j y)
    | _ => none
  | _ => none
def mOwn3 (i j l : Nat) (a b c : EM) : SM := fun st => match a st with
  | some (.tmp x, st1) => match b st1 with
    | some (.tmp y, st2) => match c st2 with
      | some (.tmp z, st3) => some (.nx, ((st3.set i x).set j y).set l z)
      | _ => none
    | _ => none
  | _ => none
section
variable {K : PySem.W.Frag} {st : S} {σ : St} {O O' : Addr → Prop} {G G1 H H0 H1 : Hp} {s t : Sl} {u v : V} {i : Nat}
/-- what came first is not what came later -/
theorem vrel_apart (h : VRel K O H0 O' G H s u) (k : VRel K O' H O G1 H1 t v) (m : s.mt = true) (n : t.mt = true) : u ≠ v := by
  obtain ⟨p, e, _, b, no, _⟩ := (vrel_mt m).mp h
  obtain ⟨q, e2, _, _, _, o⟩ := (vrel_mt n).mp k
  intro z
  rw [e, e2] at z
  cases z
  rcases o with y | y
  · exact no y
  · obtain ⟨w, hw⟩ := b.live
    rw [y] at hw; cases hw
end
theorem simS_own2 {K : PySem.W.Frag} {A : Nat → Bool} {i j : Nat} {ta tb : TE} {a b : EM} (hi : A i = true) (hj : A j = true) (ha : SimE K ta a) (hb : SimE K tb b) :
    SimS K A (tAsg (tTupP (tCons ta (tCons tb tNil))) (fun v σ H Q => gTup K 2 (gCons (gName i) (gCons (gName j) gNil)) v σ H Q ∨ gUnl K 2 (gCons (gName i) (gCons (gName j) gNil)) v σ H Q)) (mOwn2 i j a b) := by
  intro st σ G H o st' r h D q
  unfold mOwn2 at h
  split at h
  · rename_i x st1 e1
    split at h
    · rename_i y st2 e2
      cases h
      refine ha st σ G H _ _ r e1 _ fun u G1 H1 r1 s1 o1 => ?_
      refine hb _ σ G1 H1 _ _ r1 e2 _ fun v G2 H2 r2 s2 o2 => ?_
      have o1 : VRel K (Own st σ) H (Own st1 σ) G1 H1 x u := o1
      have o2 : VRel K (Own st1 σ) H1 (Own st2 σ) G2 H2 y v := o2
      have ap : x.mt = true → y.mt = true → u ≠ v := fun m n => by
        obtain ⟨p, z1, _, z2, no, _⟩ := (vrel_mt m).mp o1
        obtain ⟨p', z3, _, _, _, z4⟩ := (vrel_mt n).mp o2
        intro z
        rw [z1, z3] at z
        cases z
        rcases z4 with w | w
        · exact no w
        · obtain ⟨w2, hw2⟩ := z2.live
          rw [w] at hw2; cases hw2
      refine ⟨by show 2 ≤ sizeLine; decide, fun p ob hp _ => .inl ⟨p, [u, v], rfl, ?_, rfl, u, [v], rfl, v, [], rfl, rfl, ?_⟩⟩
      · exact .inl (.inr ⟨ob, upd_same⟩)
      · have xt : Ext G2 H2 G2 (upd H2 p (.frz ob (.tup [u, v]))) := Ext.fresh r2.ex hp
        have r3 := r2.ext xt
        have s3 : Step (Own st σ) (Own st2 σ) G H G2 (upd H2 p (.frz ob (.tup [u, v]))) := (s1.trans s2).trans xt.step
        have w1 : VRel K (Own st σ) H (Own st2 σ) G2 (upd H2 p (.frz ob (.tup [u, v]))) x u := (o1.step s2).step (O'' := Own st2 σ) xt.step
        have w2 : VRel K (Own st σ) H (Own st2 σ) G2 (upd H2 p (.frz ob (.tup [u, v]))) y v := (o2.back s1).step (O'' := Own st2 σ) xt.step
        have r4 := r3.assign (i := i) w1
        have w3 := vrel_assign (i := i) (s' := x) (w := u) w2 fun m n => Ne.symm (ap n m)
        have r5 := r4.assign (i := j) w3
        refine q _ G2 _ r5 ⟨s3.g, s3.keep, fun c hc => ?_, s3.new, s3.live⟩ ((kp_set hi).trans (kp_set hj))
        rcases own_assign hc with ⟨m, z⟩ | z1
        · obtain ⟨p', z2, _, _, _, z3⟩ := (vrel_mt m).mp w2
          rw [z] at z2; cases z2
          exact z3
        · rcases own_assign z1 with ⟨m, z⟩ | z2
          · obtain ⟨p', z2, _, _, _, z3⟩ := (vrel_mt m).mp w1
            rw [z] at z2; cases z2
            exact z3
          · exact s3.own c z2
    · cases h
  · cases h
section
variable {X : Cx} {A : Nat → Bool} {i j : Nat} {tg : List Expr} {e1 e2 : Expr} {ta tb : TE} {a b : EM} {pt pos : Pos} {kt k2 : Nat} {pt2 : Pos}
theorem ss_own2 (hc : X.calm = true) (hi : A i = true) (hj : A j = true) (ha : SE X e1 ta a) (hb : SE X e2 tb b) (hg : SGs X A tg (gCons (gName i) (gCons (gName j) gNil)) (gsCons (gNm i) (gsCons (gNm j) gsNil)))
    (h1 : starEach [e1, e2] X.env = (false, eval e1 X.env) :: starEach [e2] X.env := by rfl) (h2 : starEach [e2] X.env = (false, eval e2 X.env) :: starEach [] X.env := by rfl)
    (hn : (assignEach tg X.env).length = 2 := by rfl) (hst : (assignEach tg X.env).findIdx? (·.1) = none := by rfl)
    (hs : swapsWithSole [.Tuple tg kt pt] (.Tuple [e1, e2] k2 pt2) pos.line X.env = pure false := by rfl) (hw : swappedStores [.Tuple tg kt pt] (.Tuple [e1, e2] k2 pt2) X.env = pure none := by rfl)
    (h3 : (assignEach [.Tuple tg kt pt] X.env).map (·.2) = [assign (.Tuple tg kt pt) X.env] := by rfl) :
    SS X A (.Assign [.Tuple tg kt pt] (.Tuple [e1, e2] k2 pt2) pos) (tAsg (tTupP (tCons ta (tCons tb tNil))) (fun v σ H Q => gTup X.K 2 (gCons (gName i) (gCons (gName j) gNil)) v σ H Q ∨ gUnl X.K 2 (gCons (gName i) (gCons (gName j) gNil)) v σ H Q)) (mOwn2 i j a b) :=
  ⟨ps_asg (pe_tupP (pa_cons ha.pe (pa_cons hb.pe pa_nil h2) h1)) (pg_or (pg_tup hc hg.pe hn hst) (pg_unl hc hg.pe hn hst)) hs hw h3, simS_own2 hi hj ha.sim hb.sim⟩
end
end Sh

namespace Sh
open PySem PySem.Spec L2

/-! ### x, y, z = e1, e2, e3, names of the frame, the values own things or not -/
section
variable {K : PySem.W.Frag} {σ : St} {O O1 O2 : Addr → Prop} {G G1 H H1 : Hp} {s t : Sl} {u v : V}
theorem vrel_ne {H0 : Hp} (h : VRel K O H0 O1 G H s u) (k : VRel K O1 H O2 G1 H1 t v) (m : s.mt = true) (n : t.mt = true) : u ≠ v := by
  obtain ⟨p, e, _, b, no, _⟩ := (vrel_mt m).mp h
  obtain ⟨q, e2, _, _, _, o⟩ := (vrel_mt n).mp k
  intro z
  rw [e, e2] at z
  cases z
  rcases o with y | y
  · exact no y
  · obtain ⟨w, hw⟩ := b.live
    rw [y] at hw; cases hw
end
theorem simS_own3 {K : PySem.W.Frag} {A : Nat → Bool} {i j l : Nat} {ta tb tc : TE} {a b c : EM} (hi : A i = true) (hj : A j = true) (hl : A l = true) (ha : SimE K ta a) (hb : SimE K tb b) (hc : SimE K tc c) :
    SimS K A (tPar3 i j l (tCons ta (tCons tb (tCons tc tNil)))) (mOwn3 i j l a b c) := by
  intro st σ G H o st' r h D q
  unfold mOwn3 at h
  split at h
  · rename_i x st1 e1
    split at h
    · rename_i y st2 e2
      split at h
      · rename_i z st3 e3
        cases h
        refine ha st σ G H _ _ r e1 _ fun u G1 H1 r1 s1 o1 => ?_
        refine hb _ σ G1 H1 _ _ r1 e2 _ fun v G2 H2 r2 s2 o2 => ?_
        refine hc _ σ G2 H2 _ _ r2 e3 _ fun w G3 H3 r3 s3 o3 => ?_
        have o1 : VRel K (Own st σ) H (Own st1 σ) G1 H1 x u := o1
        have o2 : VRel K (Own st1 σ) H1 (Own st2 σ) G2 H2 y v := o2
        have o3 : VRel K (Own st2 σ) H2 (Own st3 σ) G3 H3 z w := o3
        have uv := fun m n => vrel_ne o1 o2 m n
        have vw := fun m n => vrel_ne o2 o3 m n
        have uw := fun m n => vrel_ne (o1.step s2) o3 m n
        refine ⟨u, v, w, rfl, ?_⟩
        have w1 : VRel K (Own st σ) H (Own st3 σ) G3 H3 x u := (o1.step s2).step s3
        have w2 : VRel K (Own st σ) H (Own st3 σ) G3 H3 y v := (o2.back s1).step s3
        have w3 : VRel K (Own st σ) H (Own st3 σ) G3 H3 z w := o3.back (s1.trans s2)
        have r4 := r3.assign (i := i) w1
        have w2' := vrel_assign (i := i) (s' := x) (w := u) w2 fun m n => Ne.symm (uv n m)
        have r5 := r4.assign (i := j) w2'
        have w3' := vrel_assign (i := i) (s' := x) (w := u) w3 fun m n => Ne.symm (uw n m)
        have w3'' := vrel_assign (i := j) (s' := y) (w := v) w3' fun m n => Ne.symm (vw n m)
        have r6 := r5.assign (i := l) w3''
        have s5 := (s1.trans s2).trans s3
        have own : ∀ {s : Sl} {v : V} {d : Addr}, VRel K (Own st σ) H (Own st3 σ) G3 H3 s v → s.mt = true → v = .ref d → Own st σ d ∨ H d = none := fun h m e => by
          obtain ⟨p', z2, _, _, _, z3⟩ := (vrel_mt m).mp h
          rw [e] at z2; cases z2
          exact z3
        refine q _ G3 H3 r6 ⟨s5.g, s5.keep, fun d hd => ?_, s5.new, s5.live⟩ (((kp_set hi).trans (kp_set hj)).trans (kp_set hl))
        rcases own_assign hd with ⟨m, e⟩ | z1
        · exact own w3 m e
        · rcases own_assign z1 with ⟨m, e⟩ | z2
          · exact own w2 m e
          · rcases own_assign z2 with ⟨m, e⟩ | z3
            · exact own w1 m e
            · exact s5.own d z3
      · cases h
    · cases h
  · cases h
section
variable {X : Cx} {A : Nat → Bool} {i j l : Nat} {x y z : Str} {e1 e2 e3 : Expr} {ta tb tc : TE} {a b c : EM} {px py pz pt pos : Pos} {kt k2 pt2}
theorem ss_own3 (hc : X.calm = true) (hN : X.N.Nodup) (hi : X.N[i]? = some x) (hj : X.N[j]? = some y) (hl : X.N[l]? = some z) (hij : i ≠ j) (hil : i ≠ l) (hjl : j ≠ l) (hx : X.env.scope.names.lookup x = some .local) (hy : X.env.scope.names.lookup y = some .local) (hz : X.env.scope.names.lookup z = some .local)
    (hAi : A i = true) (hAj : A j = true) (hAl : A l = true) (ha : SE X e1 ta a) (hb : SE X e2 tb b) (hcc : SE X e3 tc c) (hw : swappedStores [.Tuple [.Name x px, .Name y py, .Name z pz] kt pt] (.Tuple [e1, e2, e3] k2 pt2) X.env = pure (some [x, y, z]))
    (hs : swapsWithSole [.Tuple [.Name x px, .Name y py, .Name z pz] kt pt] (.Tuple [e1, e2, e3] k2 pt2) pos.line X.env = pure false := by rfl)
    (h1 : starEach [e1, e2, e3] X.env = (false, eval e1 X.env) :: starEach [e2, e3] X.env := by rfl) (h2 : starEach [e2, e3] X.env = (false, eval e2 X.env) :: starEach [e3] X.env := by rfl) (h3 : starEach [e3] X.env = (false, eval e3 X.env) :: starEach [] X.env := by rfl) :
    SS X A (.Assign [.Tuple [.Name x px, .Name y py, .Name z pz] kt pt] (.Tuple [e1, e2, e3] k2 pt2) pos) (tPar3 i j l (tCons ta (tCons tb (tCons tc tNil)))) (mOwn3 i j l a b c) :=
  ⟨ps_par3 hc hN hi hj hl hij hil hjl hx hy hz (pa_cons ha.pe (pa_cons hb.pe (pa_cons hcc.pe pa_nil h3) h2) h1) hw hs, simS_own3 hAi hAj hAl ha.sim hb.sim hcc.sim⟩
end
end Sh

namespace Sh
open PySem PySem.Spec L2

/-! ### an own list lent to a new list for one call:
    x = [y, e2, e3]; if not f(x, d): return False -/
section
variable {K : PySem.W.Frag} {st : S} {σ : St} {G H : Hp} {i : Nat}
theorem Rel.forget (r : Rel K st σ G H) (x : Option V) : Rel K (st.set i .un) (σ.set i x) G H := by
  have old : ∀ {j : Nat} {s : Sl}, (st.set i .un)[j]? = some s → s ≠ .un → i ≠ j ∧ st[j]? = some s := fun {j s} h n => by
    by_cases e : i = j
    · subst e
      rcases set_get h with ⟨_, z⟩ | ⟨z, _⟩
      · exact (n z).elim
      · exact (z rfl).elim
    · rw [set_get' e] at h; exact ⟨e, h⟩
  refine ⟨by rw [List.length_set, List.length_set]; exact r.len, fun j s v h1 h2 => ?_, fun j k s s' p h1 h2 m1 m2 h3 h4 => ?_, r.ex⟩
  · by_cases z : s = .un
    · subst z; trivial
    · obtain ⟨e, h⟩ := old h1 z
      rw [set_get' e] at h2
      exact r.at_ j s v h h2
  · obtain ⟨e1, g1⟩ := old h1 (fun z => by rw [z] at m1; cases m1)
    obtain ⟨e2, g2⟩ := old h2 (fun z => by rw [z] at m2; cases m2)
    rw [set_get' e1] at h3
    rw [set_get' e2] at h4
    exact r.inj j k s s' p g1 g2 m1 m2 h3 h4
theorem own_forget {x : Option V} {a : Addr} (h : Own (st.set i .un) (σ.set i x) a) : Own st σ a := by
  obtain ⟨j, s, h1, m, h2⟩ := h
  by_cases e : i = j
  · subst e
    rcases set_get h1 with ⟨_, z⟩ | ⟨z, _⟩
    · rw [z] at m; cases m
    · exact (z rfl).elim
  · rw [set_get' e] at h1 h2
    exact ⟨j, s, h1, m, h2⟩
end
def mLend (i j : Nat) (b c dd : EM) (fs : FS) : SM := fun st => match b st with
  | some (.tmp (.fz y), st1) => match c st1 with
    | some (.tmp (.fz z), st2) => match dd (st2.set j .un), st[i]? with
      | some (.tmp (.fz d), st4), some (.ow _) => match st4[i]? with
        | some (.ow xs) => if i ≠ j ∧ j < st.length then match fs [.ow [.list xs, y, z], .fz d] with
          | some (.fz (.bool true), _) => some (.nx, st4)
          | some (.fz (.bool false), _) => some (.rt (.fz (.bool false)), st4)
          | _ => none else none
        | _ => none
      | _, _ => none
    | _ => none
  | _ => none
theorem mLend_inv {i j : Nat} {b c dd : EM} {fs : FS} {st st' : S} {o : Out} (h : mLend i j b c dd fs st = some (o, st')) : ∃ y st1 z st2 d st4 ys xs k as', b st = some (.tmp (.fz y), st1) ∧ c st1 = some (.tmp (.fz z), st2) ∧ dd (st2.set j .un) = some (.tmp (.fz d), st') ∧
    st[i]? = some (.ow ys) ∧ st'[i]? = some (.ow xs) ∧ (i ≠ j ∧ j < st.length) ∧ fs [.ow [.list xs, y, z], .fz d] = some (.fz (.bool k), as') ∧ st4 = st' ∧ o = (if k = true then .nx else .rt (.fz (.bool false))) := by
  unfold mLend at h
  split at h
  · rename_i y st1 e1
    split at h
    · rename_i z st2 e2
      split at h
      · rename_i d st4 ys e3 e4
        split at h
        · rename_i xs e5
          split at h
          · rename_i hij
            split at h
            · rename_i as' e6
              cases h
              exact ⟨y, st1, z, st2, d, _, ys, xs, true, as', e1, e2, e3, e4, e5, hij, e6, rfl, rfl⟩
            · rename_i as' e6
              cases h
              exact ⟨y, st1, z, st2, d, _, ys, xs, false, as', e1, e2, e3, e4, e5, hij, e6, rfl, rfl⟩
            · cases h
          · cases h
        · cases h
      · cases h
    · cases h
  · cases h
theorem simS_lend {K : PySem.W.Frag} {A : Nat → Bool} {i j : Nat} {tb tc td : TE} {b c dd : EM} {fs : FS} {tr : TS} (hj : A j = true) (hb : SimE K tb b) (hc : SimE K tc c) (hd : SimE K td dd) (hr : SimS K A tr (mRet (eC (.bool false)))) :
    SimS K A (tSeq (tAsg (tLst (tCons (tVar i) (tCons tb (tCons tc tNil)))) (gName j)) (tIfS (tNot (fun σ H Q => tCall (spOf K fs) [] E0 (tCons (tVar j) (tCons td tNil)) σ H fun x H' => ∃ k, TruV K x H' k ∧ Q k H')) tr tNext)) (mLend i j b c dd fs) := by
  intro st σ G H o st' r h D q
  obtain ⟨y, st1, z, st2, d, _, ys, xs, k, as', e1, e2, e3, e4, e5, hij, e6, _, eo⟩ := mLend_inv h
  obtain ⟨a, a1, a2, ws0, a3, a4⟩ := r.getMt e4 rfl
  refine ⟨.ref a, a1, ?_⟩
  refine hb st σ G H _ _ r e1 _ fun u G1 H1 r1 s1 o1 => ?_
  refine hc _ σ G1 H1 _ _ r1 e2 _ fun v G2 H2 r2 s2 o2 => ?_
  have o1 : Dp K G1 u y := o1
  have o2 : Dp K G2 v z := o2
  refine ⟨by show 3 ≤ sizeLine; decide, fun p hp => ?_⟩
  have xt : Ext G2 H2 G2 (upd H2 p (.lst [.ref a, u, v])) := Ext.fresh r2.ex hp
  have r3 := (r2.ext xt).forget (i := j) (some (.ref p))
  have s3 : Step (Own st σ) (Own (st2.set j .un) (σ.set j (some (.ref p)))) G H G2 (upd H2 p (.lst [.ref a, u, v])) := ((s1.trans s2).trans (xt.step (O := Own st2 σ))).sub fun c hc => own_forget hc
  obtain ⟨hij, hjl⟩ := hij
  have jl : j < σ.length := by rw [← r.len]; exact hjl
  have pj : (σ.set j (some (.ref p)))[j]? = some (some (.ref p)) := by rw [List.getElem?_set_self jl]
  refine ⟨.ref p, pj, ?_⟩
  refine hd _ _ _ _ _ _ r3 e3 _ fun v4 G4 H4 r4 s4 o4 => ?_
  have o4 : Dp K G4 v4 d := o4
  have s12 := s1.trans s2
  have np : ¬ Own (st2.set j .un) (σ.set j (some (.ref p))) p := fun z => by
    obtain ⟨_, w, hw⟩ := r2.own (own_forget z)
    rw [hp] at hw; cases hw
  have h4p : H4 p = some (.lst [.ref a, u, v]) := s4.keep p _ upd_same np
  have pa : p ≠ a := fun z => by
    have := s12.live p hp
    rw [z, a3] at this; cases this
  have g4p : G4 p = none := by
    cases z : G4 p with
    | none => rfl
    | some w =>
      rcases s4.new p w z with ⟨w2, z2⟩ | z2 | z2
      · have := r2.ex p w2 z2
        rw [hp] at this; cases this
      · rw [upd_same] at z2; cases z2
      · exact (np z2).elim
  obtain ⟨a', b1, b2, wsx, b3, b4⟩ := r4.getMt e5 rfl
  rw [set_get' (Ne.symm hij), a1] at b1
  cases b1
  have gg : Same G4 (upd G4 a (.lst wsx)) := fun c w hc => by
    rw [upd_ne (fun z => by rw [z, b2] at hc; cases hc)]; exact hc
  have gh : Same (upd G4 a (.lst wsx)) H4 := fun c w hc => by
    by_cases z : c = a
    · subst z; rw [upd_same] at hc; cases hc; exact b3
    · rw [upd_ne z] at hc; exact r4.ex c w hc
  have ra : Rel K [.ow [.list xs, y, z], .fz d] (vst [.ref p, v4]) (upd G4 a (.lst wsx)) H4 := by
    refine ⟨rfl, fun n s w h1 h2 => ?_, fun n m s s' q h1 h2 m1 m2 h3 h4 => ?_, gh⟩
    · match n with
      | 0 =>
        cases h1; cases h2
        exact ⟨p, rfl, by rw [upd_ne pa]; exact g4p, [.ref a, u, v], h4p, .cons (.lst (.inl (.inl upd_same)) (dpa_mono gg b4)) (.cons (dp_mono ((s2.g.trans s4.g).trans gg) o1) (.cons (dp_mono (s4.g.trans gg) o2) .nil))⟩
      | 1 =>
        cases h1; cases h2
        exact ⟨v4, rfl, dp_mono gg o4⟩
      | n + 2 => cases h1
    · match n, m with
      | 0, 0 => rfl
      | 1, _ => cases h1; cases m1
      | n + 2, _ => cases h1
      | 0, 1 => cases h2; cases m2
      | 0, m + 2 => cases h2
  refine ⟨_, _, .fz (.bool k), as', ra, e6, fun w G' H' r5 s5 o5 => ?_⟩
  have ew : w = .bl k := dp_bool o5
  subst ew
  refine ⟨k, rfl, ?_⟩
  have keepp : ∀ c w, H4 c = some w → c ≠ p → H' c = some w := fun c w hc hn => s5.keep c w hc fun ⟨n, s, h1, m, h2⟩ => by
    match n with
    | 0 => cases h1; cases h2; exact hn rfl
    | 1 => cases h1; cases m
    | n + 2 => cases h1
  have s34 := s3.trans s4
  have rF : Rel K st' (σ.set j (some (.ref p))) G4 H' := by
    refine ⟨r4.len, fun n s w h1 h2 => ?_, r4.inj, fun c w hc => keepp c w (r4.ex c w hc) fun z => by rw [z, g4p] at hc; cases hc⟩
    have old := r4.at_ n s w h1 h2
    have own : s.mt = true → SlRel K G4 H' s w := fun m => by
      obtain ⟨c, ec, gc, bc⟩ := (slrel_mt m).mp old
      refine (slrel_mt m).mpr ⟨c, ec, gc, bc.mono (Same.refl _) fun o ho => keepp c o ho fun z => ?_⟩
      subst z
      rcases s4.own c ⟨n, s, h1, m, by rw [h2, ec]⟩ with z2 | z2
      · exact np z2
      · rw [upd_same] at z2; cases z2
    cases s with
    | un => trivial
    | fz d => exact old
    | ow xs => exact own rfl
    | od xs => exact own rfl
  have sF : Step (Own st σ) (Own st' (σ.set j (some (.ref p)))) G H G4 H' := ⟨s34.g, fun c w hc hn => keepp c w (s34.keep c w hc hn) (fun z => by
    have := s12.live p hp
    rw [z, this] at hc; cases hc), s34.own, s34.new, fun c hc => s34.live c (s5.live c hc)⟩
  subst eo
  cases k with
  | true => exact q _ G4 H' rF sF (kp_set hj)
  | false => exact hr st' _ G4 H' _ st' rF rfl D (Post.after q sF (kp_set hj))
section
variable {X : Cx} {A : Nat → Bool} {i j kk : Nat} {x y g : Str} {e2 e3 e4 : Expr} {tb tc td : TE} {b c dd : EM} {fs : FS} {tr u : TS} {n : SM} {f : Addr} {fd : FuncData} {ps : List Str} {body rest : List Stmt} {px py pl pg px2 pc pn pos1 pos2 : Pos}
theorem ss_lend (hN : X.N.Nodup) (hj : X.N[j]? = some x) (hx : Loc X.env.scope x) (hA : A j = true) (F : FnOk X.prog X.w X.K X.mg X.base CX0 kk f fd ps (spOf X.K fs)) (hr : Room kk X.A) (hg : Gl X g) (hm : X.mg g = some (.ref f)) (hk : PySem.W.keepIn X.K (.ref f) = true) (hbi : Binds X.K fd ps [])
    (hv : SE X (.Name y py) (tVar i) (eVar i)) (hv2 : SE X (.Name x px2) (tVar j) (eVar j)) (hb : SE X e2 tb b) (hc : SE X e3 tc c) (hd : SE X e4 td dd) (hret : SSs X A body tr (mRet (eC (.bool false)))) (hrest : SSs X A rest u n)
    (hs : swapsWith (.List [.Name y py, e2, e3] pl) (some (.Name x px)) pos1.line X.env = pure false := by rfl) (hf : X.fn x = true ∨ X.env.scope.names.lookup x = some .local := by first | exact .inl rfl | exact .inr rfl | assumption)
    (s1 : starEach [.Name y py, e2, e3] X.env = (false, eval (.Name y py) X.env) :: starEach [e2, e3] X.env := by rfl) (s2 : starEach [e2, e3] X.env = (false, eval e2 X.env) :: starEach [e3] X.env := by rfl) (s3 : starEach [e3] X.env = (false, eval e3 X.env) :: starEach [] X.env := by rfl)
    (s4 : starEach [.Name x px2, e4] X.env = (false, eval (.Name x px2) X.env) :: starEach [e4] X.env := by rfl) (s5 : starEach [e4] X.env = (false, eval e4 X.env) :: starEach [] X.env := by rfl) (hpl : (backTo pc (starEach [e4] X.env)).any (·.1) = false := by rfl) (hdb : (g == ("__debug__" : Str)) = false := by decide)
    (he : ∀ whole, isTrue (.Call (.Name g pg) [.Name x px2, e4] [] pc) X.env whole = (do let v ← whole; standAt (Expr.Call (.Name g pg) [.Name x px2, e4] [] pc).pos; holding [v] (truthy v)) := by intro _; rfl) :
    SSs X A (.Assign [.Name x px] (.List [.Name y py, e2, e3] pl) pos1 :: .If (.UnaryOp .Not (.Call (.Name g pg) [.Name x px2, e4] [] pc) pn) body [] pos2 :: rest)
      (tSeq (tAsg (tLst (tCons (tVar i) (tCons tb (tCons tc tNil)))) (gName j)) (tSeq (tIfS (tNot (fun σ H Q => tCall (spOf X.K fs) [] E0 (tCons (tVar j) (tCons td tNil)) σ H fun x H' => ∃ k, TruV X.K x H' k ∧ Q k H')) tr tNext) u)) (mSeq (mLend i j b c dd fs) n) :=
  ⟨pss_cons (ps_set hN hj hx (pe_lst (pa_cons hv.pe (pa_cons hb.pe (pa_cons hc.pe pa_nil s3) s2) s1)) hs hf)
    (pss_cons (ps_if (pt_not (pt_truth (pe_call F hr hg hm hk hbi .nil pass0 (pa_cons hv2.pe (pa_cons hd.pe pa_nil s5) s4) hdb s4 hpl) he)) hret.pe pss_nil) hrest.pe),
   fun st σ G H o st' r h D q => (simS_seq (simS_lend hA hb.sim hc.sim hd.sim hret.sim) hrest.sim) st σ G H o st' r h D q⟩
end
end Sh

namespace Sh
open PySem PySem.Spec L2

/-! ### what is never reached: nothing is told of it -/
def noE : EM := fun _ => none
def noS : SM := fun _ => none
def noI : IM := fun _ => none
section
variable {X : Cx} {A : Nat → Bool} {e tg : Expr} {s : Stmt}
theorem se_dead : SE X e (fun _ _ _ => False) noE := ⟨⟨fun _ _ _ _ _ _ h => h.elim⟩, fun _ _ _ _ _ _ _ h => by cases h⟩
theorem ss_dead : SS X A s (fun _ _ _ => False) noS := ⟨⟨fun _ _ _ _ _ _ h => h.elim⟩, fun _ _ _ _ _ _ _ h => by cases h⟩
theorem si_dead : SI X tg e (fun _ _ _ => False) noI := ⟨⟨fun _ _ _ _ _ _ h => h.elim⟩, fun _ _ _ _ _ _ _ h => by cases h⟩
end
end Sh

namespace Sh
open PySem PySem.Spec L2

/-! ### a dict that is not changed any more: locked, as data -/
def lockD (kvs : List (Key × D)) : D := .dict [(.none, .list (kvs.map fun q => kD0 q.1)), (.none, .list (kvs.map (·.2)))]
theorem dpa_vals {K : PySem.W.Frag} {G : Hp} : ∀ {ws : List (Key × V)} {kvs : List (Key × D)}, KVp K G ws kvs → DpAll K G (ws.map (·.2)) (kvs.map (·.2)) ∧ ws.map (fun q => kD0 q.1) = kvs.map fun q => kD0 q.1
  | _, _, .nil => ⟨.nil, rfl⟩
  | _, _, .cons r t => by
    obtain ⟨h1, h2⟩ := dpa_vals t
    exact ⟨.cons r.2 h1, by rw [List.map_cons, List.map_cons, h2, r.1]⟩
theorem kD0_inj {j k : Key} (h : kD0 j = kD0 k) : j = k := by
  cases j <;> cases k <;> cases h <;> rfl
theorem lock_kvp {K : PySem.W.Frag} {G : Hp} : ∀ {ws : List (Key × V)} {kvs : List (Key × D)}, ws.map (fun q => kD0 q.1) = kvs.map (fun q => kD0 q.1) → DpAll K G (ws.map (·.2)) (kvs.map (·.2)) → KVp K G ws kvs
  | [], [], _, _ => .nil
  | [], _ :: _, h, _ => by cases h
  | _ :: _, [], h, _ => by cases h
  | w :: ws, k :: kvs, h, t => by
    rw [List.map_cons, List.map_cons] at h
    injection h with h1 h2
    cases t with
    | cons t1 t2 => exact .cons ⟨kD0_inj h1, t1⟩ (lock_kvp h2 t2)
theorem dp_lock {K : PySem.W.Frag} {G : Hp} {v : V} {kvs : List (Key × D)} (h : Dp K G v (lockD kvs)) : ∃ a o ws, v = .ref a ∧ G a = some (.frz o (.dK ws)) ∧ KVp K G ws kvs := by
  unfold lockD at h
  cases h with
  | ld h1 h2 h3 => exact ⟨_, _, _, rfl, h1, lock_kvp h2.symm h3⟩
/-- from here on the dict in slot i is not changed -/
def tLkAt (i : Nat) (t : TS) : TS := fun D σ H => ∃ (a : Addr) (ws : List (Key × V)), σ[i]? = some (some (.ref a)) ∧ H a = some (.dK ws) ∧ ∀ od, t D σ (upd H a (.frz od (.dK ws)))
theorem pss_lk {X : Cx} {ss : List Stmt} {t : TS} {i : Nat} (h : PSs X ss t) : PSs X ss (tLkAt i t) := by
  refine ⟨fun pins s σ H D I ⟨a, ws, _, ha, q⟩ => ?_⟩
  obtain ⟨od, I2⟩ := I.lock ha trivial
  exact h.run pins s σ _ D I2 (q od)
def mLk (i : Nat) (m : SM) : SM := fun st => match st[i]? with
  | some (.od kvs) => m (st.set i (.fz (lockD kvs)))
  | _ => none
theorem simS_lk {K : PySem.W.Frag} {A : Nat → Bool} {i : Nat} {t : TS} {m : SM} (h : SimS K A t m) : SimS K A (tLkAt i t) (mLk i m) := by
  intro st σ G H o st' r e D q
  unfold mLk at e
  split at e
  · rename_i kvs e1
    obtain ⟨a, a1, a2, ws, a3, a4, a5⟩ := r.getMt e1 rfl
    refine ⟨a, ws, a1, a3, fun od => ?_⟩
    obtain ⟨v1, v2⟩ := dpa_vals a4
    have g1 : Same G (upd G a (.frz od (.dK ws))) := fun c o hc => by rw [upd_ne (fun z => by rw [z, a2] at hc; cases hc)]; exact hc
    have gh : Same (upd G a (.frz od (.dK ws))) (upd H a (.frz od (.dK ws))) := fun c o hc => by
      by_cases z : c = a
      · subst z; rw [upd_same] at hc ⊢; exact hc
      · rw [upd_ne z] at hc ⊢; exact r.ex c o hc
    have own1 : ∀ c, Own (st.set i (.fz (lockD kvs))) σ c → Own st σ c ∧ c ≠ a := fun c hc => by
      have hc2 := own_set_fz rfl hc
      refine ⟨hc2, fun z => ?_⟩
      subst z
      obtain ⟨n, s, h1, m1, h2⟩ := hc
      by_cases en : i = n
      · subst en
        rcases set_get h1 with ⟨_, z⟩ | ⟨z, _⟩
        · rw [z] at m1; cases m1
        · exact z rfl
      · rw [set_get' en] at h1
        exact en (r.inj i n _ _ c e1 h1 rfl m1 a1 h2)
    have r2 : Rel K (st.set i (.fz (lockD kvs))) σ (upd G a (.frz od (.dK ws))) (upd H a (.frz od (.dK ws))) := by
      refine ⟨by rw [List.length_set]; exact r.len, fun n s w h1 h2 => ?_, fun n n2 s s2 p h1 h2 m1 m2 h3 h4 => ?_, gh⟩
      · by_cases en : i = n
        · subst en
          rcases set_get h1 with ⟨_, z⟩ | ⟨z, _⟩
          · subst z
            rw [a1] at h2
            cases h2
            exact ⟨.ref a, rfl, .ld upd_same v2.symm (dpa_mono g1 v1)⟩
          · exact (z rfl).elim
        · rw [set_get' en] at h1
          have old := r.at_ n s w h1 h2
          have own : s.mt = true → SlRel K (upd G a (.frz od (.dK ws))) (upd H a (.frz od (.dK ws))) s w := fun m1 => by
            obtain ⟨c, ec, gc, bc⟩ := (slrel_mt m1).mp old
            have hne : c ≠ a := fun z => by
              subst z
              exact en (r.inj i n _ _ c e1 h1 rfl m1 a1 (by rw [h2, ec]))
            exact (slrel_mt m1).mpr ⟨c, ec, by rw [upd_ne hne]; exact gc, bc.mono g1 fun o ho => by rw [upd_ne hne]; exact ho⟩
          cases s with
          | un => trivial
          | fz d => obtain ⟨x, e2, e3⟩ := old; exact ⟨x, e2, dp_mono g1 e3⟩
          | ow xs => exact own rfl
          | od xs => exact own rfl
      · by_cases en : i = n
        · subst en
          rcases set_get h1 with ⟨_, z⟩ | ⟨z, _⟩
          · rw [z] at m1; cases m1
          · exact (z rfl).elim
        · by_cases en2 : i = n2
          · subst en2
            rcases set_get h2 with ⟨_, z⟩ | ⟨z, _⟩
            · rw [z] at m2; cases m2
            · exact (z rfl).elim
          · rw [set_get' en] at h1
            rw [set_get' en2] at h2
            exact r.inj n n2 s s2 p h1 h2 m1 m2 h3 h4
    have sF : Step (Own st σ) (Own (st.set i (.fz (lockD kvs))) σ) G H (upd G a (.frz od (.dK ws))) (upd H a (.frz od (.dK ws))) := by
      have oa : Own st σ a := ⟨i, _, e1, rfl, a1⟩
      refine ⟨g1, fun c o hc hn => ?_, fun c hc => .inl (own1 c hc).1, fun c o hc => ?_, fun c hc => ?_⟩
      · rw [upd_ne (fun z => hn (by rw [z]; exact oa))]; exact hc
      · by_cases z : c = a
        · subst z; exact .inr (.inr oa)
        · rw [upd_ne z] at hc; exact .inl ⟨o, hc⟩
      · by_cases z : c = a
        · subst z; rw [upd_same] at hc; cases hc
        · rw [upd_ne z] at hc; exact hc
    exact h _ σ _ _ o st' r2 e D (Post.after q sF Kp.refl)
  · cases e
theorem sss_lk {X : Cx} {A : Nat → Bool} {i : Nat} {ss : List Stmt} {t : TS} {m : SM} (h : SSs X A ss t m) : SSs X A ss (tLkAt i t) (mLk i m) := ⟨pss_lk h.pe, simS_lk h.sim⟩
end Sh

namespace Sh
open PySem PySem.Spec L2

/-! ### what is read off a locked dict -/
def unz : List D → List D → Option (List (Key × D))
  | [], [] => some []
  | k :: ks, d :: ds => match toKey k, unz ks ds with
    | some key, some r => some ((key, d) :: r)
    | _, _ => none
  | _, _ => none
def unl : D → Option (List (Key × D))
  | .dict [(.none, .list ks), (.none, .list ds)] => unz ks ds
  | _ => none
theorem toKey_kD0 (k : Key) : toKey (kD0 k) = some k := by cases k <;> rfl
theorem unl_lock (kvs : List (Key × D)) : unl (lockD kvs) = some kvs := by
  show unz (kvs.map fun q => kD0 q.1) (kvs.map (·.2)) = some kvs
  induction kvs with
  | nil => rfl
  | cons q r ih => rw [List.map_cons, List.map_cons, unz, ih, toKey_kD0]
theorem toKey_eq {d : D} {k : Key} (h : toKey d = some k) : d = kD0 k := by
  cases d <;> first | (cases h; rfl) | cases h
theorem unz_eq : ∀ {ks ds : List D} {kvs : List (Key × D)}, unz ks ds = some kvs → ks = kvs.map (fun q => kD0 q.1) ∧ ds = kvs.map (·.2)
  | [], [], _, h => by cases h; exact ⟨rfl, rfl⟩
  | [], _ :: _, _, h => by cases h
  | _ :: _, [], _, h => by cases h
  | k :: ks, d :: ds, kvs, h => by
    unfold unz at h
    split at h
    · rename_i key r h1 h2
      cases h
      obtain ⟨e1, e2⟩ := unz_eq h2
      rw [List.map_cons, List.map_cons, e1, e2, toKey_eq h1]
      exact ⟨rfl, rfl⟩
    · cases h
theorem unl_eq {d : D} {kvs : List (Key × D)} (h : unl d = some kvs) : d = lockD kvs := by
  unfold unl at h
  split at h
  · obtain ⟨h1, h2⟩ := unz_eq h
    rw [h1, h2]
    rfl
  · cases h
/-- d[k] -/
def ixL : G2 := fun s i => match s, i with
  | .fz d, .fz k => match unl d, toKey k with
    | some kvs, some key => (dget kvs key).map .fz
    | _, _ => none
  | _, _ => none
theorem ixL_inv {s i z : Sl} (h : ixL s i = some z) : ∃ kvs k key d, s = .fz (lockD kvs) ∧ i = .fz k ∧ toKey k = some key ∧ dget kvs key = some d ∧ z = .fz d := by
  unfold ixL at h
  split at h
  · split at h
    · rename_i kvs key h1 h2
      obtain ⟨d, h3, h4⟩ := Option.map_eq_some_iff.mp h
      exact ⟨kvs, _, key, d, by rw [unl_eq h1], rfl, h2, h3, h4.symm⟩
    · cases h
  · cases h
theorem ok_ixL {K : PySem.W.Frag} : OpOk K (fun x y H Q => rDG x y H Q ∨ rIx K x y H Q) ixL := by
  intro G H x y s s' z e lx ly hz Q q
  obtain ⟨kvs, k, key, d, rfl, rfl, hk, hd, rfl⟩ := ixL_inv hz
  obtain ⟨a, o, ws, rfl, h1, h2⟩ := dp_lock lx
  have ek := toKey_ok ly hk
  subst ek
  obtain ⟨v, h5, h6⟩ := kvp_dget h2 hd
  exact .inl ⟨a, v, rfl, .inl ⟨ws, key, .inr ⟨o, e _ _ h1⟩, rfl, h5.symm⟩, ans_fz e h6 q⟩
theorem ixL1 : ∀ s, ixL .un s = none := by intro s; cases s <;> rfl
theorem ixL2 : ∀ s, ixL s .un = none := by intro s; cases s <;> rfl
theorem se_ixL {X : Cx} {e e2 : Expr} {ta tb : TE} {a b : EM} {pos : Pos} (hu : X.A.units + 1 < cLine) (ha : SE X e ta a) (hb : SE X e2 tb b) (hs : PlainIx e2 := by exact fun _ _ => rfl) : SE X (.Subscript e e2 pos) (tOp (fun x y H Q => rDG x y H Q ∨ rIx X.K x y H Q) ta tb) (eBin ixL a b) := by
  obtain ⟨pa, sa⟩ := ha
  obtain ⟨pb, sb⟩ := hb
  exact ⟨pe_ix ((ix_dict hu).or ix_seq) pa pb hs, sim_bin ok_ixL ixL1 ixL2 sa sb⟩
/-- its keys -/
theorem kD0_keyD (k : Key) : kD0 k = keyD k := by cases k <;> rfl
def iLk (a : EM) : IM := fun st => match a st with
  | some (.tmp (.fz d), st1) => match unl d with
    | some kvs => some (keysD kvs, st1)
    | none => none
  | _ => none
theorem sim_lkI {K : PySem.W.Frag} {t : TE} {a : EM} (ha : SimE K t a) : SimI K (iKeys t) (iLk a) := by
  intro st σ G H ds st' r h R q
  unfold iLk at h
  split at h
  · rename_i d st1 e1
    split at h
    · rename_i kvs e2
      cases h
      refine ha st σ G H _ _ r e1 _ fun v G1 H1 r1 s1 o1 => ?_
      have o1 : Dp K G1 v d := o1
      rw [unl_eq e2] at o1
      obtain ⟨p, o, ws, rfl, h1, h2⟩ := dp_lock o1
      exact ⟨p, o, rfl, .inl ⟨ws, r1.ex _ _ h1, q _ G1 H1 r1 s1 (yields_keys h1 h2)⟩⟩
    · cases h
  · cases h
theorem si_lk {X : Cx} {tg e : Expr} {t : TE} {a : EM} (ha : SE X e t a) : SI X tg e (iKeys t) (iLk a) := ⟨pi_keys ha.pe, sim_lkI ha.sim⟩
end Sh

namespace Sh
open PySem PySem.Spec PyProof.Rows L2

/-! ### sets of texts -/
def keyS (e : Int × Value) : Str := match e.2 with
  | .str x _ => x
  | _ => ""
def TxtE (P : Program) (w : World) (e : Int × Value) : Prop := ∃ x u, e.2 = Value.str x u ∧ e.1 = (strKind P w).hash x
/-- the set at a has these texts -/
def StS (P : Program) (w : World) (h : Heap) (a : Addr) (ks : List Str) : Prop :=
  ∃ o tab ep t, h.get? a = some o ∧ o.ExactSet ∧ o.data = .set tab ep t ∧ (∀ e ∈ tab.toList, TxtE P w e) ∧ (tab.toList.map keyS).Perm ks ∧ ks.Nodup ∧ tab.size < scanBound ∧ t.fits tab.size = true ∧ Ris t.place.toList ∧ (w.params.followText "set-order" = true ∨ t.led = true)
section
variable {P : Program} {w : World}
theorem is_txt (x : Str) (u : Tok) : (strKind P w).is x (.str x u) = true := by
  show Value.isStrOf x (.str x u) = true
  simp [Value.isStrOf]
theorem txt_is {e : Int × Value} (g : TxtE P w e) (x : Str) : (strKind P w).is x e.2 = true ↔ keyS e = x := by
  obtain ⟨y, u, h1, _⟩ := g
  unfold keyS
  rw [h1]
  show Value.isStrOf x (.str y u) = true ↔ y = x
  simp [Value.isStrOf]
theorem txt_elems {l : List (Int × Value)} (g : ∀ e ∈ l, TxtE P w e) : ElemsOf (strKind P w) l := fun e he => by
  obtain ⟨x, u, h1, h2⟩ := g e he
  exact ⟨⟨x, by rw [h1]; exact is_txt x u, h2⟩, by rw [h1] <;> rfl⟩
end
section
variable {P : Program} {w : World} {A : Around} {E : Value → Shared → Prop} {s : Shared} {a : Addr} {ks : List Str}
theorem stS_tail {tell : Bool → Sem Unit} (ht : ∀ (b : Bool) (s1 : Shared) (Q1 : Unit → Shared → Prop), Q1 () s1 → wpAny (model P w) A (tell b) Q1 E s1) {o : Obj} {tab new : Array (Int × Value)} {ep : Nat} {t t2 : SetTable} (g1 : s.heap.get? a = some o) (g2 : o.ExactSet) (g3 : o.data = .set tab ep t)
    (n1 : ∀ e ∈ new.toList, TxtE P w e) (n2 : (new.toList.map keyS).Perm ks) (n3 : ks.Nodup) (n4 : new.size < scanBound) (n5 : t2.fits new.size = true) (n6 : Ris t2.place.toList) (n7 : w.params.followText "set-order" = true ∨ t2.led = true) {dm : Bool} {R : Option Bool → Shared → Prop}
    (q : ∀ h2, Heap.SameBut a s.heap h2 → StS P w h2 a ks → R (some true) { s with heap := h2 }) :
    wpAny (model P w) A (do
      storeSet a new t2
      if (!dm && t2.tooFull) = true then do
        tell (relayAll t2 new (SetTable.grown new.size)).2.2
        storeSet a (relayAll t2 new (SetTable.grown new.size)).1 (relayAll t2 new (SetTable.grown new.size)).2.1
        pure (some true)
      else pure (some true)) R E s := by
  refine wpAny_bind (wpAny_storeSet_of g1 g3 ?_ (fits_of_scanBound n4))
  have k1 := store_at (es' := new) (t' := t2) g1 g3
  have b1 := Heap.SameBut.update s.heap a (Obj.putSet new t2)
  split
  · have p1 := relayAll_perm t2 new (SetTable.grown new.size)
    have p2 := relayAll_fits t2 new (SetTable.grown new.size)
    have p3 := relayAll_ris t2 new (SetTable.grown new.size)
    have p4 := relayAll_led t2 new (SetTable.grown new.size)
    generalize relayAll t2 new (SetTable.grown new.size) = Z at p1 p2 p3 p4 ⊢
    obtain ⟨tab3, t3, gw⟩ := Z
    dsimp only at p1 p2 p3 p4 ⊢
    have z1 : tab3.size = new.size := by rw [← Array.length_toList, p1.length_eq, Array.length_toList]
    have z2 : tab3.size < scanBound := by rw [z1]; exact n4
    refine wpAny_bind (ht _ _ _ ?_)
    refine wpAny_bind (wpAny_storeSet_of k1 rfl ?_ (fits_of_scanBound z2))
    have k2 := store_at (es' := tab3) (t' := t3) k1 rfl
    refine wpAny_pure (q _ (b1.trans (Heap.SameBut.update _ a _)) ⟨_, tab3, _, t3, k2, g2, rfl, fun e he => n1 e (p1.mem_iff.mp he), (p1.map keyS).trans n2, n3, z2, p2, p3, n7.imp id fun z => by rw [p4]; exact z⟩)
  · exact wpAny_pure (q _ b1 ⟨_, new, _, t2, k1, g2, rfl, n1, n2, n3, n4, n5, n6, n7⟩)
theorem stS_add {x : Str} {u : Tok} {Q : Bool → Shared → Prop} (R : StS P w s.heap a ks) (room : ks.length + 1 < scanBound)
    (q : ∀ h2, Heap.SameBut a s.heap h2 → StS P w h2 a (if x ∈ ks then ks else ks ++ [x]) → Q (decide (x ∉ ks)) { s with heap := h2 }) :
    wpAny (model P w) A (setAddHashed a (.str x u) ((strKind P w).hash x)) Q E s := by
  obtain ⟨o, tab, ep, t, g1, g2, g3, g4, g5, g6, g7, g8, g9, g10⟩ := R
  have el : ElemsOf (strKind P w) tab.toList := txt_elems g4
  have lk : tab.size = ks.length := by rw [← Array.length_toList, ← g5.length_eq, List.length_map]
  unfold setAddHashed setAddHashedIn
  refine wpAny_holding (wpAny_bind (wpAny_setState_of g1 g3 g8 ?_))
  dsimp only
  rw [byScan_of rfl g7 el]
  simp only [↓reduceIte]
  unfold setAddByScan
  refine wpAny_bind (wpAny_bind (wpAny_rule (wpAny_bind (wpAny_setScan_of (knd := strKind P w) (k := x) (is_txt x u) g1 g3 g8 el ?_))))
  cases f : List.findIdx? (fun e => (strKind P w).is x e.2) tab.toList with
  | some j =>
    dsimp only
    obtain ⟨hj, pj, _⟩ := List.findIdx?_eq_some_iff_getElem.mp f
    have inn : x ∈ ks := g5.mem_iff.mp (List.mem_map.mpr ⟨tab.toList[j], List.getElem_mem hj, (txt_is (g4 _ (List.getElem_mem hj)) x).mp pj⟩)
    have z := q s.heap (Heap.SameBut.refl a s.heap) (by rw [if_pos inn]; exact ⟨o, tab, ep, t, g1, g2, g3, g4, g5, g6, g7, g8, g9, g10⟩)
    rw [decide_eq_false (fun y => y inn)] at z
    exact wpAny_pure (wpAny_pure z)
  | none =>
    dsimp only
    have out : x ∉ ks := fun z => by
      obtain ⟨e, he, e2⟩ := List.mem_map.mp (g5.mem_iff.mpr z)
      have c := List.findIdx?_eq_none_iff.mp f e he
      rw [(txt_is (g4 e he) x).mpr e2] at c
      cases c
    have tells : ∀ (b : Bool) {s1 : Shared} {Q1 : Unit → Shared → Prop}, Q1 () s1 → wpAny (model P w) A (match b with | true => rule "set.scan.the-table-gave-way" | false => pure ()) Q1 E s1 := fun b s1 Q1 y => by
      cases b
      · exact wpAny_pure y
      · exact wpAny_rule y
    have p1 := layNew_perm t tab ((strKind P w).hash x) (.str x u)
    have p2 := layNew_fits t tab ((strKind P w).hash x) (.str x u)
    have p3 := layNew_ris t tab ((strKind P w).hash x) (.str x u) g9
    have p4 := layNew_led t tab ((strKind P w).hash x) (.str x u)
    generalize layNew t tab ((strKind P w).hash x) (.str x u) = Z at p1 p2 p3 p4 ⊢
    obtain ⟨new, t1, dm, gw⟩ := Z
    dsimp only at p1 p2 p3 p4 ⊢
    rw [Array.toList_push] at p1
    have c1 : new.toList.Perm (((strKind P w).hash x, Value.str x u) :: tab.toList) := p1.trans (List.perm_append_singleton _ _)
    have n1 : ∀ e ∈ new.toList, TxtE P w e := fun e he => by
      rcases List.mem_cons.mp (c1.mem_iff.mp he) with z | z
      · rw [z]; exact ⟨x, u, rfl, rfl⟩
      · exact g4 e z
    have n2 : (new.toList.map keyS).Perm (ks ++ [x]) := by
      refine (c1.map keyS).trans ?_
      show (x :: tab.toList.map keyS).Perm _
      exact (g5.cons x).trans (List.perm_append_singleton x ks).symm
    have n3 : (ks ++ [x]).Nodup := (List.perm_append_singleton x ks).nodup_iff.mpr (List.nodup_cons.mpr ⟨out, g6⟩)
    have n4 : new.size < scanBound := by
      have z := n2.length_eq
      rw [List.length_map, Array.length_toList, List.length_append] at z
      rw [z]
      exact room
    have n7 : w.params.followText "set-order" = true ∨ t1.led = true := g10.imp id fun z => by rw [p4]; exact z
    have fin : ∀ h2, Heap.SameBut a s.heap h2 → StS P w h2 a (ks ++ [x]) → Q true { s with heap := h2 } := fun h2 sb r => by
      have z := q h2 sb (by rw [if_neg out]; exact r)
      rw [decide_eq_true out] at z
      exact z
    refine wpAny_bind (tells _ ?_)
    split
    · refine wpAny_bind ?_
      rw [hashByValue_scannable 8 (x := Value.str x u) rfl]
      refine wpAny_pure (stS_tail (fun b s1 Q1 y => by cases b <;> first | exact wpAny_pure y | exact wpAny_rule y) g1 g2 g3 n1 n2 n3 n4 ?_ ?_ ?_ ?_)
      · first | (split <;> first | exact p2 | exact SetTable.fits_plain_off p2) | exact p2
      · first | (split <;> exact p3) | exact p3
      · first | (split <;> exact n7) | exact n7
      · intro h2 sb r; dsimp only; exact wpAny_pure (fin h2 sb r)
    · refine wpAny_bind (wpAny_pure ?_)
      simp only [↓reduceIte]
      refine stS_tail (fun b s1 Q1 y => by cases b <;> first | exact wpAny_pure y | exact wpAny_rule y) g1 g2 g3 n1 n2 n3 n4 p2 p3 n7 ?_
      intro h2 sb r; dsimp only; exact wpAny_pure (fin h2 sb r)
end
end Sh

namespace Sh
open PySem PySem.Spec L2

/-! ### a dict, new or of a name, locked for good where it stands as a value -/
section
variable {K : PySem.W.Frag} {st st' : S} {σ : St} {G H G0 H0 : Hp} {O0 O O' : Addr → Prop} {p : Addr} {o' : HO}
theorem Rel.relay (r : Rel K st σ G H) (hn : G p = none) (ho : ¬ Own st σ p) : Rel K st σ (upd G p o') (upd H p o') := by
  have g : Same G (upd G p o') := fun a u q => by rw [upd_ne (ne_of_none q hn)]; exact q
  refine ⟨r.len, fun i s v h1 h2 => ?_, r.inj, fun a u q => ?_⟩
  · have q := r.at_ i s v h1 h2
    have mm : s.mt = true → SlRel K (upd G p o') (upd H p o') s v := fun m => by
      obtain ⟨b, e, h3, h4⟩ := (slrel_mt m).mp q
      subst e
      have nb : b ≠ p := fun e => ho ⟨i, s, h1, m, by rw [← e]; exact h2⟩
      exact (slrel_mt m).mpr ⟨b, rfl, by rw [upd_ne nb]; exact h3, h4.mono g fun o z => by rw [upd_ne nb]; exact z⟩
    cases s with
    | un => trivial
    | fz d => obtain ⟨y, e, h3⟩ := q; exact ⟨y, e, dp_mono g h3⟩
    | ow xs => exact mm rfl
    | od xs => exact mm rfl
  · by_cases e : a = p
    · subst e; rw [upd_same] at q ⊢; exact q
    · rw [upd_ne e] at q ⊢; exact r.ex a u q
theorem Step.relay (s : Step O0 O G0 H0 G H) (hn : G p = none) (hf : O0 p ∨ H0 p = none) (hO : ∀ a, O' a → O a) : Step O0 O' G0 H0 (upd G p o') (upd H p o') where
  g := fun a u q => by
    rw [upd_ne (ne_of_none (s.g a u q) hn)]; exact s.g a u q
  keep := fun a o h n => by
    have e : a ≠ p := fun e => by
      subst e
      rcases hf with z | z
      · exact n z
      · rw [z] at h; cases h
    rw [upd_ne e]; exact s.keep a o h n
  own := fun a q => s.own a (hO a q)
  new := fun a u q => by
    by_cases e : a = p
    · subst e
      rcases hf with z | z
      · exact .inr (.inr z)
      · exact .inr (.inl z)
    · rw [upd_ne e] at q; exact s.new a u q
  live := fun a h => by
    by_cases e : a = p
    · subst e; rw [upd_same] at h; cases h
    · rw [upd_ne e] at h; exact s.live a h
theorem dp_lkd {G : Hp} {a : Addr} {od : Obj} {ws : List (Key × V)} {kvs : List (Key × D)} (h : G a = some (.frz od (.dK ws))) (r : KVp K G ws kvs) : Dp K G (.ref a) (lockD kvs) := by
  obtain ⟨v1, v2⟩ := dpa_vals r
  exact .ld h v2.symm v1
end
def eLkD (a : EM) : EM := fun st => match a st with
  | some (.tmp (.od kvs), st1) => some (.tmp (.fz (lockD kvs)), st1)
  | some (.ref i, st1) => match st1[i]? with
    | some (.od kvs) => some (.tmp (.fz (lockD kvs)), st1.set i (.fz (lockD kvs)))
    | _ => none
  | _ => none
theorem sim_lkD {K : PySem.W.Frag} {t : TE} {a : EM} (ha : SimE K t a) : SimE K (tLk t) (eLkD a) := by
  intro st σ G H o st' r h Q q
  unfold eLkD at h
  split at h
  · rename_i kvs st1 e1
    cases h
    refine ha st σ G H _ _ r e1 _ fun v G1 H1 r1 s1 o1 => ?_
    obtain ⟨p, rfl, hn, ⟨ws, hp, hd, hk⟩, ho, hf⟩ := (vrel_mt (s := .od kvs) rfl).mp o1
    refine ⟨p, ws, rfl, hp, fun od => ?_⟩
    have g : Same G1 (upd G1 p (.frz od (.dK ws))) := fun a u q => by rw [upd_ne (ne_of_none q hn)]; exact q
    exact q _ _ _ (r1.relay hn ho) (s1.relay hn hf fun _ z => z) (dp_lkd upd_same (kvp_mono g hd))
  · rename_i i st1 e1
    split at h
    · rename_i kvs e2
      cases h
      refine ha st σ G H _ _ r e1 _ fun v G1 H1 r1 s1 o1 => ?_
      have o1 : σ[i]? = some (some v) := o1
      obtain ⟨p, a1, hn, ws, hp, hd, hk⟩ := r1.getMt e2 rfl
      rw [o1] at a1
      cases a1
      refine ⟨p, ws, rfl, hp, fun od => ?_⟩
      have g : Same G1 (upd G1 p (.frz od (.dK ws))) := fun a u q => by rw [upd_ne (ne_of_none q hn)]; exact q
      have dd : Dp K (upd G1 p (.frz od (.dK ws))) (.ref p) (lockD kvs) := dp_lkd upd_same (kvp_mono g hd)
      have r2 := (r1.unset i).relay (o' := .frz od (.dK ws)) hn (not_own_unset r1 e2 rfl o1)
      have r3 := r2.putFz (i := i) o1 dd
      rw [List.set_set] at r3
      have hf : Own st σ p ∨ H p = none := s1.own p ⟨i, _, e2, rfl, o1⟩
      exact q _ _ _ r3 (s1.relay hn hf fun a z => own_set_fz rfl z) dd
    · cases h
  · cases h
theorem se_lkD {X : Cx} {e : Expr} {t : TE} {a : EM} (h : SE X e t a) : SE X e (tLk t) (eLkD a) := ⟨pe_lk h.pe, sim_lkD h.sim⟩
end Sh

namespace Sh
open PySem PySem.Spec L2 RT

/-! ### the items and the values of a locked dict, walked -/
def itemsP (kvs : List (Key × D)) : List D := kvs.map fun q => .dict [(keyD q.1, q.2)]
def valsD (kvs : List (Key × D)) : List D := kvs.map (·.2)
theorem kvp_at' {K : PySem.W.Frag} {G : Hp} : ∀ {ws : List (Key × V)} {kvs : List (Key × D)} {i : Nat} {k : Key} {d : D}, KVp K G ws kvs → kvs[i]? = some (k, d) → ∃ v, ws[i]? = some (k, v) ∧ Dp K G v d
  | _, _, 0, k, d, .cons (a := q) r t, h => by
    have h := Option.some.inj (by simpa using h)
    subst h
    obtain ⟨q1, q2⟩ := q
    have e : q1 = k := r.1
    subst e
    exact ⟨q2, rfl, r.2⟩
  | _, _, i + 1, k, d, .cons r t, h => by
    obtain ⟨v, h1, h2⟩ := kvp_at' (i := i) t (by simpa using h)
    exact ⟨v, by simpa using h1, h2⟩
theorem yields_items {K : PySem.W.Frag} {G : Hp} {p : Addr} {od : Obj} {ms : List (Key × V)} {kvs : List (Key × D)} (h : G p = some (.frz od (.dK ms))) (r : KVp K G ms kvs) : Yields K (Iti p od ms) G (itemsP kvs) := by
  have hl := kvp_len r
  refine ⟨fun i d e G1 H1 g1 g2 => ?_, fun G1 H1 g1 g2 => ⟨g2 _ _ (g1 _ _ h), by unfold itemsP; rw [List.length_map]; omega⟩⟩
  unfold itemsP at e
  rw [List.getElem?_map] at e
  obtain ⟨⟨k, z⟩, e1, rfl⟩ := Option.map_eq_some_iff.mp e
  have hi : i < ms.length := by have := (List.getElem?_eq_some_iff.mp e1).1; omega
  obtain ⟨v, h1, h2⟩ := kvp_at' r e1
  refine ⟨⟨g2 _ _ (g1 _ _ h), hi⟩, fun w H' ⟨T, k2, v2, e3, e4, e5, e6⟩ => ?_⟩
  subst e4; subst e6
  rw [h1] at e3
  cases e3
  exact pair_ext g2 e5 (dp_key k) (dp_mono g1 h2)
theorem yields_vals {K : PySem.W.Frag} {G : Hp} {p : Addr} {od : Obj} {ms : List (Key × V)} {kvs : List (Key × D)} (h : G p = some (.frz od (.dK ms))) (r : KVp K G ms kvs) : Yields K (Itd p od ms) G (valsD kvs) := by
  have hl := kvp_len r
  refine ⟨fun i d e G1 H1 g1 g2 => ?_, fun G1 H1 g1 g2 => ⟨g2 _ _ (g1 _ _ h), by unfold valsD; rw [List.length_map]; omega⟩⟩
  unfold valsD at e
  rw [List.getElem?_map] at e
  obtain ⟨⟨k, z⟩, e1, rfl⟩ := Option.map_eq_some_iff.mp e
  have hi : i < ms.length := by have := (List.getElem?_eq_some_iff.mp e1).1; omega
  obtain ⟨v, h1, h2⟩ := kvp_at' r e1
  refine ⟨⟨g2 _ _ (g1 _ _ h), hi⟩, fun w H' ⟨e2, k2, e3⟩ => ?_⟩
  subst e2
  rw [h1] at e3
  cases e3
  exact ⟨G1, Ext.refl g2, dp_mono g1 h2⟩
def iLkI (a : EM) : IM := fun st => match a st with
  | some (.tmp (.fz d), st1) => match unl d with
    | some kvs => some (itemsP kvs, st1)
    | none => none
  | _ => none
def iLkV (a : EM) : IM := fun st => match a st with
  | some (.tmp (.fz d), st1) => match unl d with
    | some kvs => some (valsD kvs, st1)
    | none => none
  | _ => none
theorem sim_lkItems {K : PySem.W.Frag} {t : TE} {a : EM} (ha : SimE K t a) : SimI K (iItems t) (iLkI a) := by
  intro st σ G H ds st' r h R q
  unfold iLkI at h
  split at h
  · rename_i d st1 e1
    split at h
    · rename_i kvs e2
      cases h
      refine ha st σ G H _ _ r e1 _ fun v G1 H1 r1 s1 o1 => ?_
      have o1 : Dp K G1 v d := o1
      rw [unl_eq e2] at o1
      obtain ⟨p, o, ws, rfl, h1, h2⟩ := dp_lock o1
      exact ⟨p, o, ws, rfl, r1.ex _ _ h1, q _ G1 H1 r1 s1 (yields_items h1 h2)⟩
    · cases h
  · cases h
theorem sim_lkVals {K : PySem.W.Frag} {t : TE} {a : EM} (ha : SimE K t a) : SimI K (iVals t) (iLkV a) := by
  intro st σ G H ds st' r h R q
  unfold iLkV at h
  split at h
  · rename_i d st1 e1
    split at h
    · rename_i kvs e2
      cases h
      refine ha st σ G H _ _ r e1 _ fun v G1 H1 r1 s1 o1 => ?_
      have o1 : Dp K G1 v d := o1
      rw [unl_eq e2] at o1
      obtain ⟨p, o, ws, rfl, h1, h2⟩ := dp_lock o1
      exact ⟨p, o, ws, rfl, r1.ex _ _ h1, q _ G1 H1 r1 s1 (yields_vals h1 h2)⟩
    · cases h
  · cases h
section
variable {X : Cx} {tg e : Expr} {t : TE} {a : EM} {apos cpos tpos : Pos} {elts : List Expr} {kk : Nat}
theorem si_lkI (ha : SE X e t a) (hbase : attributeBase e "items" X.env (eval e X.env) = eval e X.env := by rfl) (hline : (apos.endLine == cpos.line) = true := by rfl) : SI X (.Tuple elts kk tpos) (.Call (.Attribute e "items" apos) [] [] cpos) (iItems t) (iLkI a) := ⟨pi_items ha.pe hbase hline, sim_lkItems ha.sim⟩
theorem si_lkV (ha : SE X e t a) (hbase : attributeBase e "values" X.env (eval e X.env) = eval e X.env := by rfl) (hline : (apos.endLine == cpos.line) = true := by rfl) : SI X tg (.Call (.Attribute e "values" apos) [] [] cpos) (iVals t) (iLkV a) := ⟨pi_values ha.pe hbase hline, sim_lkVals ha.sim⟩
end

/-! ### reversed, of a list or a tuple -/
theorem yields_rev {K : PySem.W.Frag} {G0 : Hp} {a : Addr} {vs : List V} {ds : List D} (h : SqL K G0 a vs) (hd : DpAll K G0 vs ds) : Yields K (Itv K a vs.length) G0 ds.reverse := by
  have hl := dpa_len hd
  refine ⟨fun i d e G H g1 g2 => ?_, fun G H g1 g2 => by show vs.length ≤ ds.reverse.length; rw [List.length_reverse, hl]; exact Nat.le_refl _⟩
  have hi : i < ds.length := by have := (List.getElem?_eq_some_iff.mp e).1; rwa [List.length_reverse] at this
  rw [List.getElem?_reverse hi] at e
  obtain ⟨v, h1, h2⟩ := dpa_get' hd e
  have e0 : ds.length - 1 - i = vs.length - 1 - i := by rw [hl]
  rw [e0] at h1
  refine ⟨⟨by rw [hl]; exact hi, vs, v, (g1.trans g2).seq h, h1⟩, fun w H' ⟨e1, e2⟩ => ?_⟩
  subst e1
  have := e2 vs ((g1.trans g2).seq h)
  rw [h1] at this; cases this
  exact ⟨G, Ext.refl g2, dp_mono g1 h2⟩
theorem yields_revT {K : PySem.W.Frag} {G0 : Hp} {a : Addr} {vs : List V} {ds : List D} (h : SqT K G0 a vs) (hd : DpAll K G0 vs ds) : Yields K (ItvT K a vs.length) G0 ds.reverse := by
  have hl := dpa_len hd
  refine ⟨fun i d e G H g1 g2 => ?_, fun G H g1 g2 => by show vs.length ≤ ds.reverse.length; rw [List.length_reverse, hl]; exact Nat.le_refl _⟩
  have hi : i < ds.length := by have := (List.getElem?_eq_some_iff.mp e).1; rwa [List.length_reverse] at this
  rw [List.getElem?_reverse hi] at e
  obtain ⟨v, h1, h2⟩ := dpa_get' hd e
  have e0 : ds.length - 1 - i = vs.length - 1 - i := by rw [hl]
  rw [e0] at h1
  refine ⟨⟨by rw [hl]; exact hi, vs, v, Evl.ex_t (g1.trans g2) h, h1⟩, fun w H' ⟨e1, e2⟩ => ?_⟩
  subst e1
  have := e2 vs (Evl.ex_t (g1.trans g2) h)
  rw [h1] at this; cases this
  exact ⟨G, Ext.refl g2, dp_mono g1 h2⟩
def iRevS (a : EM) : IM := fun st => match eFrz a st with
  | some (.tmp (.fz (.list ds)), st1) => some (ds.reverse, st1)
  | some (.tmp (.fz (.tuple ds)), st1) => some (ds.reverse, st1)
  | _ => none
theorem sim_rev {K : PySem.W.Frag} {t : TE} {a : EM} (ha : SimE K t a) : SimI K (iRevA K t) (iRevS a) := by
  intro st σ G H ds st' r h R q
  have hf := sim_frz ha
  unfold iRevS at h
  split at h
  · rename_i xs st1 e1
    cases h
    refine hf st σ G H _ _ r e1 _ fun v G1 H1 r1 s1 o1 => ?_
    have o1 : Dp K G1 v (.list xs) := o1
    obtain ⟨b, us, rfl, h1, h2⟩ := dp_list o1
    exact ⟨b, us, rfl, .inl ⟨r1.ex.seq h1, q _ G1 H1 r1 s1 (yields_rev h1 h2)⟩⟩
  · rename_i xs st1 e1
    cases h
    refine hf st σ G H _ _ r e1 _ fun v G1 H1 r1 s1 o1 => ?_
    have o1 : Dp K G1 v (.tuple xs) := o1
    obtain ⟨b, us, rfl, h1, h2⟩ := dp_tuple o1
    exact ⟨b, us, rfl, .inr ⟨Evl.ex_t r1.ex h1, q _ G1 H1 r1 s1 (yields_revT h1 h2)⟩⟩
  · cases h
theorem si_rev {X : Cx} {tg e : Expr} {t : TE} {a : EM} {p pos : Pos} (hg : Gl X "reversed") (hm : X.mg "reversed" = none) (ha : SE X e t a) (hs : starEach [e] X.env = (false, eval e X.env) :: starEach [] X.env := by rfl) : SI X tg (.Call (.Name "reversed" p) [e] [] pos) (iRevA X.K t) (iRevS a) := ⟨pi_revA hg hm ha.pe hs, sim_rev ha.sim⟩
end Sh

namespace Sh
open PySem PySem.Spec L2 PyProof.Rows

/-! ### xs[::-1] -/
section
variable {prog : Program} {w : World} {A : Around} {E : Value → Shared → Prop} {s : Shared}
theorem applied_rev {sl : Addr} {vl vu vs : Value} {n : Nat} {Q : Int × Int × Nat → Shared → Prop} (hs : s.heap.IsSliceOf sl vl vu vs) (pl : IsPart vl none) (pu : IsPart vu none) (ps : IsPart vs (some (-1)))
    (h : Q ((n : Int) - 1, -1, n) s) : wpAny (model prog w) A (Builtin.Slice.sliceApplied (.ref sl) (pure (n : Int))) Q E s := by
  obtain ⟨os, hos, hcs, hds⟩ := id hs
  unfold Builtin.Slice.sliceApplied Builtin.Slice.sliceFields
  refine wpAny_bind (wpAny_bind (wpAny_field hos hds (x := vl) rfl (wpAny_bind (wpAny_field hos hds (x := vu) rfl (wpAny_bind (wpAny_field hos hds (x := vs) rfl (wpAny_pure ?_)))))))
  refine wpAny_bind (HT.slicePart_ ps ?_)
  show wpAny _ _ (if ((-1 : Int) == 0) = true then _ else _) _ _ s
  rw [if_neg (by decide)]
  refine wpAny_bind (HT.slicePart_ pl (wpAny_bind (HT.slicePart_ pu (wpAny_bind (wpAny_pure ?_)))))
  show wpAny _ _ (match Builtin.Slice.sliceAdjust none none (-1) (n : Int) with | (lo, hi) => pure (lo, (-1 : Int), Builtin.Slice.slicePlaces lo hi (-1))) _ _ s
  have e1 : Builtin.Slice.sliceAdjust none none (-1) (n : Int) = ((n : Int) - 1, -1) := rfl
  rw [e1]
  show wpAny _ _ (pure ((n : Int) - 1, (-1 : Int), Builtin.Slice.slicePlaces ((n : Int) - 1) (-1) (-1))) _ _ s
  have e2 : Builtin.Slice.slicePlaces ((n : Int) - 1) (-1) (-1) = n := by
    unfold Builtin.Slice.slicePlaces
    rw [if_neg (by omega)]
    by_cases h0 : (n : Int) - 1 > -1
    · rw [if_pos h0, show (-(-1 : Int)) = 1 from rfl, Int.ediv_one]; omega
    · rw [if_neg h0]; omega
  rw [e2]
  exact wpAny_pure h
theorem pick_rev (xs : Array Value) : ((List.range xs.size).filterMap fun (m : Nat) => xs[((xs.size : Int) - 1 + (m : Int) * -1).toNat]?).toArray = xs.toList.reverse.toArray := by
  congr 1
  have e : (fun (m : Nat) => xs[((xs.size : Int) - 1 + (m : Int) * -1).toNat]?) = fun m => xs[xs.size - 1 - m]? := by
    funext m
    have : ((xs.size : Int) - 1 + (m : Int) * -1).toNat = xs.size - 1 - m := by omega
    rw [this]
  rw [e]
  apply List.ext_getElem?
  intro i
  have key : ∀ k, k ≤ xs.size → (List.range k).filterMap (fun m => xs[xs.size - 1 - m]?) = xs.toList.reverse.take k := by
    intro k
    induction k with
    | zero => intro _; rfl
    | succ k ih =>
      intro hk
      rw [List.range_succ, List.filterMap_append, ih (by omega), List.take_add_one]
      congr 1
      have h1 : xs[xs.size - 1 - k]? = some xs[xs.size - 1 - k] := Array.getElem?_eq_getElem (by omega)
      rw [List.filterMap_cons, h1, List.filterMap_nil]
      have h2 : xs.toList.reverse[k]? = some xs[xs.size - 1 - k] := by
        rw [List.getElem?_reverse (by rw [Array.length_toList]; omega), Array.length_toList, Array.getElem?_toList, h1]
      rw [h2]; rfl
  rw [key xs.size (Nat.le_refl _), List.take_of_length_le (by rw [List.length_reverse, Array.length_toList]; exact Nat.le_refl _)]
theorem getItem_tuple_rev {t sl : Addr} {items : Array Value} {vl vu vs : Value} {Q : Value → Shared → Prop} (ht : IsTup s.heap t items) (hs : s.heap.IsSliceOf sl vl vu vs) (pl : IsPart vl none) (pu : IsPart vu none) (ps : IsPart vs (some (-1)))
    (h : Q (.ref s.heap.objs.size) { s with heap := s.heap.push { cls := .type "tuple", data := .seq items.toList.reverse.toArray } })
    (hsz : items.size ≤ sizeLine) : wpAny (model prog w) A (getItem (.ref t) (.ref sl)) Q E s := by
  have htake : sizeOk (.seq items.toList.reverse.toArray) := by
    show items.toList.reverse.toArray.size ≤ sizeLine
    rw [List.size_toArray, List.length_reverse, Array.length_toList]
    exact hsz
  obtain ⟨os, hos, hcs, hds⟩ := id hs
  have hTs : s.TypeIs (.ref sl) "slice" := ⟨os, hos, hcs⟩
  unfold getItem
  try with_reducible refine wpAny_holding ?_
  first | refine wpAny_bind (wpAny_pure ?_) | skip
  refine wpAny_bind (wpAny_sequenceKey ht.typeIs (by decide) ?_)
  refine wpAny_bind (wpAny_callSpecial?_slot (name := Str.ofString "__getitem__") ht.typeIs PyProof.Rows.slot_tuple_getitem
    (wpAny_call_entry PyProof.Rows.slot_tuple_getitem ht.typeIs entry_tuple_getitem ?_ (args_tuple_getitem _ _)))
  show wpAny _ _ (Builtin.Tuple.tupleItemsOf (.ref t) >>= _) _ _ s
  refine wpAny_bind (tupleItemsOf_ ht ?_)
  refine wpAny_bind (wpAny_typeOf hTs ?_)
  rw [if_pos (by decide)]
  refine wpAny_bind (applied_rev hs pl pu ps ?_)
  have hno : ¬ ((((items.size : Int) - 1) == 0 && (-1 : Int) == 1 && items.size == items.size) = true) := by
    rw [show ((-1 : Int) == 1) = false from rfl, Bool.and_false, Bool.false_and]
    exact Bool.false_ne_true
  show wpAny _ _ (if (((items.size : Int) - 1) == 0 && (-1 : Int) == 1 && items.size == items.size) = true then _ else _) _ _ s
  rw [if_neg hno, pick_rev]
  first
    | exact wpAny_bind (m := Builtin.Tuple.tupleExact _) (wpAny_newObj_type (wpAny_pure ⟨_, rfl, wpAny_pure h⟩) htake)
    | exact wpAny_bind (m := Builtin.Tuple.tupleExact _) (wpAny_newObj_type (wpAny_bind (wpAny_pure (wpAny_pure ⟨_, rfl, wpAny_pure h⟩))) htake)
    | exact wpAny_bind (wpAny_bind (m := Builtin.Tuple.tupleExact _) (wpAny_newObj_type (wpAny_pure (wpAny_pure ⟨_, rfl, wpAny_pure h⟩)) htake))
    | exact wpAny_bind (wpAny_bind (m := Builtin.Tuple.tupleExact _) (wpAny_newObj_type (wpAny_pure ⟨_, rfl, wpAny_pure h⟩) htake))
end
def tRevT (K : PySem.W.Frag) (te : TE) : TE := fun σ H Q => te σ H fun x H1 => ∃ a xs, x = .ref a ∧ SqT K H1 a xs ∧ NewT H1 xs.reverse Q
theorem pe_revT {X : Cx} {e : Expr} {te : TE} {k : Nat} {p1 p2 p3 pos : Pos} (he : PE X e te) : PE X (.Subscript e (.Slice none none (some (.UnaryOp .USub (.Constant (.int 1) k p1) p2)) p3) pos) (tRevT X.K te) := by
  refine ⟨fun pins s σ H Q I h => ?_⟩
  refine Subscript_ (thn (he.run pins s σ H _ I h) fun v s1 ⟨x, H1, I1, r1, q1⟩ => ?_)
  obtain ⟨a, xs, ex, hx, q⟩ := q1
  subst ex
  cases r1
  have hst : PO X (some (.UnaryOp .USub (.Constant (.int 1) k p1) p2)) (tPart (tUn (rU fun i => .int (-i)) (tC (.int 1)))) := po_some (pe_un un_neg pe_int)
  refine wpAny_Slice (thn (po_none.run pins s1 σ H1 (fun o H2 => o = none ∧ H2 = H1) I1 ⟨rfl, rfl⟩) fun vl s2 ⟨l, H2, I2, pl, el, e2⟩ => ?_)
  subst el e2
  refine thn (po_none.run pins s2 σ H2 (fun o H3 => o = none ∧ H3 = H2) I2 ⟨rfl, rfl⟩) fun vu s3 ⟨u, H3, I3, pu, eu, e3⟩ => ?_
  subst eu e3
  refine thn (hst.run pins s3 σ H3 (fun o H4 => o = some (-1) ∧ H4 = H3) I3 ⟨1, rfl, -1, rfl, rfl, rfl⟩) fun vs s4 ⟨o, H4, I4, ps, eo, e4⟩ => ?_
  subst eo e4
  have I5 : Inv X pins σ H4 { s4 with heap := s4.heap.push { cls := .type "slice", data := .fields #[vl, vu, vs] } } := I4.kept (t' := s4.toks) fun b ob q => Heap.get?_push_of_some _ q
  obtain ⟨its, r, ht, hz⟩ := I5.tuple hx
  have hlen := r.length
  show wpAny (model X.prog X.w) X.A (subscriptTail e (.Slice none none (some (.UnaryOp .USub (.Constant (.int 1) k p1) p2)) p3) (.ref a) (.ref s4.heap.objs.size)) (EP X pins σ Q) X.xe { s4 with heap := s4.heap.push { cls := .type "slice", data := .fields #[vl, vu, vs] } }
  refine tail_any (ops := [.ref a, .ref s4.heap.objs.size]) ht.typeIs (PyProof.Rows.slot_tuple_getitem.lookup) ?_ (by with_unfolding_all rfl)
  refine getItem_tuple_rev ht (Heap.IsSliceOf.new _ vl vu vs) pl pu ps ?_ (by rw [List.size_toArray]; omega)
  exact newT_laid I5 r.reverse (by rw [List.length_reverse]; exact hz) q
theorem pe_orE {X : Cx} {e : Expr} {t u : TE} (h : PE X e t) (h' : PE X e u) : PE X e (fun σ H Q => t σ H Q ∨ u σ H Q) :=
  ⟨fun pins s σ H Q I q => q.elim (h.run pins s σ H Q I) (h'.run pins s σ H Q I)⟩
/-- what [::-1] makes of it -/
def revS : Sl → Option Sl
  | .fz (.tuple ds) => some (.fz (.tuple ds.reverse))
  | s => match s.l with
    | some ds => some (.ow ds.reverse)
    | none => none
theorem dpa_rev {K : PySem.W.Frag} {G : Hp} {vs : List V} {ds : List D} (h : DpAll K G vs ds) : DpAll K G vs.reverse ds.reverse := by
  have app : ∀ {vs ws : List V} {ds es : List D}, DpAll K G vs ds → DpAll K G ws es → DpAll K G (vs ++ ws) (ds ++ es) := by
    intro vs ws ds es h k
    induction vs generalizing ds with
    | nil => cases h; exact k
    | cons v vs ih => cases h with
      | cons h t => exact .cons h (ih t)
  induction vs generalizing ds with
  | nil => cases h; exact .nil
  | cons v vs ih =>
    cases h with
    | cons h t =>
      rw [List.reverse_cons, List.reverse_cons]
      exact app (ih t) (.cons h .nil)
def eRev (a : EM) : EM := fun st => match a st with
  | some (o, st1) => match o.get st1 with
    | some s => match revS s with
      | some z => some (.tmp z, st1)
      | none => none
    | none => none
  | none => none
theorem sim_revE {K : PySem.W.Frag} {t : TE} {a : EM} (ha : SimE K t a) : SimE K (fun σ H Q => tRevL K t σ H Q ∨ tRevT K t σ H Q) (eRev a) := by
  intro st σ G H o st' r h Q q
  unfold eRev at h
  split at h
  · rename_i x st1 e1
    split at h
    · rename_i s e2
      split at h
      · rename_i z e3
        cases h
        have key : ∀ (tup : Bool), (tup = true ↔ ∃ ds, s = .fz (.tuple ds)) → (if tup then tRevT K t σ H Q else tRevL K t σ H Q) := by
          intro tup ht
          cases tup with
          | true =>
            obtain ⟨ds, rfl⟩ := ht.mp rfl
            cases e3
            refine ha st σ G H x _ r e1 _ fun v G1 H1 r1 s1 o1 => ?_
            obtain ⟨b, vs, rfl, h1, h1', h2⟩ := look_tup r1.ex (o1.look r1 (by simp) e2)
            exact ⟨b, vs, rfl, h1, ans_tup r1.ex (dpa_rev h2) fun w G4 H4 x4 f4 => q w G4 H4 (r1.ext x4) (s1.trans x4.step) (VRel.back (Fresh.vrel f4 r1) s1)⟩
          | false =>
            have hl : ∃ ds, s.l = some ds ∧ z = .ow ds.reverse := by
              unfold revS at e3
              split at e3
              · exact (Bool.false_ne_true (ht.mpr ⟨_, rfl⟩)).elim
              · split at e3
                · rename_i ds hl; cases e3; exact ⟨ds, hl, rfl⟩
                · cases e3
            obtain ⟨ds, hl, rfl⟩ := hl
            refine ha st σ G H x _ r e1 _ fun v G1 H1 r1 s1 o1 => ?_
            have n : s ≠ .un := fun z => by subst z; cases hl
            obtain ⟨b, vs, rfl, h1, h2⟩ := look_l r1.ex (o1.look r1 n e2) hl
            exact ⟨b, vs, rfl, h1, fun p hp => ans_ow r1.ex (dpa_rev h2) (fun w G4 H4 x4 f4 => q w G4 H4 (r1.ext x4) (s1.trans x4.step) (VRel.back (Fresh.vrel f4 r1) s1)) hp⟩
        by_cases c : ∃ ds, s = .fz (.tuple ds)
        · exact .inr (key true ⟨fun _ => c, fun _ => rfl⟩)
        · exact .inl (key false ⟨fun z => (by cases z), fun z => (c z).elim⟩)
      · cases h
    · cases h
  · cases h
theorem se_revE {X : Cx} {e : Expr} {t : TE} {a : EM} {k : Nat} {p1 p2 p3 pos : Pos} (ha : SE X e t a) : SE X (.Subscript e (.Slice none none (some (.UnaryOp .USub (.Constant (.int 1) k p1) p2)) p3) pos) (fun σ H Q => tRevL X.K t σ H Q ∨ tRevT X.K t σ H Q) (eRev a) :=
  ⟨pe_orE (pe_revL ha.pe) (pe_revT ha.pe), sim_revE ha.sim⟩

/-! ### min, max, sum of whole numbers -/
def intsO : List D → Option (List Int)
  | [] => some []
  | .int i :: r => (intsO r).map fun is => i :: is
  | _ => none
theorem ints_ok {K : PySem.W.Frag} {G : Hp} : ∀ {vs : List V} {ds : List D} {is : List Int}, DpAll K G vs ds → intsO ds = some is → vs = is.map V.int
  | [], [], is, _, e => by cases e; rfl
  | _, d :: ds, is, h, e => by
    cases h with
    | cons h t =>
      cases d <;> try cases e
      rename_i i
      obtain ⟨js, e1, rfl⟩ := Option.map_eq_some_iff.mp (show (intsO ds).map (fun is => i :: is) = some is from e)
      rw [List.map_cons, ← ints_ok t e1]
      cases h
      rfl
def maxL : List Int → Option Int
  | [] => none
  | i :: is => some (is.foldl (fun a b => if a < b then b else a) i)
def minL : List Int → Option Int
  | [] => none
  | i :: is => some (is.foldl (fun a b => if b < a then b else a) i)
theorem max_at : ∀ (is : List Int) (i : Int), (is.foldl (fun a b => if a < b then b else a) i ∈ i :: is) ∧ ∀ y ∈ i :: is, y ≤ is.foldl (fun a b => if a < b then b else a) i
  | [], i => ⟨by simp, by simp⟩
  | j :: is, i => by
    obtain ⟨h1, h2⟩ := max_at is (if i < j then j else i)
    rw [List.foldl_cons]
    refine ⟨?_, fun y hy => ?_⟩
    · rcases List.mem_cons.mp h1 with h | h
      · rw [h]; split <;> simp
      · exact List.mem_cons_of_mem _ (List.mem_cons_of_mem _ h)
    · have h3 := h2 _ List.mem_cons_self
      rcases List.mem_cons.mp hy with rfl | hy
      · refine Int.le_trans ?_ h3; split <;> omega
      · rcases List.mem_cons.mp hy with rfl | hy
        · refine Int.le_trans ?_ h3; split <;> omega
        · exact h2 y (List.mem_cons_of_mem _ hy)
theorem min_at : ∀ (is : List Int) (i : Int), (is.foldl (fun a b => if b < a then b else a) i ∈ i :: is) ∧ ∀ y ∈ i :: is, is.foldl (fun a b => if b < a then b else a) i ≤ y
  | [], i => ⟨by simp, by simp⟩
  | j :: is, i => by
    obtain ⟨h1, h2⟩ := min_at is (if j < i then j else i)
    rw [List.foldl_cons]
    refine ⟨?_, fun y hy => ?_⟩
    · rcases List.mem_cons.mp h1 with h | h
      · rw [h]; split <;> simp
      · exact List.mem_cons_of_mem _ (List.mem_cons_of_mem _ h)
    · have h3 := h2 _ List.mem_cons_self
      rcases List.mem_cons.mp hy with rfl | hy
      · refine Int.le_trans h3 ?_; split <;> omega
      · rcases List.mem_cons.mp hy with rfl | hy
        · refine Int.le_trans h3 ?_; split <;> omega
        · exact h2 y (List.mem_cons_of_mem _ hy)
def aggF (f : List Int → Option Int) : Sl → Option Sl := fun s => match s.l with
  | some ds => match intsO ds with
    | some is => match f is with
      | some i => some (.fz (.int i))
      | none => none
    | none => none
  | none => none
theorem ok_agg {K : PySem.W.Frag} {f : List Int → Option Int} {R : List V → Hp → VK → Prop} (c : ∀ (a : Addr) (ns : List Int) (i : Int) (H : Hp) (Q : VK), f ns = some i → SqL K H a (ns.map V.int) → Q (.int i) H → R [V.ref a] H Q) : CallOk K R (one (aggF f)) := by
  intro G H xs ss z e l hz0 Q q
  obtain ⟨s, rfl, hz⟩ := one_inv hz0
  obtain ⟨x, rfl, lx⟩ := looks1 l
  unfold aggF at hz
  split at hz
  · rename_i ds hs
    split at hz
    · rename_i is hb
      split at hz
      · rename_i i hi
        cases hz
        obtain ⟨a, vs, rfl, h1, h2⟩ := look_l e lx hs
        have e2 := ints_ok h2 hb
        subst e2
        exact c a is i H Q hi h1 (ans_fz e (.int _) q)
      · cases hz
    · cases hz
  · cases hz
theorem ok_sum {K : PySem.W.Frag} : CallOk K (rSum K) (one (aggF fun is => some is.sum)) := ok_agg fun a ns i H Q e h q => by cases e; exact ⟨a, ns, rfl, h, q⟩
theorem ok_max {K : PySem.W.Frag} : CallOk K (rMax K) (one (aggF maxL)) := ok_agg fun a ns i H Q e h q => by
  cases ns with
  | nil => cases e
  | cons n ns =>
    cases e
    obtain ⟨h1, h2⟩ := max_at ns n
    refine ⟨a, n :: ns, rfl, h, by simp, fun m hm hle => ?_⟩
    have : m = ns.foldl (fun a b => if a < b then b else a) n := Int.le_antisymm (h2 m hm) (hle _ h1)
    rw [this]; exact q
theorem ok_min {K : PySem.W.Frag} : CallOk K (rMin K) (one (aggF minL)) := ok_agg fun a ns i H Q e h q => by
  cases ns with
  | nil => cases e
  | cons n ns =>
    cases e
    obtain ⟨h1, h2⟩ := min_at ns n
    refine ⟨a, n :: ns, rfl, h, by simp, fun m hm hle => ?_⟩
    have : m = ns.foldl (fun a b => if b < a then b else a) n := Int.le_antisymm (hle _ h1) (h2 m hm)
    rw [this]; exact q
end Sh

namespace Sh
open PySem PySem.Spec L2

section
variable {X : Cx} {p pos : Pos} {e : Expr} {t : TA} {a : AM}
theorem se_sum (hc : X.calm = true) (hg : Gl X "sum") (hm : X.mg "sum" = none) (ha : SA X [e] t a) (he : starEach [e] X.env = (false, eval e X.env) :: starEach [] X.env := by rfl) : SE X (.Call (.Name "sum" p) [e] [] pos) (tCB (rSum X.K) t) (eFn (one (aggF fun is => some is.sum)) a) := se_callB (cr_sum hc) ok_sum hg hm (by decide +kernel) ha (he := he)
theorem se_max (hc : X.calm = true) (hg : Gl X "max") (hm : X.mg "max" = none) (ha : SA X [e] t a) (he : starEach [e] X.env = (false, eval e X.env) :: starEach [] X.env := by rfl) : SE X (.Call (.Name "max" p) [e] [] pos) (tCB (rMax X.K) t) (eFn (one (aggF maxL)) a) := se_callB (cr_max hc) ok_max hg hm (by decide +kernel) ha (he := he)
theorem se_min (hc : X.calm = true) (hg : Gl X "min") (hm : X.mg "min" = none) (ha : SA X [e] t a) (he : starEach [e] X.env = (false, eval e X.env) :: starEach [] X.env := by rfl) : SE X (.Call (.Name "min" p) [e] [] pos) (tCB (rMin X.K) t) (eFn (one (aggF minL)) a) := se_callB (cr_min hc) ok_min hg hm (by decide +kernel) ha (he := he)
end

/-! ### list(a dict): its keys -/
def listDF : Sl → Option Sl
  | .od kvs => some (.ow (keysD kvs))
  | _ => none
theorem dpa_keys {K : PySem.W.Frag} {G : Hp} : ∀ {ws : List (Key × V)} {kvs : List (Key × D)}, KVp K G ws kvs → DpAll K G (ws.map fun kv => kV kv.1) (keysD kvs)
  | _, _, .nil => .nil
  | (k, v) :: ws, (q, d) :: kvs, .cons r t => by
    have e : k = q := r.1
    subst e
    exact .cons (dp_key k) (dpa_keys t)
theorem ok_listD {K : PySem.W.Frag} : CallOk K rListD (one listDF) := by
  intro G H xs ss z e l hz0 Q q
  obtain ⟨s, rfl, hz⟩ := one_inv hz0
  obtain ⟨x, rfl, lx⟩ := looks1 l
  unfold listDF at hz
  split at hz
  · rename_i kvs
    cases hz
    obtain ⟨p, ws, rfl, h1, h2⟩ := look_od lx
    exact ⟨p, ws, rfl, h1, fun p' hp => ans_ow e (dpa_keys h2) q hp⟩
  · cases hz
theorem se_listD {X : Cx} {p pos : Pos} {e : Expr} {t : TA} {a : AM} (hc : X.calm = true) (hg : Gl X "list") (hm : X.mg "list" = none) (ha : SA X [e] t a) (he : starEach [e] X.env = (false, eval e X.env) :: starEach [] X.env := by rfl) : SE X (.Call (.Name "list" p) [e] [] pos) (tCB rListD t) (eFn (one listDF) a) := se_callTy (call_list_dK hc) ok_listD hg hm (by decide +kernel) ha (he := he)

/-! ### d.setdefault(k, x) -/
def eSetd (i : Nat) (b c : EM) : EM := fun st => match st[i]? with
  | some (.od _) => match b st with
    | some (.tmp (.fz d), st1) => match c st1 with
      | some (.tmp (.fz x), st2) => match toKey d, st2[i]? with
        | some k, some (.od kvs) => if kvs.length < 100000 then match dget kvs k with
          | some y => some (.tmp (.fz y), st2)
          | none => some (.tmp (.fz x), st2.set i (.od (dput kvs k x))) else none
        | _, _ => none
      | _ => none
    | _ => none
  | _ => none
theorem sim_setd {K : PySem.W.Frag} {i : Nat} {b c : EM} {tb tc : TE} (hb : SimE K tb b) (hc : SimE K tc c) : SimE K (tDSetd (tVar i) tb tc) (eSetd i b c) := by
  intro st σ G H o st' r h Q q
  unfold eSetd at h
  split at h
  · rename_i kvs0 e0
    split at h
    · rename_i d st1 e1
      split at h
      · rename_i x st2 e2
        split at h
        · rename_i k kvs hk e3
          split at h
          · rename_i hl
            obtain ⟨p, h1, _, ws, h2, _⟩ := r.getMt e0 rfl
            refine ⟨.ref p, h1, p, rfl, .inl ⟨ws, .inl h2⟩, ?_⟩
            refine hb st σ G H _ _ r e1 _ fun u G1 H1 r1 s1 o1 => ?_
            refine hc _ σ G1 H1 _ _ r1 e2 _ fun v G2 H2 r2 s2 o2 => ?_
            obtain ⟨p', g1, gn, ws1, g2, g3, g4⟩ := r2.getMt e3 rfl
            rw [h1] at g1
            cases g1
            have l1 : Dp K G1 u d := o1
            have l2 : Dp K G2 v x := o2
            have ek := toKey_ok l1 hk
            subst ek
            refine ⟨ws1, k, g2, rfl, Evl.sz_lt (by rw [kvp_len g3]; exact hl), fun w hw => ?_, fun hn => ?_⟩
            · rcases kvp_get (k := k) g3 with ⟨z1, z2⟩ | ⟨v', d', z1, z2, z3⟩
              · rw [z1] at hw; cases hw
              · rw [z1] at hw; cases hw
                rw [z2] at h
                cases h
                exact q _ G2 H2 r2 (s1.trans s2) z3
            · rcases kvp_get (k := k) g3 with ⟨z1, z2⟩ | ⟨v', d', z1, z2, z3⟩
              · rw [z2] at h
                cases h
                have b1 : Bears K G2 (upd H2 p (.dK (putK ws1 k v))) p (.od (dput kvs k x)) := ⟨_, upd_same, kvp_put l2 g3 g4, nd_put _ _ _ g4⟩
                exact q _ G2 _ (r2.mutate e3 rfl h1 gn b1) (s1.trans (s2.trans (Step.mutate ⟨i, _, e3, rfl, h1⟩ g2 fun a z => own_set_mut e3 rfl h1 z))) l2
              · rw [z1] at hn; cases hn
          · cases h
        · cases h
      · cases h
    · cases h
  · cases h
section
variable {X : Cx} {e f : Expr} {apos cpos npos : Pos} {tb tc : TE} {b c : EM} {i : Nat} {xn : Str}
theorem se_setd (ho : SE X (.Name xn npos) (tVar i) (eVar i)) (hb : SE X e tb b) (hc : SE X f tc c) (m : M2 X (.Name xn npos) "setdefault" apos e f cpos := by exact ⟨by rfl, by rfl, by rfl, by rfl⟩) :
    SE X (.Call (.Attribute (.Name xn npos) "setdefault" apos) [e, f] [] cpos) (tDSetd (tVar i) tb tc) (eSetd i b c) := ⟨pe_dsetd ho.pe hb.pe hc.pe m, sim_setd hb.sim hc.sim⟩
end

/-! ### e.get(k, x) of any dict, also of a locked one -/
def kvO : Sl → Option (List (Key × D))
  | .od kvs => some kvs
  | .fz d => unl d
  | _ => none
theorem look_kv {K : PySem.W.Frag} {G H : Hp} {s : Sl} {v : V} {kvs : List (Key × D)} (e : Same G H) (l : Look K G H s v) (h : kvO s = some kvs) : ∃ p ws, v = .ref p ∧ KVp K G ws kvs ∧ IsD H p ∧ ∀ k, DGet H p (kV k) (valV ws k) := by
  cases s with
  | od xs =>
    cases h
    obtain ⟨p, ws, rfl, h1, h2⟩ := look_od l
    exact ⟨p, ws, rfl, h2, .inl ⟨ws, .inl h1⟩, fun k => DGet.k h1⟩
  | fz d =>
    have h : unl d = some kvs := h
    have l : Dp K G v d := l
    rw [unl_eq h] at l
    obtain ⟨a, o, ws, rfl, h1, h2⟩ := dp_lock l
    exact ⟨a, ws, rfl, h2, .inl ⟨ws, .inr ⟨o, e _ _ h1⟩⟩, fun k => .inl ⟨ws, k, .inr ⟨o, e _ _ h1⟩, rfl, rfl⟩⟩
  | _ => cases h
def eGetO (a b c : EM) : EM := fun st => match a st with
  | some (o, st0) => match o.get st0 with
    | some s0 => match kvO s0 with
      | some _ => match b st0 with
        | some (.tmp (.fz d), st1) => match c st1 with
          | some (.tmp (.fz x), st2) => match o.get st2 with
            | some s => match toKey d, kvO s with
              | some k, some kvs => some (.tmp (.fz (getOr kvs k x)), st2)
              | _, _ => none
            | none => none
          | _ => none
        | _ => none
      | none => none
    | none => none
  | none => none
theorem kv_un {s : Sl} {kvs : List (Key × D)} (h : kvO s = some kvs) : s ≠ .un := fun z => by subst z; cases h
theorem sim_getO {K : PySem.W.Frag} {a b c : EM} {ta tb tc : TE} (ha : SimE K ta a) (hb : SimE K tb b) (hc : SimE K tc c) : SimE K (tDGet2 ta tb tc) (eGetO a b c) := by
  intro st σ G H o st' r h Q q
  unfold eGetO at h
  split at h
  · rename_i oa st0 e0
    split at h
    · rename_i s0 e1
      split at h
      · rename_i kvs0 e2
        split at h
        · rename_i d st1 e3
          split at h
          · rename_i x st2 e4
            split at h
            · rename_i s e5
              split at h
              · rename_i k kvs hk e6
                cases h
                refine ha st σ G H _ _ r e0 _ fun w G0 H0 r0 s0' o0 => ?_
                obtain ⟨p, ws0, rfl, _, hd, _⟩ := look_kv r0.ex (o0.look r0 (kv_un e2) e1) e2
                refine ⟨p, rfl, hd, ?_⟩
                refine hb _ σ G0 H0 _ _ r0 e3 _ fun u G1 H1 r1 s1 o1 => ?_
                refine hc _ σ G1 H1 _ _ r1 e4 _ fun v G2 H2 r2 s2 o2 => ?_
                have l1 : Dp K G1 u d := o1
                have l2 : Dp K G2 v x := o2
                have ek := toKey_ok l1 hk
                subst ek
                obtain ⟨p', ws, ep, g3, _, g4⟩ := look_kv r2.ex ((o0.step (s1.trans s2)).look r2 (kv_un e6) e5) e6
                cases ep
                exact ⟨_, g4 k, q _ G2 H2 r2 (s0'.trans (s1.trans s2)) (kvp_or g3 k l2)⟩
              · cases h
            · cases h
          · cases h
        · cases h
      · cases h
    · cases h
  · cases h
section
variable {X : Cx} {o e f : Expr} {apos cpos : Pos} {ta tb tc : TE} {a b c : EM}
theorem se_getO (hu : X.A.units + 1 < cLine) (ho : SE X o ta a) (hb : SE X e tb b) (hc : SE X f tc c) (m : M2 X o "get" apos e f cpos := by exact ⟨by rfl, by rfl, by rfl, by rfl⟩) :
    SE X (.Call (.Attribute o "get" apos) [e, f] [] cpos) (tDGet2 ta tb tc) (eGetO a b c) := ⟨pe_dget2 hu ho.pe hb.pe hc.pe m, sim_getO ho.sim hb.sim hc.sim⟩
end

/-! ### k in a locked dict -/
def inL (neg : Bool) : G2 := fun s c => match s, c with
  | .fz k, .fz d => match toKey k, unl d with
    | some key, some kvs => some (.fz (.bool (if neg then !(dget kvs key).isSome else (dget kvs key).isSome)))
    | _, _ => none
  | _, _ => none
theorem inL_inv {neg : Bool} {s c z : Sl} (h : inL neg s c = some z) : ∃ k d key kvs, s = .fz k ∧ c = .fz d ∧ toKey k = some key ∧ unl d = some kvs ∧ z = .fz (.bool (if neg then !(dget kvs key).isSome else (dget kvs key).isSome)) := by
  unfold inL at h
  split at h
  · split at h
    · rename_i h1 h2
      cases h
      exact ⟨_, _, _, _, rfl, rfl, h1, h2, rfl⟩
    · cases h
  · cases h
theorem ok_inL {K : PySem.W.Frag} {neg : Bool} : OpOk K (rInDic neg) (inL neg) := by
  intro G H x y s s' z e lx ly hz Q q
  obtain ⟨k, d, key, kvs, rfl, rfl, hk, hd, rfl⟩ := inL_inv hz
  have dd : Dp K H x k := dp_mono e lx
  have ek := toKey_ok dd hk
  subst ek
  obtain ⟨p, ws, rfl, g3, _, g4⟩ := look_kv e ly (show kvO (.fz d) = some kvs from hd)
  exact ⟨p, _, rfl, g4 key, by rw [kvp_has g3]; exact ans_fz e (.bl _) q⟩
theorem inL1 {neg : Bool} : ∀ s, inL neg .un s = none := by intro s; cases s <;> rfl
theorem inL2 {neg : Bool} : ∀ s, inL neg s .un = none := by intro s; cases s <;> rfl
section
variable {X : Cx} {e e2 : Expr} {ta tb : TE} {a b : EM} {pos : Pos}
theorem se_inL (hu : X.A.units + 65 < cLine) (ha : SE X e ta a) (hb : SE X e2 tb b) (hm : behindInMarks .In e2 = false := by rfl) : SE X (.Compare e [.In] [e2] pos) (tOp (rInDic false) ta tb) (eBin (inL false) a b) := se_cmp (op_inDic (by omega)) ok_inL ha hb hm inL1 inL2
theorem st_inL (hu : X.A.units + 65 < cLine) (ha : SE X e ta a) (hb : SE X e2 tb b) (hm : behindInMarks .In e2 = false := by rfl) : ST X (.Compare e [.In] [e2] pos) (tTest (tOp (rInDic false) ta tb)) (tBl (eBin (inL false) a b)) := st_cmp (op_inDic (by omega)) ok_inL ha hb hm inL1 inL2
theorem se_notinL (hu : X.A.units + 65 < cLine) (ha : SE X e ta a) (hb : SE X e2 tb b) (hm : behindInMarks .NotIn e2 = false := by rfl) : SE X (.Compare e [.NotIn] [e2] pos) (tOp (rInDic true) ta tb) (eBin (inL true) a b) := se_cmp (op_notInDic (by omega)) ok_inL ha hb hm inL1 inL2
theorem st_notinL (hu : X.A.units + 65 < cLine) (ha : SE X e ta a) (hb : SE X e2 tb b) (hm : behindInMarks .NotIn e2 = false := by rfl) : ST X (.Compare e [.NotIn] [e2] pos) (tTest (tOp (rInDic true) ta tb)) (tBl (eBin (inL true) a b)) := st_cmp (op_notInDic (by omega)) ok_inL ha hb hm inL1 inL2
end
end Sh

namespace Sh
open PySem PySem.Spec PyProof.Rows L2

/-! ### a set made of a list of texts -/
def addS1 (ks : List Str) (x : Str) : List Str := if x ∈ ks then ks else ks ++ [x]
def dedL (xs : List Str) : List Str := xs.foldl addS1 []
theorem addS1_len (ks : List Str) (x : Str) : (addS1 ks x).length ≤ ks.length + 1 := by
  unfold addS1
  split
  · omega
  · rw [List.length_append, List.length_singleton]; exact Nat.le_refl _
theorem fold_len : ∀ (xs ks : List Str), (xs.foldl addS1 ks).length ≤ ks.length + xs.length
  | [], ks => Nat.le_refl _
  | x :: xs, ks => by
    have h1 := fold_len xs (addS1 ks x)
    have h2 := addS1_len ks x
    rw [List.foldl_cons, List.length_cons]
    omega
section
variable {P : Program} {w : World} {A : Around} {E : Value → Shared → Prop} {s : Shared}
theorem StS.at {h h' : Heap} {a : Addr} {ks : List Str} (R : StS P w h a ks) (k : ∀ o, h.get? a = some o → h'.get? a = some o) : StS P w h' a ks := by
  obtain ⟨o, tab, ep, t, g1, r⟩ := R
  exact ⟨o, tab, ep, t, k o g1, r⟩
theorem stS_fresh {h : Heap} {a : Addr} (ho : h.get? a = some { cls := .type "set", dict := none, data := .set #[] 0 (.fresh 0 0 (!w.params.followText "set-order")) }) : StS P w h a [] :=
  ⟨_, #[], 0, _, ho, ⟨rfl, rfl, rfl⟩, rfl, (fun e he => by simp at he), (by simp), List.nodup_nil, (by decide), (by rfl), List.Pairwise.nil, by
    show _ ∨ (!w.params.followText "set-order") = true
    cases w.params.followText "set-order"
    · exact .inr rfl
    · exact .inl rfl⟩
/-- set.update's loop -/
theorem set_update_txts {I : Addr} {fp wr : List Addr} {G : Array GenState → Array GenState → Prop} {n : Nat} {Pv : Nat → Value → Prop} {St : Nat → Shared → Prop} {R : Result → Shared → Prop}
    (W : WalksS P w A.in1 I fp wr G n Pv St) (S : Addr) (hSf : S ∉ fp) (xs : List Str) (hn : n = xs.length) (hfew : xs.length < 4000) (hval : ∀ i v, Pv i v → ∃ x u, xs[i]? = some x ∧ v = .str x u) :
    ∀ (k i : Nat) (s : Shared), n - i = k → i ≤ n → St i s → StS P w s.heap S ((xs.take i).foldl addS1 []) →
      (∀ s', Moved (S :: wr) G s s' → StS P w s'.heap S (dedL xs) → R (.ok (.ret .none)) s') →
      codeAny (model P w) A (.builtin "set.update.loop" ⟨[.ref S, .ref I], []⟩) R s := by
  have hSw : S ∉ wr := fun h => hSf (W.sub _ h)
  have hsub : ∀ b ∈ wr, b ∈ S :: wr := fun b hb => List.mem_cons_of_mem _ hb
  intro k
  induction k with
  | zero =>
    intro i s hk' hi hst hS hR
    have hin : i = n := by omega
    subst hin
    refine codeAny_builtin F.entry_set_update_loop ?_
    rw [Around.under_plainId F.plain_set_update_loop _]
    show wpAny _ A.in1 (pyNext (.ref I) >>= _) _ _ s
    refine wpAny_bind (W.done s _ _ hst fun s' hm => ?_)
    show wpAny _ A.in1 (ret Value.none) _ _ s'
    rw [List.take_of_length_le (by omega)] at hS
    exact wpAny_pure (hR s' (hm.mono hsub) (hS.at fun o e => hm.heap S o hSw e))
  | succ k ih =>
    intro i s hk' hi hst hS hR
    have hlt : i < n := by omega
    refine codeAny_builtin F.entry_set_update_loop ?_
    rw [Around.under_plainId F.plain_set_update_loop _]
    show wpAny _ A.in1 (pyNext (.ref I) >>= _) _ _ s
    refine wpAny_bind (W.item i s _ _ hlt hst fun v s' hP hst' hm => ?_)
    obtain ⟨x, u, hx, rfl⟩ := hval i v hP
    have hS' := hS.at (h' := s'.heap) fun o e => hm.heap S o hSw e
    show wpAny _ A.in1 (holding [Value.str x u] (setAdd S (.str x u)) >>= _) _ _ s'
    refine wpAny_bind (wpAny_holding ?_)
    unfold setAdd
    refine wpAny_holding ?_
    refine wpAny_bind ((PySem.strKind P w).pyHash (k := x) (is_txt x u) ?_)
    have fl := fold_len (xs.take i) []
    rw [List.length_take, List.length_nil] at fl
    refine stS_add (s := { s' with toks := s'.toks + 1 }) hS' (by show _ + 1 < 4096; omega) fun h' hsb hS2 => ?_
    have hSi : StS P w h' S ((xs.take (i + 1)).foldl addS1 []) := by
      have e : xs.take (i + 1) = xs.take i ++ [x] := by rw [List.take_add_one, hx]; rfl
      rw [e, List.foldl_append]
      exact hS2
    refine wpAny_pure ⟨plainId_quiet F.plain_set_update_loop _, ih (i + 1) _ (by omega) hlt (W.frame _ s' _ _ hst' (Nat.le_succ _) fun b hb o e => ?_) hSi fun s'' hm'' hS'' => ?_⟩
    · rw [hsb.2 b (fun h : b = S => hSf (by rw [← h]; exact hb))]; exact e
    · refine hR s'' (Moved.trans W.gtrans ((hm.mono hsub).then_heap (Nat.le_succ _) fun b o hb e => ?_) hm'') hS''
      rw [hsb.2 b (fun h : b = S => hb (by rw [h]; exact List.mem_cons_self))]; exact e
/-- set(xs) -/
theorem call_set_txts {l : Addr} {items : Array Value} (xs : List Str) {Q : Value → Shared → Prop} (hh : A.handled = none) (hl : s.heap.IsList l items) (hit : ∀ (i : Nat) (v : Value), items[i]? = some v → ∃ x u, xs[i]? = some x ∧ v = .str x u)
    (hisz : items.size = xs.length) (hfew : xs.length < 4000)
    (h : ∀ (h' : Heap) (tk : Nat), StS P w h' s.heap.objs.size (dedL xs) → (∀ b o, s.heap.get? b = some o → h'.get? b = some o) → Q (.ref s.heap.objs.size) { s with heap := h', toks := tk }) :
    wpAny (model P w) A (call (.type "set") [.ref l]) Q E s := by
  obtain ⟨c, tl, hmro⟩ := F.called_set.mro
  have hmade := F.called_set.made
  have hsub := F.called_set.sub
  refine wpAny_call (codeAny_of_tree ?_)
  show wpAny _ _ (callAny (.type "set") _) _ _ _
  refine wpAny_pure ⟨Code.quiet_builtin _ (by decide +kernel), codeAny_builtin F.entry_type_call ?_⟩
  rw [Around.under_plain (weight_type_call_type "set" [.ref l] []) rfl]
  have h1 := F.called_set.notType
  have h2 := F.called_set.canCreate
  have hct := F.typeCall_set_1 (.ref l)
  repeat (any_goals (first | assumption | wp_step))

  refine codeAny_mono (code_set_led1 (.ref l) (E := E) (Q₁ := fun obj s₁ => obj = .ref s.heap.objs.size ∧ s₁ = { s with heap := s.heap.push { cls := .type "set", dict := none, data := .set #[] 0 (.fresh 0 0 (!w.params.followText "set-order")) } }) ⟨rfl, rfl⟩) fun r s₁ hr => ?_
  cases r with
  | error e => exact hr
  | ok fl =>
    cases fl with
    | ret obj =>
      obtain ⟨rfl, rfl⟩ := hr
      have hS : (s.heap.push { cls := .type "set", dict := none, data := .set #[] 0 (.fresh 0 0 (!w.params.followText "set-order")) }).get? s.heap.objs.size = some { cls := .type "set", dict := none, data := .set #[] 0 (.fresh 0 0 (!w.params.followText "set-order")) } := Heap.get?_push_size _ rfl
      have hT : Shared.TypeIs { s with heap := s.heap.push { cls := .type "set", dict := none, data := .set #[] 0 (.fresh 0 0 (!w.params.followText "set-order")) } } (.ref s.heap.objs.size) "set" := ⟨_, hS, rfl⟩
      have hli := F.called_set.init.lookup
      have hbi := F.called_set.init.bind (.ref s.heap.objs.size)
      repeat (any_goals (first | assumption | wp_step))

      refine codeAny_mono (codeAny_call_builtin (R := wants (fun r s₂ => r = .none ∧ ∃ h' tk, s₂ = { s with heap := h', toks := tk } ∧ StS P w h' s.heap.objs.size (dedL xs) ∧
          (∀ b o, s.heap.get? b = some o → h'.get? b = some o)) E) F.called_set.init.plain F.entry_set_init (check_set_init_1 hT ?_)) fun r₂ s₂ hr₂ => ?_
      · obtain ⟨ol, hol, hcl, nl, hdl⟩ := hl
        obtain ⟨ocls, odict, odata, oslots⟩ := ol
        simp only at hcl hdl
        subst hcl; subst hdl
        have hol' : (s.heap.push { cls := .type "set", dict := none, data := .set #[] 0 (.fresh 0 0 (!w.params.followText "set-order")) }).get? l = some { cls := .type "list", dict := odict, data := .seq items nl, slots := oslots } := Heap.get?_push_of_some _ hol
        have hsls := F.sub_list_set
        have hslf := F.sub_list_frozenset
        have hne : (Value.type "list" == Value.type "dict") = false := by decide
        have hl1 : (s.heap.push { cls := .type "set", dict := none, data := .set #[] 0 (.fresh 0 0 (!w.params.followText "set-order")) }).IsList l items := ⟨_, hol', rfl, nl, rfl⟩
        unfold Builtin.«set.__init__» noKeywords Builtin.Frozenset.updateFrom
        generalize hPI : pyIter = PI
        wp_walk
        subst hPI

        refine wpAny_pyIter_list hl1 ?_
        refine wpAny_bind (wpAny_runValue ?_)
        have hlS : l < s.heap.objs.size := Heap.lt_size hol
        have hh3 : A.in1.in1.in1.handled = none := by simp [hh]
        have hz1 : (s.heap.push { cls := .type "set", dict := none, data := .set #[] 0 (.fresh 0 0 (!w.params.followText "set-order")) }).objs.size = s.heap.objs.size + 1 := Heap.size_push ..
        have hneI : l ≠ (s.heap.push { cls := .type "set", dict := none, data := .set #[] 0 (.fresh 0 0 (!w.params.followText "set-order")) }).objs.size := by
          rw [Heap.size_push]; exact Nat.ne_of_lt (Nat.lt_succ_of_lt hlS)
        have hSf : s.heap.objs.size ∉ [(s.heap.push { cls := .type "set", dict := none, data := .set #[] 0 (.fresh 0 0 (!w.params.followText "set-order")) }).objs.size, l] := by
          rw [Heap.size_push]; simp only [List.mem_cons, List.mem_singleton, List.not_mem_nil, or_false, not_or]
          exact ⟨Nat.ne_of_lt (Nat.lt_succ_self _), Nat.ne_of_gt hlS⟩
        refine set_update_txts ((Walks.list hh3 _ l hneI items).toS) s.heap.objs.size
          hSf xs hisz hfew hit (items.size - 0) 0 _ (by omega) (Nat.zero_le _)
          ⟨⟨_, Heap.get?_push_size _ rfl, rfl, rfl⟩, (hl1.push _)⟩ ?hS0 ?hR
        case hS0 =>
          have hget : ((s.heap.push { cls := .type "set", dict := none, data := .set #[] 0 (.fresh 0 0 (!w.params.followText "set-order")) }).push { cls := .type "list_iterator", data := .fields #[.ref l, .int 0 0] }).get? s.heap.objs.size
              = some { cls := .type "set", dict := none, data := .set #[] 0 (.fresh 0 0 (!w.params.followText "set-order")) } := Heap.get?_push_of_some _ hS
          exact stS_fresh hget
        case hR =>
          intro s' hm hS'
          obtain ⟨h', g2, d', tk', os'⟩ := s'
          have eg : g2 = s.gens := hm.gens
          have ed : d' = s.drawn := hm.drawn
          have eo : os' = s.os := hm.os
          subst eg; subst ed; subst eo
          show wpAny _ _ _ _ _ _
          refine wpAny_pure ?_
          show wpAny _ _ (ret Value.none) _ _ _
          refine wpAny_pure ⟨rfl, h', tk', rfl, hS', fun b o e => ?_⟩
          have lt := Heap.lt_size e
          exact hm.heap b o (fun hb => by
            rcases List.mem_cons.mp hb with z | z
            · rw [z] at lt; exact Nat.lt_irrefl _ lt
            · have e2 := List.mem_singleton.mp z
              rw [Heap.size_push] at e2
              rw [e2] at lt
              exact Nat.lt_irrefl _ (Nat.lt_trans (Nat.lt_succ_self _) lt)) (Heap.get?_push_of_some _ (Heap.get?_push_of_some _ e))

      · cases r₂ with
        | error e => exact hr₂
        | ok fl₂ =>
          cases fl₂ with
          | ret r =>
            obtain ⟨rfl, h', tk, rfl, hS', hk'⟩ := hr₂
            repeat (any_goals (first | assumption | wp_step))
            exact h _ _ hS' hk'
          | _ => exact hr₂.elim
    | _ => exact hr.elim

end
end Sh

namespace Sh
open PySem PySem.Spec PyProof.Rows L2

/-! ### texts in order -/
def leStr (a b : Str) : Bool := PySem.W.dataLe false PyData.str a b
theorem leStr_iff (a b : Str) : leStr a b = true ↔ a.cps.toList ≤ b.cps.toList := by
  have e : leStr a b = !PySem.W.dataLt (.str b) (.str a) := rfl
  rw [e, PySem.W.dataLt_str, Bool.not_eq_true', decide_eq_false_iff_not, List.not_lt]
theorem leStr_trans (a b c : Str) (h1 : leStr a b = true) (h2 : leStr b c = true) : leStr a c = true := by
  rw [leStr_iff] at *
  exact List.le_trans h1 h2
theorem leStr_total (a b : Str) : (leStr a b || leStr b a) = true := by
  rw [Bool.or_eq_true, leStr_iff, leStr_iff]
  exact List.le_total _ _
theorem leStr_anti (a b : Str) (h1 : leStr a b = true) (h2 : leStr b a = true) : a = b := by
  rw [leStr_iff] at *
  exact PySem.W.str_of_cps (List.le_antisymm h1 h2)
def sortSt (xs : List Str) : List Str := xs.mergeSort leStr
theorem sortSt_perm (xs : List Str) : (sortSt xs).Perm xs := List.mergeSort_perm _ _
theorem sortSt_le (xs : List Str) : (sortSt xs).Pairwise fun a b => leStr a b = true := List.pairwise_mergeSort leStr_trans leStr_total xs
theorem sortSt_of_perm {xs ys : List Str} (h : xs.Perm ys) : sortSt xs = sortSt ys :=
  ((sortSt_perm xs).trans (h.trans (sortSt_perm ys).symm)).eq_of_pairwise (fun a b _ _ h1 h2 => leStr_anti a b h1 h2) (sortSt_le xs) (sortSt_le ys)
theorem strs_sortOk (xs : List Str) (h : xs.length ≤ 100000) : sortOk (xs.map PyData.str) = true := by
  unfold sortOk alikeB
  simp only [Bool.and_eq_true, Bool.or_eq_true, List.all_eq_true, decide_eq_true_eq]
  refine ⟨⟨⟨fun d hd e he => ?_, .inr fun d hd => ?_⟩, fun d hd => ?_⟩, by rw [List.length_map]; exact h⟩
  · obtain ⟨p, _, rfl⟩ := List.mem_map.mp hd
    obtain ⟨q, _, rfl⟩ := List.mem_map.mp he
    rfl
  · obtain ⟨p, _, rfl⟩ := List.mem_map.mp hd
    rfl
  · obtain ⟨p, _, rfl⟩ := List.mem_map.mp hd
    show 0 ≤ 8
    omega
section
variable {P : Program} {w : World} {A : Around} {E : Value → Shared → Prop} {s : Shared} {a : Addr} {ks : List Str}
/-- sorted(a set of texts) -/
theorem sh_sortedS {Q : Value → Shared → Prop} (R : StS P w s.heap a ks) (hh : A.handled = none) (hk4 : ks.length < 4096) (hu : A.units + 3 < cLine)
    (h : ∀ (out : List Value) (h1 h' : Heap) (p : Addr) (c : Nat) (g : Array GenState), Vals ((sortSt ks).map V.str) out → (∀ b o, s.heap.get? b = some o → h1.get? b = some o) → (∀ b o, h1.get? b = some o → h'.get? b = some o) → h1.objs.size ≤ p → h'.get? p = some (seqObj "list" (List.toArray out) c) →
      ∀ s' : Shared, s'.heap = h' → s'.gens = s.gens → s'.os = s.os → Q (.ref p) s') :
    wpAny (model P w) A (call (.builtin "sorted") [.ref a]) Q E s := by
  obtain ⟨o, tab, ep, t, g1, g2, g3, g4, g5, g6, g7, g8, g9, g10⟩ := R
  refine Calls.call_function_entry kind_sorted plain_sorted entry_sorted (args_sorted1 _) ?_
  unfold Builtin.«sorted»
  refine wpAny_bind (m := checkCount "sorted" 1 1 _) (wpAny_pure ?_)
  refine wpAny_bind (collect_set (A := A.in1) hh ⟨o, g1, g2.1, g3⟩ g8 g7 g9 g10 fun s' vs kp sz gg oo pm => ?_)
  have allStr : ∀ v ∈ vs, ∃ x u, v = Value.str x u := fun v hv => by
    obtain ⟨e, he, rfl⟩ := List.mem_map.mp (pm.mem_iff.mp hv)
    obtain ⟨x, u, h1, _⟩ := g4 e he
    exact ⟨x, u, h1⟩
  let sOf : Value → Str := fun v => match v with | .str x _ => x | _ => ""
  have keyEq : ∀ e : Int × Value, keyS e = sOf e.2 := fun _ => rfl
  have xp : (vs.map sOf).Perm ks := by
    refine (pm.map sOf).trans ?_
    rw [List.map_map]
    exact g5
  have each : ∀ vs : List Value, (∀ v ∈ vs, ∃ x u, v = Value.str x u) → PySem.W.EachIs (fun v b => ∃ u, v = Value.str b u) vs (vs.map sOf) := by
    intro vs
    induction vs with
    | nil => intro _; exact .nil
    | cons v vs ih =>
      intro h
      obtain ⟨x, u, rfl⟩ := h v List.mem_cons_self
      exact .cons ⟨u, rfl⟩ (ih fun y hy => h y (List.mem_cons_of_mem _ hy))
  have e := each vs allStr
  have hlen : (vs.map sOf).length ≤ 100000 := by rw [xp.length_eq]; omega
  have hvl : vs.length = (vs.map sOf).length := (List.length_map _).symm
  have hok := strs_sortOk (vs.map sOf) hlen
  refine wpAny_bind (wpAny_newList ?_ (by rw [hvl]; exact Evl.sz_of hlen))
  have hoL : (s'.heap.push (seqObj "list" vs.toArray 0)).get? s'.heap.objs.size = some (seqObj "list" vs.toArray 0) := Heap.get?_push_size _ rfl
  show wpAny _ _ _ _ _ { s' with heap := s'.heap.push (seqObj "list" vs.toArray 0) }
  have er : ∀ hp : Heap, PySem.W.EachIs (fun v b => ∃ as, Reads hp v (PyData.str b) as) vs (vs.map sOf) := fun hp => e.mono fun v b ⟨u, hv⟩ => ⟨[], by rw [hv]; exact .str b u⟩
  have bd : ∀ b, b ∈ vs.map sOf → A.units + 2 + (PyData.str b).depth < cLine := fun b _ => by
    show A.units + 2 + 0 < cLine
    omega
  refine wpAny_bind (wpAny_holding (wpAny_call_entry slot_list_sort ⟨_, hoL, rfl⟩ entry_list_sort
    (PySem.W.list_sort_vals (s := { s' with heap := s'.heap.push (seqObj "list" vs.toArray 0) }) (κ := PySem.W.dataKind (PySem.W.sortingHeap (s'.heap.push (seqObj "list" vs.toArray 0)) s'.heap.objs.size vs) ((vs.map sOf).map PyData.str)) hoL
      (PySem.W.SortsAt.data (s := { s' with heap := PySem.W.sortingHeap (s'.heap.push (seqObj "list" vs.toArray 0)) s'.heap.objs.size vs }) (PySem.W.each_map (R := fun v d => ∃ as, Reads (PySem.W.sortingHeap (s'.heap.push (seqObj "list" vs.toArray 0)) s'.heap.objs.size vs) v d as) PyData.str (er _)) (sortOk_alike hok) (sortOk_sortable hok) (PySem.W.bound_map (enc := PyData.str) bd)) (by rw [hvl]; exact Evl.sz_of hlen) ⟨_, rfl, ?_⟩)
    (args_list_sort _)))
  obtain ⟨c, hc'⟩ := sortedHeap_at (vs := vs) (out := (PySem.W.sortVals (PySem.W.dataKind (PySem.W.sortingHeap (s'.heap.push (seqObj "list" vs.toArray 0)) s'.heap.objs.size vs) ((vs.map sOf).map PyData.str)) false vs vs).toArray) hoL
  have h2 := PySem.W.sortVals_data false e (er (PySem.W.sortingHeap (s'.heap.push (seqObj "list" vs.toArray 0)) s'.heap.objs.size vs)) (sortOk_alike hok)
  have hv : Vals ((sortSt ks).map V.str) (PySem.W.sortVals (PySem.W.dataKind (PySem.W.sortingHeap (s'.heap.push (seqObj "list" vs.toArray 0)) s'.heap.objs.size vs) ((vs.map sOf).map PyData.str)) false vs vs) := by
    have hs : (vs.map sOf).mergeSort (PySem.W.dataLe false PyData.str) = sortSt ks := sortSt_of_perm xp
    rw [hs] at h2
    generalize PySem.W.sortVals _ _ _ _ = out at h2
    generalize sortSt ks = zs at h2
    induction h2 with
    | nil => exact .nil
    | cons hr _ ih => obtain ⟨u, rfl⟩ := hr; exact .cons ⟨u, rfl⟩ ih
  refine wpAny_pure ⟨_, rfl, h _ s'.heap _ _ c #[] hv kp (fun b o q2 => ?_) (Nat.le_refl _) hc' _ rfl gg oo⟩
  have hb : b < s'.heap.objs.size := Heap.lt_size q2
  rw [sortedHeap_old (Nat.ne_of_lt hb) (by rw [size_push']; exact Nat.lt_succ_of_lt hb)]
  exact Heap.get?_push_of_some _ q2
end
end Sh

namespace Sh
open PySem PySem.Spec PyProof.Rows L2

/-! ### a set of one tuple of texts -/
section
variable {P : Program} {w : World} {A : Around} {E : Value → Shared → Prop} {s : Shared}
/-- the tuple at b has the texts ks -/
abbrev TxT (P : Program) (w : World) (h : Heap) (ks : List Str) (b : Addr) : Prop := IsTupleKey (strKind P w) h ks b
abbrev tth (P : Program) (w : World) (ks : List Str) : Int := tupleKeyHash (strKind P w) ks
theorem txt_items {ks : List Str} {vs : List Value} (h : ItemsAre (strKind P w) ks vs) : ∀ v ∈ vs, ∃ x u, v = Value.str x u := by
  induction h with
  | nil => intro v z; cases z
  | @cons x0 v0 ks0 vs0 g _ ih =>
    intro v z
    rcases List.mem_cons.mp z with e | z
    · obtain ⟨u, e2⟩ := Value.isStrOf_shape g
      exact ⟨x0, u, e.trans e2⟩
    · exact ih v z
theorem ofAClass_str (n : Nat) (x : Str) (u : Tok) : ofAClassStatement n (.str x u) = pure false := by cases n <;> rfl
theorem hashBy_str (n : Nat) (x : Str) (u : Tok) : hashByValue n (.str x u) = pure false := by cases n <;> simp [hashByValue]
theorem txT_class {ks : List Str} {b : Addr} {Q : Bool → Shared → Prop} (g : TxT P w s.heap ks b) (h : Q false s) : wpAny (model P w) A (ofAClassStatement 8 (.ref b)) Q E s := by
  have ty := g.typeIs
  obtain ⟨o, its, n, g1, _, g2, g3⟩ := g
  unfold ofAClassStatement
  refine wpAny_bind (wpAny_typeOf ty ?_)
  dsimp only
  have e : (("tuple" : String) == "tuple") = true := by decide
  simp only [e, if_true, Bool.not_true, Bool.false_eq_true, if_false]
  try refine wpAny_bind (wpAny_pure ?_)
  try simp only [Bool.not_true, Bool.false_eq_true, if_false]
  show wpAny _ _ (seqItems? (.ref b) >>= _) _ _ s
  refine wpAny_bind (wpAny_seqItems g1 g2 ?_)
  dsimp only
  refine wpAny_bind ?_
  show wpAny _ _ (forIn its _ _) _ _ s
  rw [← Array.forIn_toList]
  refine wpAny_forIn_list _ (fun rest r z => r.1 = none ∧ z = s ∧ ∀ v ∈ rest, ∃ x u, v = Value.str x u) _ ?_ ?_ _ _ ⟨rfl, rfl, txt_items g3⟩
  · rintro v rest r z ⟨er, rfl, al⟩
    obtain ⟨x, u, rfl⟩ := al v List.mem_cons_self
    rw [ofAClass_str]
    refine wpAny_bind (wpAny_pure ?_)
    simp only [Bool.false_eq_true, if_false]
    exact wpAny_pure ⟨rfl, rfl, fun y hy => al y (List.mem_cons_of_mem _ hy)⟩
  · rintro ⟨r1, r2⟩ z ⟨er, rfl, _⟩
    dsimp only at er
    subst er
    exact wpAny_pure h
theorem txT_hashBy {ks : List Str} {b : Addr} {Q : Bool → Shared → Prop} (g : TxT P w s.heap ks b) (h : ∀ c, Q c s) : wpAny (model P w) A (hashByValue 8 (.ref b)) Q E s := by
  have ty := g.typeIs
  obtain ⟨o, its, n, g1, _, g2, g3⟩ := g
  unfold hashByValue
  refine wpAny_bind (wpAny_specialOf ty F.slot_tuple_hash.lookup ?_)
  show wpAny _ _ (seqItems? (.ref b) >>= _) _ _ s
  refine wpAny_bind (wpAny_seqItems g1 g2 ?_)
  refine wpAny_bind ?_
  show wpAny _ _ (forIn its _ _) _ _ s
  rw [← Array.forIn_toList]
  have al := txt_items g3
  generalize its.toList = il at al ⊢
  cases il with
  | nil =>
    rw [List.forIn_nil]
    exact wpAny_pure (wpAny_pure (h true))
  | cons v r =>
    obtain ⟨x, u, rfl⟩ := al v List.mem_cons_self
    rw [List.forIn_cons, hashBy_str]
    refine wpAny_bind (wpAny_bind (wpAny_pure ?_))
    simp only [Bool.not_false, if_true]
    exact wpAny_pure (wpAny_pure (wpAny_pure (h false)))
/-- one such tuple is met: nobody sees it -/
theorem txT_seen {ks ls : List Str} {b c : Addr} {Q : Bool → Shared → Prop} (g : TxT P w s.heap ks b) (g' : TxT P w s.heap ls c) {ys : List Value} (hy : ∀ y ∈ ys, y = Value.ref c) (h : Q false s) : wpAny (model P w) A (searchCouldBeSeen (.ref b) ys) Q E s := by
  unfold searchCouldBeSeen
  refine wpAny_bind ?_
  refine wpAny_forIn_list _ (fun rest r z => r.1 = none ∧ z = s ∧ ∀ y ∈ rest, y = Value.ref c) _ ?_ ?_ _ _ ⟨rfl, rfl, hy⟩
  · rintro v rest r z ⟨er, rfl, al⟩
    obtain rfl := al v List.mem_cons_self
    have al' : ∀ y ∈ rest, y = Value.ref c := fun y hy => al y (List.mem_cons_of_mem _ hy)
    dsimp only
    by_cases hv : (b == c || (carriedByValue (.ref b) && carriedByValue (.ref c))) = true
    · exact wp_if_pos hv (wpAny_pure ⟨rfl, rfl, al'⟩)
    · refine wp_if_neg hv (wpAny_bind (wpAny_eqIsQuiet_tuple g ?_))
      simp only [Bool.not_true, Bool.false_eq_true, if_false]
      refine wpAny_bind (wpAny_eqIsQuiet_tuple g' ?_)
      simp only [Bool.not_true, Bool.false_eq_true, if_false]
      refine wpAny_bind (txT_class g ?_)
      simp only [Bool.false_eq_true, if_false]
      refine wpAny_bind (txT_class g' ?_)
      simp only [Bool.false_eq_true, if_false]
      exact wpAny_pure ⟨rfl, rfl, al'⟩
  · rintro ⟨r1, r2⟩ z ⟨er, rfl, _⟩
    dsimp only at er
    subst er
    exact wpAny_pure h

/-- the set at a: nothing yet, or one tuple of the texts ks -/
structure Uni (P : Program) (w : World) (h : Heap) (a : Addr) (ks : List Str) (L : List Addr) (es : Array (Int × Value)) (ep : Nat) (t : SetTable) : Prop where
  ob : ∃ o, h.get? a = some o ∧ o.ExactSet ∧ o.data = .set es ep t
  rows : es.toList = L.map fun b => (tth P w ks, Value.ref b)
  tab : TabOk t (L.map fun _ => tth P w ks)
  tup : ∀ b ∈ L, TxT P w h ks b
  mask : t.mask = 7
  few : L.length ≤ 1
variable {a : Addr} {ks : List Str} {L : List Addr} {es : Array (Int × Value)} {ep : Nat} {t : SetTable}
theorem Uni.size (R : Uni P w s.heap a ks L es ep t) : es.size = L.length := by
  have h := congrArg List.length R.rows
  rwa [Array.length_toList, List.length_map] at h
theorem Uni.ft (R : Uni P w s.heap a ks L es ep t) : t.fits es.size = true := by
  have h1 := R.tab.sz
  rw [List.length_map] at h1
  have h2 := R.size
  have h3 := R.few
  have h4 := R.mask
  unfold SetTable.fits SetTable.fill
  rw [R.tab.dm, Bool.and_eq_true, beq_iff_eq, decide_eq_true_eq]
  show t.place.size = es.size ∧ t.place.size + 0 ≤ t.mask
  omega
theorem Uni.whole (R : Uni P w s.heap a ks L es ep t) : ¬ t.gaveWay = true := by
  unfold SetTable.gaveWay
  rw [mask_odd R.tab.mok]
  decide
theorem Uni.search (R : Uni P w s.heap a ks L es ep t) {x : Addr} (hx : TxT P w s.heap ks x) (hu : A.units < cLine) {Q : SetFound → Shared → Prop}
    (h1 : L ≠ [] → Q (.there none) s) (h2 : ∀ n, L = [] → way t.mask (tth P w ks) n ∉ t.place.toList → (∀ c, c < n → way t.mask (tth P w ks) c ∈ t.place.toList) → Q (.free (way t.mask (tth P w ks) n) false) s) :
    wpAny (model P w) A (setSearch a (.ref x) (tth P w ks) true) Q E s := by
  obtain ⟨o, g1, g2, g3⟩ := R.ob
  have few := R.few
  have mask := R.mask
  obtain ⟨n, n1, n2, n3⟩ := R.tab.first (by rw [List.length_map]; omega) (tth P w ks)
  unfold setSearch
  rw [show (100000 : Nat) = 99999 + 1 from rfl, setSearchFrom_succ]
  refine wpAny_bind (wpAny_setState_of g1 g3 R.ft ?_)
  dsimp only
  refine wp_if_neg R.whole ?_
  try refine wpAny_bind (wpAny_pure ?_)
  have spec := go_spec t R.tab.ris R.tab.dm (fun i => (es[i]?.map (·.1)).getD 0) (tth P w ks) (10 * SetTable.turns t.mask) n (runAt t.mask (SetTable.bits (tth P w ks) % (t.mask + 1)) (SetTable.bits (tth P w ks))) rfl n1 n3 n2
  have at0 : ∀ b : Addr, L = [b] → es[0]? = some (tth P w ks, Value.ref b) := fun b e => by
    rw [← Array.getElem?_toList, R.rows, e]
    rfl
  rcases spec with ⟨q, i, q1, q2, q3, q4, q5⟩ | ⟨q4, q5⟩
  · have q6 : t.probe (fun i => (es[i]?.map (·.1)).getD 0) (tth P w ks) ((none : Option SetTable.Probe).getD (t.probeStart (tth P w ks))) = some (.candidate _ i _) := q5
    rw [q6]
    dsimp only
    have hi : i < L.length := by
      have z1 : i < t.place.toList.length := (List.getElem?_eq_some_iff.mp q2).1
      have z2 := R.tab.sz
      rw [List.length_map] at z2
      rw [Array.length_toList] at z1
      omega
    obtain ⟨b, hb⟩ : ∃ b, L = [b] := by
      cases L with
      | nil => simp at hi
      | cons b r =>
        cases r with
        | nil => exact ⟨b, rfl⟩
        | cons _ _ => simp at few
    have i0 : i = 0 := by rw [hb] at hi; simp at hi; omega
    subst i0
    have tb := R.tup b (by rw [hb]; exact List.mem_cons_self)
    have rest : ∀ j next, wpAny (model P w) A (searchRest a (.ref x) (tth P w ks) true 99999 es t j 0 next) Q E s := fun j next => by
      unfold searchRest
      rw [at0 b hb]
      dsimp only
      refine wpAny_bind (wpAny_holding (wpAny_eqBool_tuple hu tb hx ?_))
      refine wpAny_bind (wpAny_setState_of g1 g3 R.ft ?_)
      dsimp only
      refine wp_if_pos (by simp) ?_
      exact wpAny_pure (h1 (by rw [hb]; exact fun z => by cases z))
    by_cases hl : t.led = true
    · refine wp_if_neg (by simp [hl]) ?_
      try refine wpAny_bind (wpAny_pure ?_)
      exact rest _ _
    · refine wp_if_pos (by simp [hl]) ?_
      refine wpAny_bind (txT_seen hx tb (fun y hy => ?_) ?_)
      · obtain ⟨e, he, ee⟩ := List.mem_map.mp hy
        have he2 : e ∈ es.toList := by
          have z : e ∈ es ∧ e.1 = tth P w ks := by simpa using he
          simpa using z.1
        rw [R.rows, hb] at he2
        rw [← ee, List.mem_singleton.mp he2]
      · refine wp_if_neg (by decide) ?_
        try refine wpAny_bind (wpAny_pure ?_)
        exact rest _ _
  · have q6 : t.probe (fun i => (es[i]?.map (·.1)).getD 0) (tth P w ks) ((none : Option SetTable.Probe).getD (t.probeStart (tth P w ks))) = some (.empty (way t.mask (tth P w ks) n) none) := q5
    rw [q6]
    dsimp only
    refine wpAny_pure (h2 n ?_ n2 n3)
    cases hb : L with
    | nil => rfl
    | cons b r =>
      exfalso
      have hb1 : L = [b] := by
        rw [hb] at few ⊢
        cases r with
        | nil => rfl
        | cons _ _ => simp at few
      have hi : (L.map fun _ => tth P w ks)[0]? = some (tth P w ks) := by rw [hb1]; rfl
      have z2 := R.tab.sz
      rw [hb1] at z2
      have z3 : 0 < t.place.toList.length := by rw [Array.length_toList, z2]; exact Nat.one_pos
      have hj := List.getElem?_eq_getElem z3
      obtain ⟨c, c1, c2⟩ := R.tab.before n2 hi hj
      refine q4 c 0 c1 (by rw [hj]; exact congrArg some c2.symm) ?_
      rw [at0 b hb1]
      rfl
theorem txT_off {h h' : Heap} {ls : List Str} {b : Addr} {o : Obj} (hb : TxT P w h ls b) (ho : h.get? a = some o) (hd : o.data = .set es ep t) (hs : Heap.SameBut a h h') : TxT P w h' ls b := by
  obtain ⟨o', its, n, g1, g2, g3, g4⟩ := hb
  have ne : b ≠ a := fun z => by
    subst z
    rw [g1] at ho
    rw [← Option.some.inj ho, g3] at hd
    cases hd
  exact ⟨o', its, n, (hs.2 b ne).trans g1, g2, g3, g4⟩
theorem Uni.add (R : Uni P w s.heap a ks L es ep t) {x : Addr} (hx : TxT P w s.heap ks x) (hu : A.units < cLine) {Q : Bool → Shared → Prop}
    (q : ∀ b h' L' es' ep' t', Heap.SameBut a s.heap h' → Uni P w h' a ks L' es' ep' t' → L' ≠ [] → (∀ b ∈ L', b = x ∨ b ∈ L) → Q b { s with heap := h' }) : wpAny (model P w) A (setAddHashed a (.ref x) (tth P w ks)) Q E s := by
  obtain ⟨o, g1, g2, g3⟩ := R.ob
  unfold setAddHashed
  refine wpAny_holding ?_
  rw [show (100000 : Nat) = 99999 + 1 from rfl, setAddHashedIn_succ]
  refine wpAny_bind (wpAny_setState_of g1 g3 R.ft ?_)
  dsimp only
  refine wp_if_neg (by simp [byScan, Value.scannable]) ?_
  try refine wpAny_bind (wpAny_pure ?_)
  refine wpAny_bind (R.search hx hu (fun ne => ?_) fun n e0 n2 n3 => ?_)
  · dsimp only
    exact wpAny_pure (q false s.heap L es ep t (Heap.SameBut.refl a s.heap) R ne fun b hb => .inr hb)
  · dsimp only
    subst e0
    refine wpAny_bind (wpAny_setState_of g1 g3 R.ft ?_)
    dsimp only
    obtain ⟨p1, p2, p3, p4, p5, p6, p7, p8, p9⟩ := R.tab.put n2 n3
    have mask := R.mask
    generalize t.put (way t.mask (tth P w ks) n) = pt at p1 p3 p4 p5 p6 p7 p8 p9 ⊢
    obtain ⟨t1, p⟩ := pt
    dsimp only at p1 p3 p4 p5 p6 p7 p8 p9 ⊢
    subst p1
    have ask : ∀ (m : Bool → Sem Bool) {Q : Bool → Shared → Prop}, (∀ c, wpAny (model P w) A (m c) Q E s) → wpAny (model P w) A (if t1.plain = true then hashByValue 8 (.ref x) >>= m else pure true >>= m) Q E s := fun m {Q} z => by
      by_cases pl : t1.plain = true
      · exact wp_if_pos pl (wpAny_bind (txT_hashBy hx z))
      · exact wp_if_neg pl (wpAny_bind (wpAny_pure (z true)))
    refine ask _ fun c => ?_
    have z0 : SetTable.below t.place (way t.mask (tth P w ks) n) = 0 := by
      have := p2
      simpa using this
    rw [z0] at p3 ⊢
    obtain ⟨t2, e2, p3, p4, p9⟩ : ∃ t2, (if c = true then t1 else { t1 with plain := false }) = t2 ∧ TabOk t2 [tth P w ks] ∧ t2.mask = 7 ∧ t2.fill = 1 := by
      cases c with
      | true => exact ⟨t1, rfl, p3, p4.trans mask, p9⟩
      | false => exact ⟨_, rfl, ⟨p3.ris, p3.dm, p3.sz, p3.mok, p3.bd, p3.reach⟩, p4.trans mask, p9⟩
    rw [e2]
    have es0 : es.toList = [] := R.rows
    have hin : (SetTable.insertAt es 0 (tth P w ks, Value.ref x)).toList = [(tth P w ks, Value.ref x)] := by
      rw [SetTable.toList_insertAt, es0]
      rfl
    have hes : (SetTable.insertAt es 0 (tth P w ks, Value.ref x)).size = 1 := by
      rw [← Array.length_toList, hin]
      rfl
    generalize SetTable.insertAt es 0 (tth P w ks, Value.ref x) = es1 at hin hes ⊢
    refine wpAny_bind (wpAny_storeSet_of g1 g3 ?_ (by rw [hes, sizeLine_eq]; omega))
    have sb : Heap.SameBut a s.heap (s.heap.update a (Obj.putSet es1 t2)) := Heap.SameBut.update ..
    have g4 := store_at (es' := es1) (t' := t2) g1 g3
    generalize s.heap.update a (Obj.putSet es1 t2) = h1 at sb g4 ⊢
    have nf : ¬ t2.tooFull = true := by
      unfold SetTable.tooFull
      rw [decide_eq_true_eq, p9, p4]
      omega
    first
      | refine wp_if_neg (by simp [nf]) ?_
      | (refine wpAny_bind ?_; refine wp_if_neg (by simp [nf]) ?_; refine wpAny_pure ?_)
    exact wpAny_pure (q true h1 [x] es1 (ep + 1) t2 sb ⟨⟨_, g4, ⟨g2.1, g2.2.1, g2.2.2⟩, rfl⟩, hin, p3, fun b hb => by rw [List.mem_singleton.mp hb]; exact txT_off hx g1 g3 sb, p4, Nat.le_refl _⟩ (fun z => by cases z) fun b hb => .inl (List.mem_singleton.mp hb))
end
end Sh

namespace Sh
open PySem PySem.Spec PyProof.Rows L2
section
variable {P : Program} {w : World} {A : Around} {E : Value → Shared → Prop} {s : Shared} {a : Addr} {ks : List Str}
theorem Uni.keep {h h' : Heap} {L : List Addr} {es : Array (Int × Value)} {ep : Nat} {t : SetTable} (R : Uni P w h a ks L es ep t) (ha : ∀ o, h.get? a = some o → h'.get? a = some o) (hb : ∀ b ∈ L, TxT P w h' ks b) : Uni P w h' a ks L es ep t := by
  obtain ⟨o, g, r⟩ := R.ob
  exact ⟨⟨o, ha o g, r⟩, R.rows, R.tab, hb, R.mask, R.few⟩
theorem txT_on {h h' : Heap} {ls : List Str} {b : Addr} (x : TxT P w h ls b) (hk : ∀ c o, h.get? c = some o → h'.get? c = some o) : TxT P w h' ls b := by
  obtain ⟨o, its, n, g, r⟩ := x
  exact ⟨o, its, n, hk b o g, r⟩
abbrev set0 (w : World) : Obj := { cls := .type "set", dict := none, data := .set #[] 0 (.fresh 0 0 (!w.params.followText "set-order")) }
theorem uni_new {h : Heap} (g : h.get? a = some (set0 w)) : Uni P w h a ks [] #[] 0 (.fresh 0 0 (!w.params.followText "set-order")) where
  ob := ⟨_, g, ⟨rfl, rfl, rfl⟩, rfl⟩
  rows := rfl
  tab := ⟨List.Pairwise.nil, rfl, rfl, .inl rfl, fun x hx => (by cases hx), fun i h j hi => (by simp at hi)⟩
  tup := fun p hp => (by cases hp)
  mask := rfl
  few := Nat.zero_le _
/-- what stands in a tuple is put in, one behind another -/
theorem uni_loop {I : Addr} {fp wr : List Addr} {G : Array GenState → Array GenState → Prop} {n : Nat} {Pv : Nat → Value → Prop} {St : Nat → Shared → Prop} {R : Result → Shared → Prop}
    (W : WalksS P w A.in1 I fp wr G n Pv St) (hf : a ∉ fp) (hv : ∀ i v h, Pv i v → St i h → ∃ b, v = .ref b)
    (h0 : Heap) (hx : ∀ i v, Pv i v → ∃ b, v = .ref b ∧ TxT P w h0 ks b) (hn0 : h0.get? a = none) (hw0 : ∀ b ∈ wr, h0.get? b = none) (hu : A.in1.units < cLine) :
    ∀ (k i : Nat) (s : Shared), n - i = k → i ≤ n → St i s → (∀ b o, h0.get? b = some o → s.heap.get? b = some o) → (∃ L es ep t, Uni P w s.heap a ks L es ep t ∧ (∀ b ∈ L, TxT P w h0 ks b) ∧ (0 < i → L ≠ [])) →
      (∀ s' L es ep t, Moved (a :: wr) G s s' → Uni P w s'.heap a ks L es ep t → (0 < n → L ≠ []) → (∀ b o, h0.get? b = some o → s'.heap.get? b = some o) → R (.ok (.ret .none)) s') →
      codeAny (model P w) A (.builtin "set.update.loop" ⟨[.ref a, .ref I], []⟩) R s := by
  have aw : a ∉ wr := fun h => hf (W.sub _ h)
  have sub : ∀ b ∈ wr, b ∈ a :: wr := fun b hb => List.mem_cons_of_mem _ hb
  have keepM : ∀ {s s' : Shared}, Moved wr G s s' → (∀ b o, h0.get? b = some o → s.heap.get? b = some o) → ∀ b o, h0.get? b = some o → s'.heap.get? b = some o := fun m k b o e =>
    m.heap b o (fun hb => by rw [hw0 b hb] at e; cases e) (k b o e)
  intro k
  induction k with
  | zero =>
    intro i s hk hi st kp ⟨L, es, ep, t, g1, g2, g3⟩ q
    obtain rfl : i = n := by omega
    refine codeAny_builtin F.entry_set_update_loop ?_
    rw [Around.under_plainId F.plain_set_update_loop _]
    show wpAny _ A.in1 (pyNext (.ref I) >>= _) _ _ s
    refine wpAny_bind (W.done s _ _ st fun s' m => ?_)
    show wpAny _ A.in1 (ret Value.none) _ _ s'
    have kp' := keepM m kp
    exact wpAny_pure (q s' L es ep t (m.mono sub) (g1.keep (fun o e => m.heap a o aw e) fun b hb => txT_on (g2 b hb) kp') g3 kp')
  | succ k ih =>
    intro i s hk hi st kp ⟨L, es, ep, t, g1, g2, g3⟩ q
    refine codeAny_builtin F.entry_set_update_loop ?_
    rw [Around.under_plainId F.plain_set_update_loop _]
    show wpAny _ A.in1 (pyNext (.ref I) >>= _) _ _ s
    refine wpAny_bind (W.item i s _ _ (by omega) st fun v s' pv st' m => ?_)
    obtain ⟨x, rfl, tx⟩ := hx i v pv
    have kp' := keepM m kp
    have g1' := g1.keep (h' := s'.heap) (fun o e => m.heap a o aw e) fun b hb => txT_on (g2 b hb) kp'
    have tx' := txT_on tx kp'
    show wpAny _ A.in1 (holding [Value.ref x] (setAdd a (.ref x)) >>= _) _ _ s'
    refine wpAny_bind (wpAny_holding ?_)
    unfold setAdd
    refine wpAny_holding (wpAny_bind (wpAny_pyHash_tuple hu tx' ?_))
    refine Uni.add (s := { s' with toks := s'.toks + (ks.length + 1) }) g1' tx' hu fun b h' L' es' ep' t' sb R' ne inL => ?_
    have kp2 : ∀ b o, h0.get? b = some o → h'.get? b = some o := fun b o e => (sb.2 b (fun z => by rw [z, hn0] at e; cases e)).trans (kp' b o e)
    have inL' : ∀ b ∈ L', TxT P w h0 ks b := fun b hb => by
      rcases inL b hb with z | z
      · rw [z]; exact tx
      · exact g2 b z
    refine wpAny_pure ⟨plainId_quiet F.plain_set_update_loop _, ih (i + 1) _ (by omega) (by omega) (W.frame _ s' _ _ st' (Nat.le_add_right _ _) fun b hb o e => ?_) kp2 ⟨L', es', ep', t', R', inL', fun _ => ne⟩ fun s'' L2 es2 ep2 t2 m2 u2 ne2 kp3 => ?_⟩
    · rw [sb.2 b (fun z : b = a => hf (by rw [← z]; exact hb))]; exact e
    · refine q s'' L2 es2 ep2 t2 (Moved.trans W.gtrans ((m.mono sub).then_heap (Nat.le_add_right _ _) fun b o hb e => ?_) m2) u2 ne2 kp3
      rw [sb.2 b (fun z : b = a => hb (by rw [z]; exact List.mem_cons_self))]; exact e

/-- set(t), t a tuple of tuples that all have the texts ks -/
theorem set_uni {l : Addr} {items : Array Value} {Q : Value → Shared → Prop} (hh : A.handled = none) (hl : s.heap.IsTuple l items) (hi : ∀ v ∈ items.toList, ∃ b, v = Value.ref b ∧ TxT P w s.heap ks b) (ne : 0 < items.size) (hu : A.units + 3 < cLine)
    (h : ∀ (h' : Heap) (tk : Nat) L es ep t, Uni P w h' s.heap.objs.size ks L es ep t → L ≠ [] → (∀ b o, s.heap.get? b = some o → h'.get? b = some o) → Q (.ref s.heap.objs.size) { s with heap := h', toks := tk }) :
    wpAny (model P w) A (call (.type "set") [.ref l]) Q E s := by
  obtain ⟨c, tl, mro⟩ := F.called_set.mro
  have made := F.called_set.made
  have subs := F.called_set.sub
  refine wpAny_call (codeAny_of_tree ?_)
  show wpAny _ _ (callAny (.type "set") _) _ _ _
  refine wpAny_pure ⟨Code.quiet_builtin _ (by decide +kernel), codeAny_builtin F.entry_type_call ?_⟩
  rw [Around.under_plain (weight_type_call_type "set" [.ref l] []) rfl]
  have f1 := F.called_set.notType
  have f2 := F.called_set.canCreate
  have f3 := F.typeCall_set_1 (.ref l)
  repeat (any_goals (first | assumption | wp_step))

  refine codeAny_mono (code_set_led1 (.ref l) (E := E) (Q₁ := fun obj z => obj = .ref s.heap.objs.size ∧ z = { s with heap := s.heap.push (set0 w) }) ⟨rfl, rfl⟩) fun r z hr => ?_
  cases r with
  | error e => exact hr
  | ok fl =>
    cases fl with
    | ret obj =>
      obtain ⟨rfl, rfl⟩ := hr
      have g0 : (s.heap.push (set0 w)).get? s.heap.objs.size = some (set0 w) := Heap.get?_push_size _ rfl
      have ty : Shared.TypeIs { s with heap := s.heap.push (set0 w) } (.ref s.heap.objs.size) "set" := ⟨_, g0, rfl⟩
      have f4 := F.called_set.init.lookup
      have f5 := F.called_set.init.bind (.ref s.heap.objs.size)
      repeat (any_goals (first | assumption | wp_step))

      refine codeAny_mono (codeAny_call_builtin (R := wants (fun r z => r = .none ∧ ∃ h' tk L es ep t, z = { s with heap := h', toks := tk } ∧ Uni P w h' s.heap.objs.size ks L es ep t ∧ L ≠ [] ∧
          (∀ b o, s.heap.get? b = some o → h'.get? b = some o)) E) F.called_set.init.plain F.entry_set_init (check_set_init_1 ty ?_)) fun r2 z2 hr2 => ?_
      · have tl1 : (s.heap.push (set0 w)).IsTuple l items := hl.push _
        obtain ⟨ol, g1, g2, nl, g3⟩ := hl
        obtain ⟨ocls, odict, odata, oslots⟩ := ol
        simp only at g2 g3
        subst g2; subst g3
        have g1' : (s.heap.push (set0 w)).get? l = some { cls := .type "tuple", dict := odict, data := .seq items nl, slots := oslots } := Heap.get?_push_of_some _ g1
        have f6 := F.sub_tuple_set
        have f7 := F.sub_tuple_frozenset
        have f8 : (Value.type "tuple" == Value.type "dict") = false := by decide
        unfold Builtin.«set.__init__» noKeywords Builtin.Frozenset.updateFrom
        generalize hPI : pyIter = PI
        wp_walk
        subst hPI

        refine wpAny_pyIter_tuple tl1 ?_
        refine wpAny_bind (wpAny_runValue ?_)
        have lt : l < s.heap.objs.size := Heap.lt_size g1
        have hh3 : A.in1.in1.in1.handled = none := by simp [hh]
        have ne1 : l ≠ (s.heap.push (set0 w)).objs.size := by
          rw [Heap.size_push]; exact Nat.ne_of_lt (Nat.lt_succ_of_lt lt)
        have out : s.heap.objs.size ∉ [(s.heap.push (set0 w)).objs.size, l] := by
          rw [Heap.size_push]
          intro z
          rcases List.mem_cons.mp z with z | z
          · exact Nat.ne_of_lt (Nat.lt_succ_self _) z
          · exact Nat.ne_of_gt lt (List.mem_singleton.mp z)
        have no : ∀ b, s.heap.objs.size ≤ b → s.heap.get? b = none := fun b hb => by
          cases q : s.heap.get? b with
          | none => rfl
          | some o => exact absurd (Nat.lt_of_lt_of_le (Heap.lt_size q) hb) (Nat.lt_irrefl _)
        have each : ∀ (i : Nat) (v : Value), items[i]? = some v → ∃ b, v = .ref b ∧ TxT P w s.heap ks b := fun i v hv => hi v (Array.mem_toList_iff.mpr (Array.mem_of_getElem? hv))
        refine uni_loop (a := s.heap.objs.size) (ks := ks) ((Walks.tuple hh3 _ l ne1 items).toS) out (fun i v _ hv _ => (each i v hv).imp fun _ z => z.1) s.heap each (no _ (Nat.le_refl _)) (fun b hb => no b (by
            rw [List.mem_singleton.mp hb, Heap.size_push]
            exact Nat.le_succ _)) hu (items.size - 0) 0 _ (by omega) (Nat.zero_le _)
          ⟨⟨_, Heap.get?_push_size _ rfl, rfl, rfl⟩, (tl1.push _)⟩ (fun b o e => Heap.get?_push_of_some _ (Heap.get?_push_of_some _ e)) ?S0 ?R0
        case S0 =>
          exact ⟨[], #[], 0, _, uni_new (Heap.get?_push_of_some _ g0), fun b hb => (by cases hb), fun z => absurd z (Nat.lt_irrefl _)⟩
        case R0 =>
          intro s' L es ep t m u nz kp
          obtain ⟨h', gs, d', tk', os'⟩ := s'
          have e1 : gs = s.gens := m.gens
          have e2 : d' = s.drawn := m.drawn
          have e3 : os' = s.os := m.os
          subst e1; subst e2; subst e3
          show wpAny _ _ _ _ _ _
          refine wpAny_pure ?_
          show wpAny _ _ (ret Value.none) _ _ _
          exact wpAny_pure ⟨rfl, h', tk', L, es, ep, t, rfl, u, nz ne, kp⟩

      · cases r2 with
        | error e => exact hr2
        | ok fl2 =>
          cases fl2 with
          | ret r =>
            obtain ⟨rfl, h', tk, L, es, ep, t, rfl, u, nz, kp⟩ := hr2
            repeat (any_goals (first | assumption | wp_step))
            exact h _ _ _ _ _ _ u nz kp
          | _ => exact hr2.elim
    | _ => exact hr.elim
end

/-! ### len(set(t)), t a tuple of equal tuples of texts -/
theorem items_txt {P : Program} {w : World} : ∀ {ks : List Str} {us : List Value}, Vals (ks.map V.str) us → ItemsAre (strKind P w) ks us
  | [], _, .nil => .nil
  | x :: ks, _, .cons r t => by
    obtain ⟨u, rfl⟩ := (show ∃ u, _ = Value.str x u from r)
    exact .cons (is_txt x u) (items_txt t)
theorem vals_mem : ∀ {xs : List V} {us : List Value} {u : Value}, Vals xs us → u ∈ us → ∃ x ∈ xs, RelV x u
  | _, _, _, .nil, h => by cases h
  | _, _, _, .cons r t, h => by
    rcases List.mem_cons.mp h with e | h
    · subst e; exact ⟨_, List.mem_cons_self, r⟩
    · obtain ⟨x, h1, h2⟩ := vals_mem t h
      exact ⟨x, List.mem_cons_of_mem _ h1, h2⟩
section
variable {X : Cx}
theorem txT_of {pins : List (Addr × Obj)} {σ : L2.St} {H : Hp} {s : Shared} {b : Addr} {ks : List Str} (I : Inv X pins σ H s) (h : SqT X.K H b (ks.map V.str)) : TxT X.prog X.w s.heap ks b := by
  obtain ⟨its, r, ⟨o, g1, g2, n, g3⟩, _⟩ := I.tuple h
  exact ⟨o, its.toArray, n, g1, g2, g3, by simpa using items_txt r⟩
def rLenSet (K : PySem.W.Frag) : List V → Hp → VK → Prop := fun xs H Q => ∃ (l : Addr) (vs : List V) (ks : List Str), xs = [V.ref l] ∧ SqT K H l vs ∧ vs ≠ [] ∧ (∀ v ∈ vs, ∃ b, v = V.ref b ∧ SqT K H b (ks.map V.str)) ∧ Q (.int 1) H
theorem pe_lenSet {a : Expr} {ta : TA} {p p2 q pos : Pos} (hc : X.calm = true) (hu : X.A.units + 64 < cLine) (hg : Gl X "len") (hm : X.mg "len" = none) (hg2 : Gl X "set") (hm2 : X.mg "set" = none) (ha : PA X [a] ta)
    (na : starEach [a] X.env = (false, eval a X.env) :: starEach [] X.env := by rfl) : PE X (.Call (.Name "len" p) [.Call (.Name "set" p2) [a] [] q] [] pos) (tCB (rLenSet X.K) ta) := by
  refine ⟨fun pins s σ H Q I h => ?_⟩
  refine Call_ (ld_blt I hg hm PySem.boot_len ?_)
  refine PyProof.Rows.callWith_builtin1 (PyProof.Rows.args_cons ?_ rfl) rfl rfl
  refine Call_ (ld_blt I hg2 hm2 PyProof.Rows.boot_set ?_)
  refine PyProof.Rows.callWith_type1 (thn (ha.run q pins s σ H _ I h) fun us s1 ⟨xs, H1, I1, r1, q1⟩ => ?_) na rfl
  obtain ⟨l, vs, ks, rfl, hl, ne, each, q1⟩ := q1
  rw [Vals.ref1 r1]
  obtain ⟨its, r, tp, hz⟩ := I1.tuple hl
  have sz : its.toArray.size = vs.length := by rw [List.size_toArray, ← r.length]
  refine set_uni (ks := ks) (I1.ok.hd hc) tp (fun v hv => ?_) (by rw [sz]; exact List.length_pos_iff.mpr ne) (by omega) fun h' tk L es ep t u nz kp => ?_
  · obtain ⟨x, hx, rx⟩ := vals_mem r (by simpa using hv)
    obtain ⟨b, rfl, hb⟩ := each x hx
    cases rx
    exact ⟨b, rfl, txT_of I1 hb⟩
  · refine PyProof.Rows.args_nil ?_
    obtain ⟨o, g1, g2, g3⟩ := u.ob
    have one : es.size = 1 := by
      have z1 := Uni.size (s := { s1 with heap := h', toks := tk }) u
      have z2 := u.few
      have z3 : 0 < L.length := List.length_pos_iff.mpr nz
      omega
    have I2 : Inv X pins σ H1 { s1 with heap := h', toks := tk } := I1.kept fun b o e => kp b o e
    refine call_len_set g1 g2 g3 (Uni.ft (s := { s1 with heap := h', toks := tk }) u) (by rw [one]; omega) ⟨.int 1, H1, I2.tok _, ⟨_, by rw [one]; rfl⟩, q1⟩
end
/-! the reading -/
def txs : List D → Option (List Str)
  | [] => some []
  | .str x :: r => match txs r with
    | some xs => some (x :: xs)
    | none => none
  | _ => none
def txsD : D → Option (List Str)
  | .tuple xs => txs xs
  | _ => none
theorem txs_ok {K : PySem.W.Frag} {G : Hp} : ∀ {vs : List V} {ds : List D} {ks : List Str}, DpAll K G vs ds → txs ds = some ks → vs = ks.map V.str
  | _, _, _, .nil, e => by cases e; rfl
  | v :: vs, d :: ds, ks, .cons h t, e => by
    unfold txs at e
    split at e
    · rename_i heq; cases heq
    · rename_i x r heq
      cases heq
      split at e
      · rename_i xs e2
        cases e
        cases h
        rw [List.map_cons, ← txs_ok t e2]
      · cases e
    · cases e
theorem txsD_ok {K : PySem.W.Frag} {G : Hp} {v : V} {d : D} {ks : List Str} (h : Dp K G v d) (e : txsD d = some ks) : ∃ b, v = V.ref b ∧ SqT K G b (ks.map V.str) := by
  unfold txsD at e
  split at e
  · cases h with
    | tup hs ht _ => exact ⟨_, rfl, by rw [← txs_ok ht e]; exact hs⟩
  · cases e
def lenSetS : Sl → Option Sl
  | .fz (.tuple (d :: ds)) => match txsD d with
    | some ks => if ds.all (fun e => decide (txsD e = some ks)) = true then some (.fz (.int 1)) else none
    | none => none
  | _ => none
theorem dpa_mem {K : PySem.W.Frag} {G : Hp} : ∀ {vs : List V} {ds : List D} {v : V}, DpAll K G vs ds → v ∈ vs → ∃ d ∈ ds, Dp K G v d
  | _, _, _, .nil, h => by cases h
  | _, _, _, .cons r t, h => by
    rcases List.mem_cons.mp h with e | h
    · subst e; exact ⟨_, List.mem_cons_self, r⟩
    · obtain ⟨d, h1, h2⟩ := dpa_mem t h
      exact ⟨d, List.mem_cons_of_mem _ h1, h2⟩
theorem ok_lenSet {K : PySem.W.Frag} : CallOk K (rLenSet K) (one lenSetS) := by
  intro G H xs ss z e l hz0 Q q
  obtain ⟨s, rfl, hz⟩ := one_inv hz0
  obtain ⟨x, rfl, lx⟩ := looks1 l
  unfold lenSetS at hz
  split at hz
  · rename_i d ds
    split at hz
    · rename_i ks hk
      split at hz
      · rename_i hall
        cases hz
        obtain ⟨a, vs, rfl, h1, _, h2⟩ := look_tup e lx
        refine ⟨a, vs, ks, rfl, h1, fun z => ?_, fun v hv => ?_, ans_fz e (.int _) q⟩
        · subst z
          cases h2
        · obtain ⟨d', hd, r⟩ := dpa_mem h2 hv
          have e2 : txsD d' = some ks := by
            rcases List.mem_cons.mp hd with z | z
            · rw [z]; exact hk
            · exact of_decide_eq_true (List.all_eq_true.mp hall _ z)
          obtain ⟨b, rfl, hb⟩ := txsD_ok r e2
          exact ⟨b, rfl, Evl.ex_t e hb⟩
      · cases hz
    · cases hz
  · cases hz
section
variable {X : Cx} {p p2 q pos : Pos} {e : Expr} {t : TA} {a : AM}
theorem se_lenSet (hc : X.calm = true) (hu : X.A.units + 64 < cLine) (hg : Gl X "len") (hm : X.mg "len" = none) (hg2 : Gl X "set") (hm2 : X.mg "set" = none) (ha : SA X [e] t a)
    (na : starEach [e] X.env = (false, eval e X.env) :: starEach [] X.env := by rfl) : SE X (.Call (.Name "len" p) [.Call (.Name "set" p2) [e] [] q] [] pos) (tCB (rLenSet X.K) t) (eFn (one lenSetS) a) :=
  ⟨pe_lenSet hc hu hg hm hg2 hm2 ha.pe na, sim_fn ok_lenSet ha.sim⟩
end
end Sh

namespace Sh
open PySem PySem.Spec L2

/-! ### d.get(k, x), k a key or None -/
def tDGet2N (td ty tx : TE) : TE := fun σ H Q => td σ H fun x H1 => ∃ a, x = .ref a ∧ IsD H1 a ∧ ty σ H1 fun y H2 => tx σ H2 fun z H3 => (∃ o, DGet H3 a y o ∧ Q (o.getD z) H3) ∨ (y = .non ∧ (∃ kvs, Rd H3 a (.dK kvs)) ∧ Q z H3)
section
variable {X : Cx} {o e f : Expr} {apos cpos : Pos} {td ty tx : TE}
theorem pe_dget2N (hu : X.A.units + 1 < cLine) (ho : PE X o td) (he : PE X e ty) (hf : PE X f tx) (m : M2 X o "get" apos e f cpos) : PE X (.Call (.Attribute o "get" apos) [e, f] [] cpos) (tDGet2N td ty tx) := by
  refine ⟨fun pins s σ H Q I h => ?_⟩
  refine wpAny_Call_method m.base m.few m.line PySem.F.plainAttrs_dict PySem.F.slot_dict_get PySem.F.type_dict_get (thn (ho.run pins s σ H _ I h) fun u s1 ⟨x, H1, I1, rx, a, ex, d, q1⟩ => ?_)
  subst ex
  obtain rfl : u = Value.ref a := rx
  obtain ⟨t1, t2, _⟩ := isD_at I1 d
  refine ⟨t1, t2, ?_⟩
  rw [m.trees]
  refine Calls.callWith_builtin rfl (Calls.evalArgs_plain (Calls.spliced_cons (thn (he.run pins s1 σ H1 _ I1 q1) fun iv s2 ⟨y, H2, I2, ry, q2⟩ =>
    Calls.spliced_cons (thn (hf.run pins s2 σ H2 _ I2 q2) fun fv s3 ⟨z, H3, I3, rz, q3⟩ => Calls.spliced_nil ?_))))
  rcases q3 with ⟨ov, g, q3⟩ | ⟨ey, ⟨kvs, g⟩, q3⟩
  · exact d_get2 hu I3 g ry rz fun w' s4 I4 rw' => ⟨_, H3, I4, rw', q3⟩
  · subst ey
    obtain rfl : iv = Value.none := ry
    obtain ⟨_, hd, vs, _, dd⟩ := dk_rd I3.hok g
    obtain ⟨fn, hm, hf0⟩ := none_map dd
    refine call_meetsIn PySem.F.slot_dict_get dd.typeIs PySem.F.entry_dict_get (PySem.F.args_dict_get_3 _ _ _) (meets_dict_get_default (noneKind X.prog X.w) a (k := none) (key := .none) rfl hd fv) ⟨fn, hm, ?_⟩
    rw [hf0]
    exact ⟨_, H3, I3.tok _, rz, q3⟩
end
def eGet2N (i : Nat) (b c : EM) : EM := fun st => match st[i]? with
  | some (.od _) => match b st with
    | some (.tmp (.fz d), st1) => match c st1 with
      | some (.tmp (.fz x), st2) => match st2[i]? with
        | some (.od kvs) => match d with
          | .none => some (.tmp (.fz x), st2)
          | _ => match toKey d with
            | some k => some (.tmp (.fz (getOr kvs k x)), st2)
            | none => none
        | _ => none
      | _ => none
    | _ => none
  | _ => none
theorem sim_get2N {K : PySem.W.Frag} {i : Nat} {b c : EM} {tb tc : TE} (hb : SimE K tb b) (hc : SimE K tc c) : SimE K (tDGet2N (tVar i) tb tc) (eGet2N i b c) := by
  intro st σ G H o st' r h Q q
  unfold eGet2N at h
  split at h
  · rename_i kvs0 e0
    split at h
    · rename_i d st1 e1
      split at h
      · rename_i x st2 e2
        split at h
        · rename_i kvs e3
          obtain ⟨p, h1, _, ws, h2, _⟩ := r.getMt e0 rfl
          refine ⟨.ref p, h1, p, rfl, .inl ⟨ws, .inl h2⟩, ?_⟩
          refine hb st σ G H _ _ r e1 _ fun u G1 H1 r1 s1 o1 => ?_
          refine hc _ σ G1 H1 _ _ r1 e2 _ fun v G2 H2 r2 s2 o2 => ?_
          obtain ⟨p', g1, _, ws1, g2, g3, _⟩ := r2.getMt e3 rfl
          rw [h1] at g1
          cases g1
          have l1 : Dp K G1 u d := o1
          have l2 : Dp K G2 v x := o2
          split at h
          · cases h
            exact .inr ⟨dp_non l1, ⟨ws1, .inl g2⟩, q _ G2 H2 r2 (s1.trans s2) l2⟩
          · split at h
            · rename_i k hk
              cases h
              have ek := toKey_ok l1 hk
              subst ek
              exact .inl ⟨_, DGet.k g2, q _ G2 H2 r2 (s1.trans s2) (kvp_or g3 k l2)⟩
            · cases h
        · cases h
      · cases h
    · cases h
  · cases h
section
variable {X : Cx} {e f : Expr} {apos cpos npos : Pos} {tb tc : TE} {b c : EM} {i : Nat} {xn : Str}
theorem se_get2N (hu : X.A.units + 1 < cLine) (ho : SE X (.Name xn npos) (tVar i) (eVar i)) (hb : SE X e tb b) (hc : SE X f tc c) (m : M2 X (.Name xn npos) "get" apos e f cpos := by exact ⟨by rfl, by rfl, by rfl, by rfl⟩) :
    SE X (.Call (.Attribute (.Name xn npos) "get" apos) [e, f] [] cpos) (tDGet2N (tVar i) tb tc) (eGet2N i b c) := ⟨pe_dget2N hu ho.pe hb.pe hc.pe m, sim_get2N hb.sim hc.sim⟩
end

/-! ### what others do -/
section
variable {K : PySem.W.Frag} {st : S} {σ : St} {G G' G0 H H' H0 : Hp} {O O' O0 O3 : Addr → Prop} {z : Sl} {w : V}
theorem Rel.apart (r : Rel K st σ G H) (x : Step O O' G H G' H') (h : ∀ a, O a → ¬ Own st σ a) (e : Same G' H') : Rel K st σ G' H' := by
  refine ⟨r.len, fun n s v h1 h2 => ?_, r.inj, e⟩
  have old := r.at_ n s v h1 h2
  have mm : s.mt = true → SlRel K G' H' s v := fun m => by
    obtain ⟨p, ep, g, b⟩ := (slrel_mt m).mp old
    have no : ¬ O p := fun q => h p q ⟨n, s, h1, m, by rw [h2, ep]⟩
    obtain ⟨u, hu⟩ := b.live
    refine (slrel_mt m).mpr ⟨p, ep, ?_, b.mono x.g fun o q => x.keep p o q no⟩
    cases y : G' p with
    | none => rfl
    | some o =>
      rcases x.new p o y with ⟨u2, z2⟩ | z2 | z2
      · rw [g] at z2; cases z2
      · rw [z2] at hu; cases hu
      · exact (no z2).elim
  cases s with
  | un => trivial
  | fz d => obtain ⟨y, ey, q⟩ := old; exact ⟨y, ey, dp_mono x.g q⟩
  | ow xs => exact mm rfl
  | od xs => exact mm rfl
theorem Step.past (s : Step O0 O3 G0 H0 G H) (x : Step O O' G H G' H') (h : ∀ a, O a → O0 a ∨ H0 a = none) : Step O0 O3 G0 H0 G' H' where
  g := fun a o q => x.g a o (s.g a o q)
  keep := fun a o q n => x.keep a o (s.keep a o q n) fun z => by
    rcases h a z with y | y
    · exact n y
    · rw [y] at q; cases q
  own := s.own
  new := fun a o q => by
    rcases x.new a o q with ⟨u, z⟩ | z | z
    · exact s.new a u z
    · exact .inr (.inl (s.live a z))
    · exact .inr ((h a z).symm)
  live := fun a q => s.live a (x.live a q)
theorem VRel.past (r : Rel K st σ G H) (s : Step O0 (Own st σ) G0 H0 G H) (h : ∀ a, O a → ¬ Own st σ a) (h0 : ∀ a, O a → O0 a ∨ H0 a = none) (v : VRel K O H O' G' H' z w) : VRel K O0 H0 (Own st σ) G' H' z w := by
  have mm : z.mt = true → VRel K O0 H0 (Own st σ) G' H' z w := fun m => by
    obtain ⟨p, e, v1, v2, v3, v4⟩ := (vrel_mt m).mp v
    refine (vrel_mt m).mpr ⟨p, e, v1, v2, fun q => ?_, ?_⟩
    · rcases v4 with y | y
      · exact h p y q
      · obtain ⟨_, u, hu⟩ := r.own q
        rw [y] at hu; cases hu
    · rcases v4 with y | y
      · exact h0 p y
      · exact .inr (s.live p y)
  cases z with
  | un => exact v
  | fz d => exact v
  | ow xs => exact mm rfl
  | od xs => exact mm rfl
end

/-! ### f(c, x, y), x and y new objects -/
def eCall3N (fs : FS) (c a b : EM) : EM := fun st => match c st with
  | some (.tmp (.fz d), st1) => match a st1 with
    | some (.tmp s1, st2) => match b st2 with
      | some (.tmp s2, st3) => if s1.mt = true ∧ s2.mt = true then match fs [.fz d, s1, s2] with
        | some (z, _) => some (.tmp z, st3)
        | none => none else none
      | _ => none
    | _ => none
  | _ => none
theorem eCall3N_inv {fs : FS} {c a b : EM} {st st' : S} {o : Opd} (h : eCall3N fs c a b st = some (o, st')) : ∃ d st1 s1 st2 s2 z as', c st = some (.tmp (.fz d), st1) ∧ a st1 = some (.tmp s1, st2) ∧ b st2 = some (.tmp s2, st') ∧ s1.mt = true ∧ s2.mt = true ∧ fs [.fz d, s1, s2] = some (z, as') ∧ o = .tmp z := by
  unfold eCall3N at h
  split at h
  · rename_i d st1 e1
    split at h
    · rename_i s1 st2 e2
      split at h
      · rename_i s2 st3 e3
        split at h
        · rename_i hm
          split at h
          · rename_i z as' e4
            cases h
            exact ⟨d, st1, s1, st2, s2, z, as', e1, e2, e3, hm.1, hm.2, e4, rfl⟩
          · cases h
        · cases h
      · cases h
    · cases h
  · cases h
theorem sim_call3N {K : PySem.W.Frag} {fs : FS} {tc ta tb : TE} {c a b : EM} {E : XK} (hc : SimE K tc c) (ha : SimE K ta a) (hb : SimE K tb b) : SimE K (tCall (spOf K fs) [] E (tCons tc (tCons ta (tCons tb tNil)))) (eCall3N fs c a b) := by
  intro st σ G H o st' rl h Q q
  obtain ⟨d, st1, s1, st2, s2, z, as', e1, e2, e3, m1, m2, e4, rfl⟩ := eCall3N_inv h
  refine hc st σ G H _ _ rl e1 _ fun u G1 H1 r1 x1 o1 => ?_
  refine ha _ σ G1 H1 _ _ r1 e2 _ fun v G2 H2 r2 x2 o2 => ?_
  refine hb _ σ G2 H2 _ _ r2 e3 _ fun w G3 H3 r3 x3 o3 => ?_
  have o1 : Dp K G1 u d := o1
  obtain ⟨p1, rfl, a1, a2, a3, a4⟩ := (vrel_mt m1).mp (show VRel K _ _ _ _ _ s1 v from o2)
  obtain ⟨p2, rfl, b1, b2, b3, b4⟩ := (vrel_mt m2).mp (show VRel K _ _ _ _ _ s2 w from o3)
  obtain ⟨u1, hu1⟩ := a2.live
  obtain ⟨c1, c2, c3⟩ := x3.temp hu1 a1 a3
  have ne : p1 ≠ p2 := fun e => by
    rcases b4 with y | y
    · exact a3 (by rw [e]; exact y)
    · rw [← e, hu1] at y; cases y
  have x12 := x1.trans x2
  have x123 := x12.trans x3
  have own1 : Own st σ p1 ∨ H p1 = none := by
    rcases a4 with y | y
    · exact x1.own p1 y
    · exact .inr (x1.live p1 y)
  have own2 : Own st σ p2 ∨ H p2 = none := by
    rcases b4 with y | y
    · exact x12.own p2 y
    · exact .inr (x12.live p2 y)
  have bears1 : Bears K G3 H3 p1 s1 := a2.mono x3.g fun ob q => x3.keep p1 ob q a3
  show spOf K fs _ H3 Q E
  have own : ∀ n s p, ([.fz d, s1, s2] : S)[n]? = some s → s.mt = true → (vst [u, .ref p1, .ref p2])[n]? = some (some (.ref p)) → (n = 1 ∧ p = p1) ∨ (n = 2 ∧ p = p2) := fun n s p h1 m h2 => by
    match n with
    | 0 => cases h1; cases m
    | 1 => cases h2; exact .inl ⟨rfl, rfl⟩
    | 2 => cases h2; exact .inr ⟨rfl, rfl⟩
    | n + 3 => cases h1
  have ra : Rel K [.fz d, s1, s2] (vst [u, .ref p1, .ref p2]) G3 H3 := by
    refine ⟨rfl, fun n s w h1 h2 => ?_, fun n m s s' p h1 h2 g1 g2 h3 h4 => ?_, r3.ex⟩
    · match n with
      | 0 => cases h1; cases h2; exact ⟨u, rfl, dp_mono (x2.g.trans x3.g) o1⟩
      | 1 => cases h1; cases h2; exact (slrel_mt m1).mpr ⟨p1, rfl, c2, bears1⟩
      | 2 => cases h1; cases h2; exact (slrel_mt m2).mpr ⟨p2, rfl, b1, b2⟩
      | n + 3 => cases h1
    · rcases own n s p h1 g1 h3 with ⟨rfl, y⟩ | ⟨rfl, y⟩ <;> rcases own m s' p h2 g2 h4 with ⟨rfl, y'⟩ | ⟨rfl, y'⟩
      · rfl
      · exact (ne (y.symm.trans y')).elim
      · exact (ne (y'.symm.trans y)).elim
      · rfl
  have own' : ∀ p, Own [.fz d, s1, s2] (vst [u, .ref p1, .ref p2]) p → p = p1 ∨ p = p2 := fun p ⟨n, s, h1, m, h2⟩ => (own n s p h1 m h2).imp (·.2) (·.2)
  have off : ∀ p, Own [.fz d, s1, s2] (vst [u, .ref p1, .ref p2]) p → ¬ Own st' σ p := fun p hp => by
    rcases own' p hp with rfl | rfl
    · exact c3
    · exact b3
  have old : ∀ p, Own [.fz d, s1, s2] (vst [u, .ref p1, .ref p2]) p → Own st σ p ∨ H p = none := fun p hp => by
    rcases own' p hp with rfl | rfl
    · exact own1
    · exact own2
  refine ⟨_, G3, z, as', ra, e4, fun w G' H' r5 x5 o5 => ?_⟩
  exact q w G' H' (r3.apart x5 off r5.ex) (x123.past x5 old) (VRel.past r3 x123 off old o5)
section
variable {X : Cx} {k : Nat} {f : Addr} {fd : FuncData} {ps : List Str} {fs : FS} {x : Str} {p pos : Pos} {e1 e2 e3 : Expr} {tc ta tb : TE} {c a b : EM}
theorem se_call3N (F : FnOk X.prog X.w X.K X.mg X.base CX0 k f fd ps (spOf X.K fs)) (hr : Room k X.A) (hg : Gl X x) (hm : X.mg x = some (.ref f)) (hk : PySem.W.keepIn X.K (.ref f) = true) (hb : Binds X.K fd ps [])
    (h1 : SE X e1 tc c) (h2 : SE X e2 ta a) (h3 : SE X e3 tb b) (hdb : (x == ("__debug__" : Str)) = false := by decide) (s1 : starEach [e1, e2, e3] X.env = (false, eval e1 X.env) :: starEach [e2, e3] X.env := by rfl) (s2 : starEach [e2, e3] X.env = (false, eval e2 X.env) :: starEach [e3] X.env := by rfl)
    (s3 : starEach [e3] X.env = (false, eval e3 X.env) :: starEach [] X.env := by rfl) (hpl : (backTo pos (starEach [e2, e3] X.env)).any (·.1) = false := by rfl) :
    SE X (.Call (.Name x p) [e1, e2, e3] [] pos) (tCall (spOf X.K fs) [] E0 (tCons tc (tCons ta (tCons tb tNil)))) (eCall3N fs c a b) :=
  ⟨pe_call F hr hg hm hk hb .nil pass0 (pa_cons h1.pe (pa_cons h2.pe (pa_cons h3.pe pa_nil s3) s2) s1) hdb s1 hpl, sim_call3N h1.sim h2.sim h3.sim⟩
end
end Sh

namespace Sh
open PySem PySem.Spec L2

/-! ### a new list in a new list, looked at together with another one, then changed:
    x = [e1]; x.append(e2); if not f(x, e3): return False; x[0].append(e4) -/
section
variable {K : PySem.W.Frag} {G H G' H' : Hp} {O O' : Addr → Prop} {p : Addr} {u : HO}
theorem Step.write (s : Step O O' G H G' H') (h : O p ∨ H p = none) (l : H' p ≠ none) : Step O O' G H G' (upd H' p u) where
  g := s.g
  keep := fun a x q n => by
    have np : a ≠ p := fun z => by
      rcases h with y | y
      · exact n (by rw [z]; exact y)
      · rw [z, y] at q; cases q
    rw [upd_ne np]; exact s.keep a x q n
  own := s.own
  new := s.new
  live := fun a q => by
    by_cases z : a = p
    · rw [z, upd_same] at q; cases q
    · rw [upd_ne z] at q; exact s.live a q
end
def mTold (j : Nat) (a b dd : EM) (fs : FS) (c : EM) : SM := fun st => match a st with
  | some (.tmp (.ow xs), st1) => match b (st1.set j .un) with
    | some (.tmp (.fz y), st2) => match dd st2 with
      | some (.tmp (.fz d), st3) => if j < st1.length ∧ xs.length < 100000 then match fs [.fz (.list [.list xs, y]), .fz d] with
        | some (.fz (.bool true), _) => match c st3 with
          | some (.tmp (.fz _), st4) => some (.nx, st4)
          | _ => none
        | some (.fz (.bool false), _) => some (.rt (.fz (.bool false)), st3)
        | _ => none else none
      | _ => none
    | _ => none
  | _ => none
theorem mTold_inv {j : Nat} {a b dd : EM} {fs : FS} {c : EM} {st st' : S} {o : Out} (h : mTold j a b dd fs c st = some (o, st')) : ∃ xs st1 y st2 d st3 k as', a st = some (.tmp (.ow xs), st1) ∧ b (st1.set j .un) = some (.tmp (.fz y), st2) ∧ dd st2 = some (.tmp (.fz d), st3) ∧
    (j < st1.length ∧ xs.length < 100000) ∧ fs [.fz (.list [.list xs, y]), .fz d] = some (.fz (.bool k), as') ∧ ((k = true ∧ o = .nx ∧ ∃ w, c st3 = some (.tmp (.fz w), st')) ∨ (k = false ∧ o = .rt (.fz (.bool false)) ∧ st' = st3)) := by
  unfold mTold at h
  split at h
  · rename_i xs st1 e1
    split at h
    · rename_i y st2 e2
      split at h
      · rename_i d st3 e3
        split at h
        · rename_i hj
          split at h
          · rename_i as' e4
            split at h
            · rename_i w st4 e5
              cases h
              exact ⟨xs, st1, y, st2, d, st3, true, as', e1, e2, e3, hj, e4, .inl ⟨rfl, rfl, w, e5⟩⟩
            · cases h
          · rename_i as' e4
            cases h
            exact ⟨xs, st1, y, st2, d, _, false, as', e1, e2, e3, hj, e4, .inr ⟨rfl, rfl, rfl⟩⟩
          · cases h
        · cases h
      · cases h
    · cases h
  · cases h
abbrev tTold (K : PySem.W.Frag) (j : Nat) (ta tb td tc : TE) (fs : FS) (tr : TS) : TS :=
  tSeq (tAsg (tLst (tCons ta tNil)) (gName j)) (tSeq (tDrop (tBM K "list" rAppend (tVar j) (tCons tb tNil))) (tSeq (tIfS (tNot (fun σ H Q => tCall (spOf K fs) [] E0 (tCons (tVar j) (tCons td tNil)) σ H fun x H' => ∃ k, TruV K x H' k ∧ Q k H')) tr tNext)
    (tDrop (tBM K "list" rAppend (tOp (rIx K) (tVar j) (tC (.int 0))) (tCons tc tNil)))))
theorem simS_told {K : PySem.W.Frag} {A : Nat → Bool} {j : Nat} {ta tb td tc : TE} {a b dd c : EM} {fs : FS} {tr : TS} (hj : A j = true) (ha : SimE K ta a) (hb : SimE K tb b) (hd : SimE K td dd) (hc : SimE K tc c) (hr : SimS K A tr (mRet (eC (.bool false)))) :
    SimS K A (tTold K j ta tb td tc fs tr) (mTold j a b dd fs c) := by
  intro st σ G H o st' r h D q
  obtain ⟨xs, st1, y, st2, d, st3, k, as', e1, e2, e3, ⟨jl, xl⟩, e4, e5⟩ := mTold_inv h
  refine ha st σ G H _ _ r e1 _ fun v1 G1 H1 r1 s1 o1 => ?_
  obtain ⟨p1, rfl, a1, ⟨vs1, a2, a2'⟩, a3, a4⟩ := (show VRel K _ _ _ _ _ (.ow xs) v1 from o1)
  refine ⟨by show 1 ≤ sizeLine; decide, fun p hp => ?_⟩
  have xt : Ext G1 H1 G1 (upd H1 p (.lst [.ref p1])) := Ext.fresh r1.ex hp
  have rj := (r1.ext xt).forget (i := j) (some (.ref p))
  have sj : Step (Own st σ) (Own (st1.set j .un) (σ.set j (some (.ref p)))) G H G1 (upd H1 p (.lst [.ref p1])) := (s1.trans (xt.step (O := Own st1 σ))).sub fun c hc => own_forget hc
  have jl' : j < σ.length := by rw [← r1.len]; exact jl
  have pj : (σ.set j (some (.ref p)))[j]? = some (some (.ref p)) := by rw [List.getElem?_set_self jl']
  have pp : p1 ≠ p := fun z => by rw [z, hp] at a2; cases a2
  have hp0 : H p = none := s1.live p hp
  have np : ¬ Own (st1.set j .un) (σ.set j (some (.ref p))) p := fun z => by
    obtain ⟨_, w, hw⟩ := r1.own (own_forget z)
    rw [hp] at hw; cases hw
  have np1 : ¬ Own (st1.set j .un) (σ.set j (some (.ref p))) p1 := fun z => a3 (own_forget z)
  have gp1 : G1 p = none := by
    cases z : G1 p with
    | none => rfl
    | some w => rw [r1.ex p w z] at hp; cases hp
  refine ⟨.ref p, pj, .inl ⟨rfl, [.ref p1], .inl (.inl upd_same)⟩, ?_⟩
  refine hb _ _ _ _ _ _ rj e2 _ fun v2 G2 H2 r2 s2 o2 => ?_
  have o2 : Dp K G2 v2 y := o2
  obtain ⟨b1, b2, b3⟩ := s2.temp (p := p) upd_same gp1 np
  obtain ⟨c1, c2, c3⟩ := s2.temp (p := p1) (show upd H1 p (.lst [.ref p1]) p1 = some (.lst vs1) by rw [upd_ne pp]; exact a2) a1 np1
  refine ⟨p, [.ref p1], v2, rfl, rfl, b1, by show 1 < sizeLine; decide, ?_⟩
  have r2' : Rel K st2 (σ.set j (some (.ref p))) G2 (upd H2 p (.lst [.ref p1, v2])) := r2.other b2 b3
  have s2' : Step (Own st σ) (Own st2 (σ.set j (some (.ref p)))) G H G2 (upd H2 p (.lst [.ref p1, v2])) := (sj.trans s2).other hp0
  refine ⟨.ref p, pj, ?_⟩
  refine hd _ _ _ _ _ _ r2' e3 _ fun v3 G3 H3 r3 s3 o3 => ?_
  have o3 : Dp K G3 v3 d := o3
  obtain ⟨d1, d2, d3⟩ := s3.temp (p := p) upd_same b2 b3
  obtain ⟨f1, f2, f3⟩ := s3.temp (p := p1) (show upd H2 p (.lst [.ref p1, v2]) p1 = some (.lst vs1) by rw [upd_ne pp]; exact c1) c2 c3
  have s3' := s2'.trans s3
  have gg : Same G3 (upd (upd G3 p1 (.lst vs1)) p (.lst [.ref p1, v2])) := fun c w hc => by
    rw [upd_ne (fun z => by rw [z, d2] at hc; cases hc), upd_ne (fun z => by rw [z, f2] at hc; cases hc)]; exact hc
  have gh : Same (upd (upd G3 p1 (.lst vs1)) p (.lst [.ref p1, v2])) H3 := fun c w hc => by
    by_cases z : c = p
    · subst z; rw [upd_same] at hc; cases hc; exact d1
    · rw [upd_ne z] at hc
      by_cases z2 : c = p1
      · subst z2; rw [upd_same] at hc; cases hc; exact f1
      · rw [upd_ne z2] at hc; exact r3.ex c w hc
  have ra : Rel K [.fz (.list [.list xs, y]), .fz d] (vst [.ref p, v3]) (upd (upd G3 p1 (.lst vs1)) p (.lst [.ref p1, v2])) H3 := by
    refine ⟨rfl, fun n s w h1 h2 => ?_, fun n m s s' q h1 h2 m1 m2 h3 h4 => ?_, gh⟩
    · match n with
      | 0 =>
        cases h1; cases h2
        exact ⟨.ref p, rfl, .lst (.inl (.inl upd_same)) (.cons (.lst (.inl (.inl (by rw [upd_ne pp, upd_same]))) (dpa_mono ((s2.g.trans s3.g).trans gg) a2')) (.cons (dp_mono (s3.g.trans gg) o2) .nil))⟩
      | 1 =>
        cases h1; cases h2
        exact ⟨v3, rfl, dp_mono gg o3⟩
      | n + 2 => cases h1
    · match n with
      | 0 => cases h1; cases m1
      | 1 => cases h1; cases m1
      | n + 2 => cases h1
  have noOwn : ∀ a, ¬ Own [.fz (.list [.list xs, y]), .fz d] (vst [.ref p, v3]) a := fun a ⟨n, s, h1, m, h2⟩ => by
    match n with
    | 0 => cases h1; cases m
    | 1 => cases h1; cases m
    | n + 2 => cases h1
  refine ⟨_, _, .fz (.bool k), as', ra, e4, fun w G' H' r5 s5 o5 => ?_⟩
  have ew : w = .bl k := dp_bool o5
  subst ew
  refine ⟨k, rfl, ?_⟩
  have keep : Same H3 H' := fun c w hc => s5.keep c w hc (noOwn c)
  have xF : Ext G3 H3 G3 H' := ⟨Same.refl _, keep, fun c w hc => keep c w (r3.ex c w hc), fun c w hc => .inl ⟨w, hc⟩⟩
  have rF := r3.ext xF
  have sF := s3'.trans (xF.step (O := Own st3 (σ.set j (some (.ref p)))))
  rcases e5 with ⟨rfl, rfl, w, e5⟩ | ⟨rfl, rfl, rfl⟩
  · show tDrop (tBM K "list" rAppend (tOp (rIx K) (tVar j) (tC (.int 0))) (tCons tc tNil)) D (σ.set j (some (.ref p))) H'
    refine ⟨.ref p, pj, .inl ⟨p, [.ref p1, v2], 0, .ref p1, rfl, rfl, .inl (.inl (keep p _ d1)), rfl, ?_⟩⟩
    refine ⟨.inl ⟨rfl, vs1, .inl (.inl (keep p1 _ f1))⟩, ?_⟩
    refine hc _ _ _ _ _ _ rF e5 _ fun v4 G4 H4 r4 s4 o4 => ?_
    obtain ⟨g1, g2, g3⟩ := s4.temp (p := p1) (keep p1 _ f1) f2 f3
    refine ⟨p1, vs1, v4, rfl, rfl, g1, by rw [dpa_len a2', sizeLine_eq]; omega, ?_⟩
    exact q _ G4 _ (r4.other g2 g3) ((sF.trans s4).write a4 (by rw [g1]; exact fun z => by cases z)) (kp_set hj)
  · have q' : Post K A st σ G H { D with nx := tDrop (tBM K "list" rAppend (tOp (rIx K) (tVar j) (tC (.int 0))) (tCons tc tNil)) D } (.rt (.fz (.bool false))) st' := q
    exact hr _ _ G3 H' _ _ rF rfl _ (Post.after q' sF (kp_set hj))
section
variable {X : Cx} {A : Nat → Bool} {j kk : Nat} {x g : Str} {e1 e2 e3 e4 : Expr} {ta tb td tc : TE} {a b dd c : EM} {fs : FS} {tr u : TS} {n : SM} {f : Addr} {fd : FuncData} {ps : List Str} {body rest : List Stmt} {i0 : Int}
  {px pl pos1 px2 pa1 pc1 pos2 px3 pg pc pn pos3 px4 ps4 pi4 pa4 pc4 pos4 : Pos} {kc : Nat}
theorem ss_told (hN : X.N.Nodup) (hj : X.N[j]? = some x) (hx : Loc X.env.scope x) (hA : A j = true) (F : FnOk X.prog X.w X.K X.mg X.base CX0 kk f fd ps (spOf X.K fs)) (hr : Room kk X.A) (hg : Gl X g) (hm : X.mg g = some (.ref f)) (hk : PySem.W.keepIn X.K (.ref f) = true) (hbi : Binds X.K fd ps [])
    (ha : SE X e1 ta a) (hv2 : SE X (.Name x px2) (tVar j) (eVar j)) (hb : SE X e2 tb b) (hv3 : SE X (.Name x px3) (tVar j) (eVar j)) (hd : SE X e3 td dd) (hret : SSs X A body tr (mRet (eC (.bool false)))) (hv4 : SE X (.Name x px4) (tVar j) (eVar j)) (hc : SE X e4 tc c) (hrest : SSs X A rest u n)
    (hs : swapsWith (.List [e1] pl) (some (.Name x px)) pos1.line X.env = pure false := by rfl) (hf : X.fn x = true ∨ X.env.scope.names.lookup x = some .local := by first | exact .inl rfl | exact .inr rfl | assumption)
    (s1 : starEach [e1] X.env = (false, eval e1 X.env) :: starEach [] X.env := by rfl) (s2 : starEach [e2] X.env = (false, eval e2 X.env) :: starEach [] X.env := by rfl)
    (s3 : starEach [.Name x px3, e3] X.env = (false, eval (.Name x px3) X.env) :: starEach [e3] X.env := by rfl) (s4 : starEach [e3] X.env = (false, eval e3 X.env) :: starEach [] X.env := by rfl) (s5 : starEach [e4] X.env = (false, eval e4 X.env) :: starEach [] X.env := by rfl)
    (hpl : (backTo pc (starEach [e3] X.env)).any (·.1) = false := by rfl) (hdb : (g == ("__debug__" : Str)) = false := by decide)
    (he : ∀ whole, isTrue (.Call (.Name g pg) [.Name x px3, e3] [] pc) X.env whole = (do let v ← whole; standAt (Expr.Call (.Name g pg) [.Name x px3, e3] [] pc).pos; holding [v] (truthy v)) := by intro _; rfl)
    (P2 : ∀ {t : TA}, PA X [e2] t → PE X (.Call (.Attribute (.Name x px2) "append" pa1) [e2] [] pc1) (tBM X.K "list" rAppend (tVar j) t))
    (sw2 : swapsWith (.Call (.Attribute (.Name x px2) "append" pa1) [e2] [] pc1) none pos2.line X.env = pure false := by rfl)
    (P4 : ∀ {t : TA}, PA X [e4] t → PE X (.Call (.Attribute (.Subscript (.Name x px4) (.Constant (.int 0) kc pi4) ps4) "append" pa4) [e4] [] pc4) (tBM X.K "list" rAppend (tOp (rIx X.K) (tVar j) (tC (.int 0))) t))
    (sw4 : swapsWith (.Call (.Attribute (.Subscript (.Name x px4) (.Constant (.int 0) kc pi4) ps4) "append" pa4) [e4] [] pc4) none pos4.line X.env = pure false := by rfl) :
    SSs X A (.Assign [.Name x px] (.List [e1] pl) pos1 :: .Expr (.Call (.Attribute (.Name x px2) "append" pa1) [e2] [] pc1) pos2 :: .If (.UnaryOp .Not (.Call (.Name g pg) [.Name x px3, e3] [] pc) pn) body [] pos3 ::
        .Expr (.Call (.Attribute (.Subscript (.Name x px4) (.Constant (.int 0) kc pi4) ps4) "append" pa4) [e4] [] pc4) pos4 :: rest)
      (tSeq (tAsg (tLst (tCons ta tNil)) (gName j)) (tSeq (tDrop (tBM X.K "list" rAppend (tVar j) (tCons tb tNil))) (tSeq (tIfS (tNot (fun σ H Q => tCall (spOf X.K fs) [] E0 (tCons (tVar j) (tCons td tNil)) σ H fun x H' => ∃ k, TruV X.K x H' k ∧ Q k H')) tr tNext)
        (tSeq (tDrop (tBM X.K "list" rAppend (tOp (rIx X.K) (tVar j) (tC (.int 0))) (tCons tc tNil))) u)))) (mSeq (mTold j a b dd fs c) n) :=
  ⟨pss_cons (ps_set hN hj hx (pe_lst (pa_cons ha.pe pa_nil s1)) hs hf)
    (pss_cons (ps_expr (P2 (pa_cons hb.pe pa_nil s2)) sw2)
      (pss_cons (ps_if (pt_not (pt_truth (pe_call F hr hg hm hk hbi .nil pass0 (pa_cons hv3.pe (pa_cons hd.pe pa_nil s4) s3) hdb s3 hpl) he)) hret.pe pss_nil)
        (pss_cons (ps_expr (P4 (pa_cons hc.pe pa_nil s5)) sw4) hrest.pe))),
   fun st σ G H o st' r h D q => (simS_seq (simS_told hA ha.sim hb.sim hd.sim hc.sim hret.sim) hrest.sim) st σ G H o st' r h D q⟩
end
section
variable {X : Cx} {k : Nat} {f : Addr} {fd : FuncData} {ps : List Str} {fs : FS} {x : Str} {p pos : Pos}
theorem se_call0 (F : FnOk X.prog X.w X.K X.mg X.base CX0 k f fd ps (spOf X.K fs)) (hr : Room k X.A) (hg : Gl X x) (hm : X.mg x = some (.ref f)) (hk : PySem.W.keepIn X.K (.ref f) = true) (hb : Binds X.K fd ps [])
    (hdb : (x == ("__debug__" : Str)) = false := by decide) : SE X (.Call (.Name x p) [] [] pos) (tCall (spOf X.K fs) [] E0 tNil) (eCall fs aNil) :=
  ⟨pe_call0 F hr hg hm hk hb .nil pass0 hdb, sim_call (sa_nil (X := X)).sim⟩
end
end Sh

namespace Sh
open PySem PySem.Spec L2

/-! ### a text's method with one argument -/
def Mt1Ok (K : PySem.W.Frag) (r : V → List V → Hp → VK → Prop) (g : Str → Sl → Option Sl) : Prop := ∀ (G H : Hp) (x : Str) (y : V) (s z : Sl), Same G H → Look K G H s y → g x s = some z → ∀ Q : VK,
  (∀ v G' H', Ext G H G' H' → Fresh K H G' H' z v → Q v H') → r (.str x) [y] H Q
def eM1 (g : Str → Sl → Option Sl) (a b : EM) : EM := fun st => match a st with
  | some (.tmp (.fz (.str x)), st1) => match b st1 with
    | some (y, st2) => match y.get st2 with
      | some .un => none
      | some s => match g x s with
        | some z => some (.tmp z, st2)
        | none => none
      | none => none
    | none => none
  | _ => none
theorem sim_m1 {K : PySem.W.Frag} {r : V → List V → Hp → VK → Prop} {g : Str → Sl → Option Sl} {a b : EM} {ta tb : TE} (hg : Mt1Ok K r g) (ha : SimE K ta a) (hb : SimE K tb b) : SimE K (tM1 r ta tb) (eM1 g a b) := by
  intro st σ G H o st' rl h Q q
  unfold eM1 at h
  split at h
  · rename_i x st1 e1
    split at h
    · rename_i y st2 e2
      split at h
      · cases h
      · rename_i s hn e3
        split at h
        · rename_i z e4
          cases h
          refine ha st σ G H _ _ rl e1 _ fun u G1 H1 r1 s1 o1 => ?_
          have eu : u = .str x := dp_str (show Dp K G1 u (.str x) from o1)
          subst eu
          refine ⟨⟨x, rfl⟩, ?_⟩
          refine hb st1 σ G1 H1 y _ r1 e2 _ fun v G2 H2 r2 s2 o2 => ?_
          have lk := o2.look r2 hn e3
          exact hg G2 H2 x v s z r2.ex lk e4 Q fun w G3 H3 x3 f3 => q w G3 H3 (r2.ext x3) ((s1.trans s2).trans x3.step) (VRel.back (Fresh.vrel f3 r2) (s1.trans s2))
        · cases h
      · cases h
    · cases h
  · cases h
/-- sep.join(texts) -/
def joinG (x : Str) : Sl → Option Sl := fun s => match seqS s with
  | some ds => match txs ds with
    | some ys => if (ys.map (·.length)).sum + ys.length * x.length ≤ 16777216 then some (.fz (.str (Txt.join x ys))) else none
    | none => none
  | none => none
theorem ok_joinG {K : PySem.W.Frag} : Mt1Ok K (fun x xs H Q => ∃ a p, ∃ ys : List Str, x = .str a ∧ xs = [.ref p] ∧ (SqL K H p (ys.map V.str) ∨ SqT K H p (ys.map V.str)) ∧ (ys.map (·.length)).sum + ys.length * a.length ≤ 16777216 ∧ Q (.str (Txt.join a ys)) H) joinG := by
  intro G H x y s z e l hz Q q
  unfold joinG at hz
  split at hz
  · rename_i ds h1
    split at hz
    · rename_i ys h2
      split at hz
      · rename_i h3
        cases hz
        obtain ⟨a, vs, rfl, sq, dd⟩ := look_seq e l h1
        have ev := txs_ok dd h2
        subst ev
        exact ⟨x, a, ys, rfl, rfl, sq, h3, ans_fz e (.str _) q⟩
      · cases hz
    · cases hz
  · cases hz
/-- text.split(sep) -/
def splitG (x : Str) : Sl → Option Sl := fun s => match s with
  | .fz (.str b) => if (b.length == 0) = false ∧ x.length ≤ 100000 then some (.ow ((Txt.split x b).map PyData.str)) else none
  | _ => none
theorem dpa_texts {K : PySem.W.Frag} {G : Hp} : ∀ ys : List Str, DpAll K G (ys.map V.str) (ys.map PyData.str)
  | [] => .nil
  | y :: ys => .cons (.str y) (dpa_texts ys)
theorem ok_splitG {K : PySem.W.Frag} : Mt1Ok K (fun x xs H Q => ∃ a b, x = .str a ∧ xs = [.str b] ∧ (b.length == 0) = false ∧ a.length + 2 ≤ sizeLine ∧ rNewStrs (Txt.split a b) H Q) splitG := by
  intro G H x y s z e l hz Q q
  unfold splitG at hz
  split at hz
  · rename_i b
    split at hz
    · rename_i hb
      cases hz
      have ey : y = .str b := dp_str (show Dp K G y (.str b) from l)
      subst ey
      exact ⟨x, b, rfl, rfl, hb.1, by rw [sizeLine_eq]; omega, fun p hp => ans_ow e (dpa_texts _) q hp⟩
    · cases hz
  · cases hz
section
variable {X : Cx} {o e : Expr} {to te : TE} {a b : EM} {apos pos : Pos}
theorem se_joinS (ho : SE X o to a) (he : SE X e te b) (hs : starEach [e] X.env = [(false, eval e X.env)] := by rfl) (hbase : attributeBase o "join" X.env (eval o X.env) = eval o X.env := by rfl) (hline : (apos.endLine == pos.line) = true := by rfl) :
    SE X (.Call (.Attribute o "join" apos) [e] [] pos) (tM1 (fun x xs H Q => ∃ a p, ∃ ys : List Str, x = .str a ∧ xs = [.ref p] ∧ (SqL X.K H p (ys.map V.str) ∨ SqT X.K H p (ys.map V.str)) ∧ (ys.map (·.length)).sum + ys.length * a.length ≤ 16777216 ∧ Q (.str (Txt.join a ys)) H) to te) (eM1 joinG a b) :=
  ⟨pe_join ho.pe he.pe hs hbase hline, sim_m1 ok_joinG ho.sim he.sim⟩
theorem se_splitS (ho : SE X o to a) (he : SE X e te b) (hs : starEach [e] X.env = [(false, eval e X.env)] := by rfl) (hbase : attributeBase o "split" X.env (eval o X.env) = eval o X.env := by rfl) (hline : (apos.endLine == pos.line) = true := by rfl) :
    SE X (.Call (.Attribute o "split" apos) [e] [] pos) (tM1 (fun x xs H Q => ∃ a b, x = .str a ∧ xs = [.str b] ∧ (b.length == 0) = false ∧ a.length + 2 ≤ sizeLine ∧ rNewStrs (Txt.split a b) H Q) to te) (eM1 splitG a b) :=
  ⟨pe_split ho.pe he.pe hs hbase hline, sim_m1 ok_splitG ho.sim he.sim⟩
end

/-! ### f-strings of texts -/
abbrev JM := S → Option (List Str × S)
def catAll : Str → List Str → Str
  | acc, [] => acc
  | acc, y :: ys => catAll (acc ++ y) ys
def SimJ (K : PySem.W.Frag) (ts : List TE) (f : JM) : Prop := ∀ (st : S) (σ : St) (G H : Hp) (ys : List Str) (st' : S) (acc : Str), Rel K st σ G H → f st = some (ys, st') → acc.length + (ys.map (·.length)).sum ≤ 100000 → ∀ Q : Str → Hp → Prop,
  (∀ G' H', Rel K st' σ G' H' → Step (Own st σ) (Own st' σ) G H G' H' → Q (catAll acc ys) H') → tJs ts acc σ H Q
structure SJ (X : Cx) (es : List Expr) (ts : List TE) (f : JM) : Prop where
  pe : PJ X es ts
  sim : SimJ X.K ts f
def jNil : JM := fun st => some ([], st)
def jCons (a : EM) (f : JM) : JM := fun st => match a st with
  | some (.tmp (.fz (.str y)), st1) => match f st1 with
    | some (ys, st2) => some (y :: ys, st2)
    | none => none
  | _ => none
theorem sim_jnil {K : PySem.W.Frag} : SimJ K [] jNil := by
  intro st σ G H ys st' acc r h _ Q q
  cases h
  exact q G H r Step.refl
theorem sim_jcons {K : PySem.W.Frag} {t : TE} {ts : List TE} {a : EM} {f : JM} (ha : SimE K t a) (hf : SimJ K ts f) : SimJ K (t :: ts) (jCons a f) := by
  intro st σ G H ys st' acc r h hl Q q
  unfold jCons at h
  split at h
  · rename_i y st1 e1
    split at h
    · rename_i ys' st2 e2
      cases h
      rw [List.map_cons, List.sum_cons] at hl
      refine ha st σ G H _ _ r e1 _ fun u G1 H1 r1 s1 o1 => ?_
      have eu : u = .str y := dp_str (show Dp K G1 u (.str y) from o1)
      have lz : (acc ++ y).length = acc.length + y.length := Str.length_append acc y
      refine ⟨y, eu, by rw [lz, sizeLine_eq]; omega, ?_⟩
      exact hf st1 σ G1 H1 ys' _ (acc ++ y) r1 e2 (by rw [lz]; omega) Q fun G2 H2 r2 s2 => q G2 H2 r2 (s1.trans s2)
    · cases h
  · cases h
def eFm (a : EM) : EM := fun st => match a st with
  | some (.tmp (.fz (.str y)), st1) => if y.length ≤ 100000 then some (.tmp (.fz (.str y)), st1) else none
  | _ => none
theorem sim_fm {K : PySem.W.Frag} {t : TE} {a : EM} (ha : SimE K t a) : SimE K (tFmt t) (eFm a) := by
  intro st σ G H o st' r h Q q
  unfold eFm at h
  split at h
  · rename_i y st1 e1
    split at h
    · rename_i hl
      cases h
      refine ha st σ G H _ _ r e1 _ fun u G1 H1 r1 s1 o1 => ?_
      have eu : u = .str y := dp_str (show Dp K G1 u (.str y) from o1)
      subst eu
      exact .inl ⟨y, rfl, by rw [sizeLine_eq]; omega, q _ G1 H1 r1 s1 o1⟩
    · cases h
  · cases h
def eJs (f : JM) : EM := fun st => match f st with
  | some (ys, st1) => if (ys.map (·.length)).sum ≤ 100000 then some (.tmp (.fz (.str (catAll Str.empty ys))), st1) else none
  | none => none
theorem sim_js {K : PySem.W.Frag} {ts : List TE} {f : JM} (hf : SimJ K ts f) : SimE K (fun σ H Q => tJs ts Str.empty σ H fun out H1 => Q (.str out) H1) (eJs f) := by
  intro st σ G H o st' r h Q q
  unfold eJs at h
  split at h
  · rename_i ys st1 e1
    split at h
    · rename_i hl
      cases h
      refine hf st σ G H ys _ Str.empty r e1 (by show 0 + _ ≤ 100000; omega) _ fun G1 H1 r1 s1 => ?_
      exact q _ G1 H1 r1 s1 (.str _)
    · cases h
  · cases h
section
variable {X : Cx} {e v1 v2 : Expr} {es rest : List Expr} {t : TE} {ts : List TE} {a : EM} {f : JM} {pos : Pos}
theorem sj_nil : SJ X [] [] jNil := ⟨.nil, sim_jnil⟩
theorem sj_cons (h : SE X e t a) (hr : SJ X es ts f) : SJ X (e :: es) (t :: ts) (jCons a f) := ⟨.cons h.pe hr.pe, sim_jcons h.sim hr.sim⟩
theorem se_fm (h : SE X e t a) : SE X (.FormattedValue e (-1) none pos) (tFmt t) (eFm a) := ⟨pe_fmt h.pe, sim_fm h.sim⟩
theorem se_js (h : SJ X (v1 :: v2 :: rest) ts f) : SE X (.JoinedStr (v1 :: v2 :: rest) pos) (fun σ H Q => tJs ts Str.empty σ H fun out H1 => Q (.str out) H1) (eJs f) := ⟨pe_joined h.pe, sim_js h.sim⟩
/-- a text of the module -/
theorem se_gstr {x : Str} {i : Str} {tk : Tok} (hg : Gl X x) (hm : X.mg x = some (.str i tk)) (hd : (x == ("__debug__" : Str)) = false := by decide) : SE X (.Name x pos) (tC (.str i)) (eC (.str i)) :=
  ⟨pe_glob hg hm (v := .str i) ⟨_, rfl⟩ hd, sim_c fun _ => .str i⟩
end

/-! ### try: .. except: .., where nothing is raised -/
section
variable {X : Cx} {A : Nat → Bool} {body : List Stmt} {h0 : ExceptHandler} {hs : List ExceptHandler} {t : TS} {m : SM} {pos : Pos}
theorem ss_try (hx : X.nox = X) (hb : SSs X A body t m) : SS X A (.Try body (h0 :: hs) [] [] pos) t m := ⟨ps_try_thru0 (by rw [hx]; exact hb.pe), hb.sim⟩
end
/-! ### one sign of a text -/
def ixC : G2 := fun s i => match s, i with
  | .fz (.str z), .fz (.int j) => if z.length ≤ 100000 then (atI z.cps.toList j).map fun c => .fz (.str ⟨#[c]⟩) else none
  | _, _ => none
theorem ixC1 : ∀ s, ixC .un s = none := by intro s; rfl
theorem ixC2 : ∀ s, ixC s .un = none := by
  intro s
  cases s with
  | fz d => cases d <;> rfl
  | _ => rfl
theorem ok_ixC {K : PySem.W.Frag} : OpOk K (fun x y H Q => rDG x y H Q ∨ rIx K x y H Q) ixC := by
  intro G H x y s t z e lx ly hz Q q
  unfold ixC at hz
  split at hz
  · rename_i w j
    split at hz
    · rename_i hl
      obtain ⟨c, hc, rfl⟩ := Option.map_eq_some_iff.mp hz
      have ex : x = .str w := dp_str (show Dp K G x (.str w) from lx)
      have ey : y = .int j := dp_int (show Dp K G y (.int j) from ly)
      subst ex ey
      exact .inr (.inr (.inr ⟨w, j, c, rfl, rfl, by rw [sizeLine_eq]; omega, hc, ans_fz e (.str _) q⟩))
    · cases hz
  · cases hz
theorem se_ixC {X : Cx} {e e2 : Expr} {ta tb : TE} {a b : EM} {pos : Pos} (hu : X.A.units + 1 < cLine) (ha : SE X e ta a) (hb : SE X e2 tb b) (hs : PlainIx e2 := by exact fun _ _ => rfl) : SE X (.Subscript e e2 pos) (tOp (fun x y H Q => rDG x y H Q ∨ rIx X.K x y H Q) ta tb) (eBin ixC a b) := by
  obtain ⟨pa, sa⟩ := ha
  obtain ⟨pb, sb⟩ := hb
  exact ⟨pe_ix ((ix_dict hu).or ix_seq) pa pb hs, sim_bin ok_ixC ixC1 ixC2 sa sb⟩
end Sh

namespace Sh
open PySem PySem.Spec PyProof.Rows L2

/-! ### defs that are called where no repr is under way -/
structure FnG (P : Program) (w : World) (K : PySem.W.Frag) (mg : Str → Option Value) (base : Heap) (k : Nat) (f : Addr) (fd : FuncData) (ps : List Str) (sp : Sp) : Prop where
  len : ∀ vs H Q E, sp vs H Q E → vs.length = ps.length
  run : ∀ (A : Around) (outer : List Env) (s : Shared) (H : Hp) (args : Args) (us : List Value) (vs : List V) (Q : VK) (E : XK), A.guards = some [] → Room k A → Env0 P w K mg base A outer s H → BindsTo s fd args (ps.zip us) → Vals vs us → sp vs H Q E →
    codeAny (model P w) A (.call (.ref f) args) (CR L2.CX0 outer P w H s Q E) s
theorem FnG.mono {P : Program} {w : World} {K : PySem.W.Frag} {mg : Str → Option Value} {base : Heap} {j k : Nat} {f : Addr} {fd : FuncData} {ps : List Str} {sp : Sp} (F : FnG P w K mg base j f fd ps sp) (h : j ≤ k) : FnG P w K mg base k f fd ps sp :=
  ⟨F.len, fun A outer s H args us vs Q E hg hr => F.run A outer s H args us vs Q E hg (hr.mono h)⟩
section
variable {X : Cx} {k : Nat} {f : Addr} {fd : FuncData} {ps : List Str} {sp : Sp} {x : Str} {p pos : Pos} {e : Expr} {es : List Expr} {t : TA}
theorem run_g {pins : List (Addr × Obj)} {σ : L2.St} {H : Hp} {s : Shared} {Q : VK} {us : List Value} {vs : List V} (F : FnG X.prog X.w X.K X.mg X.base k f fd ps sp) (hg : X.A.guards = some []) (hr : Room k X.A) (hb : Binds X.K fd ps [])
    (I : Inv X pins σ H s) (r : Vals vs us) (h : sp vs H Q L2.E0) : wpAny (model X.prog X.w) X.A (call (.ref f) us) (EP X pins σ Q) X.xe s := by
  have ln : us.length = ps.length := by rw [← r.length]; exact F.len _ _ _ _ h
  have ln2 : (us ++ []).length = ps.length := by rw [List.append_nil]; exact ln
  have bd := hb s us I.kIn ln2
  rw [List.append_nil] at bd
  refine wpAny_call (codeAny_mono (F.run X.A X.stack s H ⟨us, []⟩ us vs Q L2.E0 hg hr I.env0 bd r h) fun res s' q => ?_)
  cases res with
  | error e => exact False.elim q
  | ok fl =>
    cases fl with
    | ret u => exact I.after q
    | _ => exact False.elim q
theorem pe_callG (F : FnG X.prog X.w X.K X.mg X.base k f fd ps sp) (hG : X.A.guards = some []) (hr : Room k X.A) (hg : Gl X x) (hm : X.mg x = some (.ref f)) (hk : PySem.W.keepIn X.K (.ref f) = true) (hb : Binds X.K fd ps [])
    (ha : PA X (e :: es) t) (hdb : (x == ("__debug__" : Str)) = false := by decide) (he : starEach (e :: es) X.env = (false, eval e X.env) :: starEach es X.env := by rfl) (hpl : (backTo pos (starEach es X.env)).any (·.1) = false := by rfl) :
    PE X (.Call (.Name x p) (e :: es) [] pos) (tCall sp [] L2.E0 t) := by
  refine ⟨fun pins s σ H Q I h => wpAny_Call_Name_kw (ld_glob I hg hm ?_ hdb)⟩
  refine PySem.W.callWith_K (h₀ := X.base) I.ok.mod.kin hk (thn (ha.run pos pins s σ H _ I h) fun us s1 ⟨vs, H1, I1, r, q⟩ => ⟨I1.kIn, ?_⟩) he hpl
  have q : sp (vs ++ []) H1 Q L2.E0 := q
  rw [List.append_nil] at q
  exact run_g F hG hr hb I1 r q
end
section
variable {X : Cx} {k : Nat} {f : Addr} {fd : FuncData} {ps : List Str} {fs : FS} {x : Str} {p pos : Pos} {e : Expr} {es : List Expr} {t : TA} {a : AM}
theorem se_callNG (F : FnG X.prog X.w X.K X.mg X.base k f fd ps (spOf X.K fs)) (hG : X.A.guards = some []) (hr : Room k X.A) (hg : Gl X x) (hm : X.mg x = some (.ref f)) (hk : PySem.W.keepIn X.K (.ref f) = true) (hb : Binds X.K fd ps [])
    (ha : SA X (e :: es) t a) (hdb : (x == ("__debug__" : Str)) = false := by decide) (he : starEach (e :: es) X.env = (false, eval e X.env) :: starEach es X.env := by rfl) (hpl : (backTo pos (starEach es X.env)).any (·.1) = false := by rfl) :
    SE X (.Call (.Name x p) (e :: es) [] pos) (tCall (spOf X.K fs) [] L2.E0 t) (eCallN fs a) :=
  ⟨pe_callG F hG hr hg hm hk hb ha.pe hdb he hpl, sim_callN ha.sim⟩
end

/-! a def's rule -/
section
variable {P : Program} {w : World} {K : PySem.W.Frag} {mg : Str → Option Value} {base : Heap}
theorem fun_g {x qual : Str} {st : Stmt} {f : Addr} {fd : FuncData} {N ps : List Str} {k : Nat} {sp : Sp} (F : Fun K x qual st f fd) (S : FnScope N ps (defScope st)) (len : ∀ vs H Q E, sp vs H Q E → vs.length = ps.length)
    (body : ∀ (cdv : Value) (A : Around) (outer : List Env) (s : Shared) (H : Hp) (vs : List V) (Q : VK) (E : XK), A.guards = some [] → Room k (A.deeper (PyProof.Rows.envOfC qual (defScope st) s.heap.objs.size f cdv)) → sp vs H Q E →
      ∃ t, PSs (cxOf L2.CX0 P w K mg base N qual (defScope st) f cdv A outer s H E).nox (defBody st) t ∧ t { nx := fun _ H' => Q .non H', rt := Q } (start N vs) H) : FnG P w K mg base (k + 1) f fd ps sp := by
  obtain ⟨oc, od, kV, doc, pm, an, cdv, ct, osl, rfl, look, code⟩ := F.ex
  refine ⟨len, fun A outer s H args us vs Q E hg hr e0 hb r hsp => ?_⟩
  have hl := len _ _ _ _ hsp
  have inK : K.In s.heap := e0.mod.kin.keeps fun b o e => (e0.bs b o e).1
  have nolim : s.heap.NoLimit := e0.mod.nolimit.keeps fun b o e => (e0.bs b o e).1
  have kinds : ∀ y ∈ ps.zip us, (defScope st).names.lookup y.1 = some .local ∨ ((defScope st).names.lookup y.1 = some .cell ∧ ((cellsFrom (s.heap.objs.size + 1) (defScope st).names []).lookup y.1).isSome = true) := fun ⟨n, v⟩ hy => by
    rcases S.par n (List.of_mem_zip hy).1 with z | z
    · exact .inl z
    · exact .inr ⟨z, PySem.W.cellsFrom_some _ _ _ (.inl z)⟩
  refine codeAny_call_function hr.depth (inK _ _ look) rfl S.co S.gen rfl (PySem.W.codeRec_of inK code) (hb _ _ _ _ ?_)
  refine wpAny_newFunctionEnv_cells S.kind kinds fun env he s1 made => ?_
  subst he
  refine ⟨nolim.keeps made.toInCall.keep, codeAny_func ?_⟩
  obtain ⟨t, ht, hq⟩ := body cdv A outer s H vs Q E hg (hr.deeper _) hsp
  have I := inv_start (CX := L2.CX0) (E := E) S hr.hd e0 hl r made
  refine wpAny_mono (ht.nox.run [] s1 (start N vs) H _ I hq) (fun fl s' hs => ?_) fun e s' hs => hs
  have done : ∀ {σ' : L2.St} {H' : Hp} {v : V} {u : Value}, Inv (cxOf L2.CX0 P w K mg base N qual (defScope st) f cdv A outer s H E) [] σ' H' s' → RelV v u → Q v H' → CE outer P w H s Q u s' :=
    fun {σ' H' v u} J rv q => ⟨v, H', J.os, J.bare, J.base, J.hok, rv, q⟩
  cases fl with
  | ret u => exact let ⟨v, σ', H', J, rv, q⟩ := hs; done J rv q
  | next => exact let ⟨σ', H', J, q⟩ := hs; done (v := V.non) (u := Value.none) J rfl q
  | brk => exact let ⟨_, _, _, q⟩ := hs; False.elim q
  | cont => exact let ⟨_, _, _, q⟩ := hs; False.elim q
theorem fn_okG {x qual : Str} {st : Stmt} {f : Addr} {fd : FuncData} {N ps : List Str} {k n : Nat} {A : Nat → Bool} {pm : List Bool} {m : SM} (F : Fun K x qual st f fd) (S : FnScope N ps (defScope st)) (hn : N.length = n) (hp : ps.length = pm.length) (hA : ∀ k : Nat, pm[k]? = some true → A k = false)
    (body : ∀ (cdv : Value) (A' : Around) (outer : List Env) (s : Shared) (H : Hp) (E : XK), A'.guards = some [] → Room k (A'.deeper (PyProof.Rows.envOfC qual (defScope st) s.heap.objs.size f cdv)) → ∃ t, SSs (cxOf L2.CX0 P w K mg base N qual (defScope st) f cdv A' outer s H E).nox A (defBody st) t m) :
    FnG P w K mg base (k + 1) f fd ps (spOf K (fnS n pm m)) := by
  have len : ∀ vs H Q E, spOf K (fnS n pm m) vs H Q E → vs.length = ps.length := fun vs H Q E h => by
    obtain ⟨as, G, z, as', r, e, _⟩ := h
    obtain ⟨h1, _⟩ := fnS_inv e
    have h2 := r.len
    unfold vst at h2
    rw [List.length_map] at h2
    rw [hp, ← h1, h2]
  have hpl : ps.length ≤ N.length := by have := congrArg List.length S.pre; rw [List.length_take] at this; omega
  refine fun_g F S len fun cdv A' outer s H vs Q E hg hr h => ?_
  have hvs := len vs H Q E h
  obtain ⟨as, G, z, as', r, e, q⟩ := h
  obtain ⟨h1, o, st', e2, rfl, ho⟩ := fnS_inv e
  obtain ⟨t, bd⟩ := body cdv A' outer s H E hg hr
  refine ⟨t, bd.pe, ?_⟩
  obtain ⟨r0, _⟩ := start_rel (N := N) r (by omega)
  have ev : N.length - as.length = n - pm.length := by rw [hn, h1]
  refine bd.sim _ (start N vs) G H o st' r0 (by rw [ev]; exact e2) _ ?_
  rcases ho with rfl | ⟨rfl, rfl⟩
  · intro σ' v G' H' r' s' k' v'
    obtain ⟨a1, a2, a3⟩ := fn_end r (by omega) h1 hA r' s' k' v'
    exact q v G' H' a1 a2 a3
  · intro σ' G' H' r' s' k'
    obtain ⟨a1, a2, a3⟩ := fn_end (z := .fz .none) (v := .non) r (by omega) h1 hA r' s' k' Dp.non
    exact q .non G' H' a1 a2 a3
end
end Sh

namespace Sh
open PySem PySem.Spec PyProof.Rows L2

/-! ### repr(x), x frozen data -/
def rRepr (K : PySem.W.Frag) : List V → Hp → VK → Prop := fun xs H Q => ∃ (v : V) (d : D), xs = [v] ∧ Dp K H v d ∧ noD d = true ∧ d.showable = true ∧ d.depth ≤ 64 ∧ d.shown.length ≤ sizeLine ∧ Q (.str d.shown) H
theorem hasDict_no : ∀ d : D, noD d = true → d.hasDict = false := by
  have key : (∀ d : D, noD d = true → d.hasDict = false) ∧ (∀ ds : List D, noDs ds = true → PyData.hasDictAll ds = false) := by
    have both : ∀ n : Nat, (∀ d : D, sizeOf d ≤ n → noD d = true → d.hasDict = false) ∧ (∀ ds : List D, sizeOf ds ≤ n → noDs ds = true → PyData.hasDictAll ds = false) := by
      intro n
      induction n with
      | zero =>
        refine ⟨fun d h => ?_, fun ds h => ?_⟩
        · cases d <;> simp at h
        · cases ds <;> simp at h
      | succ n ih =>
        refine ⟨fun d h hn => ?_, fun ds h hn => ?_⟩
        · cases d with
          | dict kvs => cases hn
          | list xs =>
            simp at h
            rw [PyData.hasDict]
            exact ih.2 xs (by omega) (by unfold noD at hn; exact hn)
          | tuple xs =>
            simp at h
            rw [PyData.hasDict]
            exact ih.2 xs (by omega) (by unfold noD at hn; exact hn)
          | none => rw [PyData.hasDict]
          | bool b => rw [PyData.hasDict]
          | int i => rw [PyData.hasDict]
          | str x => rw [PyData.hasDict]
        · cases ds with
          | nil => rw [PyData.hasDictAll]
          | cons d ds =>
            simp at h
            unfold noDs at hn
            obtain ⟨h1, h2⟩ := Bool.and_eq_true_iff.mp hn
            rw [PyData.hasDictAll, ih.1 d (by omega) h1, ih.2 ds (by omega) h2]
            rfl
    exact ⟨fun d => (both (sizeOf d)).1 d (Nat.le_refl _), fun ds => (both (sizeOf ds)).2 ds (Nat.le_refl _)⟩
  exact key.1
theorem cr_repr {X : Cx} (hG : X.A.guards = some []) (hu : X.A.units + 100 < cLine) : CallR X (.builtin "repr") (rRepr X.K) := by
  intro pins s σ H xs us Q I r ⟨v, d, ex, hd, hn, hs, hdp, hsz, q⟩
  subst ex
  obtain ⟨u, rfl, ru⟩ := vals1 r
  obtain ⟨as, rd⟩ := Dp.reads I d v u hd hn ru
  have ans : ∀ (h' : Heap) (t : Tok) (tk : Nat), (∀ b o, s.heap.get? b = some o → h'.get? b = some o) → EP X pins σ Q (.str d.shown t) { s with heap := h', toks := tk } := fun h' t tk kp => ⟨.str d.shown, H, I.kept (t' := tk) kp, ⟨_, rfl⟩, q⟩
  cases hd with
  | non =>
    obtain rfl : u = Value.none := ru
    exact PySem.P.repr_of_none (ans s.heap _ _ fun _ _ e => e)
  | bl b =>
    obtain rfl : u = Value.bool b := ru
    have e : (if b then ("True" : Str) else "False") = (PyData.bool b).shown := by rw [PyData.shown]
    exact PySem.P.repr_of_bool (by have z := ans s.heap s.toks (s.toks + 1) fun _ _ e => e; rw [← e] at z; cases b <;> exact z)
  | int i =>
    obtain ⟨t, rfl⟩ := (show ∃ t, u = Value.int i t from ru)
    have hl : i.natAbs.log2 < 1920 := by rw [PyData.showable] at hs; exact of_decide_eq_true hs
    exact PySem.P.repr_of_int hl (by have z := ans s.heap s.toks (s.toks + 1) fun _ _ e => e; rw [PyData.shown] at z; exact z)
  | str x =>
    obtain ⟨t, rfl⟩ := (show ∃ t, u = Value.str x t from ru)
    have hsz : (reprText x).length ≤ sizeLine := by rw [PyData.shown] at hsz; exact hsz
    exact PySem.P.repr_of_str (by have z := ans s.heap s.toks (s.toks + 1) fun _ _ e => e; rw [PyData.shown] at z; exact z) hsz
  | lst h1 h2 =>
    obtain rfl : u = Value.ref _ := ru
    exact repr_of_reads' rd hs (PyData.noDict_hsm (hasDict_no _ hn)) hG (by omega) (fun _ _ e => e) (fun h' t tk kp => ans h' t tk kp) hsz
  | tup h1 h2 _ =>
    obtain rfl : u = Value.ref _ := ru
    exact repr_of_reads' rd hs (PyData.noDict_hsm (hasDict_no _ hn)) hG (by omega) (fun _ _ e => e) (fun h' t tk kp => ans h' t tk kp) hsz
  | pr _ _ _ => cases hn
  | ld _ _ _ => cases hn
def reprS : Sl → Option Sl := fun s => match s.d with
  | some d => if noD d = true ∧ d.showable = true ∧ d.depth ≤ 64 ∧ d.shown.length ≤ 100000 then some (.fz (.str d.shown)) else none
  | none => none
theorem ok_repr {K : PySem.W.Frag} : CallOk K (rRepr K) (one reprS) := by
  intro G H xs ss z e l hz0 Q q
  obtain ⟨s, rfl, hz⟩ := one_inv hz0
  obtain ⟨x, rfl, lx⟩ := looks1 l
  unfold reprS at hz
  split at hz
  · rename_i d h1
    split at hz
    · rename_i hc
      cases hz
      exact ⟨x, d, rfl, look_d e lx h1, hc.1, hc.2.1, hc.2.2.1, by rw [sizeLine_eq]; omega, ans_fz e (.str _) q⟩
    · cases hz
  · cases hz
theorem room100 {k : Nat} {A : Around} (r : Room k A) : A.units + 100 < cLine := by have := r.un; omega
theorem se_repr {X : Cx} {p pos : Pos} {e : Expr} {t : TA} {a : AM} (hG : X.A.guards = some []) (hu : X.A.units + 100 < cLine) (hg : Gl X "repr") (hm : X.mg "repr" = none) (ha : SA X [e] t a) (he : starEach [e] X.env = (false, eval e X.env) :: starEach [] X.env := by rfl) :
    SE X (.Call (.Name "repr" p) [e] [] pos) (tCB (rRepr X.K) t) (eFn (one reprS) a) := se_callB (cr_repr hG hu) ok_repr hg hm (by decide +kernel) ha (he := he)

/-! ### the law's def is called where no repr is under way -/
theorem root_g {P : Program} {w : World} {K : PySem.W.Frag} {mg mb : Str → Option Value} {k : Nat} {fa a : Addr} {fd : FuncData} {x : Str} {sp : Sp} {s1 : Shared} {vs : List Value} {ns : List Int}
    (inK : K.In s1.heap) (nsG : s1.heap.Ns mainGlobals mg) (nsB : s1.heap.Ns builtinsNs mb) (bts : ∀ x : Str, x ≠ "__name__" → mb x = bootBuiltins x) (nolim : s1.heap.NoLimit) (gens : s1.gens = #[])
    (obj : s1.heap.get? a = some { cls := .type "list", data := .seq vs.toArray }) (areI : IntsAre vs ns) (few : ns.length ≤ sizeLine) (room : Room k callerA)
    (F : ∀ base : Heap, K.In base → base.Ns mainGlobals mg → FnG P w K mg base k fa fd [x] sp) (binds : ∀ (s : Shared) (u : Value), BindsTo s fd ⟨[u], []⟩ [(x, u)])
    (spec : ∀ H : Hp, Only H → SqL K H a (ns.map V.int) → sp [.ref a] H (fun v _ => v = .bl true) fun _ _ _ => False) :
    codeAny (model P w) callerA (.call (.ref fa) ⟨[.ref a], []⟩) (fun r s' => r = .ok (.ret (.bool true)) ∧ OldK s1.heap s'.heap ∧ s'.os = s1.os ∧ AllBare s'.gens) s1 := by
  have rel := vals_ints areI
  have lens := areI.length
  have main : ∀ H : Hp, Only H → SqL K H a (ns.map V.int) → HOk P w H s1.heap → (∀ b, H b ≠ none → b = a) → (H a ≠ none → K.lookup a = none) →
      codeAny (model P w) callerA (.call (.ref fa) ⟨[.ref a], []⟩) (fun r s' => r = .ok (.ret (.bool true)) ∧ OldK s1.heap s'.heap ∧ s'.os = s1.os ∧ AllBare s'.gens) s1 := by
    intro H only sq ok at_ off
    have hide : ∀ {b : Addr} {o : Obj}, s1.heap.get? b = some o → H b = none → (hidT s1.heap H).get? b = some o := fun e n => hidT_get e n
    have isA : ∀ {b : Addr} {u : HO}, H b = some u → b = a := fun {b u} q => at_ b fun z => by rw [z] at q; cases q
    have dicts : ∀ {b : Addr} {o : Obj} {es : Array DictEntry} {ep : Nat}, s1.heap.get? b = some o → o.data = .dict es ep → H b = none := fun {b o es ep} e d => by
      cases q : H b with
      | none => rfl
      | some u =>
        obtain rfl := isA q
        rw [obj] at e
        cases e
        have d2 : Data.seq vs.toArray _ = Data.dict es ep := d
        cases d2
    have spaces : ∀ {b : Addr} {m : Str → Option Value}, s1.heap.Ns b m → (hidT s1.heap H).Ns b m := fun {b m} ⟨o, es, ep, e, d, r⟩ => ⟨o, es, ep, hide e (dicts e d), d, r⟩
    have inHid : K.In (hidT s1.heap H) := fun b o e => hide (inK b o e) (by
      cases q : H b with
      | none => rfl
      | some u =>
        obtain rfl := isA q
        rw [off fun z => by rw [z] at q; cases q] at e
        cases e)
    have module : Mod K mg (hidT s1.heap H) := ⟨inHid, spaces nsG, ⟨mb, spaces nsB, bts⟩, let ⟨mc, z1, z2⟩ := nolim; ⟨mc, spaces z1, z2⟩⟩
    have env : Env0 P w K mg (hidT s1.heap H) callerA [] s1 H := ⟨rfl, module, fun b o e => of_hidT e, Nat.le_of_eq (hidT_size _ _), trivial, fun b hb => absurd (show b ∈ ([] : List Addr) from hb) (by simp), ok, .of_eq gens⟩
    refine codeAny_mono ((F _ inHid (spaces nsG)).run callerA [] s1 H ⟨[.ref a], []⟩ [.ref a] [.ref a] _ _ rfl room env (binds s1 (.ref a)) (.cons rfl .nil) (spec H only sq)) fun res s' out => ?_
    cases res with
    | error e => exact False.elim out
    | ok fl =>
      cases fl with
      | ret u =>
        obtain ⟨v, H', os, bare, un, ok', rv, q⟩ := out
        have q : v = .bl true := q
        subst q
        obtain rfl : u = Value.bool true := rv
        refine ⟨rfl, OldK.of_keep fun b o e => ?_, os, bare⟩
        cases q : H b with
        | none => exact un.keep b o e q (by intro z; exact absurd (show b ∈ ([] : List Addr) from z) (by simp)) (by simp)
        | some u =>
          rcases only b with z | ⟨ob, xs, z⟩
          · rw [q] at z; cases z
          · obtain ⟨c1, _⟩ := ok b _ z
            obtain ⟨c2, _⟩ := ok' b _ (un.frzs b ob _ z)
            rw [e] at c1
            cases c1
            exact c2
      | _ => exact False.elim out
  cases look : K.lookup a with
  | some o =>
    have e := inK a o look
    rw [obj] at e
    cases e
    exact main (fun _ => none) (fun _ => .inl rfl) (.inr ⟨_, vs.toArray, _, look, rfl, rfl, rfl, by rw [List.size_toArray, lens]; exact few, by simpa using rel⟩) (fun b u z => (by have y : (none : Option HO) = some u := z; cases y)) (fun b z => absurd rfl z) fun z => absurd rfl z
  | none =>
    have self : ∀ (b : Addr), (if b = a then some (HO.frz { cls := .type "list", data := .seq vs.toArray } (.lst (ns.map V.int))) else none) ≠ none → b = a := fun b z => by
      by_cases y : b = a
      · exact y
      · exact absurd (if_neg y) z
    refine main (fun b => if b = a then some (.frz { cls := .type "list", data := .seq vs.toArray } (.lst (ns.map V.int))) else none) (fun b => ?_) (.inl (.inr ⟨{ cls := .type "list", data := .seq vs.toArray }, if_pos rfl⟩)) (fun b u z => ?_) self fun _ => look
    · by_cases y : b = a
      · exact .inr ⟨_, _, if_pos y⟩
      · exact .inl (if_neg y)
    · obtain rfl := self b (fun y => by have z2 := y.symm.trans z; cases z2)
      cases (if_pos rfl).symm.trans z
      exact ⟨obj, by rw [List.length_map]; exact few, vs, _, rel, obj⟩
theorem walk_g {l : PySem.W.OpenLaw} {n k : Nat} {q : Program} {loose : List Str} {XP : (Str → Option Value) → Heap → Prop} {YP : World → Heap → Prop} {d : DefRec} {K : Params → PySem.W.Frag} {sp : World → Sp} {x : Str}
    (most : l.most = some n) (few : n ≤ sizeLine) (nodef : d.params.defaults = []) (room : Room k callerA) (inY : ∀ (w : World) (h : Heap), YP w h → (K w.params).In h)
    (F : ∀ (w : World) (mg : Str → Option Value) (fa : Addr) (h : Heap), (K w.params).In h → h.Ns mainGlobals mg → mg d.name = some (.ref fa) →
      ∃ fd : FuncData, (∀ (s : Shared) (u : Value), BindsTo s fd ⟨[u], []⟩ [(x, u)]) ∧ ∀ base : Heap, (K w.params).In base → base.Ns mainGlobals mg → FnG l.prog w (K w.params) mg base k fa fd [x] (sp w))
    (spec : ∀ (w : World) (H : Hp) (a : Addr) (ns : List Int), ns.length ≤ n → Only H → SqL (K w.params) H a (ns.map V.int) → sp w [.ref a] H (fun v _ => v = .bl true) fun _ _ _ => False) :
    PySem.W.WalkO q loose XP YP l.row.toRowW d [] (fun f vs => PySem.call f vs) := by
  refine Att.attach_call most nodef fun w s0 s1 mg mb fa o pm cd doc a vs ns G Y ho hd hcd hmg hobj hints hlen hgens => ?_
  have inK := inY w _ Y
  obtain ⟨fd, hb, hF⟩ := F w mg fa _ inK G.T.g hmg
  exact root_g inK G.T.g G.T.b G.T.builtins G.T.nolimit hgens hobj hints (Nat.le_trans hlen few) room hF hb fun H hO hS => spec w H a ns hlen hO hS
end Sh

namespace Sh
open PySem PySem.Spec PyProof.Rows L2

/-! ### one sign in a text -/
def oneS (x : Str) : Option Nat := match x.cps.toList with | [k] => some k | _ => none
theorem oneS_eq {x : Str} {k : Nat} (h : oneS x = some k) : x = ⟨#[k]⟩ := by
  unfold oneS at h
  split at h
  · rename_i e
    cases h
    obtain ⟨c⟩ := x
    congr 1
    exact Array.toList_inj.mp e
  · cases h
def inC (neg : Bool) : G2 := fun s i => match s, i with
  | .fz (.str x), .fz (.str z) => (oneS x).map fun k => .fz (.bool (if neg then !decide (k ∈ z.cps.toList) else decide (k ∈ z.cps.toList)))
  | _, _ => none
theorem inC1 {neg : Bool} : ∀ s, inC neg .un s = none := by intro s; rfl
theorem inC2 {neg : Bool} : ∀ s, inC neg s .un = none := by
  intro s
  cases s with
  | fz d => cases d <;> rfl
  | _ => rfl
theorem inC_inv {neg : Bool} {s c z : Sl} (h : inC neg s c = some z) : ∃ k w, s = .fz (.str ⟨#[k]⟩) ∧ c = .fz (.str w) ∧ z = .fz (.bool (if neg then !decide (k ∈ w.cps.toList) else decide (k ∈ w.cps.toList))) := by
  unfold inC at h
  split at h
  · rename_i x w
    obtain ⟨k, hk, rfl⟩ := Option.map_eq_some_iff.mp h
    rw [oneS_eq hk]
    exact ⟨k, w, rfl, rfl, rfl⟩
  · cases h
theorem ok_inC {K : PySem.W.Frag} : OpOk K (fun x y H Q => rInS x y H Q) (inC false) := by
  intro G H x y s t z e lx ly hz Q q
  obtain ⟨k, w, rfl, rfl, rfl⟩ := inC_inv hz
  have ex := dp_str (show Dp K G x (.str ⟨#[k]⟩) from lx)
  have ey := dp_str (show Dp K G y (.str w) from ly)
  subst ex ey
  exact ⟨k, w, rfl, rfl, ans_fz e (.bl _) q⟩
theorem ok_notinC {K : PySem.W.Frag} : OpOk K (fun x y H Q => rNotInS x y H Q) (inC true) := by
  intro G H x y s t z e lx ly hz Q q
  obtain ⟨k, w, rfl, rfl, rfl⟩ := inC_inv hz
  have ex := dp_str (show Dp K G x (.str ⟨#[k]⟩) from lx)
  have ey := dp_str (show Dp K G y (.str w) from ly)
  subst ex ey
  exact ⟨k, w, rfl, rfl, ans_fz e (.bl _) q⟩
section
variable {X : Cx} {e e2 : Expr} {ta tb : TE} {a b : EM} {pos : Pos}
theorem se_inC (ha : SE X e ta a) (hb : SE X e2 tb b) (hm : behindInMarks .In e2 = false := by rfl) : SE X (.Compare e [.In] [e2] pos) (tOp rInS ta tb) (eBin (inC false) a b) := se_cmp op_inS ok_inC ha hb hm inC1 inC2
theorem st_inC (ha : SE X e ta a) (hb : SE X e2 tb b) (hm : behindInMarks .In e2 = false := by rfl) : ST X (.Compare e [.In] [e2] pos) (tTest (tOp rInS ta tb)) (tBl (eBin (inC false) a b)) := st_cmp op_inS ok_inC ha hb hm inC1 inC2
theorem se_notinC (ha : SE X e ta a) (hb : SE X e2 tb b) (hm : behindInMarks .NotIn e2 = false := by rfl) : SE X (.Compare e [.NotIn] [e2] pos) (tOp rNotInS ta tb) (eBin (inC true) a b) := se_cmp op_notInS ok_notinC ha hb hm inC1 inC2
theorem st_notinC (ha : SE X e ta a) (hb : SE X e2 tb b) (hm : behindInMarks .NotIn e2 = false := by rfl) : ST X (.Compare e [.NotIn] [e2] pos) (tTest (tOp rNotInS ta tb)) (tBl (eBin (inC true) a b)) := st_cmp op_notInS ok_notinC ha hb hm inC1 inC2
end
end Sh

namespace Sh
open PySem PySem.Spec PyProof.Rows L2

/-! ### sorted(set(xs)), xs a list of texts -/
def rSortSet (K : PySem.W.Frag) : List V → Hp → VK → Prop := fun vs H Q => ∃ (l : Addr) (ks : List Str), vs = [V.ref l] ∧ SqL K H l (ks.map V.str) ∧ ks.length < 4000 ∧ ∀ p, H p = none → Q (.ref p) (upd H p (.lst ((sortSt (dedL ks)).map V.str)))
theorem ded_len (ks : List Str) : (dedL ks).length ≤ ks.length := by
  have := fold_len ks []
  unfold dedL
  simpa using this
theorem vals_txt {ks : List Str} {us : List Value} (r : Vals (ks.map V.str) us) : us.length = ks.length ∧ ∀ (i : Nat) (v : Value), us[i]? = some v → ∃ x u, ks[i]? = some x ∧ v = .str x u := by
  induction ks generalizing us with
  | nil => cases r; exact ⟨rfl, fun i v h => by cases i <;> cases h⟩
  | cons x ks ih =>
    cases r with
    | cons r t =>
      obtain ⟨h1, h2⟩ := ih t
      obtain ⟨u, rfl⟩ := (show ∃ u, _ = Value.str x u from r)
      refine ⟨by rw [List.length_cons, List.length_cons, h1], fun i v h => ?_⟩
      cases i with
      | zero => cases h; exact ⟨x, u, rfl, rfl⟩
      | succ i => exact h2 i v h
section
variable {X : Cx}
theorem pe_sortSet {a : Expr} {ta : TA} {p p2 q pos : Pos} (hc : X.calm = true) (hu : X.A.units + 64 < cLine) (hg : Gl X "sorted") (hm : X.mg "sorted" = none) (hg2 : Gl X "set") (hm2 : X.mg "set" = none) (ha : PA X [a] ta)
    (na : starEach [a] X.env = (false, eval a X.env) :: starEach [] X.env := by rfl) : PE X (.Call (.Name "sorted" p) [.Call (.Name "set" p2) [a] [] q] [] pos) (tCB (rSortSet X.K) ta) := by
  refine ⟨fun pins s σ H Q I h => ?_⟩
  refine Call_ (ld_blt I hg hm (by decide +kernel : bootBuiltins "sorted" = some (.builtin "sorted")) ?_)
  refine PyProof.Rows.callWith_builtin1 (PyProof.Rows.args_cons ?_ rfl) rfl rfl
  refine Call_ (ld_blt I hg2 hm2 PyProof.Rows.boot_set ?_)
  refine PyProof.Rows.callWith_type1 (thn (ha.run q pins s σ H _ I h) fun us s1 ⟨xs, H1, I1, r1, q1⟩ => ?_) na rfl
  obtain ⟨l, ks, rfl, hl, few, q1⟩ := q1
  rw [Vals.ref1 r1]
  obtain ⟨its, r, pl, hz⟩ := I1.list hl
  obtain ⟨e1, e2⟩ := vals_txt r
  refine call_set_txts ks (I1.ok.hd hc) pl.isList (fun i v h => e2 i v (by simpa using h)) (by rw [List.size_toArray, e1]) few fun h' tk R kp => ?_
  refine PyProof.Rows.args_nil ?_
  have I2 : Inv X pins σ H1 { s1 with heap := h', toks := tk } := I1.kept fun b o e => kp b o e
  have := ded_len ks
  refine sh_sortedS (s := { s1 with heap := h', toks := tk }) R (I1.ok.hd hc) (by omega) (by omega) fun out h1 h2 p c g hv k1 k2 hp he s' hs1 hs2 hs3 => ?_
  obtain ⟨h'', g'', d'', t'', o''⟩ := s'
  cases hs1
  cases hs2
  cases hs3
  have I3 : Inv X pins σ H1 { s1 with heap := h1, toks := tk } := I2.kept (t' := tk) k1
  have hz2 : ((sortSt (dedL ks)).map V.str).length ≤ sizeLine := by
    rw [List.length_map, (sortSt_perm _).length_eq]
    exact Evl.sz_of (by omega)
  refine ⟨.ref p, upd H1 p (.lst ((sortSt (dedL ks)).map V.str)), ?_, rfl, q1 p (I3.hok.fresh hp)⟩
  exact I3.call' (s' := _) (ch := []) rfl (Un.laid k2 hp (I3.hok.fresh hp)) (I3.hok.laid k2 hp ⟨hz2, out, c, hv, he⟩) I3.bare (fun b hb => nomatch hb)
end
def sortSetS : Sl → Option Sl := fun s => match s.l with
  | some ds => match txs ds with
    | some ks => if ks.length < 4000 then some (.ow ((sortSt (dedL ks)).map PyData.str)) else none
    | none => none
  | none => none
theorem dpa_strs {K : PySem.W.Frag} {G : Hp} : ∀ ks : List Str, DpAll K G (ks.map V.str) (ks.map PyData.str)
  | [] => .nil
  | x :: ks => .cons (.str x) (dpa_strs ks)
theorem ok_sortSet {K : PySem.W.Frag} : CallOk K (rSortSet K) (one sortSetS) := by
  intro G H xs ss z e l hz0 Q q
  obtain ⟨s, rfl, hz⟩ := one_inv hz0
  obtain ⟨x, rfl, lx⟩ := looks1 l
  unfold sortSetS at hz
  split at hz
  · rename_i ds hs
    split at hz
    · rename_i ks hk
      split at hz
      · rename_i few
        cases hz
        obtain ⟨a, vs, rfl, h1, h2⟩ := look_l e lx hs
        refine ⟨a, ks, rfl, ?_, few, fun p hp => ans_ow e (dpa_strs _) q hp⟩
        rw [← txs_ok h2 hk]
        exact h1
      · cases hz
    · cases hz
  · cases hz
section
variable {X : Cx} {p p2 q pos : Pos} {e : Expr} {t : TA} {a : AM}
theorem se_sortSet (hc : X.calm = true) (hu : X.A.units + 64 < cLine) (hg : Gl X "sorted") (hm : X.mg "sorted" = none) (hg2 : Gl X "set") (hm2 : X.mg "set" = none) (ha : SA X [e] t a)
    (na : starEach [e] X.env = (false, eval e X.env) :: starEach [] X.env := by rfl) : SE X (.Call (.Name "sorted" p) [.Call (.Name "set" p2) [e] [] q] [] pos) (tCB (rSortSet X.K) t) (eFn (one sortSetS) a) :=
  ⟨pe_sortSet hc hu hg hm hg2 hm2 ha.pe na, sim_fn ok_sortSet ha.sim⟩
end
end Sh

namespace L11
open PySem PySem.Spec L2 Sh
def m__law_cells : SM := (mSeq (mAsg 2 (eOrT (eFn (one listF) (aCons (eSl (eVar 0) pNone (pSome (eVar 1))) aNil)) (eLst (aCons (eC (.int 0)) aNil))))
  (mSeq (mFor (iEnum' (aCons (eFrz (eSl (eVar 0) (pSome (eVar 1)) (pSome (eC (.int 63))))) aNil)) (gTp 2 (gsCons (gNm 3) (gsCons (gNm 4) gsNil))) (mSeq (mAsg 5 (eBin modS (eFn (one intF) (aCons (eVar 3) aNil)) (eVar 1)))
  (mSet 2 (eVar 5) (eBin addS (eBin ixS (eVar 2) (eVar 5)) (eBin mulS (eVar 4) (eBin addS (eVar 3) (eC (.int 2))))))))
  (mRet (eVar 2))))
def fs__law_cells : FS := fnS 6 [true, true] m__law_cells
def m__law_take : SM := (mSeq (mIf (tBl (eBin gtS (eBin ixS (eVar 0) (eC (.int 0))) (eC (.int 0)))) (mSeq (mAsg 2 (eBin modS (eFn (one intF) (aCons (eBin ixS (eVar 0) (eC (.int 0))) aNil)) (eVar 1)))
  (mSeq (mSet 0 (eC (.int 0)) (eBin fdivS (eBin ixS (eVar 0) (eC (.int 0))) (eVar 1)))
  (mRet (eVar 2)))) mSkip)
  (mSeq (mSet 0 (eC (.int 2)) (eBin addS (eBin ixS (eVar 0) (eC (.int 2))) (eC (.int 1))))
  (mSeq (mAsg 3 (eBin modS (eFn (one intF) (aCons (eBin mulS (eBin addS (eBin ixS (eVar 0) (eC (.int 1))) (eBin mulS (eC (.int 48271)) (eBin ixS (eVar 0) (eC (.int 2))))) (eBin addS (eC (.int 39373)) (eBin ixS (eVar 0) (eC (.int 2))))) aNil)) (eC (.int 2147483647))))
  (mSeq (mAsg 4 (eBin addS (eBin modS (eFn (one intF) (aCons (eVar 3) aNil)) (eC (.int 40009))) (eC (.int 7))))
  (mSeq (mAsg 5 (eBin modS (eFn (one intF) (aCons (eBin mulS (eBin addS (eBin addS (eVar 3) (eBin ixS (eVar 0) (eC (.int 2)))) (eBin fdivS (eBin ixS (eVar 0) (eC (.int 1))) (eC (.int 1000003)))) (eVar 4)) aNil)) (eC (.int 2147483629))))
  (mRet (eBin modS (eFn (one intF) (aCons (eBin fdivS (eBin modS (eFn (one intF) (aCons (eBin addS (eBin mulS (eVar 5) (eC (.int 48271))) (eVar 3)) aNil)) (eC (.int 2147483587))) (eC (.int 64))) aNil)) (eVar 1))))))))
def fs__law_take : FS := fnS 6 [true, true] m__law_take
def m__law_of : SM := (mRet (eBin ixS (eVar 1) (eCall fs__law_take (aCons (eVar 0) (aCons (eFrz (eFn (one lenS) (aCons (eVar 1) aNil))) aNil)))))
def fs__law_of : FS := fnS 2 [true, true] m__law_of
def m__law_grown : SM := (mSeq (mAsg 3 (eLst (aCons (eC (.str "a")) (aCons (eC (.str "b")) (aCons (eC (.str "c")) (aCons (eC (.str "d")) (aCons (eC (.str "e")) (aCons (eC (.str "f")) (aCons (eC (.str "g")) (aCons (eC (.str "ab")) (aCons (eC (.str "ba")) (aCons (eC (.str "h")) (aCons (eC (.str "m")) (aCons (eC (.str "z")) aNil))))))))))))))
  (mSeq (mAsg 4 (eLst (aCons (eFrz (eTup (aCons (eFrz (eMt "list" 3 popM (aCons (eFrz (eCall fs__law_take (aCons (eVar 0) (aCons (eFrz (eFn (one lenS) (aCons (eVar 3) aNil))) aNil)))) aNil))) (aCons (eC .none) (aCons (eC (.bool false)) aNil))))) aNil)))
  (mSeq (mFor (iRng1' (aCons (eBin subS (eVar 1) (eC (.int 1))) aNil)) (gNm 5) (mSeq (mAsg 6 (eBin ixS (eCall fs__law_of (aCons (eVar 0) (aCons (eVar 4) aNil))) (eC (.int 0))))
  (mDrop (eMt "list" 4 appM (aCons (eFrz (eTup (aCons (eFrz (eMt "list" 3 popM (aCons (eFrz (eCall fs__law_take (aCons (eVar 0) (aCons (eFrz (eFn (one lenS) (aCons (eVar 3) aNil))) aNil)))) aNil))) (aCons (eFrz (eVar 6)) (aCons (eFrz (eBin ltS (eCall fs__law_take (aCons (eVar 0) (aCons (eC (.int 12)) aNil))) (eVar 2))) aNil))))) aNil)))))
  (mRet (eFn (one tupF) (aCons (eVar 4) aNil))))))
def fs__law_grown : FS := fnS 7 [true, true, true] m__law_grown
def lb__law_by_hand_1 : SM := (mSeq (mAsg 5 (eFn (one sortF) (aCons (eLst (aCons (eFrz (eTup (aCons (eFrz (eVar 4)) (aCons (eC (.str "a")) aNil)))) (aCons (eFrz (eTup (aCons (eFrz (eVar 1)) (aCons (eC (.str "b")) aNil)))) aNil))) aNil)))
  (mAsg 3 (eBin addT (eVar 3) (eLst (aCons (eFrz (eTup (aCons (eFrz (eTup (aCons (eFrz (eVar 4)) (aCons (eC (.str "a")) aNil)))) aNil))) (aCons (eFrz (eFn (one tupF) (aCons (eVar 5) aNil))) (aCons (eFrz (eFn (one tupF) (aCons (eRev (eVar 5)) aNil))) aNil)))))))
def m__law_by_hand : SM := (mSeq (mPar 1 2 (aCons (eBin ixS (eBin ixS (eVar 0) (eC (.int 0))) (eC (.int 0))) (aCons (eLc [7] (iSeq (eVar 0)) (gNm 7) (tTr (eBin ixS (eVar 7) (eC (.int 2)))) (eBin ixS (eVar 7) (eC (.int 0)))) aNil)))
  (mSeq (mAsg 3 (eLst (aCons (eFrz (eTup aNil)) (aCons (eFrz (eTup (aCons (eFrz (eTup (aCons (eFrz (eVar 1)) (aCons (eC (.str "a")) aNil)))) aNil))) (aCons (eFrz (eTup (aCons (eFrz (eTup (aCons (eFrz (eVar 1)) (aCons (eC (.str "none")) aNil)))) aNil))) (aCons (eFrz (eTup (aCons (eFrz (eTup (aCons (eFrz (eVar 1)) (aCons (eC (.str "zzzzzzzz")) aNil)))) aNil))) (aCons (eFrz (eTup (aCons (eFrz (eTup (aCons (eFrz (eVar 1)) (aCons (eC (.str "a")) aNil)))) (aCons (eFrz (eTup (aCons (eFrz (eVar 1)) (aCons (eC (.str "a")) aNil)))) aNil)))) aNil)))))))
  (mSeq (mAsg 3 (eBin addT (eVar 3) (eLst (aCons (eFrz (eTup (aCons (eFrz (eTup (aCons (eFrz (eVar 1)) (aCons (eC (.str "a")) aNil)))) (aCons (eFrz (eTup (aCons (eFrz (eVar 1)) (aCons (eC (.str "b")) aNil)))) aNil)))) (aCons (eFrz (eTup (aCons (eFrz (eTup (aCons (eC (.str "nobody")) (aCons (eC (.str "a")) aNil)))) aNil))) (aCons (eFrz (eTup (aCons (eFrz (eTup (aCons (eFrz (eVar 1)) (aCons (eC (.str "a")) aNil)))) (aCons (eFrz (eTup (aCons (eC (.str "zzzz")) (aCons (eC (.str "b")) aNil)))) aNil)))) (aCons (eFrz (eTup (aCons (eFrz (eTup (aCons (eFrz (eVar 1)) (aCons (eC (.str "")) aNil)))) aNil))) aNil)))))))
  (mSeq (mAsg 3 (eBin addT (eVar 3) (eLst (aCons (eFrz (eTup (aCons (eFrz (eTup (aCons (eFrz (eVar 1)) (aCons (eC (.str "A")) aNil)))) aNil))) (aCons (eFrz (eTup (aCons (eFrz (eTup (aCons (eFrz (eVar 1)) (aCons (eC .none) aNil)))) aNil))) aNil)))))
  (mSeq (mAsg 3 (eBin addT (eVar 3) (eLst (aCons (eFrz (eTup (aCons (eFrz (eTup (aCons (eFrz (eVar 1)) aNil))) aNil))) (aCons (eFrz (eTup (aCons (eFrz (eTup (aCons (eFrz (eVar 1)) (aCons (eC (.str "a")) (aCons (eC (.str "b")) aNil))))) aNil))) (aCons (eFrz (eTup (aCons (eFrz (eVar 1)) (aCons (eC (.str "a")) aNil)))) (aCons (eFrz (eLst (aCons (eFrz (eTup (aCons (eFrz (eVar 1)) (aCons (eC (.str "a")) aNil)))) aNil))) (aCons (eFrz (eTup (aCons (eFrz (eLst (aCons (eFrz (eVar 1)) (aCons (eC (.str "a")) aNil)))) aNil))) (aCons (eC (.str "a")) (aCons (eC .none) (aCons (eC (.int 0)) aNil)))))))))))
  (mSeq (mAsg 3 (eBin addT (eVar 3) (eLst (aCons (eFrz (eTup (aCons (eFrz (eTup (aCons (eC .none) (aCons (eC (.str "a")) aNil)))) aNil))) (aCons (eFrz (eTup (aCons (eFrz (eTup (aCons (eC (.int 0)) (aCons (eC (.str "a")) aNil)))) aNil))) (aCons (eFrz (eTup (aCons (eFrz (eTup (aCons (eFrz (eLst (aCons (eFrz (eVar 1)) aNil))) (aCons (eC (.str "a")) aNil)))) aNil))) (aCons (eFrz (eTup (aCons (eFrz (eTup (aCons (eFrz (eVar 1)) (aCons (eFrz (eLst (aCons (eC (.str "a")) aNil))) aNil)))) aNil))) (aCons (eFrz (eTup (aCons (eFrz (eTup (aCons (eFrz (eLst aNil)) (aCons (eFrz (eLst aNil)) aNil)))) aNil))) (aCons (eFrz (eTup (aCons (eFrz (eTup (aCons (eFrz (eVar 1)) (aCons (eFrz (eTup (aCons (eC (.str "a")) aNil))) aNil)))) aNil))) aNil)))))))))
  (mSeq (mFor (iSeq (eSl (eVar 2) pNone (pSome (eC (.int 2))))) (gNm 4) lb__law_by_hand_1)
  (mSeq (mAsg 6 (eFn (one sortF) (aCons (eLc [7] (iSeq (eVar 0)) (gNm 7) tYes' (eBin ixS (eVar 7) (eC (.int 0)))) aNil)))
  (mRet (eBin addT (eVar 3) (eLst (aCons (eFrz (eFn (one tupF) (aCons (eLc [4] (iSeq (eVar 6)) (gNm 4) tYes' (eTup (aCons (eFrz (eVar 4)) (aCons (eC (.str "x")) aNil)))) aNil))) (aCons (eFrz (eFn (one tupF) (aCons (eLc [4] (iSeq (eRev (eVar 6))) (gNm 4) tYes' (eTup (aCons (eFrz (eVar 4)) (aCons (eC (.str "x")) aNil)))) aNil))) aNil)))))))))))))
def fs__law_by_hand : FS := fnS 8 [true] m__law_by_hand
def m__law_lists (self : FS) : SM := (mRet (eIf (tTr (eIs ["list", "tuple"] (eVar 0))) (eLc [1] (iSeq (eVar 0)) (gNm 1) tYes' (eCall self (aCons (eVar 1) aNil))) (eVar 0)))
def fs__law_lists : Nat → FS
  | 0 => fun _ => none
  | d + 1 => fnS 2 [true] (m__law_lists (fs__law_lists d))
def lb__law_wished_1 : SM := (mIf (tBl (eBin (eqvS true) (eVar 4) (eLst aNil))) (mDrop (eMt "list" 5 appM (aCons (eFrz (eTup (aCons (eFrz (eMt "list" 4 popM (aCons (eFrz (eCall fs__law_take (aCons (eVar 0) (aCons (eFrz (eFn (one lenS) (aCons (eVar 4) aNil))) aNil)))) aNil))) (aCons (eFrz (eCall fs__law_of (aCons (eVar 0) (aCons (eVar 3) aNil)))) aNil)))) aNil))) mSkip)
def m__law_wished : SM := (mSeq (mPar 4 5 (aCons (eLc [7] (iSeq (eVar 1)) (gNm 7) tYes' (eBin ixS (eVar 7) (eC (.int 0)))) (aCons (eLst aNil) aNil)))
  (mSeq (mFor (iRng1' (aCons (eVar 2) aNil)) (gNm 6) lb__law_wished_1)
  (mRet (eFn (one tupF) (aCons (eFn (one sortF) (aCons (eVar 5) aNil)) aNil)))))
def fs__law_wished : FS := fnS 8 [true, true, true, true] m__law_wished
def m__law_planned : SM := (mSeq (mAsg 3 (eLst (aCons (eFrz (eTup (aCons (eFrz (eBin ixS (eBin ixS (eVar 1) (eC (.int 0))) (eC (.int 0)))) (aCons (eFrz (eCall fs__law_of (aCons (eVar 0) (aCons (eVar 2) aNil)))) aNil)))) aNil)))
  (mSeq (mFor (iSeq (eSl (eVar 1) (pSome (eC (.int 1))) pNone)) (gTp 3 (gsCons (gNm 4) (gsCons (gNm 5) (gsCons (gNm 6) gsNil)))) (mIf (tAnd' (tNot' (tTr (eVar 6))) (tBl (eBin (eqvS false) (eCall fs__law_take (aCons (eVar 0) (aCons (eC (.int 3)) aNil))) (eC (.int 0))))) (mDrop (eMt "list" 3 appM (aCons (eFrz (eTup (aCons (eFrz (eVar 4)) (aCons (eFrz (eCall fs__law_of (aCons (eVar 0) (aCons (eVar 2) aNil)))) aNil)))) aNil))) mSkip))
  (mRet (eFn (one tupF) (aCons (eFn (one sortF) (aCons (eVar 3) aNil)) aNil)))))
def fs__law_planned : FS := fnS 7 [true, true, true] m__law_planned
def m__law_bent (self : FS) : SM := (mSeq (mIf (tAnd' (tTr (eIs ["tuple"] (eVar 1))) (tAnd' (tBl (eBin (eqvS true) (eVar 1) (eTup aNil))) (tBl (eBin gtS (eCall fs__law_take (aCons (eVar 0) (aCons (eC (.int 5)) aNil))) (eC (.int 0)))))) (mSeq (mAsg 3 (eCall fs__law_take (aCons (eVar 0) (aCons (eFrz (eFn (one lenS) (aCons (eVar 1) aNil))) aNil))))
  (mRet (eBin addT (eBin addT (eSl (eVar 1) pNone (pSome (eVar 3))) (eTup (aCons (eFrz (eCall self (aCons (eVar 0) (aCons (eFrz (eBin ixS (eVar 1) (eVar 3))) (aCons (eVar 2) aNil))))) aNil))) (eSl (eVar 1) (pSome (eBin addS (eVar 3) (eC (.int 1)))) pNone)))) mSkip)
  (mSeq (mAsg 4 (eBin addT (eLst (aCons (eC (.int 0)) (aCons (eC (.int 1)) (aCons (eC .none) (aCons (eC (.bool true)) (aCons (eC (.bool false)) (aCons (eC (.str "")) (aCons (eC (.str "a")) (aCons (eC (.str "b")) (aCons (eC (.str "zzzzzzzz")) (aCons (eC (.str "zzzzzzzzz")) (aCons (eC (.str "A")) (aCons (eC (.str "a1")) (aCons (eC (.str "a
")) (aCons (eFrz (eTup aNil)) (aCons (eFrz (eTup (aCons (eC (.str "a")) aNil))) aNil)))))))))))))))) (eVar 2)))
  (mSeq (mIf (tTr (eIs ["tuple"] (eVar 1))) (mAsg 4 (eBin addT (eVar 4) (eLst (aCons (eFrz (eFn (one listF) (aCons (eVar 1) aNil))) (aCons (eFrz (eSl (eVar 1) pNone (pSome (eNeg (eC (.int 1)))))) (aCons (eFrz (eBin addT (eVar 1) (eSl (eVar 1) (pSome (eNeg (eC (.int 1)))) pNone))) (aCons (eFrz (eRev (eVar 1))) (aCons (eFrz (eTup (aCons (eFrz (eVar 1)) aNil))) aNil)))))))) mSkip)
  (mRet (eCall fs__law_of (aCons (eVar 0) (aCons (eVar 4) aNil)))))))
def fs__law_bent : Nat → FS
  | 0 => fun _ => none
  | d + 1 => fnS 5 [true, true, true] (m__law_bent (fs__law_bent d))
def m__law_is_word : SM := (mSeq (mIf (tOr' (tNot' (tTr (eIs ["str"] (eVar 0)))) (tOr' (tBl (eBin ltS (eFn (one lenS) (aCons (eVar 0) aNil)) (eC (.int 1)))) (tBl (eBin gtS (eFn (one lenS) (aCons (eVar 0) aNil)) (eC (.int 8)))))) (mRet (eC (.bool false))) mSkip)
  (mRet (eFn (one (allF fun bs => bs.all id)) (aCons (eLc [1] (iSeq (eVar 0)) (gNm 1) tYes' (eBin (inC false) (eVar 1) (eC (.str "abcdefghijklmnopqrstuvwxyz")))) aNil))))
def fs__law_is_word : FS := fnS 2 [true] m__law_is_word
def lb__law_are_pairs_1 : SM := (mSeq (mIf (tOr' (tNot' (tTr (eIs ["tuple"] (eVar 2)))) (tOr' (tBl (eBin (eqvS true) (eFn (one lenS) (aCons (eVar 2) aNil)) (eC (.int 2)))) (tOr' (tNot' (tTr (eIs ["str"] (eBin ixS (eVar 2) (eC (.int 0)))))) (tBl (eBin (inS true) (eBin ixS (eVar 2) (eC (.int 0))) (eVar 1)))))) (mRet (eC (.bool false))) mSkip)
  (mIf (tNot' (tTr (eCall fs__law_is_word (aCons (eFrz (eBin ixS (eVar 2) (eC (.int 1)))) aNil)))) (mRet (eC (.bool false))) mSkip))
def m__law_are_pairs : SM := (mSeq (mIf (tNot' (tTr (eIs ["tuple"] (eVar 0)))) (mRet (eC (.bool false))) mSkip)
  (mSeq (mFor (iSeq (eVar 0)) (gNm 2) lb__law_are_pairs_1)
  (mRet (eBin (eqvS false) (eLc [2] (iSeq (eVar 0)) (gNm 2) tYes' (eBin ixS (eVar 2) (eC (.int 0)))) (eFn (one sortSetS) (aCons (eLc [2] (iSeq (eVar 0)) (gNm 2) tYes' (eBin ixS (eVar 2) (eC (.int 0)))) aNil))))))
def fs__law_are_pairs : FS := fnS 3 [true, true] m__law_are_pairs
def m__law_due : SM := (mSeq (mAsg 2 (eLc [5] (iSeq (eVar 0)) (gNm 5) (tNot' (tTr (eBin ixS (eVar 5) (eC (.int 2))))) (eBin ixS (eVar 5) (eC (.int 0)))))
  (mSeq (mAsg 3 (eCall fs__law_are_pairs (aCons (eVar 1) (aCons (eFrz (eLc [5] (iSeq (eVar 0)) (gNm 5) tYes' (eBin ixS (eVar 5) (eC (.int 0))))) aNil))))
  (mSeq (mAsg 4 (eAndT (eCall fs__law_are_pairs (aCons (eVar 1) (aCons (eVar 2) aNil))) (eBin (inS false) (eBin ixS (eBin ixS (eVar 0) (eC (.int 0))) (eC (.int 0))) (eLc [6] (iSeq (eVar 1)) (gNm 6) tYes' (eBin ixS (eVar 6) (eC (.int 0)))))))
  (mRet (eLst (aCons (eFrz (eVar 3)) (aCons (eFrz (eVar 4)) aNil)))))))
def fs__law_due : FS := fnS 7 [true, true] m__law_due
def m_is_name : SM := (mSeq (mIf (tOr' (tNot' (tTr (eIs ["str"] (eVar 0)))) (tNot' (tBl (eChain leS leS (eC (.int 1)) (eFn (one lenS) (aCons (eVar 0) aNil)) (eC (.int 8)))))) (mRet (eC (.bool false))) mSkip)
  (mRet (eFn (one (allF fun bs => bs.all id)) (aCons (eLc [1] (iSeq (eVar 0)) (gNm 1) tYes' (eChain leS leS (eC (.str "a")) (eVar 1) (eC (.str "z")))) aNil))))
def fs_is_name : FS := fnS 2 [true] m_is_name
def lb_are_pairs_1 : SM := (mSeq (mIf (tOr' (tNot' (tTr (eIs ["tuple"] (eVar 2)))) (tOr' (tBl (eBin (eqvS true) (eFn (one lenS) (aCons (eVar 2) aNil)) (eC (.int 2)))) (tNot' (tTr (eFn (one (allF fun bs => bs.all id)) (aCons (eLc [3] (iSeq (eVar 2)) (gNm 3) tYes' (eCall fs_is_name (aCons (eVar 3) aNil))) aNil)))))) (mRet (eC (.bool false))) mSkip)
  (mSeq (mIf (tBl (eBin leS (eBin ixS (eVar 2) (eC (.int 0))) (eVar 1))) (mRet (eC (.bool false))) mSkip)
  (mAsg 1 (eBin ixS (eVar 2) (eC (.int 0))))))
def m_are_pairs : SM := (mSeq (mIf (tNot' (tTr (eIs ["tuple"] (eVar 0)))) (mRet (eC (.bool false))) mSkip)
  (mSeq (mAsg 1 (eC (.str "")))
  (mSeq (mFor (iSeq (eVar 0)) (gNm 2) lb_are_pairs_1)
  (mRet (eC (.bool true))))))
def fs_are_pairs : FS := fnS 4 [true] m_are_pairs
def m__are_all_of : SM := (mRet (eFn (one (allF fun bs => bs.all id)) (aCons (eLc [2] (iSeq (eVar 1)) (gNm 2) tYes' (eBin (inS false) (eBin ixS (eVar 2) (eC (.int 0))) (eVar 0))) aNil)))
def fs__are_all_of : FS := fnS 3 [true, true] m__are_all_of
def m_are_wants : SM := (mRet (eAndT (eCall fs_are_pairs (aCons (eVar 1) aNil)) (eCall fs__are_all_of (aCons (eFrz (eLc [2] (iSeq (eVar 0)) (gNm 2) tYes' (eBin ixS (eVar 2) (eC (.int 0))))) (aCons (eVar 1) aNil)))))
def fs_are_wants : FS := fnS 3 [true, true] m_are_wants
def m_is_plan : SM := (mSeq (mAsg 2 (eLc [3] (iSeq (eVar 0)) (gNm 3) (tNot' (tTr (eBin ixS (eVar 3) (eC (.int 2))))) (eBin ixS (eVar 3) (eC (.int 0)))))
  (mRet (eAndT (eCall fs_are_pairs (aCons (eVar 1) aNil)) (eAndT (eCall fs__are_all_of (aCons (eVar 2) (aCons (eVar 1) aNil))) (eBin (inS false) (eBin ixS (eBin ixS (eVar 0) (eC (.int 0))) (eC (.int 0))) (eLc [4] (iSeq (eVar 1)) (gNm 4) tYes' (eBin ixS (eVar 4) (eC (.int 0)))))))))
def fs_is_plan : FS := fnS 5 [true, true] m_is_plan
def m__law_same (self : FS) : SM := (mSeq (mIf (tTr (eIs ["list", "tuple"] (eVar 1))) (mSeq (mIf (tOr' (tBl (eBin (eqvS true) (eIs ["list"] (eVar 0)) (eIs ["list"] (eVar 1)))) (tBl (eBin (eqvS true) (eIs ["tuple"] (eVar 0)) (eIs ["tuple"] (eVar 1))))) (mRet (eC (.bool false))) mSkip)
  (mRet (eAndT (eBin (eqvS false) (eFn (one lenS) (aCons (eVar 0) aNil)) (eFn (one lenS) (aCons (eVar 1) aNil))) (eFn (one (allF fun bs => bs.all id)) (aCons (eLc [2, 3] (iZip' (aCons (eFrz (eVar 0)) (aCons (eFrz (eVar 1)) aNil))) (gTp 2 (gsCons (gNm 2) (gsCons (gNm 3) gsNil))) tYes' (eCall self (aCons (eVar 2) (aCons (eVar 3) aNil)))) aNil))))) mSkip)
  (mSeq (mIf (tOr' (tBl (eBin (isS false) (eVar 1) (eC .none))) (tTr (eIs ["bool", "str"] (eVar 1)))) (mRet (eAndT (eBin (eqvS false) (eVar 0) (eVar 1)) (eAndT (eBin (eqvS false) (eIs ["bool"] (eVar 0)) (eIs ["bool"] (eVar 1))) (eBin (eqvS false) (eBin (isS false) (eVar 0) (eC .none)) (eBin (isS false) (eVar 1) (eC .none)))))) mSkip)
  (mRet (eAndT (eIs ["int"] (eVar 0)) (eAndT (eNotT (eIs ["bool"] (eVar 0))) (eBin (eqvS false) (eVar 0) (eVar 1)))))))
def fs__law_same : Nat → FS
  | 0 => fun _ => none
  | d + 1 => fnS 4 [true, true] (m__law_same (fs__law_same d))
def lb__law_right_1 : SM := (mSeq (mAsg 5 (eCall (fs__law_bent 20) (aCons (eVar 0) (aCons (eVar 5) (aCons (eFrz (eLst (aCons (eFrz (eTup (aCons (eFrz (eBin ixS (eBin ixS (eVar 2) (eNeg (eC (.int 1)))) (eC (.int 0)))) (aCons (eC (.str "a")) aNil)))) (aCons (eFrz (eBin ixS (eBin ixS (eVar 2) (eC (.int 0))) (eC (.int 0)))) aNil)))) aNil)))))
  (mDrop (eMt "list" 3 appM (aCons (eFrz (eVar 5)) aNil))))
def lb__law_right_2 : SM := (mSeq (mAsg 5 (eCall fs__law_wished (aCons (eVar 0) (aCons (eVar 2) (aCons (eC (.int 5)) (aCons (eFrz (eLst (aCons (eC (.str "a")) (aCons (eC (.str "b")) aNil)))) aNil))))))
  (mSeq (mIf (tBl (eBin ltS (eVar 4) (eC (.int 2)))) (mAsg 5 (eCall fs__law_planned (aCons (eVar 0) (aCons (eVar 2) (aCons (eFrz (eLst (aCons (eC (.str "a")) (aCons (eC (.str "bb")) (aCons (eC (.str "c")) aNil))))) aNil))))) mSkip)
  (mSeq (mAsg 3 (eBin addT (eVar 3) (eLst (aCons (eFrz (eVar 5)) (aCons (eFrz (eCall (fs__law_lists 20) (aCons (eVar 5) aNil))) (aCons (eFrz (eSl (eVar 5) (pSome (eC (.int 1))) pNone)) (aCons (eFrz (eRev (eVar 5))) aNil)))))))
  (mFor (iRng1' (aCons (eC (.int 3)) aNil)) (gNm 6) lb__law_right_1))))
def lb__law_right_3 : SM := (mSeq (mPar 8 9 (aCons (eFn (one reprS) (aCons (eVar 5) aNil)) (aCons (eCall fs__law_due (aCons (eVar 2) (aCons (eVar 5) aNil))) aNil)))
  (mSeq (mAsg 10 (eLst (aCons (eFrz (eCall fs_are_wants (aCons (eVar 2) (aCons (eVar 5) aNil)))) (aCons (eFrz (eCall fs_is_plan (aCons (eVar 2) (aCons (eVar 5) aNil)))) aNil))))
  (mSeq (mAsg 10 (eBin addT (eVar 10) (eLst (aCons (eFrz (eCallK 2 [1, 0] fs_are_wants (aCons (eVar 5) (aCons (eVar 7) aNil)))) (aCons (eFrz (eCallK 2 [1, 0] fs_is_plan (aCons (eVar 5) (aCons (eVar 7) aNil)))) aNil)))))
  (mIf (tOr' (tNot' (tTr (eCall (fs__law_same 20) (aCons (eVar 10) (aCons (eFrz (eBin addS (eVar 9) (eVar 9))) aNil))))) (tOr' (tBl (eBin (eqvS true) (eFn (one reprS) (aCons (eVar 5) aNil)) (eVar 8))) (tBl (eBin (eqvS true) (eVar 7) (eCall (fs__law_lists 20) (aCons (eVar 2) aNil)))))) (mRet (eC (.bool false))) mSkip))))
def lb__law_right_4 : SM := (mSeq (mAsg 2 (eCall fs__law_grown (aCons (eVar 0) (aCons (eFrz (eBin addS (eC (.int 1)) (eCall fs__law_take (aCons (eVar 0) (aCons (eC (.int 12)) aNil))))) (aCons (eC (.int 4)) aNil)))))
  (mSeq (mAsg 3 (eCall fs__law_by_hand (aCons (eVar 2) aNil)))
  (mSeq (mFor (iRng1' (aCons (eC (.int 4)) aNil)) (gNm 4) lb__law_right_2)
  (mSeq (mAsg 7 (eCall (fs__law_lists 20) (aCons (eVar 2) aNil)))
  (mFor (iSeq (eVar 3)) (gNm 5) lb__law_right_3)))))
def m__law_right : SM := (mSeq (mFor (iRng1' (aCons (eC (.int 3)) aNil)) (gNm 1) lb__law_right_4)
  (mRet (eC (.bool true))))
def fs__law_right : FS := fnS 11 [true] m__law_right
def m__law_box : SM := (mSeq (mAsg 2 (eIf (tBl (eBin ltS (eVar 1) (eFn (one lenS) (aCons (eVar 0) aNil)))) (eBin ixS (eVar 0) (eVar 1)) (eC (.int 0))))
  (mRet (eLst (aCons (eFrz (eBin mulS (eFn (one absS) (aCons (eVar 2) aNil)) (eFn (one intF) (aCons (eBin geS (eFn (one absS) (aCons (eVar 2) aNil)) (eBin powS (eC (.int 10)) (eC (.int 18)))) aNil)))) (aCons (eFrz (eBin addS (eBin addS (eBin modS (eFn (one intF) (aCons (eVar 2) aNil)) (eC (.int 2305843009213693951))) (eBin mulS (eC (.int 39373)) (eVar 1))) (eC (.int 109)))) (aCons (eC (.int 0)) aNil))))))
def fs__law_box : FS := fnS 3 [true, true] m__law_box
def m_law : SM := (mSeq (mAsg 1 (eCall fs__law_cells (aCons (eVar 0) (aCons (eC (.int 3)) aNil))))
  (mRet (eFn (one (allF fun bs => bs.all id)) (aCons (eLc [2] (iRng1' (aCons (eFn (one lenS) (aCons (eVar 1) aNil)) aNil)) (gNm 2) tYes' (eCallN fs__law_right (aCons (eCall fs__law_box (aCons (eVar 1) (aCons (eVar 2) aNil))) aNil))) aNil))))
def fs_law : FS := fnS 3 [true] m_law
end L11

namespace L11
open PySem PySem.Spec L2 Sh
theorem addS_ap (s t : Sl) : addS s t = orG (intS fun i j => some (.int (i + j))) catS s t := rfl
theorem subS_ap (s t : Sl) : subS s t = intS (fun i j => some (.int (i - j))) s t := rfl
theorem mulI_ap (s t : Sl) : mulI s t = intS (fun i j => if (smallI i || smallI j) = true then some (.int (i * j)) else none) s t := rfl
theorem mulS_ap (s t : Sl) : mulS s t = orG mulI repS s t := rfl
theorem modS_ap (s t : Sl) : modS s t = intS (fun i j => if decide (0 < j) = true then some (.int (i % j)) else none) s t := rfl
theorem fdivS_ap (s t : Sl) : fdivS s t = intS (fun i j => if decide (0 < j ∧ j < 1073741824) = true then some (.int (i / j)) else none) s t := rfl
theorem powS_ap (s t : Sl) : powS s t = intS (fun i j => if decide (0 ≤ j ∧ j ≤ 64 ∧ i.natAbs < 2 ^ 64) = true then some (.int (i ^ j.toNat)) else none) s t := rfl
theorem intB_ap (f : Int → Int → Bool) (s t : Sl) : intB f s t = intS (fun i j => some (.bool (f i j))) s t := rfl
theorem ordS_ap (f : Int → Int → Bool) (g : List Nat → List Nat → Bool) (s t : Sl) : ordS f g s t = orG (intB f) (strC g) s t := rfl
theorem small_of {i : Int} (h : -(2 ^ 64) < i) (h2 : i < 2 ^ 64) : smallI i = true := by
  unfold smallI
  simp only [Bool.and_eq_true, decide_eq_true_eq]
  exact ⟨h, h2⟩
theorem take_ok (a b c n : Int) (ha : 0 ≤ a) (hb : 0 ≤ b) (hb2 : b < 2 ^ 62) (hc : 0 ≤ c) (hc2 : c < 2 ^ 40) (hn : 0 < n) (hn2 : n < 1000) :
    ∃ v a' c', fs__law_take [.ow [.int a, .int b, .int c], .fz (.int n)] = some (.fz (.int v), [.ow [.int a', .int b, .int c'], .fz (.int n)]) ∧ 0 ≤ v ∧ v < n ∧ 0 ≤ a' ∧ 0 ≤ c' ∧ c' ≤ c + 1 := by
  by_cases h : 0 < a
  · refine ⟨a % n, a / n, c, ?_, Int.emod_nonneg _ (by omega), Int.emod_lt_of_pos _ hn, Int.ediv_nonneg ha (by omega), hc, by omega⟩
    have h1 : n < 1073741824 := by omega
    simp [eVar, eC, eBin, g2, Opd.get, tBl, truS, truO, tTr, tAnd', tOr', tNot', eAndT, eOrT, eNotT, eIf, frz, eFrz, aNil, aCons, allFz, disp, Sl.d, Sl.l, intS, catS, orG, repS, eqvS, strC, eChain, Sl.isN, isNS, Sl.isB, isBS, toKey, inS, ixS, pNone, pSome, slS, eSl, eNeg, gets, eFn, one, lenS, absS, intF, seqS, listF, tupF, bools, allF, isKind, eMt, appM, popM, atI, argsOf, refsOf, nodupB, putBack, eCall, iSeq, iRng1', iRng2', zipD, iZip', enumD, iEnum', gNm, gsNil, gsCons, gTp, mSkip, mSeq, mBk, mCt, mIf, mDrop, mRetN, mRet, mAsg, mAsgG, mPar, putM, mSet, forL, mFor, wipeS, keepFz, restoreS, lcL, eLc, tYes', mask, fnS, eD0, dcL, eDc, sortF, eSortIt, tyN, isB, eIs, newOf, parked, eCallN, Sl.mt, ixN, addS_ap, subS_ap, mulI_ap, mulS_ap, modS_ap, fdivS_ap, powS_ap, intB_ap, ordS_ap, fs__law_take, m__law_take, h, hn, h1]
  · have once := (b + 48271 * (c + 1)) * (39373 + (c + 1)) % 2147483647
    have h2 : smallI 48271 = true := by decide
    have h3 : smallI (39373 + (c + 1)) = true := small_of (by omega) (by omega)
    have h4 : ∀ x : Int, smallI (x % 40009 + 7) = true := fun x => by
      have := Int.emod_nonneg x (show (40009 : Int) ≠ 0 by decide)
      have := Int.emod_lt_of_pos x (show (0 : Int) < 40009 by decide)
      exact small_of (by omega) (by omega)
    have ev : ∃ x, fs__law_take [.ow [.int a, .int b, .int c], .fz (.int n)] = some (.fz (.int (x % n)), [.ow [.int a, .int b, .int (c + 1)], .fz (.int n)]) := by
      simp [eVar, eC, eBin, g2, Opd.get, tBl, truS, truO, tTr, tAnd', tOr', tNot', eAndT, eOrT, eNotT, eIf, frz, eFrz, aNil, aCons, allFz, disp, Sl.d, Sl.l, intS, catS, orG, repS, eqvS, strC, eChain, Sl.isN, isNS, Sl.isB, isBS, toKey, inS, ixS, pNone, pSome, slS, eSl, eNeg, gets, eFn, one, lenS, absS, intF, seqS, listF, tupF, bools, allF, isKind, eMt, appM, popM, atI, argsOf, refsOf, nodupB, putBack, eCall, iSeq, iRng1', iRng2', zipD, iZip', enumD, iEnum', gNm, gsNil, gsCons, gTp, mSkip, mSeq, mBk, mCt, mIf, mDrop, mRetN, mRet, mAsg, mAsgG, mPar, putM, mSet, forL, mFor, wipeS, keepFz, restoreS, lcL, eLc, tYes', mask, fnS, eD0, dcL, eDc, sortF, eSortIt, tyN, isB, eIs, newOf, parked, eCallN, Sl.mt, ixN, addS_ap, subS_ap, mulI_ap, mulS_ap, modS_ap, fdivS_ap, powS_ap, intB_ap, ordS_ap, fs__law_take, m__law_take, h, hn, h2, h3, h4]
      exact ⟨_, rfl⟩
    obtain ⟨x, ev⟩ := ev
    exact ⟨x % n, a, c + 1, ev, Int.emod_nonneg _ (by omega), Int.emod_lt_of_pos _ hn, ha, by omega, by omega⟩
/-- the numbers of a list -/
def intsOf (cs : List Int) : List D := cs.map PyData.int
theorem atI_nat' {α : Type} (xs : List α) (k : Nat) : atI xs (k : Int) = xs[k]? := by
  unfold atI
  by_cases h : k < xs.length
  · have e : L2.ixN xs.length (k : Int) = some k := by
      unfold L2.ixN
      rw [if_pos (by omega), if_pos (by omega)]
      simp [eVar, eC, eBin, g2, Opd.get, tBl, truS, truO, tTr, tAnd', tOr', tNot', eAndT, eOrT, eNotT, eIf, frz, eFrz, aNil, aCons, allFz, disp, Sl.d, Sl.l, intS, catS, orG, repS, eqvS, strC, eChain, Sl.isN, isNS, Sl.isB, isBS, toKey, inS, ixS, pNone, pSome, slS, eSl, eNeg, gets, eFn, one, lenS, absS, intF, seqS, listF, tupF, bools, allF, isKind, eMt, appM, popM, atI, argsOf, refsOf, nodupB, putBack, eCall, iSeq, iRng1', iRng2', zipD, iZip', enumD, iEnum', gNm, gsNil, gsCons, gTp, mSkip, mSeq, mBk, mCt, mIf, mDrop, mRetN, mRet, mAsg, mAsgG, mPar, putM, mSet, forL, mFor, wipeS, keepFz, restoreS, lcL, eLc, tYes', mask, fnS, eD0, dcL, eDc, sortF, eSortIt, tyN, isB, eIs, newOf, parked, eCallN, Sl.mt, ixN, addS_ap, subS_ap, mulI_ap, mulS_ap, modS_ap, fdivS_ap, powS_ap, intB_ap, ordS_ap]
    rw [e]; rfl
  · have e : L2.ixN xs.length (k : Int) = none := by
      unfold L2.ixN
      rw [if_pos (by omega), if_neg (by omega)]
    rw [e, List.getElem?_eq_none (by omega)]; rfl
theorem box_ok (cs : List Int) (s : Sl) (hs : s = .fz (.list (intsOf cs)) ∨ s = .ow (intsOf cs)) (k : Nat) (hk : k < cs.length) (h64 : cs.length < 64) : ∃ a b, fs__law_box [s, .fz (.int k)] = some (.ow [.int a, .int b, .int 0], [s, .fz (.int k)]) ∧ 0 ≤ a ∧ 0 ≤ b ∧ b < 2 ^ 62 := by
  have e : (intsOf cs)[k]? = some (.int cs[k]) := by
    unfold intsOf; rw [List.getElem?_map, List.getElem?_eq_getElem hk]; rfl
  have e1 : atI (intsOf cs) (k : Int) = some (.int cs[k]) := by rw [atI_nat', e]
  have hl : (k : Int) < ((intsOf cs).length : Int) := by unfold intsOf; rw [List.length_map]; omega
  generalize cs[k] = z at e e1
  have hz : ∃ y : Int, 0 ≤ y ∧ fs__law_box [s, .fz (.int k)] = some (.ow [.int y, .int (z % 2305843009213693951 + 39373 * k + 109), .int 0], [s, .fz (.int k)]) := by
    have h5 : ∀ w : Int, smallI (if (1000000000000000000 : Int) ≤ w then 1 else 0) = true := by
      intro w; split <;> decide
    have h6 : smallI 39373 = true := by decide
    refine ⟨(if z < 0 then -z else z) * (if (1000000000000000000 : Int) ≤ (if z < 0 then -z else z) then 1 else 0), ?_, ?_⟩
    · refine Int.mul_nonneg ?_ ?_
      · split <;> omega
      · split <;> omega
    · rcases hs with hs | hs <;> subst hs <;> simp [eVar, eC, eBin, g2, Opd.get, tBl, truS, truO, tTr, tAnd', tOr', tNot', eAndT, eOrT, eNotT, eIf, frz, eFrz, aNil, aCons, allFz, disp, Sl.d, Sl.l, intS, catS, orG, repS, eqvS, strC, eChain, Sl.isN, isNS, Sl.isB, isBS, toKey, inS, ixS, pNone, pSome, slS, eSl, eNeg, gets, eFn, one, lenS, absS, intF, seqS, listF, tupF, bools, allF, isKind, eMt, appM, popM, argsOf, refsOf, nodupB, putBack, eCall, iSeq, iRng1', iRng2', zipD, iZip', enumD, iEnum', gNm, gsNil, gsCons, gTp, mSkip, mSeq, mBk, mCt, mIf, mDrop, mRetN, mRet, mAsg, mAsgG, mPar, putM, mSet, forL, mFor, wipeS, keepFz, restoreS, lcL, eLc, tYes', mask, fnS, eD0, dcL, eDc, sortF, eSortIt, tyN, isB, eIs, newOf, parked, eCallN, Sl.mt, ixN, addS_ap, subS_ap, mulI_ap, mulS_ap, modS_ap, fdivS_ap, powS_ap, intB_ap, ordS_ap, fs__law_box, m__law_box, hl, e1, h5, h6]
  obtain ⟨y, hy, ey⟩ := hz
  have := Int.emod_nonneg z (show (2305843009213693951 : Int) ≠ 0 by decide)
  have := Int.emod_lt_of_pos z (show (0 : Int) < 2305843009213693951 by decide)
  exact ⟨y, _, ey, hy, by omega, by omega⟩
/-- the first numbers of the script -/
theorem cells_loop (m : Nat) (hm : 0 < m) (hm2 : m < 1000) (s0 : Sl) : ∀ (xs : List Int) (k : Nat) (cs : List Int) (s3 s4 s5 : Sl), cs.length = m → k + xs.length < 100 → ∃ cs' s3' s4' s5', cs'.length = m ∧
    forL (gTp 2 (gsCons (gNm 3) (gsCons (gNm 4) gsNil))) (mSeq (mAsg 5 (eBin modS (eFn (one intF) (aCons (eVar 3) aNil)) (eVar 1))) (mSet 2 (eVar 5) (eBin addS (eBin ixS (eVar 2) (eVar 5)) (eBin mulS (eVar 4) (eBin addS (eVar 3) (eC (.int 2)))))))
      (enumD k (intsOf xs)) [s0, .fz (.int m), .ow (intsOf cs), s3, s4, s5] = some (.nx, [s0, .fz (.int m), .ow (intsOf cs'), s3', s4', s5'])
  | [], k, cs, s3, s4, s5, h, _ => ⟨cs, s3, s4, s5, h, rfl⟩
  | x :: xs, k, cs, s3, s4, s5, h, hk => by
    have hp : (0 : Int) < m := by omega
    rw [List.length_cons] at hk
    have hj : k % m < cs.length := by rw [h]; exact Nat.mod_lt _ hm
    have e1 : atI (intsOf cs) ((k : Int) % (m : Int)) = some (.int cs[k % m]) := by
      rw [show ((k : Int) % (m : Int)) = ((k % m : Nat) : Int) by simp [eVar, eC, eBin, g2, Opd.get, tBl, truS, truO, tTr, tAnd', tOr', tNot', eAndT, eOrT, eNotT, eIf, frz, eFrz, aNil, aCons, allFz, disp, Sl.d, Sl.l, intS, catS, orG, repS, eqvS, strC, eChain, Sl.isN, isNS, Sl.isB, isBS, toKey, inS, ixS, pNone, pSome, slS, eSl, eNeg, gets, eFn, one, lenS, absS, intF, seqS, listF, tupF, bools, allF, isKind, eMt, appM, popM, atI, argsOf, refsOf, nodupB, putBack, eCall, iSeq, iRng1', iRng2', zipD, iZip', enumD, iEnum', gNm, gsNil, gsCons, gTp, mSkip, mSeq, mBk, mCt, mIf, mDrop, mRetN, mRet, mAsg, mAsgG, mPar, putM, mSet, forL, mFor, wipeS, keepFz, restoreS, lcL, eLc, tYes', mask, fnS, eD0, dcL, eDc, sortF, eSortIt, tyN, isB, eIs, newOf, parked, eCallN, Sl.mt, ixN, addS_ap, subS_ap, mulI_ap, mulS_ap, modS_ap, fdivS_ap, powS_ap, intB_ap, ordS_ap], atI_nat']
      unfold intsOf; rw [List.getElem?_map, List.getElem?_eq_getElem hj]; rfl
    have e2 : L2.ixN (intsOf cs).length ((k : Int) % (m : Int)) = some (k % m) := by
      rw [show ((k : Int) % (m : Int)) = ((k % m : Nat) : Int) by simp [eVar, eC, eBin, g2, Opd.get, tBl, truS, truO, tTr, tAnd', tOr', tNot', eAndT, eOrT, eNotT, eIf, frz, eFrz, aNil, aCons, allFz, disp, Sl.d, Sl.l, intS, catS, orG, repS, eqvS, strC, eChain, Sl.isN, isNS, Sl.isB, isBS, toKey, inS, ixS, pNone, pSome, slS, eSl, eNeg, gets, eFn, one, lenS, absS, intF, seqS, listF, tupF, bools, allF, isKind, eMt, appM, popM, atI, argsOf, refsOf, nodupB, putBack, eCall, iSeq, iRng1', iRng2', zipD, iZip', enumD, iEnum', gNm, gsNil, gsCons, gTp, mSkip, mSeq, mBk, mCt, mIf, mDrop, mRetN, mRet, mAsg, mAsgG, mPar, putM, mSet, forL, mFor, wipeS, keepFz, restoreS, lcL, eLc, tYes', mask, fnS, eD0, dcL, eDc, sortF, eSortIt, tyN, isB, eIs, newOf, parked, eCallN, Sl.mt, ixN, addS_ap, subS_ap, mulI_ap, mulS_ap, modS_ap, fdivS_ap, powS_ap, intB_ap, ordS_ap]]
      unfold L2.ixN
      rw [if_pos (by omega), if_pos (by unfold intsOf; rw [List.length_map]; omega), Int.toNat_natCast]
    have h7 : smallI ((k : Int) + 2) = true := small_of (by omega) (by omega)
    obtain ⟨cs', s3', s4', s5', q1, q2⟩ := cells_loop m hm hm2 s0 xs (k + 1) (cs.set (k % m) (cs[k % m] + x * ((k : Int) + 2))) (.fz (.int k)) (.fz (.int x)) (.fz (.int ((k : Int) % (m : Int)))) (by rw [List.length_set]; exact h) (by omega)
    refine ⟨cs', s3', s4', s5', q1, ?_⟩
    rw [← q2]
    have e3 : intsOf (cs.set (k % m) (cs[k % m] + x * ((k : Int) + 2))) = (intsOf cs).set (k % m) (.int (cs[k % m] + x * ((k : Int) + 2))) := by unfold intsOf; rw [List.map_set]
    rw [e3]
    show forL _ _ (enumD k (.int x :: intsOf xs)) _ = _
    simp [eVar, eC, eBin, g2, Opd.get, tBl, truS, truO, tTr, tAnd', tOr', tNot', eAndT, eOrT, eNotT, eIf, frz, eFrz, aNil, aCons, allFz, disp, Sl.d, Sl.l, intS, catS, orG, repS, eqvS, strC, eChain, Sl.isN, isNS, Sl.isB, isBS, toKey, inS, ixS, pNone, pSome, slS, eSl, eNeg, gets, eFn, one, lenS, absS, intF, seqS, listF, tupF, bools, allF, isKind, eMt, appM, popM, argsOf, refsOf, nodupB, putBack, eCall, iSeq, iRng1', iRng2', zipD, iZip', enumD, iEnum', gNm, gsNil, gsCons, gTp, mSkip, mSeq, mBk, mCt, mIf, mDrop, mRetN, mRet, mAsg, mAsgG, mPar, putM, mSet, forL, mFor, wipeS, keepFz, restoreS, lcL, eLc, tYes', mask, fnS, eD0, dcL, eDc, sortF, eSortIt, tyN, isB, eIs, newOf, parked, eCallN, Sl.mt, addS_ap, subS_ap, mulI_ap, mulS_ap, modS_ap, fdivS_ap, powS_ap, intB_ap, ordS_ap, hp, hm, e1, e2, h7]
theorem cut_to {α : Type} (xs : List α) (m : Nat) : cut xs none (some (m : Int)) = xs.take m := by
  unfold cut
  rw [HT.sIx_none]
  have e : HT.sIx xs.length xs.length (some (m : Int)) = min m xs.length := HT.sIx_nat _ _ _
  rw [e, List.drop_zero, Nat.sub_zero]
  rw [List.take_eq_take_iff]
  omega
theorem cut_le {α : Type} (xs : List α) (lo hi : Option Int) : (cut xs lo hi).length ≤ xs.length := by
  unfold cut
  rw [List.length_take, List.length_drop]
  omega
theorem cut_map (xs : List Int) (lo hi : Option Int) : cut (intsOf xs) lo hi = intsOf (cut xs lo hi) := by
  unfold cut intsOf
  rw [List.length_map, List.map_take, List.map_drop]
theorem cells_ok (m : Nat) (hm : 0 < m) (hm2 : m < 60) (ns : List Int) (h63 : ns.length ≤ 63) : ∃ cs, 0 < cs.length ∧ cs.length ≤ m ∧ fs__law_cells [.fz (.list (intsOf ns)), .fz (.int m)] = some (.ow (intsOf cs), [.fz (.list (intsOf ns)), .fz (.int m)]) := by
  have c1 : cut (intsOf ns) none (some (m : Int)) = intsOf (ns.take m) := by rw [cut_map, cut_to]
  have c2 : cut (intsOf ns) (some (m : Int)) (some 63) = intsOf (cut ns (some (m : Int)) (some 63)) := cut_map _ _ _
  have c3 := cut_le ns (some (m : Int)) (some 63)
  have c4 : cut ns (some (m : Int)) (some 63) = [] ∨ (ns.take m).length = m := by
    by_cases h : m ≤ ns.length
    · exact .inr (by rw [List.length_take]; omega)
    · refine .inl ?_
      unfold cut
      rw [show HT.sIx ns.length 0 (some (m : Int)) = min m ns.length from HT.sIx_nat _ _ _, List.drop_of_length_le (by omega)]
      exact List.take_nil
  generalize cut ns (some (m : Int)) (some 63) = tl at c2 c3 c4
  have main : ∀ cs : List Int, 0 < cs.length → cs.length ≤ m → (tl = [] ∨ cs.length = m) → (eOrT (eFn (one listF) (aCons (eSl (eVar 0) pNone (pSome (eVar 1))) aNil)) (eLst (aCons (eC (.int 0)) aNil))) [.fz (.list (intsOf ns)), .fz (.int m), .un, .un, .un, .un] = some (.tmp (.ow (intsOf cs)), [.fz (.list (intsOf ns)), .fz (.int m), .un, .un, .un, .un]) →
      ∃ cs, 0 < cs.length ∧ cs.length ≤ m ∧ fs__law_cells [.fz (.list (intsOf ns)), .fz (.int m)] = some (.ow (intsOf cs), [.fz (.list (intsOf ns)), .fz (.int m)]) := by
    intro cs hc hcm hor h
    have lp : ∃ cs' s3 s4 s5, 0 < cs'.length ∧ cs'.length ≤ m ∧ forL (gTp 2 (gsCons (gNm 3) (gsCons (gNm 4) gsNil))) (mSeq (mAsg 5 (eBin modS (eFn (one intF) (aCons (eVar 3) aNil)) (eVar 1))) (mSet 2 (eVar 5) (eBin addS (eBin ixS (eVar 2) (eVar 5)) (eBin mulS (eVar 4) (eBin addS (eVar 3) (eC (.int 2)))))))
      (enumD 0 (intsOf tl)) [.fz (.list (intsOf ns)), .fz (.int m), .ow (intsOf cs), .un, .un, .un] = some (.nx, [.fz (.list (intsOf ns)), .fz (.int m), .ow (intsOf cs'), s3, s4, s5]) := by
      rcases hor with e | e
      · subst e
        exact ⟨cs, .un, .un, .un, hc, hcm, rfl⟩
      · obtain ⟨cs', s3, s4, s5, q1, q2⟩ := cells_loop m hm (by omega) (.fz (.list (intsOf ns))) tl 0 cs .un .un .un e (by omega)
        exact ⟨cs', s3, s4, s5, by omega, by omega, q2⟩
    obtain ⟨cs', s3, s4, s5, q1, q2, q3⟩ := lp
    refine ⟨cs', q1, q2, ?_⟩
    simp [eVar, eC, eBin, g2, Opd.get, tBl, truS, truO, tTr, tAnd', tOr', tNot', eAndT, eNotT, eIf, frz, eFrz, aNil, aCons, allFz, disp, Sl.d, Sl.l, intS, catS, orG, repS, eqvS, strC, eChain, Sl.isN, isNS, Sl.isB, isBS, toKey, inS, ixS, pNone, pSome, slS, eSl, eNeg, gets, eFn, one, lenS, absS, intF, seqS, listF, tupF, bools, allF, isKind, eMt, appM, popM, atI, argsOf, refsOf, nodupB, putBack, eCall, iSeq, iRng1', iRng2', zipD, iZip', enumD, iEnum', gNm, gsNil, mSkip, mSeq, mBk, mCt, mIf, mDrop, mRetN, mRet, mAsg, mAsgG, mPar, putM, mSet, mFor, wipeS, keepFz, restoreS, lcL, eLc, tYes', mask, fnS, eD0, dcL, eDc, sortF, eSortIt, tyN, isB, eIs, newOf, parked, eCallN, Sl.mt, ixN, addS_ap, subS_ap, mulI_ap, mulS_ap, modS_ap, fdivS_ap, powS_ap, intB_ap, ordS_ap, fs__law_cells, m__law_cells, h, c2, q3]
  by_cases h0 : ns = []
  · subst h0
    have e : tl = [] := by
      cases tl with
      | nil => rfl
      | cons a b => simp [eVar, eC, eBin, g2, Opd.get, tBl, truS, truO, tTr, tAnd', tOr', tNot', eAndT, eOrT, eNotT, eIf, frz, eFrz, aNil, aCons, allFz, disp, Sl.d, Sl.l, intS, catS, orG, repS, eqvS, strC, eChain, Sl.isN, isNS, Sl.isB, isBS, toKey, inS, ixS, pNone, pSome, slS, eSl, eNeg, gets, eFn, one, lenS, absS, intF, seqS, listF, tupF, bools, allF, isKind, eMt, appM, popM, atI, argsOf, refsOf, nodupB, putBack, eCall, iSeq, iRng1', iRng2', zipD, iZip', enumD, iEnum', gNm, gsNil, gsCons, gTp, mSkip, mSeq, mBk, mCt, mIf, mDrop, mRetN, mRet, mAsg, mAsgG, mPar, putM, mSet, forL, mFor, wipeS, keepFz, restoreS, lcL, eLc, tYes', mask, fnS, eD0, dcL, eDc, sortF, eSortIt, tyN, isB, eIs, newOf, parked, eCallN, Sl.mt, ixN, addS_ap, subS_ap, mulI_ap, mulS_ap, modS_ap, fdivS_ap, powS_ap, intB_ap, ordS_ap] at c3
    refine main [0] (by decide) hm (.inl e) ?_
    simp [eVar, eC, eBin, g2, Opd.get, tBl, truS, truO, tTr, tAnd', tOr', tNot', eAndT, eOrT, eNotT, eIf, frz, eFrz, aNil, aCons, allFz, disp, Sl.d, Sl.l, intS, catS, orG, repS, eqvS, strC, eChain, Sl.isN, isNS, Sl.isB, isBS, toKey, inS, ixS, pNone, pSome, slS, eSl, eNeg, gets, eFn, one, lenS, absS, intF, seqS, listF, tupF, bools, allF, isKind, eMt, appM, popM, atI, argsOf, refsOf, nodupB, putBack, eCall, iSeq, iRng1', iRng2', zipD, iZip', enumD, iEnum', gNm, gsNil, gsCons, gTp, mSkip, mSeq, mBk, mCt, mIf, mDrop, mRetN, mRet, mAsg, mAsgG, mPar, putM, mSet, forL, mFor, wipeS, keepFz, restoreS, lcL, eLc, tYes', mask, fnS, eD0, dcL, eDc, sortF, eSortIt, tyN, isB, eIs, newOf, parked, eCallN, Sl.mt, ixN, addS_ap, subS_ap, mulI_ap, mulS_ap, modS_ap, fdivS_ap, powS_ap, intB_ap, ordS_ap, c1]
    simp [eVar, eC, eBin, g2, Opd.get, tBl, truS, truO, tTr, tAnd', tOr', tNot', eAndT, eOrT, eNotT, eIf, frz, eFrz, aNil, aCons, allFz, disp, Sl.d, Sl.l, intS, catS, orG, repS, eqvS, strC, eChain, Sl.isN, isNS, Sl.isB, isBS, toKey, inS, ixS, pNone, pSome, slS, eSl, eNeg, gets, eFn, one, lenS, absS, intF, seqS, listF, tupF, bools, allF, isKind, eMt, appM, popM, atI, argsOf, refsOf, nodupB, putBack, eCall, iSeq, iRng1', iRng2', zipD, iZip', enumD, iEnum', gNm, gsNil, gsCons, gTp, mSkip, mSeq, mBk, mCt, mIf, mDrop, mRetN, mRet, mAsg, mAsgG, mPar, putM, mSet, forL, mFor, wipeS, keepFz, restoreS, lcL, eLc, tYes', mask, fnS, eD0, dcL, eDc, sortF, eSortIt, tyN, isB, eIs, newOf, parked, eCallN, Sl.mt, ixN, addS_ap, subS_ap, mulI_ap, mulS_ap, modS_ap, fdivS_ap, powS_ap, intB_ap, ordS_ap, intsOf]
  · refine main (ns.take m) ?_ ?_ c4 ?_
    · rw [List.length_take]
      have : 0 < ns.length := List.length_pos_iff.mpr h0
      omega
    · rw [List.length_take]; omega
    · have ne : (intsOf (ns.take m)).isEmpty = false := by
        rw [List.isEmpty_eq_false_iff]
        unfold intsOf
        intro z
        rw [List.map_eq_nil_iff, List.take_eq_nil_iff] at z
        rcases z with z | z
        · omega
        · exact h0 z
      simp [eVar, eC, eBin, g2, Opd.get, tBl, truS, truO, tTr, tAnd', tOr', tNot', eAndT, eOrT, eNotT, eIf, frz, eFrz, aNil, aCons, allFz, disp, Sl.d, Sl.l, intS, catS, orG, repS, eqvS, strC, eChain, Sl.isN, isNS, Sl.isB, isBS, toKey, inS, ixS, pNone, pSome, slS, eSl, eNeg, gets, eFn, one, lenS, absS, intF, seqS, listF, tupF, bools, allF, isKind, eMt, appM, popM, atI, argsOf, refsOf, nodupB, putBack, eCall, iSeq, iRng1', iRng2', zipD, iZip', enumD, iEnum', gNm, gsNil, gsCons, gTp, mSkip, mSeq, mBk, mCt, mIf, mDrop, mRetN, mRet, mAsg, mAsgG, mPar, putM, mSet, forL, mFor, wipeS, keepFz, restoreS, lcL, eLc, tYes', mask, fnS, eD0, dcL, eDc, sortF, eSortIt, tyN, isB, eIs, newOf, parked, eCallN, Sl.mt, ixN, addS_ap, subS_ap, mulI_ap, mulS_ap, modS_ap, fdivS_ap, powS_ap, intB_ap, ordS_ap, c1, ne]
theorem shaped_bool (b : Bool) : SeqAt.shaped (.bool b) = true := rfl
theorem shaped_int (b : Int) : SeqAt.shaped (.int b) = true := rfl
theorem shaped_none : SeqAt.shaped .none = true := rfl
theorem eqv_bool (a b : Bool) : PyData.eqv (.bool a) (.bool b) = (a == b) := by rw [PyData.eqv]
theorem eqv_int (a b : Int) : PyData.eqv (.int a) (.int b) = (a == b) := by rw [PyData.eqv]
theorem eqv_str (a b : Str) : PyData.eqv (.str a) (.str b) = (a == b) := by rw [PyData.eqv]
theorem eqv_none : PyData.eqv .none .none = true := by rw [PyData.eqv]
theorem put_tmps (a b : Sl) (as : List Sl) (st : S) : putBack [.tmp a, .tmp b] as st = st := by
  cases as with
  | nil => rfl
  | cons x xs => cases xs <;> rfl
theorem same_loop (self : FS) (s0 s1 : Sl) : ∀ (xs : List D) (a b : Sl), (∀ d ∈ xs, ∃ as', self [.fz d, .fz d] = some (.fz (.bool true), as')) →
    ∃ a' b', lcL [2, 3] (gTp 2 (gsCons (gNm 2) (gsCons (gNm 3) gsNil))) tYes' (eCall self (aCons (eVar 2) (aCons (eVar 3) aNil))) (zipD xs xs) [s0, s1, a, b] = some (xs.map fun _ => PyData.bool true, [s0, s1, a', b'])
  | [], a, b, _ => ⟨a, b, rfl⟩
  | d :: xs, a, b, h => by
    obtain ⟨as', e⟩ := h d List.mem_cons_self
    obtain ⟨a', b', q⟩ := same_loop self s0 s1 xs (.fz d) (.fz d) fun x hx => h x (List.mem_cons_of_mem _ hx)
    refine ⟨a', b', ?_⟩
    simp [eVar, eC, eBin, g2, Opd.get, tBl, truS, truO, tTr, tAnd', tOr', tNot', eAndT, eOrT, eNotT, eIf, frz, eFrz, aNil, aCons, allFz, disp, Sl.d, Sl.l, intS, catS, orG, repS, eqvS, strC, eChain, Sl.isN, isNS, Sl.isB, isBS, toKey, inS, ixS, pNone, pSome, slS, eSl, eNeg, gets, eFn, one, lenS, absS, intF, seqS, listF, tupF, bools, allF, isKind, eMt, appM, popM, atI, argsOf, refsOf, nodupB, putBack, eCall, iSeq, iRng1', iRng2', zipD, iZip', enumD, iEnum', gNm, gsNil, gsCons, gTp, mSkip, mSeq, mBk, mCt, mIf, mDrop, mRetN, mRet, mAsg, mAsgG, mPar, putM, mSet, forL, mFor, wipeS, keepFz, restoreS, lcL, eLc, tYes', mask, fnS, eD0, dcL, eDc, sortF, eSortIt, tyN, isB, eIs, newOf, parked, eCallN, Sl.mt, ixN, addS_ap, subS_ap, mulI_ap, mulS_ap, modS_ap, fdivS_ap, powS_ap, intB_ap, ordS_ap, shaped_bool, shaped_int, shaped_none, eqv_bool, eqv_int, eqv_str, eqv_none, e, q, put_tmps]
theorem bools_true {α : Type} : ∀ xs : List α, bools (xs.map fun _ => PyData.bool true) = some (xs.map fun _ => true)
  | [] => rfl
  | x :: xs => by simp [eVar, eC, eBin, g2, Opd.get, tBl, truS, truO, tTr, tAnd', tOr', tNot', eAndT, eOrT, eNotT, eIf, frz, eFrz, aNil, aCons, allFz, disp, Sl.d, Sl.l, intS, catS, orG, repS, eqvS, strC, eChain, Sl.isN, isNS, Sl.isB, isBS, toKey, inS, ixS, pNone, pSome, slS, eSl, eNeg, gets, eFn, one, lenS, absS, intF, seqS, listF, tupF, bools, allF, isKind, eMt, appM, popM, atI, argsOf, refsOf, nodupB, putBack, eCall, iSeq, iRng1', iRng2', zipD, iZip', enumD, iEnum', gNm, gsNil, gsCons, gTp, mSkip, mSeq, mBk, mCt, mIf, mDrop, mRetN, mRet, mAsg, mAsgG, mPar, putM, mSet, forL, mFor, wipeS, keepFz, restoreS, lcL, eLc, tYes', mask, fnS, eD0, dcL, eDc, sortF, eSortIt, tyN, isB, eIs, newOf, parked, eCallN, Sl.mt, ixN, addS_ap, subS_ap, mulI_ap, mulS_ap, modS_ap, fdivS_ap, powS_ap, intB_ap, ordS_ap, shaped_bool, shaped_int, shaped_none, eqv_bool, eqv_int, eqv_str, eqv_none, bools_true xs]
theorem same_ok : ∀ (n : Nat) (d : D) (s : Sl), okD n d = true → (s = .fz d ∨ ∃ ds, s = .ow ds ∧ d = .list ds) → fs__law_same n [s, .fz d] = some (.fz (.bool true), [.fz d, .fz d])
  | 0, d, s, h, _ => by cases h
  | n + 1, d, s, h, hs => by
    have seq : ∀ ds : List D, ds.length ≤ 100000 → ds.all (okD n) = true → ∀ d ∈ ds, ∃ as', fs__law_same n [.fz d, .fz d] = some (.fz (.bool true), as') := fun ds _ h2 d hd => ⟨_, same_ok n d (.fz d) (List.all_eq_true.mp h2 d hd) (.inl rfl)⟩
    have zl : ∀ ds : List D, (zipD ds ds).length = ds.length := fun ds => by
      induction ds with
      | nil => rfl
      | cons x xs ih => simp [eVar, eC, eBin, g2, Opd.get, tBl, truS, truO, tTr, tAnd', tOr', tNot', eAndT, eOrT, eNotT, eIf, frz, eFrz, aNil, aCons, allFz, disp, Sl.d, Sl.l, intS, catS, orG, repS, eqvS, strC, eChain, Sl.isN, isNS, Sl.isB, isBS, toKey, inS, ixS, pNone, pSome, slS, eSl, eNeg, gets, eFn, one, lenS, absS, intF, seqS, listF, tupF, bools, allF, isKind, eMt, appM, popM, atI, argsOf, refsOf, nodupB, putBack, eCall, iSeq, iRng1', iRng2', zipD, iZip', enumD, iEnum', gNm, gsNil, gsCons, gTp, mSkip, mSeq, mBk, mCt, mIf, mDrop, mRetN, mRet, mAsg, mAsgG, mPar, putM, mSet, forL, mFor, wipeS, keepFz, restoreS, lcL, eLc, tYes', mask, fnS, eD0, dcL, eDc, sortF, eSortIt, tyN, isB, eIs, newOf, parked, eCallN, Sl.mt, ixN, addS_ap, subS_ap, mulI_ap, mulS_ap, modS_ap, fdivS_ap, powS_ap, intB_ap, ordS_ap, shaped_bool, shaped_int, shaped_none, eqv_bool, eqv_int, eqv_str, eqv_none, ih]
    cases d with
    | list ds =>
      have h : (decide (ds.length ≤ 100000) && ds.all (okD n)) = true := h
      rw [Bool.and_eq_true, decide_eq_true_eq] at h
      obtain ⟨a', b', q⟩ := same_loop (fs__law_same n) (.fz (.list ds)) (.fz (.list ds)) ds .un .un (seq ds h.1 h.2)
      have hs : s = .fz (.list ds) ∨ s = .ow ds := by
        rcases hs with e | ⟨ys, e, e2⟩
        · exact .inl e
        · cases e2; exact .inr e
      rcases hs with e | e <;> subst e <;> simp [eVar, eC, eBin, g2, Opd.get, tBl, truS, truO, tTr, tAnd', tOr', tNot', eAndT, eOrT, eNotT, eIf, frz, eFrz, aNil, aCons, allFz, disp, Sl.d, Sl.l, intS, catS, orG, repS, eqvS, strC, eChain, Sl.isN, isNS, Sl.isB, isBS, toKey, inS, ixS, pNone, pSome, slS, eSl, eNeg, gets, eFn, one, lenS, absS, intF, seqS, listF, tupF, bools, allF, isKind, eMt, appM, popM, atI, argsOf, refsOf, nodupB, putBack, eCall, iSeq, iRng1', iRng2', zipD, iZip', enumD, iEnum', gNm, gsNil, gsCons, gTp, mSkip, mSeq, mBk, mCt, mIf, mDrop, mRetN, mRet, mAsg, mAsgG, mPar, putM, mSet, forL, mFor, wipeS, keepFz, restoreS, eLc, tYes', mask, fnS, eD0, dcL, eDc, sortF, eSortIt, tyN, isB, eIs, newOf, parked, eCallN, Sl.mt, ixN, addS_ap, subS_ap, mulI_ap, mulS_ap, modS_ap, fdivS_ap, powS_ap, intB_ap, ordS_ap, shaped_bool, shaped_int, shaped_none, eqv_bool, eqv_int, eqv_str, eqv_none, fs__law_same, m__law_same, q, zl, h.1, bools_true]
    | tuple ds =>
      have h : (decide (ds.length ≤ 100000) && ds.all (okD n)) = true := h
      rw [Bool.and_eq_true, decide_eq_true_eq] at h
      obtain ⟨a', b', q⟩ := same_loop (fs__law_same n) (.fz (.tuple ds)) (.fz (.tuple ds)) ds .un .un (seq ds h.1 h.2)
      have hs : s = .fz (.tuple ds) := by
        rcases hs with e | ⟨ys, e, e2⟩
        · exact e
        · cases e2
      subst hs
      simp [eVar, eC, eBin, g2, Opd.get, tBl, truS, truO, tTr, tAnd', tOr', tNot', eAndT, eOrT, eNotT, eIf, frz, eFrz, aNil, aCons, allFz, disp, Sl.d, Sl.l, intS, catS, orG, repS, eqvS, strC, eChain, Sl.isN, isNS, Sl.isB, isBS, toKey, inS, ixS, pNone, pSome, slS, eSl, eNeg, gets, eFn, one, lenS, absS, intF, seqS, listF, tupF, bools, allF, isKind, eMt, appM, popM, atI, argsOf, refsOf, nodupB, putBack, eCall, iSeq, iRng1', iRng2', zipD, iZip', enumD, iEnum', gNm, gsNil, gsCons, gTp, mSkip, mSeq, mBk, mCt, mIf, mDrop, mRetN, mRet, mAsg, mAsgG, mPar, putM, mSet, forL, mFor, wipeS, keepFz, restoreS, eLc, tYes', mask, fnS, eD0, dcL, eDc, sortF, eSortIt, tyN, isB, eIs, newOf, parked, eCallN, Sl.mt, ixN, addS_ap, subS_ap, mulI_ap, mulS_ap, modS_ap, fdivS_ap, powS_ap, intB_ap, ordS_ap, shaped_bool, shaped_int, shaped_none, eqv_bool, eqv_int, eqv_str, eqv_none, fs__law_same, m__law_same, q, zl, h.1, bools_true]
    | dict kvs => cases h
    | none =>
      have hs : s = .fz .none := by
        rcases hs with e | ⟨ys, e, e2⟩
        · exact e
        · cases e2
      subst hs
      simp [eVar, eC, eBin, g2, Opd.get, tBl, truS, truO, tTr, tAnd', tOr', tNot', eAndT, eOrT, eNotT, eIf, frz, eFrz, aNil, aCons, allFz, disp, Sl.d, Sl.l, intS, catS, orG, repS, eqvS, strC, eChain, Sl.isN, isNS, Sl.isB, isBS, toKey, inS, ixS, pNone, pSome, slS, eSl, eNeg, gets, eFn, one, lenS, absS, intF, seqS, listF, tupF, bools, allF, isKind, eMt, appM, popM, atI, argsOf, refsOf, nodupB, putBack, eCall, iSeq, iRng1', iRng2', zipD, iZip', enumD, iEnum', gNm, gsNil, gsCons, gTp, mSkip, mSeq, mBk, mCt, mIf, mDrop, mRetN, mRet, mAsg, mAsgG, mPar, putM, mSet, forL, mFor, wipeS, keepFz, restoreS, lcL, eLc, tYes', mask, fnS, eD0, dcL, eDc, sortF, eSortIt, tyN, isB, eIs, newOf, parked, eCallN, Sl.mt, ixN, addS_ap, subS_ap, mulI_ap, mulS_ap, modS_ap, fdivS_ap, powS_ap, intB_ap, ordS_ap, shaped_bool, shaped_int, shaped_none, eqv_bool, eqv_int, eqv_str, eqv_none, fs__law_same, m__law_same]
    | bool b =>
      have hs : s = .fz (.bool b) := by
        rcases hs with e | ⟨ys, e, e2⟩
        · exact e
        · cases e2
      subst hs
      simp [eVar, eC, eBin, g2, Opd.get, tBl, truS, truO, tTr, tAnd', tOr', tNot', eAndT, eOrT, eNotT, eIf, frz, eFrz, aNil, aCons, allFz, disp, Sl.d, Sl.l, intS, catS, orG, repS, eqvS, strC, eChain, Sl.isN, isNS, Sl.isB, isBS, toKey, inS, ixS, pNone, pSome, slS, eSl, eNeg, gets, eFn, one, lenS, absS, intF, seqS, listF, tupF, bools, allF, isKind, eMt, appM, popM, atI, argsOf, refsOf, nodupB, putBack, eCall, iSeq, iRng1', iRng2', zipD, iZip', enumD, iEnum', gNm, gsNil, gsCons, gTp, mSkip, mSeq, mBk, mCt, mIf, mDrop, mRetN, mRet, mAsg, mAsgG, mPar, putM, mSet, forL, mFor, wipeS, keepFz, restoreS, lcL, eLc, tYes', mask, fnS, eD0, dcL, eDc, sortF, eSortIt, tyN, isB, eIs, newOf, parked, eCallN, Sl.mt, ixN, addS_ap, subS_ap, mulI_ap, mulS_ap, modS_ap, fdivS_ap, powS_ap, intB_ap, ordS_ap, shaped_bool, shaped_int, shaped_none, eqv_bool, eqv_int, eqv_str, eqv_none, fs__law_same, m__law_same]
    | int b =>
      have hs : s = .fz (.int b) := by
        rcases hs with e | ⟨ys, e, e2⟩
        · exact e
        · cases e2
      subst hs
      simp [eVar, eC, eBin, g2, Opd.get, tBl, truS, truO, tTr, tAnd', tOr', tNot', eAndT, eOrT, eNotT, eIf, frz, eFrz, aNil, aCons, allFz, disp, Sl.d, Sl.l, intS, catS, orG, repS, eqvS, strC, eChain, Sl.isN, isNS, Sl.isB, isBS, toKey, inS, ixS, pNone, pSome, slS, eSl, eNeg, gets, eFn, one, lenS, absS, intF, seqS, listF, tupF, bools, allF, isKind, eMt, appM, popM, atI, argsOf, refsOf, nodupB, putBack, eCall, iSeq, iRng1', iRng2', zipD, iZip', enumD, iEnum', gNm, gsNil, gsCons, gTp, mSkip, mSeq, mBk, mCt, mIf, mDrop, mRetN, mRet, mAsg, mAsgG, mPar, putM, mSet, forL, mFor, wipeS, keepFz, restoreS, lcL, eLc, tYes', mask, fnS, eD0, dcL, eDc, sortF, eSortIt, tyN, isB, eIs, newOf, parked, eCallN, Sl.mt, ixN, addS_ap, subS_ap, mulI_ap, mulS_ap, modS_ap, fdivS_ap, powS_ap, intB_ap, ordS_ap, shaped_bool, shaped_int, shaped_none, eqv_bool, eqv_int, eqv_str, eqv_none, fs__law_same, m__law_same]
    | str b =>
      have hs : s = .fz (.str b) := by
        rcases hs with e | ⟨ys, e, e2⟩
        · exact e
        · cases e2
      subst hs
      have h : SeqAt.shaped (.str b) = true := h
      simp [eVar, eC, eBin, g2, Opd.get, tBl, truS, truO, tTr, tAnd', tOr', tNot', eAndT, eOrT, eNotT, eIf, frz, eFrz, aNil, aCons, allFz, disp, Sl.d, Sl.l, intS, catS, orG, repS, eqvS, strC, eChain, Sl.isN, isNS, Sl.isB, isBS, toKey, inS, ixS, pNone, pSome, slS, eSl, eNeg, gets, eFn, one, lenS, absS, intF, seqS, listF, tupF, bools, allF, isKind, eMt, appM, popM, atI, argsOf, refsOf, nodupB, putBack, eCall, iSeq, iRng1', iRng2', zipD, iZip', enumD, iEnum', gNm, gsNil, gsCons, gTp, mSkip, mSeq, mBk, mCt, mIf, mDrop, mRetN, mRet, mAsg, mAsgG, mPar, putM, mSet, forL, mFor, wipeS, keepFz, restoreS, lcL, eLc, tYes', mask, fnS, eD0, dcL, eDc, sortF, eSortIt, tyN, isB, eIs, newOf, parked, eCallN, Sl.mt, ixN, addS_ap, subS_ap, mulI_ap, mulS_ap, modS_ap, fdivS_ap, powS_ap, intB_ap, ordS_ap, shaped_bool, shaped_int, shaped_none, eqv_bool, eqv_int, eqv_str, eqv_none, fs__law_same, m__law_same, h]
end L11

namespace L11
open PySem PySem.Spec L2 Sh

/-! ### dicts of texts -/
abbrev SD := List (Str × Str)
def sget : SD → Str → Option Str
  | [], _ => none
  | (k', d) :: r, k => if k' = k then some d else sget r k
def sput : SD → Str → Str → SD
  | [], k, d => [(k, d)]
  | (k', d') :: r, k, d => if k' = k then (k', d) :: r else (k', d') :: sput r k d
def encS (W : SD) : List (Key × D) := W.map fun p => (.inr p.1, .str p.2)
theorem get_enc : ∀ (W : SD) (k : Str), dget (encS W) (.inr k) = (sget W k).map PyData.str
  | [], _ => rfl
  | (k', d) :: r, k => by
    show dget ((.inr k', .str d) :: encS r) (.inr k) = _
    unfold dget sget
    by_cases h : k' = k
    · rw [if_pos h, if_pos (by rw [h])]; rfl
    · rw [if_neg h, if_neg (fun z => h (Sum.inr.inj z)), get_enc r k]
theorem put_enc : ∀ (W : SD) (k d : Str), dput (encS W) (.inr k) (.str d) = encS (sput W k d)
  | [], _, _ => rfl
  | (k', d') :: r, k, d => by
    show dput ((.inr k', .str d') :: encS r) (.inr k) (.str d) = _
    unfold dput sput
    by_cases h : k' = k
    · rw [if_pos h, if_pos (by rw [h])]; rfl
    · rw [if_neg h, if_neg (fun z => h (Sum.inr.inj z)), put_enc r k d]; rfl
theorem sput_len (W : SD) (k d : Str) : (sput W k d).length ≤ W.length + 1 := by
  induction W with
  | nil => exact Nat.le_refl _
  | cons p r ih =>
    unfold sput
    split
    · simp [eVar, eC, eBin, g2, Opd.get, tBl, truS, truO, tTr, tAnd', tOr', tNot', eAndT, eOrT, eNotT, eIf, frz, eFrz, aNil, aCons, allFz, disp, Sl.d, Sl.l, intS, catS, orG, repS, eqvS, strC, eChain, Sl.isN, isNS, Sl.isB, isBS, toKey, inS, ixS, pNone, pSome, slS, eSl, eNeg, gets, eFn, one, lenS, absS, intF, seqS, listF, tupF, bools, allF, isKind, eMt, appM, popM, atI, argsOf, refsOf, nodupB, putBack, eCall, iSeq, iRng1', iRng2', zipD, iZip', enumD, iEnum', gNm, gsNil, gsCons, gTp, mSkip, mSeq, mBk, mCt, mIf, mDrop, mRetN, mRet, mAsg, mAsgG, mPar, putM, mSet, forL, mFor, wipeS, keepFz, restoreS, lcL, eLc, tYes', mask, fnS, eD0, dcL, eDc, sortF, eSortIt, tyN, isB, eIs, newOf, parked, eCallN, Sl.mt, ixN, addS_ap, subS_ap, mulI_ap, mulS_ap, modS_ap, fdivS_ap, powS_ap, intB_ap, ordS_ap, shaped_bool, shaped_int, shaped_none, eqv_bool, eqv_int, eqv_str, eqv_none]
    · simp [eVar, eC, eBin, g2, Opd.get, tBl, truS, truO, tTr, tAnd', tOr', tNot', eAndT, eOrT, eNotT, eIf, frz, eFrz, aNil, aCons, allFz, disp, Sl.d, Sl.l, intS, catS, orG, repS, eqvS, strC, eChain, Sl.isN, isNS, Sl.isB, isBS, toKey, inS, ixS, pNone, pSome, slS, eSl, eNeg, gets, eFn, one, lenS, absS, intF, seqS, listF, tupF, bools, allF, isKind, eMt, appM, popM, atI, argsOf, refsOf, nodupB, putBack, eCall, iSeq, iRng1', iRng2', zipD, iZip', enumD, iEnum', gNm, gsNil, gsCons, gTp, mSkip, mSeq, mBk, mCt, mIf, mDrop, mRetN, mRet, mAsg, mAsgG, mPar, putM, mSet, forL, mFor, wipeS, keepFz, restoreS, lcL, eLc, tYes', mask, fnS, eD0, dcL, eDc, sortF, eSortIt, tyN, isB, eIs, newOf, parked, eCallN, Sl.mt, ixN, addS_ap, subS_ap, mulI_ap, mulS_ap, modS_ap, fdivS_ap, powS_ap, intB_ap, ordS_ap, shaped_bool, shaped_int, shaped_none, eqv_bool, eqv_int, eqv_str, eqv_none]; exact ih
theorem sget_sput (W : SD) (k d k2 : Str) : sget (sput W k d) k2 = if k = k2 then some d else sget W k2 := by
  induction W with
  | nil => rfl
  | cons p r ih =>
    obtain ⟨k', d'⟩ := p
    unfold sput
    by_cases h : k' = k
    · rw [if_pos h]
      unfold sget
      subst h
      by_cases h2 : k' = k2
      · simp [eVar, eC, eBin, g2, Opd.get, tBl, truS, truO, tTr, tAnd', tOr', tNot', eAndT, eOrT, eNotT, eIf, frz, eFrz, aNil, aCons, allFz, disp, Sl.d, Sl.l, intS, catS, orG, repS, eqvS, strC, eChain, Sl.isN, isNS, Sl.isB, isBS, toKey, inS, ixS, pNone, pSome, slS, eSl, eNeg, gets, eFn, one, lenS, absS, intF, seqS, listF, tupF, bools, allF, isKind, eMt, appM, popM, atI, argsOf, refsOf, nodupB, putBack, eCall, iSeq, iRng1', iRng2', zipD, iZip', enumD, iEnum', gNm, gsNil, gsCons, gTp, mSkip, mSeq, mBk, mCt, mIf, mDrop, mRetN, mRet, mAsg, mAsgG, mPar, putM, mSet, forL, mFor, wipeS, keepFz, restoreS, lcL, eLc, tYes', mask, fnS, eD0, dcL, eDc, sortF, eSortIt, tyN, isB, eIs, newOf, parked, eCallN, Sl.mt, ixN, addS_ap, subS_ap, mulI_ap, mulS_ap, modS_ap, fdivS_ap, powS_ap, intB_ap, ordS_ap, shaped_bool, shaped_int, shaped_none, eqv_bool, eqv_int, eqv_str, eqv_none, h2]
      · simp [eVar, eC, eBin, g2, Opd.get, tBl, truS, truO, tTr, tAnd', tOr', tNot', eAndT, eOrT, eNotT, eIf, frz, eFrz, aNil, aCons, allFz, disp, Sl.d, Sl.l, intS, catS, orG, repS, eqvS, strC, eChain, Sl.isN, isNS, Sl.isB, isBS, toKey, inS, ixS, pNone, pSome, slS, eSl, eNeg, gets, eFn, one, lenS, absS, intF, seqS, listF, tupF, bools, allF, isKind, eMt, appM, popM, atI, argsOf, refsOf, nodupB, putBack, eCall, iSeq, iRng1', iRng2', zipD, iZip', enumD, iEnum', gNm, gsNil, gsCons, gTp, mSkip, mSeq, mBk, mCt, mIf, mDrop, mRetN, mRet, mAsg, mAsgG, mPar, putM, mSet, forL, mFor, wipeS, keepFz, restoreS, lcL, eLc, tYes', mask, fnS, eD0, dcL, eDc, sortF, eSortIt, tyN, isB, eIs, newOf, parked, eCallN, Sl.mt, ixN, addS_ap, subS_ap, mulI_ap, mulS_ap, modS_ap, fdivS_ap, powS_ap, intB_ap, ordS_ap, shaped_bool, shaped_int, shaped_none, eqv_bool, eqv_int, eqv_str, eqv_none, h2]
    · rw [if_neg h]
      unfold sget
      by_cases h2 : k' = k2
      · subst h2
        have h3 : ¬ k = k' := fun z => h z.symm
        simp [eVar, eC, eBin, g2, Opd.get, tBl, truS, truO, tTr, tAnd', tOr', tNot', eAndT, eOrT, eNotT, eIf, frz, eFrz, aNil, aCons, allFz, disp, Sl.d, Sl.l, intS, catS, orG, repS, eqvS, strC, eChain, Sl.isN, isNS, Sl.isB, isBS, toKey, inS, ixS, pNone, pSome, slS, eSl, eNeg, gets, eFn, one, lenS, absS, intF, seqS, listF, tupF, bools, allF, isKind, eMt, appM, popM, atI, argsOf, refsOf, nodupB, putBack, eCall, iSeq, iRng1', iRng2', zipD, iZip', enumD, iEnum', gNm, gsNil, gsCons, gTp, mSkip, mSeq, mBk, mCt, mIf, mDrop, mRetN, mRet, mAsg, mAsgG, mPar, putM, mSet, forL, mFor, wipeS, keepFz, restoreS, lcL, eLc, tYes', mask, fnS, eD0, dcL, eDc, sortF, eSortIt, tyN, isB, eIs, newOf, parked, eCallN, Sl.mt, ixN, addS_ap, subS_ap, mulI_ap, mulS_ap, modS_ap, fdivS_ap, powS_ap, intB_ap, ordS_ap, shaped_bool, shaped_int, shaped_none, eqv_bool, eqv_int, eqv_str, eqv_none, h3]
      · simp [eVar, eC, eBin, g2, Opd.get, tBl, truS, truO, tTr, tAnd', tOr', tNot', eAndT, eOrT, eNotT, eIf, frz, eFrz, aNil, aCons, allFz, disp, Sl.d, Sl.l, intS, catS, orG, repS, eqvS, strC, eChain, Sl.isN, isNS, Sl.isB, isBS, toKey, inS, ixS, pNone, pSome, slS, eSl, eNeg, gets, eFn, one, lenS, absS, intF, seqS, listF, tupF, bools, allF, isKind, eMt, appM, popM, atI, argsOf, refsOf, nodupB, putBack, eCall, iSeq, iRng1', iRng2', zipD, iZip', enumD, iEnum', gNm, gsNil, gsCons, gTp, mSkip, mSeq, mBk, mCt, mIf, mDrop, mRetN, mRet, mAsg, mAsgG, mPar, putM, mSet, forL, mFor, wipeS, keepFz, restoreS, lcL, eLc, tYes', mask, fnS, eD0, dcL, eDc, sortF, eSortIt, tyN, isB, eIs, newOf, parked, eCallN, Sl.mt, ixN, addS_ap, subS_ap, mulI_ap, mulS_ap, modS_ap, fdivS_ap, powS_ap, intB_ap, ordS_ap, shaped_bool, shaped_int, shaped_none, eqv_bool, eqv_int, eqv_str, eqv_none, h2, ih]

/-! ### trees and plans -/
abbrev Row := Str × Option Str × Bool
def parD : Option Str → D
  | none => .none
  | some p => .str p
def rowD (r : Row) : D := .tuple [.str r.1, parD r.2.1, .bool r.2.2]
def pairD (p : Str × Str) : D := .tuple [.str p.1, .str p.2]
/-- a list or a tuple of these -/
def SeqOf (d : D) (xs : List D) : Prop := d = .tuple xs ∨ d = .list xs
def dictOf (ps : List (Str × Str)) (acc : SD) : SD := ps.foldl (fun a p => sput a p.1 p.2) acc
def gb (W : SD) : List Row → SD → Option SD
  | [], acc => some acc
  | (n, par, _) :: r, acc => match sget W n with
    | some v => gb W r (sput acc n v)
    | none => match par with
      | some p => match sget acc p with
        | some v => gb W r (sput acc n v)
        | none => none
      | none => none
end L11

namespace L11
open PySem PySem.Spec L2 Sh

theorem items_enc (A : SD) : itemsD (encS A) = A.map pairD := by
  unfold itemsD encS
  rw [List.map_map]
  rfl
theorem flat_enc (A : SD) : (encS A).all (fun q => flatD q.2) = true := by
  unfold encS
  rw [List.all_map, List.all_eq_true]
  intro p _
  rfl
theorem pairs_sort (ps : List (Str × Str)) (h : ps.length ≤ 100000) : sortOk (ps.map pairD) = true := by
  unfold sortOk alikeB
  simp only [Bool.and_eq_true, Bool.or_eq_true, List.all_eq_true, decide_eq_true_eq]
  refine ⟨⟨⟨fun d hd e he => ?_, .inl fun d hd => ?_⟩, fun d hd => ?_⟩, by rw [List.length_map]; exact h⟩
  · obtain ⟨p, _, rfl⟩ := List.mem_map.mp hd
    obtain ⟨q, _, rfl⟩ := List.mem_map.mp he
    rfl
  · obtain ⟨p, _, rfl⟩ := List.mem_map.mp hd
    rfl
  · obtain ⟨p, _, rfl⟩ := List.mem_map.mp hd
    show 1 ≤ 8
    omega
/-- what the tree and the plan give -/
abbrev SP := Str × Str
def leP (p q : SP) : Bool := !PySem.W.dataLt (pairD q) (pairD p)
theorem lt_pairD (p q : SP) : PySem.W.dataLt (pairD p) (pairD q) = decide (p.1.cps.toList < q.1.cps.toList ∨ (p.1 = q.1 ∧ p.2.cps.toList < q.2.cps.toList)) := by
  unfold pairD
  rw [PySem.W.dataLt_pair rfl rfl, PySem.W.dataLt_str, PySem.W.dataLt_str, eqv_str, eqv_str]
  by_cases h1 : p.1 = q.1
  · have i1 : ¬ q.1.cps.toList < q.1.cps.toList := List.lt_irrefl _
    by_cases h2 : p.2 = q.2
    · have i2 : ¬ q.2.cps.toList < q.2.cps.toList := List.lt_irrefl _
      simp [eVar, eC, eBin, g2, Opd.get, tBl, truS, truO, tTr, tAnd', tOr', tNot', eAndT, eOrT, eNotT, eIf, frz, eFrz, aNil, aCons, allFz, disp, Sl.d, Sl.l, intS, catS, orG, repS, eqvS, strC, eChain, Sl.isN, isNS, Sl.isB, isBS, toKey, inS, ixS, pNone, pSome, slS, eSl, eNeg, gets, eFn, one, lenS, absS, intF, seqS, listF, tupF, bools, allF, isKind, eMt, appM, popM, atI, argsOf, refsOf, nodupB, putBack, eCall, iSeq, iRng1', iRng2', zipD, iZip', enumD, iEnum', gNm, gsNil, gsCons, gTp, mSkip, mSeq, mBk, mCt, mIf, mDrop, mRetN, mRet, mAsg, mAsgG, mPar, putM, mSet, forL, mFor, wipeS, keepFz, restoreS, lcL, eLc, tYes', mask, fnS, eD0, dcL, eDc, sortF, eSortIt, tyN, isB, eIs, newOf, parked, eCallN, dictF, dictP, pick, eCallK, Sl.mt, addS_ap, subS_ap, mulI_ap, mulS_ap, modS_ap, fdivS_ap, powS_ap, intB_ap, ordS_ap, shaped_bool, shaped_int, shaped_none, eqv_bool, eqv_int, eqv_str, eqv_none, h1, h2, i1, i2]
    · simp [eVar, eC, eBin, g2, Opd.get, tBl, truS, truO, tTr, tAnd', tOr', tNot', eAndT, eOrT, eNotT, eIf, frz, eFrz, aNil, aCons, allFz, disp, Sl.d, Sl.l, intS, catS, orG, repS, eqvS, strC, eChain, Sl.isN, isNS, Sl.isB, isBS, toKey, inS, ixS, pNone, pSome, slS, eSl, eNeg, gets, eFn, one, lenS, absS, intF, seqS, listF, tupF, bools, allF, isKind, eMt, appM, popM, atI, argsOf, refsOf, nodupB, putBack, eCall, iSeq, iRng1', iRng2', zipD, iZip', enumD, iEnum', gNm, gsNil, gsCons, gTp, mSkip, mSeq, mBk, mCt, mIf, mDrop, mRetN, mRet, mAsg, mAsgG, mPar, putM, mSet, forL, mFor, wipeS, keepFz, restoreS, lcL, eLc, tYes', mask, fnS, eD0, dcL, eDc, sortF, eSortIt, tyN, isB, eIs, newOf, parked, eCallN, dictF, dictP, pick, eCallK, Sl.mt, addS_ap, subS_ap, mulI_ap, mulS_ap, modS_ap, fdivS_ap, powS_ap, intB_ap, ordS_ap, shaped_bool, shaped_int, shaped_none, eqv_bool, eqv_int, eqv_str, eqv_none, h1, h2, i1]
  · simp [eVar, eC, eBin, g2, Opd.get, tBl, truS, truO, tTr, tAnd', tOr', tNot', eAndT, eOrT, eNotT, eIf, frz, eFrz, aNil, aCons, allFz, disp, Sl.d, Sl.l, intS, catS, orG, repS, eqvS, strC, eChain, Sl.isN, isNS, Sl.isB, isBS, toKey, inS, ixS, pNone, pSome, slS, eSl, eNeg, gets, eFn, one, lenS, absS, intF, seqS, listF, tupF, bools, allF, isKind, eMt, appM, popM, atI, argsOf, refsOf, nodupB, putBack, eCall, iSeq, iRng1', iRng2', zipD, iZip', enumD, iEnum', gNm, gsNil, gsCons, gTp, mSkip, mSeq, mBk, mCt, mIf, mDrop, mRetN, mRet, mAsg, mAsgG, mPar, putM, mSet, forL, mFor, wipeS, keepFz, restoreS, lcL, eLc, tYes', mask, fnS, eD0, dcL, eDc, sortF, eSortIt, tyN, isB, eIs, newOf, parked, eCallN, dictF, dictP, pick, eCallK, Sl.mt, addS_ap, subS_ap, mulI_ap, mulS_ap, modS_ap, fdivS_ap, powS_ap, intB_ap, ordS_ap, shaped_bool, shaped_int, shaped_none, eqv_bool, eqv_int, eqv_str, eqv_none, h1]
theorem str_ext {x y : Str} (h : x.cps.toList = y.cps.toList) : x = y := PySem.W.str_of_cps h
theorem leP_iff (p q : SP) : leP p q = true ↔ p.1.cps.toList < q.1.cps.toList ∨ (p.1 = q.1 ∧ p.2.cps.toList ≤ q.2.cps.toList) := by
  unfold leP
  rw [lt_pairD, Bool.not_eq_true', decide_eq_false_iff_not]
  by_cases h1 : p.1 = q.1
  · have i1 : ¬ q.1.cps.toList < q.1.cps.toList := List.lt_irrefl _
    simp [eVar, eC, eBin, g2, Opd.get, tBl, truS, truO, tTr, tAnd', tOr', tNot', eAndT, eOrT, eNotT, eIf, frz, eFrz, aNil, aCons, allFz, disp, Sl.d, Sl.l, intS, catS, orG, repS, eqvS, strC, eChain, Sl.isN, isNS, Sl.isB, isBS, toKey, inS, ixS, pNone, pSome, slS, eSl, eNeg, gets, eFn, one, lenS, absS, intF, seqS, listF, tupF, bools, allF, isKind, eMt, appM, popM, atI, argsOf, refsOf, nodupB, putBack, eCall, iSeq, iRng1', iRng2', zipD, iZip', enumD, iEnum', gNm, gsNil, gsCons, gTp, mSkip, mSeq, mBk, mCt, mIf, mDrop, mRetN, mRet, mAsg, mAsgG, mPar, putM, mSet, forL, mFor, wipeS, keepFz, restoreS, lcL, eLc, tYes', mask, fnS, eD0, dcL, eDc, sortF, eSortIt, tyN, isB, eIs, newOf, parked, eCallN, dictF, dictP, pick, eCallK, Sl.mt, addS_ap, subS_ap, mulI_ap, mulS_ap, modS_ap, fdivS_ap, powS_ap, intB_ap, ordS_ap, shaped_bool, shaped_int, shaped_none, eqv_bool, eqv_int, eqv_str, eqv_none, h1, i1, List.not_lt]
  · have h2 : ¬ q.1 = p.1 := fun z => h1 z.symm
    have ne : ¬ p.1.cps.toList = q.1.cps.toList := fun z => h1 (str_ext z)
    simp only [h1, h2, false_and, or_false]
    rw [List.not_lt]
    constructor
    · intro h
      rcases Decidable.em (p.1.cps.toList < q.1.cps.toList) with z | z
      · exact z
      · exact (ne (List.le_antisymm h (List.not_lt.mp z))).elim
    · intro h
      exact List.not_lt.mp fun z => List.lt_asymm h z
theorem leP_trans (a b c : SP) (h1 : leP a b = true) (h2 : leP b c = true) : leP a c = true := by
  rw [leP_iff] at *
  rcases h1 with h1 | ⟨e1, h1⟩
  · rcases h2 with h2 | ⟨e2, h2⟩
    · exact .inl (List.lt_trans h1 h2)
    · exact .inl (by rw [← e2]; exact h1)
  · rcases h2 with h2 | ⟨e2, h2⟩
    · exact .inl (by rw [e1]; exact h2)
    · exact .inr ⟨e1.trans e2, List.le_trans h1 h2⟩
theorem leP_total (a b : SP) : (leP a b || leP b a) = true := by
  rw [Bool.or_eq_true, leP_iff, leP_iff]
  by_cases e : a.1 = b.1
  · rcases List.le_total a.2.cps.toList b.2.cps.toList with h | h
    · exact .inl (.inr ⟨e, h⟩)
    · exact .inr (.inr ⟨e.symm, h⟩)
  · by_cases h : a.1.cps.toList < b.1.cps.toList
    · exact .inl (.inl h)
    · refine .inr (.inl ?_)
      have h := List.not_lt.mp h
      rcases Decidable.em (b.1.cps.toList < a.1.cps.toList) with z | z
      · exact z
      · exact (e (str_ext (List.le_antisymm (List.not_lt.mp z) h))).elim
theorem leP_anti (a b : SP) (h1 : leP a b = true) (h2 : leP b a = true) : a = b := by
  rw [leP_iff] at *
  rcases h1 with h1 | ⟨e1, h1⟩
  · rcases h2 with h2 | ⟨e2, h2⟩
    · exact (List.lt_asymm h1 h2).elim
    · rw [e2] at h1
      exact (List.lt_irrefl _ h1).elim
  · rcases h2 with h2 | ⟨e2, h2⟩
    · rw [e1] at h2
      exact (List.lt_irrefl _ h2).elim
    · exact Prod.ext e1 (str_ext (List.le_antisymm h1 h2))
def sortP (ps : List SP) : List SP := ps.mergeSort leP
theorem sortD_pairs (ps : List SP) : sortD (ps.map pairD) = (sortP ps).map pairD := (sort_map pairD ps).symm
theorem sortP_perm (ps : List SP) : (sortP ps).Perm ps := List.mergeSort_perm _ _
theorem sortP_sorted (ps : List SP) : (sortP ps).Pairwise fun a b => leP a b = true := List.pairwise_mergeSort leP_trans leP_total ps
theorem sortP_eq {ps qs : List SP} (h : ps.Perm qs) : sortP ps = sortP qs :=
  (((sortP_perm ps).trans h).trans (sortP_perm qs).symm).eq_of_pairwise (fun a b _ _ h1 h2 => leP_anti a b h1 h2) (sortP_sorted ps) (sortP_sorted qs)
theorem sortP_len (ps : List SP) : (sortP ps).length = ps.length := (sortP_perm ps).length_eq

/-! ### dicts do not hang on the order -/
def keysOf (ps : List SP) : List Str := ps.map Prod.fst
theorem sget_cons (a b : Str) (r : SD) (k : Str) : sget ((a, b) :: r) k = if a = k then some b else sget r k := rfl
theorem sget_dictOf : ∀ (ps : List SP) (acc : SD), (keysOf ps).Nodup → ∀ k, sget (dictOf ps acc) k = match sget ps k with | some v => some v | none => sget acc k
  | [], acc, _, k => rfl
  | (a, b) :: ps, acc, h, k => by
    have h := List.nodup_cons.mp (show (a :: keysOf ps).Nodup from h)
    show sget (dictOf ps (sput acc a b)) k = _
    rw [sget_dictOf ps _ h.2 k, sget_sput, sget_cons]
    by_cases e : a = k
    · subst e
      have none' : ∀ qs : List SP, a ∉ keysOf qs → sget qs a = none := fun qs => by
        induction qs with
        | nil => intro _; rfl
        | cons q qs ih =>
          intro hq
          obtain ⟨x, y⟩ := q
          rw [sget_cons, if_neg (fun z => hq (by rw [← z]; exact List.mem_cons_self)), ih fun z => hq (List.mem_cons_of_mem _ z)]
      rw [none' ps h.1]
      simp [eVar, eC, eBin, g2, Opd.get, tBl, truS, truO, tTr, tAnd', tOr', tNot', eAndT, eOrT, eNotT, eIf, frz, eFrz, aNil, aCons, allFz, disp, Sl.d, Sl.l, intS, catS, orG, repS, eqvS, strC, eChain, Sl.isN, isNS, Sl.isB, isBS, toKey, inS, ixS, pNone, pSome, slS, eSl, eNeg, gets, eFn, one, lenS, absS, intF, seqS, listF, tupF, bools, allF, isKind, eMt, appM, popM, atI, argsOf, refsOf, nodupB, putBack, eCall, iSeq, iRng1', iRng2', zipD, iZip', enumD, iEnum', gNm, gsNil, gsCons, gTp, mSkip, mSeq, mBk, mCt, mIf, mDrop, mRetN, mRet, mAsg, mAsgG, mPar, putM, mSet, forL, mFor, wipeS, keepFz, restoreS, lcL, eLc, tYes', mask, fnS, eD0, dcL, eDc, sortF, eSortIt, tyN, isB, eIs, newOf, parked, eCallN, dictF, dictP, pick, eCallK, Sl.mt, addS_ap, subS_ap, mulI_ap, mulS_ap, modS_ap, fdivS_ap, powS_ap, intB_ap, ordS_ap, shaped_bool, shaped_int, shaped_none, eqv_bool, eqv_int, eqv_str, eqv_none]
    · rw [if_neg e, if_neg e]
theorem sget_none {qs : List SP} {a : Str} (h : a ∉ keysOf qs) : sget qs a = none := by
  induction qs with
  | nil => rfl
  | cons q qs ih =>
    unfold sget
    rw [if_neg (fun z => h (by rw [← z]; exact List.mem_cons_self)), ih fun z => h (List.mem_cons_of_mem _ z)]
theorem sget_mem {qs : List SP} (hn : (keysOf qs).Nodup) {k v : Str} : sget qs k = some v ↔ (k, v) ∈ qs := by
  induction qs with
  | nil => simp [eVar, eC, eBin, g2, Opd.get, tBl, truS, truO, tTr, tAnd', tOr', tNot', eAndT, eOrT, eNotT, eIf, frz, eFrz, aNil, aCons, allFz, disp, Sl.d, Sl.l, intS, catS, orG, repS, eqvS, strC, eChain, Sl.isN, isNS, Sl.isB, isBS, toKey, inS, ixS, pNone, pSome, slS, eSl, eNeg, gets, eFn, one, lenS, absS, intF, seqS, listF, tupF, bools, allF, isKind, eMt, appM, popM, atI, argsOf, refsOf, nodupB, putBack, eCall, iSeq, iRng1', iRng2', zipD, iZip', enumD, iEnum', gNm, gsNil, gsCons, gTp, mSkip, mSeq, mBk, mCt, mIf, mDrop, mRetN, mRet, mAsg, mAsgG, mPar, putM, mSet, forL, mFor, wipeS, keepFz, restoreS, lcL, eLc, tYes', mask, fnS, eD0, dcL, eDc, sortF, eSortIt, tyN, isB, eIs, newOf, parked, eCallN, dictF, dictP, pick, eCallK, Sl.mt, addS_ap, subS_ap, mulI_ap, mulS_ap, modS_ap, fdivS_ap, powS_ap, intB_ap, ordS_ap, shaped_bool, shaped_int, shaped_none, eqv_bool, eqv_int, eqv_str, eqv_none, sget]
  | cons q qs ih =>
    obtain ⟨a, b⟩ := q
    have h := List.nodup_cons.mp (show (a :: keysOf qs).Nodup from hn)
    unfold sget
    by_cases e : a = k
    · subst e
      rw [if_pos rfl, List.mem_cons]
      constructor
      · intro z; cases z; exact .inl rfl
      · rintro (z | z)
        · cases z; rfl
        · exact (h.1 (List.mem_map.mpr ⟨_, z, rfl⟩)).elim
    · rw [if_neg e, ih h.2, List.mem_cons]
      constructor
      · intro z; exact .inr z
      · rintro (z | z)
        · cases z; exact (e rfl).elim
        · exact z
theorem sget_perm {ps qs : List SP} (h : ps.Perm qs) (hn : (keysOf ps).Nodup) (k : Str) : sget ps k = sget qs k := by
  have hq : (keysOf qs).Nodup := (h.map Prod.fst).nodup_iff.mp hn
  cases e : sget ps k with
  | some v => exact ((sget_mem hq).mpr (h.mem_iff.mp ((sget_mem hn).mp e))).symm
  | none =>
    cases e2 : sget qs k with
    | none => rfl
    | some v =>
      have := (sget_mem hn).mpr (h.mem_iff.mpr ((sget_mem hq).mp e2))
      rw [e] at this; cases this
theorem bools_map {α : Type} (f : α → Bool) : ∀ xs : List α, bools (xs.map fun x => PyData.bool (f x)) = some (xs.map f)
  | [] => rfl
  | x :: xs => by simp [eVar, eC, eBin, g2, Opd.get, tBl, truS, truO, tTr, tAnd', tOr', tNot', eAndT, eOrT, eNotT, eIf, frz, eFrz, aNil, aCons, allFz, disp, Sl.d, Sl.l, intS, catS, orG, repS, eqvS, strC, eChain, Sl.isN, isNS, Sl.isB, isBS, toKey, inS, ixS, pNone, pSome, slS, eSl, eNeg, gets, eFn, one, lenS, absS, intF, seqS, listF, tupF, bools, allF, isKind, eMt, appM, popM, atI, argsOf, refsOf, nodupB, putBack, eCall, iSeq, iRng1', iRng2', zipD, iZip', enumD, iEnum', gNm, gsNil, gsCons, gTp, mSkip, mSeq, mBk, mCt, mIf, mDrop, mRetN, mRet, mAsg, mAsgG, mPar, putM, mSet, forL, mFor, wipeS, keepFz, restoreS, lcL, eLc, tYes', mask, fnS, eD0, dcL, eDc, sortF, eSortIt, tyN, isB, eIs, newOf, parked, eCallN, dictF, dictP, pick, eCallK, Sl.mt, addS_ap, subS_ap, mulI_ap, mulS_ap, modS_ap, fdivS_ap, powS_ap, intB_ap, ordS_ap, shaped_bool, shaped_int, shaped_none, eqv_bool, eqv_int, eqv_str, eqv_none, bools_map f xs]
end L11

namespace L11
open PySem PySem.Spec L2 Sh

/-! ### draws -/
def Bx (m : Nat) (s : Sl) : Prop := ∃ a b c : Int, s = .ow [.int a, .int b, .int c] ∧ 0 ≤ a ∧ 0 ≤ b ∧ b < 2 ^ 62 ∧ 0 ≤ c ∧ c ≤ m
theorem Bx.take {m : Nat} {s : Sl} (h : Bx m s) (hm : m < 1000000) {n : Int} (hn : 0 < n) (hn2 : n < 1000) : ∃ v s', fs__law_take [s, .fz (.int n)] = some (.fz (.int v), [s', .fz (.int n)]) ∧ 0 ≤ v ∧ v < n ∧ Bx (m + 1) s' := by
  obtain ⟨a, b, c, rfl, ha, hb, hb2, hc, hcm⟩ := h
  obtain ⟨v, a', c', e, h1, h2, h3, h4, h5⟩ := take_ok a b c n ha hb hb2 hc (by omega) hn hn2
  exact ⟨v, _, e, h1, h2, a', b, c', rfl, h3, hb, hb2, h4, by omega⟩
theorem Bx.mono {m k : Nat} {s : Sl} (h : Bx m s) (hk : m ≤ k) : Bx k s := by
  obtain ⟨a, b, c, e, ha, hb, hb2, hc, hcm⟩ := h
  exact ⟨a, b, c, e, ha, hb, hb2, hc, by omega⟩
theorem Bx.ow {m : Nat} {s : Sl} (h : Bx m s) : ∃ xs, s = .ow xs := by
  obtain ⟨a, b, c, e, _⟩ := h
  exact ⟨_, e⟩
/-- one of some -/
theorem of_ok {m : Nat} {s t : Sl} (h : Bx m s) (hm : m < 1000000) (xs : List D) (ht : t = .fz (.list xs) ∨ t = .fz (.tuple xs) ∨ t = .ow xs) (h0 : 0 < xs.length) (h1 : xs.length < 1000) :
    ∃ (j : Nat) (d : D) (s' : Sl), xs[j]? = some d ∧ fs__law_of [s, t] = some (.fz d, [s', t]) ∧ Bx (m + 1) s' := by
  obtain ⟨v, s', e, v1, v2, hb⟩ := h.take hm (n := (xs.length : Int)) (by omega) (by omega)
  have hj : v.toNat < xs.length := by omega
  refine ⟨v.toNat, xs[v.toNat], s', List.getElem?_eq_getElem hj, ?_, hb⟩
  have e0 := atI_nat' xs v.toNat
  rw [Int.toNat_of_nonneg v1] at e0
  have ea : atI xs v = some xs[v.toNat] := e0.trans (List.getElem?_eq_getElem hj)
  obtain ⟨ys, rfl⟩ := h.ow
  obtain ⟨zs, rfl⟩ := hb.ow
  rcases ht with ht | ht | ht <;> subst ht <;> simp [eVar, eC, eBin, g2, Opd.get, tBl, truS, truO, tTr, tAnd', tOr', tNot', eAndT, eOrT, eNotT, eIf, frz, eFrz, aNil, aCons, allFz, disp, Sl.d, Sl.l, intS, catS, orG, repS, eqvS, strC, eChain, Sl.isN, isNS, Sl.isB, isBS, toKey, inS, ixS, pNone, pSome, slS, eSl, eNeg, gets, eFn, one, lenS, absS, intF, seqS, listF, tupF, bools, allF, isKind, eMt, appM, popM, argsOf, refsOf, nodupB, putBack, eCall, iSeq, iRng1', iRng2', zipD, iZip', enumD, iEnum', gNm, gsNil, gsCons, gTp, mSkip, mSeq, mBk, mCt, mIf, mDrop, mRetN, mRet, mAsg, mAsgG, mPar, putM, mSet, forL, mFor, wipeS, keepFz, restoreS, lcL, eLc, tYes', mask, fnS, eD0, dcL, eDc, sortF, eSortIt, tyN, isB, eIs, newOf, parked, eCallN, Sl.mt, ixN, addS_ap, subS_ap, mulI_ap, mulS_ap, modS_ap, fdivS_ap, powS_ap, intB_ap, ordS_ap, shaped_bool, shaped_int, shaped_none, eqv_bool, eqv_int, eqv_str, eqv_none, fs__law_of, m__law_of, e, ea]

/-! ### trees -/
def namesOf (rows : List Row) : List Str := rows.map (·.1)
def wf : List Str → List Row → Prop
  | _, [] => True
  | kn, (n, par, lk) :: r => n ∉ kn ∧ (match par with | none => kn = [] ∧ lk = false | some p => p ∈ kn) ∧ wf (kn ++ [n]) r
theorem wf_snoc : ∀ (rows : List Row) (kn : List Str) (n p : Str) (lk : Bool), wf kn rows → n ∉ kn ++ namesOf rows → p ∈ kn ++ namesOf rows → wf kn (rows ++ [(n, some p, lk)])
  | [], kn, n, p, lk, _, h1, h2 => ⟨by simpa [namesOf] using h1, by simpa [namesOf] using h2, True.intro⟩
  | (a, par, b) :: rows, kn, n, p, lk, h, h1, h2 => by
    obtain ⟨q1, q2, q3⟩ := h
    refine ⟨q1, q2, wf_snoc rows (kn ++ [a]) n p lk q3 ?_ ?_⟩
    · simpa [namesOf] using h1
    · simpa [namesOf] using h2
theorem wf_nodup : ∀ (rows : List Row) (kn : List Str), kn.Nodup → wf kn rows → (kn ++ namesOf rows).Nodup
  | [], kn, h, _ => by simpa [namesOf] using h
  | (a, par, b) :: rows, kn, h, w => by
    obtain ⟨q1, q2, q3⟩ := w
    have h2 : (kn ++ [a]).Nodup := by
      rw [List.nodup_append]
      exact ⟨h, by simp [eVar, eC, eBin, g2, Opd.get, tBl, truS, truO, tTr, tAnd', tOr', tNot', eAndT, eOrT, eNotT, eIf, frz, eFrz, aNil, aCons, allFz, disp, Sl.d, Sl.l, intS, catS, orG, repS, eqvS, strC, eChain, Sl.isN, isNS, Sl.isB, isBS, toKey, inS, ixS, pNone, pSome, slS, eSl, eNeg, gets, eFn, one, lenS, absS, intF, seqS, listF, tupF, bools, allF, isKind, eMt, appM, popM, atI, argsOf, refsOf, nodupB, putBack, eCall, iSeq, iRng1', iRng2', zipD, iZip', enumD, iEnum', gNm, gsNil, gsCons, gTp, mSkip, mSeq, mBk, mCt, mIf, mDrop, mRetN, mRet, mAsg, mAsgG, mPar, putM, mSet, forL, mFor, wipeS, keepFz, restoreS, lcL, eLc, tYes', mask, fnS, eD0, dcL, eDc, sortF, eSortIt, tyN, isB, eIs, newOf, parked, eCallN, Sl.mt, ixN, addS_ap, subS_ap, mulI_ap, mulS_ap, modS_ap, fdivS_ap, powS_ap, intB_ap, ordS_ap, shaped_bool, shaped_int, shaped_none, eqv_bool, eqv_int, eqv_str, eqv_none], fun x hx y hy e => by simp [eVar, eC, eBin, g2, Opd.get, tBl, truS, truO, tTr, tAnd', tOr', tNot', eAndT, eOrT, eNotT, eIf, frz, eFrz, aNil, aCons, allFz, disp, Sl.d, Sl.l, intS, catS, orG, repS, eqvS, strC, eChain, Sl.isN, isNS, Sl.isB, isBS, toKey, inS, ixS, pNone, pSome, slS, eSl, eNeg, gets, eFn, one, lenS, absS, intF, seqS, listF, tupF, bools, allF, isKind, eMt, appM, popM, atI, argsOf, refsOf, nodupB, putBack, eCall, iSeq, iRng1', iRng2', zipD, iZip', enumD, iEnum', gNm, gsNil, gsCons, gTp, mSkip, mSeq, mBk, mCt, mIf, mDrop, mRetN, mRet, mAsg, mAsgG, mPar, putM, mSet, forL, mFor, wipeS, keepFz, restoreS, lcL, eLc, tYes', mask, fnS, eD0, dcL, eDc, sortF, eSortIt, tyN, isB, eIs, newOf, parked, eCallN, Sl.mt, ixN, addS_ap, subS_ap, mulI_ap, mulS_ap, modS_ap, fdivS_ap, powS_ap, intB_ap, ordS_ap, shaped_bool, shaped_int, shaped_none, eqv_bool, eqv_int, eqv_str, eqv_none] at hy; subst hy; subst e; exact q1 hx⟩
    have := wf_nodup rows (kn ++ [a]) h2 q3
    simpa [namesOf] using this

abbrev okStr (x : Str) : Prop := SeqAt.shaped (.str x) = true
def strsOf (xs : List Str) : List D := xs.map PyData.str
theorem strs_len (xs : List Str) : (strsOf xs).length = xs.length := by unfold strsOf; rw [List.length_map]
theorem strs_erase (xs : List Str) (k : Nat) : (strsOf xs).eraseIdx k = strsOf (xs.eraseIdx k) := by
  unfold strsOf
  induction xs generalizing k with
  | nil => rfl
  | cons a r ih =>
    cases k with
    | zero => rfl
    | succ k =>
      show PyData.str a :: ((r.map PyData.str).eraseIdx k) = PyData.str a :: (r.eraseIdx k).map PyData.str
      rw [ih]
theorem perm_erase {α : Type} : ∀ (xs : List α) (k : Nat) (h : k < xs.length), (xs[k] :: xs.eraseIdx k).Perm xs
  | [], k, h => by simp [eVar, eC, eBin, g2, Opd.get, tBl, truS, truO, tTr, tAnd', tOr', tNot', eAndT, eOrT, eNotT, eIf, frz, eFrz, aNil, aCons, allFz, disp, Sl.d, Sl.l, intS, catS, orG, repS, eqvS, strC, eChain, Sl.isN, isNS, Sl.isB, isBS, toKey, inS, ixS, pNone, pSome, slS, eSl, eNeg, gets, eFn, one, lenS, absS, intF, seqS, listF, tupF, bools, allF, isKind, eMt, appM, popM, atI, argsOf, refsOf, nodupB, putBack, eCall, iSeq, iRng1', iRng2', zipD, iZip', enumD, iEnum', gNm, gsNil, gsCons, gTp, mSkip, mSeq, mBk, mCt, mIf, mDrop, mRetN, mRet, mAsg, mAsgG, mPar, putM, mSet, forL, mFor, wipeS, keepFz, restoreS, lcL, eLc, tYes', mask, fnS, eD0, dcL, eDc, sortF, eSortIt, tyN, isB, eIs, newOf, parked, eCallN, Sl.mt, ixN, addS_ap, subS_ap, mulI_ap, mulS_ap, modS_ap, fdivS_ap, powS_ap, intB_ap, ordS_ap, shaped_bool, shaped_int, shaped_none, eqv_bool, eqv_int, eqv_str, eqv_none] at h
  | x :: xs, 0, h => List.Perm.refl _
  | x :: xs, k + 1, h => by
    have hk : k < xs.length := by simpa using h
    show (xs[k] :: x :: xs.eraseIdx k).Perm (x :: xs)
    exact (List.Perm.swap _ _ _).trans ((perm_erase xs k hk).cons x)
theorem rows_app (rows : List Row) (n : Str) (par : Option Str) (lk : Bool) : rows.map rowD ++ [PyData.tuple [.str n, parD par, .bool lk]] = (rows ++ [(n, par, lk)]).map rowD := by rw [List.map_append]; rfl
/-- a name drawn from those that are left -/
theorem draw_one {m : Nat} {s : Sl} (h : Bx m s) (hm : m < 1000000) (left : List Str) (h0 : 0 < left.length) (h1 : left.length < 1000) :
    ∃ (v : Int) (n : Str) (s' : Sl), fs__law_take [s, .fz (.int (left.length : Int))] = some (.fz (.int v), [s', .fz (.int (left.length : Int))]) ∧ L2.ixN left.length v = some v.toNat ∧ (strsOf left)[v.toNat]? = some (.str n) ∧
      (n :: left.eraseIdx v.toNat).Perm left ∧ (left.eraseIdx v.toNat).length = left.length - 1 ∧ Bx (m + 1) s' := by
  obtain ⟨v, s', e, v1, v2, hb⟩ := h.take hm (n := (left.length : Int)) (by omega) (by omega)
  have hj : v.toNat < left.length := by omega
  refine ⟨v, left[v.toNat], s', e, ?_, ?_, perm_erase left v.toNat hj, List.length_eraseIdx_of_lt hj, hb⟩
  · unfold L2.ixN
    rw [if_pos v1, if_pos v2]
  · unfold strsOf; rw [List.getElem?_map, List.getElem?_eq_getElem hj]; rfl
abbrev left12 : List Str := ["a", "b", "c", "d", "e", "f", "g", "ab", "ba", "h", "m", "z"]
/-- a drawn tree -/
structure Tree (rows : List Row) : Prop where
  w : wf [] rows
  ne : rows ≠ []
  nm : ∀ n ∈ namesOf rows, n ∈ left12
theorem Tree.ok {rows : List Row} (t : Tree rows) : ∀ n ∈ namesOf rows, okStr n := fun n hn => by
  have ok : ∀ z ∈ left12, okStr z := by decide +kernel
  exact ok n (t.nm n hn)
theorem grown_loop (loc : Int) : ∀ (ds : List D) (m : Nat) (s : Sl) (left : List Str) (rows : List Row) (many s5 s6 : Sl), Bx m s → m + 3 * ds.length < 1000000 → ds.length ≤ left.length → left.length < 1000 → rows.length + ds.length < 1000 → Tree rows → (namesOf rows ++ left).Nodup → (∀ n ∈ left, n ∈ left12) →
    ∃ s' left' rows' s5' s6', Bx (m + 3 * ds.length) s' ∧ Tree rows' ∧ rows'.length = rows.length + ds.length ∧
      forL (gNm 5) (mSeq (mAsg 6 (eBin ixS (eCall fs__law_of (aCons (eVar 0) (aCons (eVar 4) aNil))) (eC (.int 0)))) (mDrop (eMt "list" 4 appM (aCons (eFrz (eTup (aCons (eFrz (eMt "list" 3 popM (aCons (eFrz (eCall fs__law_take (aCons (eVar 0) (aCons (eFrz (eFn (one lenS) (aCons (eVar 3) aNil))) aNil)))) aNil))) (aCons (eFrz (eVar 6)) (aCons (eFrz (eBin ltS (eCall fs__law_take (aCons (eVar 0) (aCons (eC (.int 12)) aNil))) (eVar 2))) aNil))))) aNil))))
        ds [s, many, .fz (.int loc), .ow (strsOf left), .ow (rows.map rowD), s5, s6] = some (.nx, [s', many, .fz (.int loc), .ow (strsOf left'), .ow (rows'.map rowD), s5', s6'])
  | [], m, s, left, rows, many, s5, s6, hb, _, _, _, _, ht, _, _ => ⟨s, left, rows, s5, s6, hb, ht, rfl, rfl⟩
  | d :: ds, m, s, left, rows, many, s5, s6, hb, hm, hl, hl2, hr, ht, hn, ho => by
    rw [List.length_cons] at hm hl hr
    have rne : 0 < rows.length := List.length_pos_iff.mpr ht.ne
    have lm : (rows.map rowD).length = rows.length := List.length_map _
    obtain ⟨j, pd, s1, j1, e1, hb1⟩ := of_ok (t := .ow (rows.map rowD)) hb (by omega) (rows.map rowD) (.inr (.inr rfl)) (by omega) (by omega)
    rw [List.getElem?_map] at j1
    obtain ⟨row, j2, rfl⟩ := Option.map_eq_some_iff.mp j1
    obtain ⟨p, ppar, plk⟩ := row
    have hp : p ∈ namesOf rows := List.mem_map.mpr ⟨_, List.mem_of_getElem? j2, rfl⟩
    obtain ⟨v, n, s2, e2, e3, e4, pm, le, hb2⟩ := draw_one hb1 (by omega) left (by omega) hl2
    obtain ⟨u, s3, e5, u1, u2, hb3⟩ := hb2.take (by omega) (n := 12) (by decide) (by decide)
    have hin : n ∈ left := pm.mem_iff.mp List.mem_cons_self
    have hnn : n ∉ namesOf rows := fun z => (List.nodup_append.mp hn).2.2 n z n hin rfl
    have pm2 : (namesOf (rows ++ [(n, some p, decide (u < loc))]) ++ left.eraseIdx v.toNat).Perm (namesOf rows ++ left) := by
      have e : namesOf (rows ++ [(n, some p, decide (u < loc))]) ++ left.eraseIdx v.toNat = namesOf rows ++ (n :: left.eraseIdx v.toNat) := by simp [eVar, eC, eBin, g2, Opd.get, tBl, truS, truO, tTr, tAnd', tOr', tNot', eAndT, eOrT, eNotT, eIf, frz, eFrz, aNil, aCons, allFz, disp, Sl.d, Sl.l, intS, catS, orG, repS, eqvS, strC, eChain, Sl.isN, isNS, Sl.isB, isBS, toKey, inS, ixS, pNone, pSome, slS, eSl, eNeg, gets, eFn, one, lenS, absS, intF, seqS, listF, tupF, bools, allF, isKind, eMt, appM, popM, atI, argsOf, refsOf, nodupB, putBack, eCall, iSeq, iRng1', iRng2', zipD, iZip', enumD, iEnum', gNm, gsNil, gsCons, gTp, mSkip, mSeq, mBk, mCt, mIf, mDrop, mRetN, mRet, mAsg, mAsgG, mPar, putM, mSet, forL, mFor, wipeS, keepFz, restoreS, lcL, eLc, tYes', mask, fnS, eD0, dcL, eDc, sortF, eSortIt, tyN, isB, eIs, newOf, parked, eCallN, Sl.mt, ixN, addS_ap, subS_ap, mulI_ap, mulS_ap, modS_ap, fdivS_ap, powS_ap, intB_ap, ordS_ap, shaped_bool, shaped_int, shaped_none, eqv_bool, eqv_int, eqv_str, eqv_none, namesOf]
      rw [e]
      exact pm.append_left _
    have ht2 : Tree (rows ++ [(n, some p, decide (u < loc))]) := ⟨wf_snoc rows [] n p _ ht.w (by simpa using hnn) (by simpa using hp), by simp [eVar, eC, eBin, g2, Opd.get, tBl, truS, truO, tTr, tAnd', tOr', tNot', eAndT, eOrT, eNotT, eIf, frz, eFrz, aNil, aCons, allFz, disp, Sl.d, Sl.l, intS, catS, orG, repS, eqvS, strC, eChain, Sl.isN, isNS, Sl.isB, isBS, toKey, inS, ixS, pNone, pSome, slS, eSl, eNeg, gets, eFn, one, lenS, absS, intF, seqS, listF, tupF, bools, allF, isKind, eMt, appM, popM, atI, argsOf, refsOf, nodupB, putBack, eCall, iSeq, iRng1', iRng2', zipD, iZip', enumD, iEnum', gNm, gsNil, gsCons, gTp, mSkip, mSeq, mBk, mCt, mIf, mDrop, mRetN, mRet, mAsg, mAsgG, mPar, putM, mSet, forL, mFor, wipeS, keepFz, restoreS, lcL, eLc, tYes', mask, fnS, eD0, dcL, eDc, sortF, eSortIt, tyN, isB, eIs, newOf, parked, eCallN, Sl.mt, ixN, addS_ap, subS_ap, mulI_ap, mulS_ap, modS_ap, fdivS_ap, powS_ap, intB_ap, ordS_ap, shaped_bool, shaped_int, shaped_none, eqv_bool, eqv_int, eqv_str, eqv_none], fun z hz => by
      have : z ∈ namesOf rows ∨ z = n := by simpa [namesOf] using hz
      rcases this with h | h
      · exact ht.nm z h
      · rw [h]; exact ho n hin⟩
    obtain ⟨s', left', rows', s5', s6', q1, q2, q3, q4⟩ := grown_loop loc ds (m + 3) s3 (left.eraseIdx v.toNat) (rows ++ [(n, some p, decide (u < loc))]) many (.fz d) (.fz (.str p)) hb3 (by omega) (by omega) (by omega) (by simp [eVar, eC, eBin, g2, Opd.get, tBl, truS, truO, tTr, tAnd', tOr', tNot', eAndT, eOrT, eNotT, eIf, frz, eFrz, aNil, aCons, allFz, disp, Sl.d, Sl.l, intS, catS, orG, repS, eqvS, strC, eChain, Sl.isN, isNS, Sl.isB, isBS, toKey, inS, ixS, pNone, pSome, slS, eSl, eNeg, gets, eFn, one, lenS, absS, intF, seqS, listF, tupF, bools, allF, isKind, eMt, appM, popM, atI, argsOf, refsOf, nodupB, putBack, eCall, iSeq, iRng1', iRng2', zipD, iZip', enumD, iEnum', gNm, gsNil, gsCons, gTp, mSkip, mSeq, mBk, mCt, mIf, mDrop, mRetN, mRet, mAsg, mAsgG, mPar, putM, mSet, forL, mFor, wipeS, keepFz, restoreS, lcL, eLc, tYes', mask, fnS, eD0, dcL, eDc, sortF, eSortIt, tyN, isB, eIs, newOf, parked, eCallN, Sl.mt, ixN, addS_ap, subS_ap, mulI_ap, mulS_ap, modS_ap, fdivS_ap, powS_ap, intB_ap, ordS_ap, shaped_bool, shaped_int, shaped_none, eqv_bool, eqv_int, eqv_str, eqv_none]; omega) ht2 (pm2.nodup_iff.mpr hn) (fun z hz => ho z (pm.mem_iff.mp (List.mem_cons_of_mem _ hz)))
    refine ⟨s', left', rows', s5', s6', by rw [List.length_cons]; exact q1.mono (by omega), q2, by rw [q3]; simp [eVar, eC, eBin, g2, Opd.get, tBl, truS, truO, tTr, tAnd', tOr', tNot', eAndT, eOrT, eNotT, eIf, frz, eFrz, aNil, aCons, allFz, disp, Sl.d, Sl.l, intS, catS, orG, repS, eqvS, strC, eChain, Sl.isN, isNS, Sl.isB, isBS, toKey, inS, ixS, pNone, pSome, slS, eSl, eNeg, gets, eFn, one, lenS, absS, intF, seqS, listF, tupF, bools, allF, isKind, eMt, appM, popM, atI, argsOf, refsOf, nodupB, putBack, eCall, iSeq, iRng1', iRng2', zipD, iZip', enumD, iEnum', gNm, gsNil, gsCons, gTp, mSkip, mSeq, mBk, mCt, mIf, mDrop, mRetN, mRet, mAsg, mAsgG, mPar, putM, mSet, forL, mFor, wipeS, keepFz, restoreS, lcL, eLc, tYes', mask, fnS, eD0, dcL, eDc, sortF, eSortIt, tyN, isB, eIs, newOf, parked, eCallN, Sl.mt, ixN, addS_ap, subS_ap, mulI_ap, mulS_ap, modS_ap, fdivS_ap, powS_ap, intB_ap, ordS_ap, shaped_bool, shaped_int, shaped_none, eqv_bool, eqv_int, eqv_str, eqv_none]; omega, ?_⟩
    obtain ⟨x0, rfl⟩ := hb.ow
    obtain ⟨x1, rfl⟩ := hb1.ow
    obtain ⟨x2, rfl⟩ := hb2.ow
    obtain ⟨x3, rfl⟩ := hb3.ow
    have l1 : left.length ≤ 100000 := by omega
    have l2 : rows.length < 100000 := by omega
    rw [← rows_app rows n (some p)] at q4
    simp only [parD] at q4
    have i0 : L2.ixN 3 0 = some 0 := rfl
    simp [eVar, eC, eBin, g2, Opd.get, tBl, truS, truO, tTr, tAnd', tOr', tNot', eAndT, eOrT, eNotT, eIf, frz, eFrz, aNil, aCons, allFz, disp, Sl.d, Sl.l, intS, catS, orG, repS, eqvS, strC, eChain, Sl.isN, isNS, Sl.isB, isBS, toKey, inS, ixS, pNone, pSome, slS, eSl, eNeg, gets, eFn, one, lenS, absS, intF, seqS, listF, tupF, bools, allF, isKind, eMt, appM, popM, atI, argsOf, refsOf, nodupB, putBack, eCall, iSeq, iRng1', iRng2', zipD, iZip', enumD, iEnum', gNm, gsNil, gsCons, gTp, mSkip, mSeq, mBk, mCt, mIf, mDrop, mRetN, mRet, mAsg, mAsgG, mPar, putM, mSet, forL, mFor, wipeS, keepFz, restoreS, lcL, eLc, tYes', mask, fnS, eD0, dcL, eDc, sortF, eSortIt, tyN, isB, eIs, newOf, parked, eCallN, Sl.mt, addS_ap, subS_ap, mulI_ap, mulS_ap, modS_ap, fdivS_ap, powS_ap, intB_ap, ordS_ap, shaped_bool, shaped_int, shaped_none, eqv_bool, eqv_int, eqv_str, eqv_none, i0, e1, e2, e3, e4, e5, rowD, strs_len, strs_erase, l1, l2, q4]
end L11

namespace L11
open PySem PySem.Spec L2 Sh

theorem grown_ok {m : Nat} {s : Sl} (h : Bx m s) (hm : m < 900000) (many loc : Int) (h1 : 1 ≤ many) (h12 : many ≤ 12) :
    ∃ s' rows, fs__law_grown [s, .fz (.int many), .fz (.int loc)] = some (.fz (.tuple (rows.map rowD)), [s', .fz (.int many), .fz (.int loc)]) ∧ Tree rows ∧ rows.length ≤ 12 ∧ Bx (m + 40) s' := by
  obtain ⟨v, n, s1, e2, e3, e4, pm, le, hb1⟩ := draw_one h (by omega) left12 (by decide) (by decide)
  have ok : ∀ z ∈ left12, okStr z := by decide +kernel
  have nd : left12.Nodup := by decide +kernel
  have hin : n ∈ left12 := pm.mem_iff.mp List.mem_cons_self
  have ht : Tree [(n, none, false)] := ⟨⟨by simp [eVar, eC, eBin, g2, Opd.get, tBl, truS, truO, tTr, tAnd', tOr', tNot', eAndT, eOrT, eNotT, eIf, frz, eFrz, aNil, aCons, allFz, disp, Sl.d, Sl.l, intS, catS, orG, repS, eqvS, strC, eChain, Sl.isN, isNS, Sl.isB, isBS, toKey, inS, ixS, pNone, pSome, slS, eSl, eNeg, gets, eFn, one, lenS, absS, intF, seqS, listF, tupF, bools, allF, isKind, eMt, appM, popM, atI, argsOf, refsOf, nodupB, putBack, eCall, iSeq, iRng1', iRng2', zipD, iZip', enumD, iEnum', gNm, gsNil, gsCons, gTp, mSkip, mSeq, mBk, mCt, mIf, mDrop, mRetN, mRet, mAsg, mAsgG, mPar, putM, mSet, forL, mFor, wipeS, keepFz, restoreS, lcL, eLc, tYes', mask, fnS, eD0, dcL, eDc, sortF, eSortIt, tyN, isB, eIs, newOf, parked, eCallN, Sl.mt, ixN, addS_ap, subS_ap, mulI_ap, mulS_ap, modS_ap, fdivS_ap, powS_ap, intB_ap, ordS_ap, shaped_bool, shaped_int, shaped_none, eqv_bool, eqv_int, eqv_str, eqv_none], ⟨rfl, rfl⟩, True.intro⟩, by simp [eVar, eC, eBin, g2, Opd.get, tBl, truS, truO, tTr, tAnd', tOr', tNot', eAndT, eOrT, eNotT, eIf, frz, eFrz, aNil, aCons, allFz, disp, Sl.d, Sl.l, intS, catS, orG, repS, eqvS, strC, eChain, Sl.isN, isNS, Sl.isB, isBS, toKey, inS, ixS, pNone, pSome, slS, eSl, eNeg, gets, eFn, one, lenS, absS, intF, seqS, listF, tupF, bools, allF, isKind, eMt, appM, popM, atI, argsOf, refsOf, nodupB, putBack, eCall, iSeq, iRng1', iRng2', zipD, iZip', enumD, iEnum', gNm, gsNil, gsCons, gTp, mSkip, mSeq, mBk, mCt, mIf, mDrop, mRetN, mRet, mAsg, mAsgG, mPar, putM, mSet, forL, mFor, wipeS, keepFz, restoreS, lcL, eLc, tYes', mask, fnS, eD0, dcL, eDc, sortF, eSortIt, tyN, isB, eIs, newOf, parked, eCallN, Sl.mt, ixN, addS_ap, subS_ap, mulI_ap, mulS_ap, modS_ap, fdivS_ap, powS_ap, intB_ap, ordS_ap, shaped_bool, shaped_int, shaped_none, eqv_bool, eqv_int, eqv_str, eqv_none], fun z hz => by
    have : z = n := by simpa [namesOf] using hz
    rw [this]; exact hin⟩
  have lds : (intsD 0 (many - 1).toNat).length = (many - 1).toNat := by unfold intsD; rw [List.length_map, List.length_range]
  obtain ⟨s', left', rows', s5', s6', q1, q2, q3, q4⟩ := grown_loop loc (intsD 0 (many - 1).toNat) (m + 1) s1 (left12.eraseIdx v.toNat) [(n, none, false)] (.fz (.int many)) .un .un hb1 (by omega) (by rw [lds, le]; show _ ≤ 11; omega) (by rw [le]; decide) (by rw [lds]; show 1 + _ < 1000; omega) ht (by
    have : (namesOf [(n, none, false)] ++ left12.eraseIdx v.toNat).Perm left12 := pm
    exact this.nodup_iff.mpr nd) (fun z hz => pm.mem_iff.mp (List.mem_cons_of_mem _ hz))
  refine ⟨s', rows', ?_, q2, by rw [q3, lds]; show 1 + _ ≤ 12; omega, q1.mono (by omega)⟩
  obtain ⟨x0, rfl⟩ := h.ow
  obtain ⟨x1, rfl⟩ := hb1.ow
  obtain ⟨x2, rfl⟩ := q1.ow
  have e4' : ([PyData.str "a", .str "b", .str "c", .str "d", .str "e", .str "f", .str "g", .str "ab", .str "ba", .str "h", .str "m", .str "z"] : List D)[v.toNat]? = some (.str n) := e4
  have er : ([PyData.str "a", .str "b", .str "c", .str "d", .str "e", .str "f", .str "g", .str "ab", .str "ba", .str "h", .str "m", .str "z"] : List D).eraseIdx v.toNat = strsOf (left12.eraseIdx v.toNat) := strs_erase left12 v.toNat
  have e2' : fs__law_take [.ow x0, .fz (.int 12)] = some (.fz (.int v), [.ow x1, .fz (.int 12)]) := e2
  have e3' : L2.ixN 12 v = some v.toNat := e3
  have l3 : many - 1 ≤ 100000 := by omega
  have l4 : -100000 ≤ many - 1 := by omega
  have q4' : forL _ _ _ [Sl.ow x1, Sl.fz (.int many), Sl.fz (.int loc), Sl.ow (strsOf (left12.eraseIdx v.toNat)), Sl.ow [PyData.tuple [.str n, .none, .bool false]], .un, .un] = _ := q4
  have en : (many - 1).toNat = many.toNat - 1 := by omega
  rw [en] at q4'
  simp [eVar, eC, eBin, g2, Opd.get, tBl, truS, truO, tTr, tAnd', tOr', tNot', eAndT, eOrT, eNotT, eIf, frz, eFrz, aNil, aCons, allFz, disp, Sl.d, Sl.l, intS, catS, orG, repS, eqvS, strC, eChain, Sl.isN, isNS, Sl.isB, isBS, toKey, inS, ixS, pNone, pSome, slS, eSl, eNeg, gets, eFn, one, lenS, absS, intF, seqS, listF, tupF, bools, allF, isKind, eMt, appM, popM, atI, argsOf, refsOf, nodupB, putBack, eCall, iSeq, iRng1', iRng2', zipD, iZip', enumD, iEnum', gNm, gsNil, gsCons, gTp, mSkip, mSeq, mBk, mCt, mIf, mDrop, mRetN, mRet, mAsg, mAsgG, mPar, putM, mSet, mFor, wipeS, keepFz, restoreS, lcL, eLc, tYes', mask, fnS, eD0, dcL, eDc, sortF, eSortIt, tyN, isB, eIs, newOf, parked, eCallN, Sl.mt, addS_ap, subS_ap, mulI_ap, mulS_ap, modS_ap, fdivS_ap, powS_ap, intB_ap, ordS_ap, shaped_bool, shaped_int, shaped_none, eqv_bool, eqv_int, eqv_str, eqv_none, fs__law_grown, m__law_grown, e2', e3', e4', er, l3, l4, q4']
/-- a drawn plan -/
structure Plan (rows : List Row) (vals : List Str) (ps : List SP) : Prop where
  nd : (keysOf ps).Nodup
  root : ∃ r v rest, rows = (r, none, false) :: rest ∧ (r, v) ∈ ps
  sub : ∀ p ∈ ps, p.2 ∈ vals ∧ ∃ row ∈ rows, row.1 = p.1 ∧ row.2.2 = false
  len : ps.length ≤ rows.length
theorem pair_app (ps : List SP) (n v : Str) : ps.map pairD ++ [PyData.tuple [.str n, .str v]] = (ps ++ [(n, v)]).map pairD := by rw [List.map_append]; rfl
theorem planned_loop (vals : List Str) (hv0 : 0 < vals.length) (hv1 : vals.length < 1000) (T : D) (Fr : Str → Prop) : ∀ (rs : List Row) (m : Nat) (s : Sl) (ps : List SP) (s4 s5 s6 : Sl), Bx m s → m + 2 * rs.length < 1000000 → (namesOf rs).Nodup → (∀ n ∈ namesOf rs, n ∉ keysOf ps) → (keysOf ps).Nodup →
    (∀ p ∈ ps, p.2 ∈ vals ∧ Fr p.1) → (∀ row ∈ rs, row.2.2 = false → Fr row.1) → ps.length + rs.length < 1000 →
    ∃ s' ps' s4' s5' s6', Bx (m + 2 * rs.length) s' ∧ (keysOf ps').Nodup ∧ (∀ p ∈ ps', p.2 ∈ vals ∧ Fr p.1) ∧ (∀ p ∈ ps, p ∈ ps') ∧ ps'.length ≤ ps.length + rs.length ∧
      forL (gTp 3 (gsCons (gNm 4) (gsCons (gNm 5) (gsCons (gNm 6) gsNil)))) (mIf (tAnd' (tNot' (tTr (eVar 6))) (tBl (eBin (eqvS false) (eCall fs__law_take (aCons (eVar 0) (aCons (eC (.int 3)) aNil))) (eC (.int 0))))) (mDrop (eMt "list" 3 appM (aCons (eFrz (eTup (aCons (eFrz (eVar 4)) (aCons (eFrz (eCall fs__law_of (aCons (eVar 0) (aCons (eVar 2) aNil)))) aNil)))) aNil))) mSkip)
        (rs.map rowD) [s, .fz T, .fz (.list (strsOf vals)), .ow (ps.map pairD), s4, s5, s6] = some (.nx, [s', .fz T, .fz (.list (strsOf vals)), .ow (ps'.map pairD), s4', s5', s6'])
  | [], m, s, ps, s4, s5, s6, hb, _, _, _, hn, hp, _, _ => ⟨s, ps, s4, s5, s6, hb, hn, hp, fun _ h => h, Nat.le_refl _, rfl⟩
  | (n, par, lk) :: rs, m, s, ps, s4, s5, s6, hb, hm, hnd, hnk, hn, hp, hf, hl => by
    rw [List.length_cons] at hm hl
    have hnd' := List.nodup_cons.mp (show (n :: namesOf rs).Nodup from hnd)
    obtain ⟨x0, rfl⟩ := hb.ow
    have rest : ∀ k (s1 : Sl), k ≤ m + 2 → Bx k s1 → ∃ s' ps' s4' s5' s6', Bx (m + 2 * (rs.length + 1)) s' ∧ (keysOf ps').Nodup ∧ (∀ p ∈ ps', p.2 ∈ vals ∧ Fr p.1) ∧ (∀ p ∈ ps, p ∈ ps') ∧ ps'.length ≤ ps.length + (rs.length + 1) ∧
        forL (gTp 3 (gsCons (gNm 4) (gsCons (gNm 5) (gsCons (gNm 6) gsNil)))) (mIf (tAnd' (tNot' (tTr (eVar 6))) (tBl (eBin (eqvS false) (eCall fs__law_take (aCons (eVar 0) (aCons (eC (.int 3)) aNil))) (eC (.int 0))))) (mDrop (eMt "list" 3 appM (aCons (eFrz (eTup (aCons (eFrz (eVar 4)) (aCons (eFrz (eCall fs__law_of (aCons (eVar 0) (aCons (eVar 2) aNil)))) aNil)))) aNil))) mSkip)
        (rs.map rowD) [s1, .fz T, .fz (.list (strsOf vals)), .ow (ps.map pairD), .fz (.str n), .fz (parD par), .fz (.bool lk)] = some (.nx, [s', .fz T, .fz (.list (strsOf vals)), .ow (ps'.map pairD), s4', s5', s6']) := by
      intro k s1 hk hb1
      obtain ⟨s', ps', a, b, c, q1, q2, q3, q4, q5, q6⟩ := planned_loop vals hv0 hv1 T Fr rs k s1 ps (.fz (.str n)) (.fz (parD par)) (.fz (.bool lk)) hb1 (by omega) hnd'.2 (fun z hz => hnk z (List.mem_cons_of_mem _ hz)) hn hp (fun row hr => hf row (List.mem_cons_of_mem _ hr)) (by omega)
      exact ⟨s', ps', a, b, c, q1.mono (by omega), q2, q3, q4, by omega, q6⟩
    cases lk with
    | true =>
      obtain ⟨s', ps', a, b, c, q1, q2, q3, q4, q5, q6⟩ := rest m (.ow x0) (by omega) hb
      exact ⟨s', ps', a, b, c, q1, q2, q3, q4, q5, by simp [eVar, eC, eBin, g2, Opd.get, tBl, truS, truO, tTr, tAnd', tOr', tNot', eAndT, eOrT, eNotT, eIf, frz, eFrz, aNil, aCons, allFz, disp, Sl.d, Sl.l, intS, catS, orG, repS, eqvS, strC, eChain, Sl.isN, isNS, Sl.isB, isBS, toKey, inS, ixS, pNone, pSome, slS, eSl, eNeg, gets, eFn, one, lenS, absS, intF, seqS, listF, tupF, bools, allF, isKind, eMt, appM, popM, atI, argsOf, refsOf, nodupB, putBack, eCall, iSeq, iRng1', iRng2', zipD, iZip', enumD, iEnum', gNm, gsNil, gsCons, gTp, mSkip, mSeq, mBk, mCt, mIf, mDrop, mRetN, mRet, mAsg, mAsgG, mPar, putM, mSet, forL, mFor, wipeS, keepFz, restoreS, lcL, eLc, tYes', mask, fnS, eD0, dcL, eDc, sortF, eSortIt, tyN, isB, eIs, newOf, parked, eCallN, Sl.mt, ixN, addS_ap, subS_ap, mulI_ap, mulS_ap, modS_ap, fdivS_ap, powS_ap, intB_ap, ordS_ap, shaped_bool, shaped_int, shaped_none, eqv_bool, eqv_int, eqv_str, eqv_none, rowD, q6]⟩
    | false =>
      obtain ⟨u, s1, e1, u1, u2, hb1⟩ := hb.take (by omega) (n := 3) (by decide) (by decide)
      obtain ⟨x1, rfl⟩ := hb1.ow
      by_cases hu : u = 0
      · subst hu
        obtain ⟨j, d, s2, j1, e2, hb2⟩ := of_ok (t := .fz (.list (strsOf vals))) hb1 (by omega) (strsOf vals) (.inl rfl) (by rw [strs_len]; exact hv0) (by rw [strs_len]; exact hv1)
        obtain ⟨x2, rfl⟩ := hb2.ow
        unfold strsOf at j1
        rw [List.getElem?_map] at j1
        obtain ⟨v, j2, rfl⟩ := Option.map_eq_some_iff.mp j1
        have hv : v ∈ vals := List.mem_of_getElem? j2
        have kn : keysOf (ps ++ [(n, v)]) = keysOf ps ++ [n] := by simp [eVar, eC, eBin, g2, Opd.get, tBl, truS, truO, tTr, tAnd', tOr', tNot', eAndT, eOrT, eNotT, eIf, frz, eFrz, aNil, aCons, allFz, disp, Sl.d, Sl.l, intS, catS, orG, repS, eqvS, strC, eChain, Sl.isN, isNS, Sl.isB, isBS, toKey, inS, ixS, pNone, pSome, slS, eSl, eNeg, gets, eFn, one, lenS, absS, intF, seqS, listF, tupF, bools, allF, isKind, eMt, appM, popM, atI, argsOf, refsOf, nodupB, putBack, eCall, iSeq, iRng1', iRng2', zipD, iZip', enumD, iEnum', gNm, gsNil, gsCons, gTp, mSkip, mSeq, mBk, mCt, mIf, mDrop, mRetN, mRet, mAsg, mAsgG, mPar, putM, mSet, forL, mFor, wipeS, keepFz, restoreS, lcL, eLc, tYes', mask, fnS, eD0, dcL, eDc, sortF, eSortIt, tyN, isB, eIs, newOf, parked, eCallN, Sl.mt, ixN, addS_ap, subS_ap, mulI_ap, mulS_ap, modS_ap, fdivS_ap, powS_ap, intB_ap, ordS_ap, shaped_bool, shaped_int, shaped_none, eqv_bool, eqv_int, eqv_str, eqv_none, keysOf]
        obtain ⟨s', ps', a, b, c, q1, q2, q3, q4, q5, q6⟩ := planned_loop vals hv0 hv1 T Fr rs (m + 2) (.ow x2) (ps ++ [(n, v)]) (.fz (.str n)) (.fz (parD par)) (.fz (.bool false)) hb2 (by omega) hnd'.2
          (fun z hz => by
            rw [kn]
            intro q
            rcases List.mem_append.mp q with q | q
            · exact hnk z (List.mem_cons_of_mem _ hz) q
            · simp [eVar, eC, eBin, g2, Opd.get, tBl, truS, truO, tTr, tAnd', tOr', tNot', eAndT, eOrT, eNotT, eIf, frz, eFrz, aNil, aCons, allFz, disp, Sl.d, Sl.l, intS, catS, orG, repS, eqvS, strC, eChain, Sl.isN, isNS, Sl.isB, isBS, toKey, inS, ixS, pNone, pSome, slS, eSl, eNeg, gets, eFn, one, lenS, absS, intF, seqS, listF, tupF, bools, allF, isKind, eMt, appM, popM, atI, argsOf, refsOf, nodupB, putBack, eCall, iSeq, iRng1', iRng2', zipD, iZip', enumD, iEnum', gNm, gsNil, gsCons, gTp, mSkip, mSeq, mBk, mCt, mIf, mDrop, mRetN, mRet, mAsg, mAsgG, mPar, putM, mSet, forL, mFor, wipeS, keepFz, restoreS, lcL, eLc, tYes', mask, fnS, eD0, dcL, eDc, sortF, eSortIt, tyN, isB, eIs, newOf, parked, eCallN, Sl.mt, ixN, addS_ap, subS_ap, mulI_ap, mulS_ap, modS_ap, fdivS_ap, powS_ap, intB_ap, ordS_ap, shaped_bool, shaped_int, shaped_none, eqv_bool, eqv_int, eqv_str, eqv_none] at q; subst q; exact hnd'.1 hz)
          (by
            rw [kn, List.nodup_append]
            exact ⟨hn, by simp [eVar, eC, eBin, g2, Opd.get, tBl, truS, truO, tTr, tAnd', tOr', tNot', eAndT, eOrT, eNotT, eIf, frz, eFrz, aNil, aCons, allFz, disp, Sl.d, Sl.l, intS, catS, orG, repS, eqvS, strC, eChain, Sl.isN, isNS, Sl.isB, isBS, toKey, inS, ixS, pNone, pSome, slS, eSl, eNeg, gets, eFn, one, lenS, absS, intF, seqS, listF, tupF, bools, allF, isKind, eMt, appM, popM, atI, argsOf, refsOf, nodupB, putBack, eCall, iSeq, iRng1', iRng2', zipD, iZip', enumD, iEnum', gNm, gsNil, gsCons, gTp, mSkip, mSeq, mBk, mCt, mIf, mDrop, mRetN, mRet, mAsg, mAsgG, mPar, putM, mSet, forL, mFor, wipeS, keepFz, restoreS, lcL, eLc, tYes', mask, fnS, eD0, dcL, eDc, sortF, eSortIt, tyN, isB, eIs, newOf, parked, eCallN, Sl.mt, ixN, addS_ap, subS_ap, mulI_ap, mulS_ap, modS_ap, fdivS_ap, powS_ap, intB_ap, ordS_ap, shaped_bool, shaped_int, shaped_none, eqv_bool, eqv_int, eqv_str, eqv_none], fun x hx y hy e => by simp [eVar, eC, eBin, g2, Opd.get, tBl, truS, truO, tTr, tAnd', tOr', tNot', eAndT, eOrT, eNotT, eIf, frz, eFrz, aNil, aCons, allFz, disp, Sl.d, Sl.l, intS, catS, orG, repS, eqvS, strC, eChain, Sl.isN, isNS, Sl.isB, isBS, toKey, inS, ixS, pNone, pSome, slS, eSl, eNeg, gets, eFn, one, lenS, absS, intF, seqS, listF, tupF, bools, allF, isKind, eMt, appM, popM, atI, argsOf, refsOf, nodupB, putBack, eCall, iSeq, iRng1', iRng2', zipD, iZip', enumD, iEnum', gNm, gsNil, gsCons, gTp, mSkip, mSeq, mBk, mCt, mIf, mDrop, mRetN, mRet, mAsg, mAsgG, mPar, putM, mSet, forL, mFor, wipeS, keepFz, restoreS, lcL, eLc, tYes', mask, fnS, eD0, dcL, eDc, sortF, eSortIt, tyN, isB, eIs, newOf, parked, eCallN, Sl.mt, ixN, addS_ap, subS_ap, mulI_ap, mulS_ap, modS_ap, fdivS_ap, powS_ap, intB_ap, ordS_ap, shaped_bool, shaped_int, shaped_none, eqv_bool, eqv_int, eqv_str, eqv_none] at hy; subst hy; subst e; exact hnk x List.mem_cons_self hx⟩)
          (fun p hpp => by
            rcases List.mem_append.mp hpp with q | q
            · exact hp p q
            · simp [eVar, eC, eBin, g2, Opd.get, tBl, truS, truO, tTr, tAnd', tOr', tNot', eAndT, eOrT, eNotT, eIf, frz, eFrz, aNil, aCons, allFz, disp, Sl.d, Sl.l, intS, catS, orG, repS, eqvS, strC, eChain, Sl.isN, isNS, Sl.isB, isBS, toKey, inS, ixS, pNone, pSome, slS, eSl, eNeg, gets, eFn, one, lenS, absS, intF, seqS, listF, tupF, bools, allF, isKind, eMt, appM, popM, atI, argsOf, refsOf, nodupB, putBack, eCall, iSeq, iRng1', iRng2', zipD, iZip', enumD, iEnum', gNm, gsNil, gsCons, gTp, mSkip, mSeq, mBk, mCt, mIf, mDrop, mRetN, mRet, mAsg, mAsgG, mPar, putM, mSet, forL, mFor, wipeS, keepFz, restoreS, lcL, eLc, tYes', mask, fnS, eD0, dcL, eDc, sortF, eSortIt, tyN, isB, eIs, newOf, parked, eCallN, Sl.mt, ixN, addS_ap, subS_ap, mulI_ap, mulS_ap, modS_ap, fdivS_ap, powS_ap, intB_ap, ordS_ap, shaped_bool, shaped_int, shaped_none, eqv_bool, eqv_int, eqv_str, eqv_none] at q; subst q; exact ⟨hv, hf _ List.mem_cons_self rfl⟩)
          (fun row hr => hf row (List.mem_cons_of_mem _ hr)) (by simp [eVar, eC, eBin, g2, Opd.get, tBl, truS, truO, tTr, tAnd', tOr', tNot', eAndT, eOrT, eNotT, eIf, frz, eFrz, aNil, aCons, allFz, disp, Sl.d, Sl.l, intS, catS, orG, repS, eqvS, strC, eChain, Sl.isN, isNS, Sl.isB, isBS, toKey, inS, ixS, pNone, pSome, slS, eSl, eNeg, gets, eFn, one, lenS, absS, intF, seqS, listF, tupF, bools, allF, isKind, eMt, appM, popM, atI, argsOf, refsOf, nodupB, putBack, eCall, iSeq, iRng1', iRng2', zipD, iZip', enumD, iEnum', gNm, gsNil, gsCons, gTp, mSkip, mSeq, mBk, mCt, mIf, mDrop, mRetN, mRet, mAsg, mAsgG, mPar, putM, mSet, forL, mFor, wipeS, keepFz, restoreS, lcL, eLc, tYes', mask, fnS, eD0, dcL, eDc, sortF, eSortIt, tyN, isB, eIs, newOf, parked, eCallN, Sl.mt, ixN, addS_ap, subS_ap, mulI_ap, mulS_ap, modS_ap, fdivS_ap, powS_ap, intB_ap, ordS_ap, shaped_bool, shaped_int, shaped_none, eqv_bool, eqv_int, eqv_str, eqv_none]; omega)
        refine ⟨s', ps', a, b, c, q1.mono (by rw [List.length_cons]; omega), q2, q3, fun p hpp => q4 p (List.mem_append_left _ hpp), by rw [List.length_cons]; simp [eVar, eC, eBin, g2, Opd.get, tBl, truS, truO, tTr, tAnd', tOr', tNot', eAndT, eOrT, eNotT, eIf, frz, eFrz, aNil, aCons, allFz, disp, Sl.d, Sl.l, intS, catS, orG, repS, eqvS, strC, eChain, Sl.isN, isNS, Sl.isB, isBS, toKey, inS, ixS, pNone, pSome, slS, eSl, eNeg, gets, eFn, one, lenS, absS, intF, seqS, listF, tupF, bools, allF, isKind, eMt, appM, popM, atI, argsOf, refsOf, nodupB, putBack, eCall, iSeq, iRng1', iRng2', zipD, iZip', enumD, iEnum', gNm, gsNil, gsCons, gTp, mSkip, mSeq, mBk, mCt, mIf, mDrop, mRetN, mRet, mAsg, mAsgG, mPar, putM, mSet, forL, mFor, wipeS, keepFz, restoreS, lcL, eLc, tYes', mask, fnS, eD0, dcL, eDc, sortF, eSortIt, tyN, isB, eIs, newOf, parked, eCallN, Sl.mt, ixN, addS_ap, subS_ap, mulI_ap, mulS_ap, modS_ap, fdivS_ap, powS_ap, intB_ap, ordS_ap, shaped_bool, shaped_int, shaped_none, eqv_bool, eqv_int, eqv_str, eqv_none] at q5; omega, ?_⟩
        have lp : ps.length < 100000 := by omega
        rw [← pair_app] at q6
        simp [eVar, eC, eBin, g2, Opd.get, tBl, truS, truO, tTr, tAnd', tOr', tNot', eAndT, eOrT, eNotT, eIf, frz, eFrz, aNil, aCons, allFz, disp, Sl.d, Sl.l, intS, catS, orG, repS, eqvS, strC, eChain, Sl.isN, isNS, Sl.isB, isBS, toKey, inS, ixS, pNone, pSome, slS, eSl, eNeg, gets, eFn, one, lenS, absS, intF, seqS, listF, tupF, bools, allF, isKind, eMt, appM, popM, atI, argsOf, refsOf, nodupB, putBack, eCall, iSeq, iRng1', iRng2', zipD, iZip', enumD, iEnum', gNm, gsNil, gsCons, gTp, mSkip, mSeq, mBk, mCt, mIf, mDrop, mRetN, mRet, mAsg, mAsgG, mPar, putM, mSet, forL, mFor, wipeS, keepFz, restoreS, lcL, eLc, tYes', mask, fnS, eD0, dcL, eDc, sortF, eSortIt, tyN, isB, eIs, newOf, parked, eCallN, Sl.mt, ixN, addS_ap, subS_ap, mulI_ap, mulS_ap, modS_ap, fdivS_ap, powS_ap, intB_ap, ordS_ap, shaped_bool, shaped_int, shaped_none, eqv_bool, eqv_int, eqv_str, eqv_none, rowD, e1, e2, lp, q6]
      · obtain ⟨s', ps', a, b, c, q1, q2, q3, q4, q5, q6⟩ := rest (m + 1) (.ow x1) (by omega) hb1
        have hb0 : (u == 0) = false := beq_eq_false_iff_ne.mpr hu
        exact ⟨s', ps', a, b, c, q1, q2, q3, q4, q5, by simp [eVar, eC, eBin, g2, Opd.get, tBl, truS, truO, tTr, tAnd', tOr', tNot', eAndT, eOrT, eNotT, eIf, frz, eFrz, aNil, aCons, allFz, disp, Sl.d, Sl.l, intS, catS, orG, repS, eqvS, strC, eChain, Sl.isN, isNS, Sl.isB, isBS, toKey, inS, ixS, pNone, pSome, slS, eSl, eNeg, gets, eFn, one, lenS, absS, intF, seqS, listF, tupF, bools, allF, isKind, eMt, appM, popM, atI, argsOf, refsOf, nodupB, putBack, eCall, iSeq, iRng1', iRng2', zipD, iZip', enumD, iEnum', gNm, gsNil, gsCons, gTp, mSkip, mSeq, mBk, mCt, mIf, mDrop, mRetN, mRet, mAsg, mAsgG, mPar, putM, mSet, forL, mFor, wipeS, keepFz, restoreS, lcL, eLc, tYes', mask, fnS, eD0, dcL, eDc, sortF, eSortIt, tyN, isB, eIs, newOf, parked, eCallN, Sl.mt, ixN, addS_ap, subS_ap, mulI_ap, mulS_ap, modS_ap, fdivS_ap, powS_ap, intB_ap, ordS_ap, shaped_bool, shaped_int, shaped_none, eqv_bool, eqv_int, eqv_str, eqv_none, rowD, e1, hb0, q6]⟩
theorem cut_tail (xs : List D) : cut xs (some 1) none = xs.drop 1 := by
  unfold cut
  rw [HT.sIx_none]
  have e : HT.sIx xs.length 0 (some 1) = min 1 xs.length := HT.sIx_nat _ _ 1
  rw [e]
  cases xs with
  | nil => rfl
  | cons x r =>
    rw [show min 1 (x :: r).length = 1 by rw [List.length_cons]; omega]
    show List.take ((x :: r).length - 1) r = r
    exact List.take_of_length_le (by rw [List.length_cons]; omega)
theorem planned_ok {m : Nat} {s : Sl} (h : Bx m s) (hm : m < 900000) (vals : List Str) (hv0 : 0 < vals.length) (hv1 : vals.length < 1000) {rows : List Row} (t : Tree rows) (hr : rows.length ≤ 12) :
    ∃ s' ps, fs__law_planned [s, .fz (.tuple (rows.map rowD)), .fz (.list (strsOf vals))] = some (.fz (.tuple ((sortP ps).map pairD)), [s', .fz (.tuple (rows.map rowD)), .fz (.list (strsOf vals))]) ∧ Plan rows vals ps ∧ Bx (m + 40) s' := by
  obtain ⟨rw_, rest, rfl⟩ : ∃ r0 rest, rows = r0 :: rest := by
    cases rows with
    | nil => exact (t.ne rfl).elim
    | cons a b => exact ⟨a, b, rfl⟩
  obtain ⟨r, par, lk⟩ := rw_
  have tw := t.w
  obtain ⟨_, tp, tw2⟩ := tw
  cases par with
  | some p => cases tp
  | none =>
    obtain ⟨_, rfl⟩ := tp
    have nd := wf_nodup _ [] (by simp [eVar, eC, eBin, g2, Opd.get, tBl, truS, truO, tTr, tAnd', tOr', tNot', eAndT, eOrT, eNotT, eIf, frz, eFrz, aNil, aCons, allFz, disp, Sl.d, Sl.l, intS, catS, orG, repS, eqvS, strC, eChain, Sl.isN, isNS, Sl.isB, isBS, toKey, inS, ixS, pNone, pSome, slS, eSl, eNeg, gets, eFn, one, lenS, absS, intF, seqS, listF, tupF, bools, allF, isKind, eMt, appM, popM, atI, argsOf, refsOf, nodupB, putBack, eCall, iSeq, iRng1', iRng2', zipD, iZip', enumD, iEnum', gNm, gsNil, gsCons, gTp, mSkip, mSeq, mBk, mCt, mIf, mDrop, mRetN, mRet, mAsg, mAsgG, mPar, putM, mSet, forL, mFor, wipeS, keepFz, restoreS, lcL, eLc, tYes', mask, fnS, eD0, dcL, eDc, sortF, eSortIt, tyN, isB, eIs, newOf, parked, eCallN, Sl.mt, ixN, addS_ap, subS_ap, mulI_ap, mulS_ap, modS_ap, fdivS_ap, powS_ap, intB_ap, ordS_ap, shaped_bool, shaped_int, shaped_none, eqv_bool, eqv_int, eqv_str, eqv_none]) t.w
    have nd2 := List.nodup_cons.mp (show (r :: namesOf rest).Nodup from nd)
    obtain ⟨j, d, s1, j1, e1, hb1⟩ := of_ok (t := .fz (.list (strsOf vals))) h (by omega) (strsOf vals) (.inl rfl) (by rw [strs_len]; exact hv0) (by rw [strs_len]; exact hv1)
    unfold strsOf at j1
    rw [List.getElem?_map] at j1
    obtain ⟨v, j2, rfl⟩ := Option.map_eq_some_iff.mp j1
    have hv : v ∈ vals := List.mem_of_getElem? j2
    have hrl : rest.length ≤ 11 := by rw [List.length_cons] at hr; omega
    obtain ⟨s', ps', a, b, c, q1, q2, q3, q4, q5, q6⟩ := planned_loop vals hv0 hv1 (.tuple (((r, none, false) :: rest).map rowD)) (fun n => ∃ row ∈ ((r, none, false) :: rest : List Row), row.1 = n ∧ row.2.2 = false) rest (m + 1) s1 [(r, v)] .un .un .un hb1 (by omega) nd2.2 (fun n hn q => by
      have : n = r := by simpa [keysOf] using q
      subst this
      exact nd2.1 hn) (by simp [eVar, eC, eBin, g2, Opd.get, tBl, truS, truO, tTr, tAnd', tOr', tNot', eAndT, eOrT, eNotT, eIf, frz, eFrz, aNil, aCons, allFz, disp, Sl.d, Sl.l, intS, catS, orG, repS, eqvS, strC, eChain, Sl.isN, isNS, Sl.isB, isBS, toKey, inS, ixS, pNone, pSome, slS, eSl, eNeg, gets, eFn, one, lenS, absS, intF, seqS, listF, tupF, bools, allF, isKind, eMt, appM, popM, atI, argsOf, refsOf, nodupB, putBack, eCall, iSeq, iRng1', iRng2', zipD, iZip', enumD, iEnum', gNm, gsNil, gsCons, gTp, mSkip, mSeq, mBk, mCt, mIf, mDrop, mRetN, mRet, mAsg, mAsgG, mPar, putM, mSet, forL, mFor, wipeS, keepFz, restoreS, lcL, eLc, tYes', mask, fnS, eD0, dcL, eDc, sortF, eSortIt, tyN, isB, eIs, newOf, parked, eCallN, Sl.mt, ixN, addS_ap, subS_ap, mulI_ap, mulS_ap, modS_ap, fdivS_ap, powS_ap, intB_ap, ordS_ap, shaped_bool, shaped_int, shaped_none, eqv_bool, eqv_int, eqv_str, eqv_none, keysOf]) (fun p hp => by
      have : p = (r, v) := by simpa using hp
      subst this
      exact ⟨hv, _, List.mem_cons_self, rfl, rfl⟩) (fun row hrow hl => ⟨row, List.mem_cons_of_mem _ hrow, rfl, hl⟩) (by simp [eVar, eC, eBin, g2, Opd.get, tBl, truS, truO, tTr, tAnd', tOr', tNot', eAndT, eOrT, eNotT, eIf, frz, eFrz, aNil, aCons, allFz, disp, Sl.d, Sl.l, intS, catS, orG, repS, eqvS, strC, eChain, Sl.isN, isNS, Sl.isB, isBS, toKey, inS, ixS, pNone, pSome, slS, eSl, eNeg, gets, eFn, one, lenS, absS, intF, seqS, listF, tupF, bools, allF, isKind, eMt, appM, popM, atI, argsOf, refsOf, nodupB, putBack, eCall, iSeq, iRng1', iRng2', zipD, iZip', enumD, iEnum', gNm, gsNil, gsCons, gTp, mSkip, mSeq, mBk, mCt, mIf, mDrop, mRetN, mRet, mAsg, mAsgG, mPar, putM, mSet, forL, mFor, wipeS, keepFz, restoreS, lcL, eLc, tYes', mask, fnS, eD0, dcL, eDc, sortF, eSortIt, tyN, isB, eIs, newOf, parked, eCallN, Sl.mt, ixN, addS_ap, subS_ap, mulI_ap, mulS_ap, modS_ap, fdivS_ap, powS_ap, intB_ap, ordS_ap, shaped_bool, shaped_int, shaped_none, eqv_bool, eqv_int, eqv_str, eqv_none]; omega)
    refine ⟨s', ps', ?_, ⟨q2, ⟨r, v, rest, rfl, q4 _ (by simp [eVar, eC, eBin, g2, Opd.get, tBl, truS, truO, tTr, tAnd', tOr', tNot', eAndT, eOrT, eNotT, eIf, frz, eFrz, aNil, aCons, allFz, disp, Sl.d, Sl.l, intS, catS, orG, repS, eqvS, strC, eChain, Sl.isN, isNS, Sl.isB, isBS, toKey, inS, ixS, pNone, pSome, slS, eSl, eNeg, gets, eFn, one, lenS, absS, intF, seqS, listF, tupF, bools, allF, isKind, eMt, appM, popM, atI, argsOf, refsOf, nodupB, putBack, eCall, iSeq, iRng1', iRng2', zipD, iZip', enumD, iEnum', gNm, gsNil, gsCons, gTp, mSkip, mSeq, mBk, mCt, mIf, mDrop, mRetN, mRet, mAsg, mAsgG, mPar, putM, mSet, forL, mFor, wipeS, keepFz, restoreS, lcL, eLc, tYes', mask, fnS, eD0, dcL, eDc, sortF, eSortIt, tyN, isB, eIs, newOf, parked, eCallN, Sl.mt, ixN, addS_ap, subS_ap, mulI_ap, mulS_ap, modS_ap, fdivS_ap, powS_ap, intB_ap, ordS_ap, shaped_bool, shaped_int, shaped_none, eqv_bool, eqv_int, eqv_str, eqv_none])⟩, q3, by simp [eVar, eC, eBin, g2, Opd.get, tBl, truS, truO, tTr, tAnd', tOr', tNot', eAndT, eOrT, eNotT, eIf, frz, eFrz, aNil, aCons, allFz, disp, Sl.d, Sl.l, intS, catS, orG, repS, eqvS, strC, eChain, Sl.isN, isNS, Sl.isB, isBS, toKey, inS, ixS, pNone, pSome, slS, eSl, eNeg, gets, eFn, one, lenS, absS, intF, seqS, listF, tupF, bools, allF, isKind, eMt, appM, popM, atI, argsOf, refsOf, nodupB, putBack, eCall, iSeq, iRng1', iRng2', zipD, iZip', enumD, iEnum', gNm, gsNil, gsCons, gTp, mSkip, mSeq, mBk, mCt, mIf, mDrop, mRetN, mRet, mAsg, mAsgG, mPar, putM, mSet, forL, mFor, wipeS, keepFz, restoreS, lcL, eLc, tYes', mask, fnS, eD0, dcL, eDc, sortF, eSortIt, tyN, isB, eIs, newOf, parked, eCallN, Sl.mt, ixN, addS_ap, subS_ap, mulI_ap, mulS_ap, modS_ap, fdivS_ap, powS_ap, intB_ap, ordS_ap, shaped_bool, shaped_int, shaped_none, eqv_bool, eqv_int, eqv_str, eqv_none] at q5 ⊢; omega⟩, q1.mono (by omega)⟩
    obtain ⟨x0, rfl⟩ := h.ow
    obtain ⟨x1, rfl⟩ := hb1.ow
    obtain ⟨x2, rfl⟩ := q1.ow
    have so : sortOk (ps'.map pairD) = true := pairs_sort ps' (by simp [eVar, eC, eBin, g2, Opd.get, tBl, truS, truO, tTr, tAnd', tOr', tNot', eAndT, eOrT, eNotT, eIf, frz, eFrz, aNil, aCons, allFz, disp, Sl.d, Sl.l, intS, catS, orG, repS, eqvS, strC, eChain, Sl.isN, isNS, Sl.isB, isBS, toKey, inS, ixS, pNone, pSome, slS, eSl, eNeg, gets, eFn, one, lenS, absS, intF, seqS, listF, tupF, bools, allF, isKind, eMt, appM, popM, atI, argsOf, refsOf, nodupB, putBack, eCall, iSeq, iRng1', iRng2', zipD, iZip', enumD, iEnum', gNm, gsNil, gsCons, gTp, mSkip, mSeq, mBk, mCt, mIf, mDrop, mRetN, mRet, mAsg, mAsgG, mPar, putM, mSet, forL, mFor, wipeS, keepFz, restoreS, lcL, eLc, tYes', mask, fnS, eD0, dcL, eDc, sortF, eSortIt, tyN, isB, eIs, newOf, parked, eCallN, Sl.mt, ixN, addS_ap, subS_ap, mulI_ap, mulS_ap, modS_ap, fdivS_ap, powS_ap, intB_ap, ordS_ap, shaped_bool, shaped_int, shaped_none, eqv_bool, eqv_int, eqv_str, eqv_none] at q5; omega)
    have ct := cut_tail (((r, none, false) :: rest).map rowD)
    have ct2 : cut (PyData.tuple [.str r, .none, .bool false] :: rest.map rowD) (some 1) none = rest.map rowD := ct
    have q6' : forL _ _ (rest.map rowD) [Sl.ow x1, Sl.fz (PyData.tuple (PyData.tuple [.str r, .none, .bool false] :: rest.map rowD)), Sl.fz (PyData.list (strsOf vals)), Sl.ow [PyData.tuple [.str r, .str v]], .un, .un, .un] = _ := q6
    have a0 : ∀ (z : D) (zs : List D), atI (z :: zs) 0 = some z := fun z zs => by
      have := atI_nat' (z :: zs) 0
      exact this
    simp [eVar, eC, eBin, g2, Opd.get, tBl, truS, truO, tTr, tAnd', tOr', tNot', eAndT, eOrT, eNotT, eIf, frz, eFrz, aNil, aCons, allFz, disp, Sl.d, Sl.l, intS, catS, orG, repS, eqvS, strC, eChain, Sl.isN, isNS, Sl.isB, isBS, toKey, inS, ixS, pNone, pSome, slS, eSl, eNeg, gets, eFn, one, lenS, absS, intF, seqS, listF, tupF, bools, allF, isKind, eMt, appM, popM, argsOf, refsOf, nodupB, putBack, eCall, iSeq, iRng1', iRng2', zipD, iZip', enumD, iEnum', gNm, gsNil, mSkip, mSeq, mBk, mCt, mIf, mDrop, mRetN, mRet, mAsg, mAsgG, mPar, putM, mSet, mFor, wipeS, keepFz, restoreS, lcL, eLc, tYes', mask, fnS, eD0, dcL, eDc, sortF, eSortIt, tyN, isB, eIs, newOf, parked, eCallN, Sl.mt, ixN, addS_ap, subS_ap, mulI_ap, mulS_ap, modS_ap, fdivS_ap, powS_ap, intB_ap, ordS_ap, shaped_bool, shaped_int, shaped_none, eqv_bool, eqv_int, eqv_str, eqv_none, fs__law_planned, m__law_planned, rowD, parD, e1, ct2, q6', so, sortD_pairs, a0]
end L11

namespace L11
open PySem PySem.Spec L2 Sh

theorem eqv_pairs : ∀ (xs ys : List SP), PyData.eqvAll (xs.map pairD) (ys.map pairD) = decide (xs = ys)
  | [], [] => by simp [eVar, eC, eBin, g2, Opd.get, tBl, truS, truO, tTr, tAnd', tOr', tNot', eAndT, eOrT, eNotT, eIf, frz, eFrz, aNil, aCons, allFz, disp, Sl.d, Sl.l, intS, catS, orG, repS, eqvS, strC, eChain, Sl.isN, isNS, Sl.isB, isBS, toKey, inS, ixS, pNone, pSome, slS, eSl, eNeg, gets, eFn, one, lenS, absS, intF, seqS, listF, tupF, bools, allF, isKind, eMt, appM, popM, atI, argsOf, refsOf, nodupB, putBack, eCall, iSeq, iRng1', iRng2', zipD, iZip', enumD, iEnum', gNm, gsNil, gsCons, gTp, mSkip, mSeq, mBk, mCt, mIf, mDrop, mRetN, mRet, mAsg, mAsgG, mPar, putM, mSet, forL, mFor, wipeS, keepFz, restoreS, lcL, eLc, tYes', mask, fnS, eD0, dcL, eDc, sortF, eSortIt, tyN, isB, eIs, newOf, parked, eCallN, dictF, dictP, pick, eCallK, Sl.mt, addS_ap, subS_ap, mulI_ap, mulS_ap, modS_ap, fdivS_ap, powS_ap, intB_ap, ordS_ap, shaped_bool, shaped_int, shaped_none, eqv_bool, eqv_int, eqv_str, eqv_none, PyData.eqvAll]
  | [], _ :: _ => by simp [eVar, eC, eBin, g2, Opd.get, tBl, truS, truO, tTr, tAnd', tOr', tNot', eAndT, eOrT, eNotT, eIf, frz, eFrz, aNil, aCons, allFz, disp, Sl.d, Sl.l, intS, catS, orG, repS, eqvS, strC, eChain, Sl.isN, isNS, Sl.isB, isBS, toKey, inS, ixS, pNone, pSome, slS, eSl, eNeg, gets, eFn, one, lenS, absS, intF, seqS, listF, tupF, bools, allF, isKind, eMt, appM, popM, atI, argsOf, refsOf, nodupB, putBack, eCall, iSeq, iRng1', iRng2', zipD, iZip', enumD, iEnum', gNm, gsNil, gsCons, gTp, mSkip, mSeq, mBk, mCt, mIf, mDrop, mRetN, mRet, mAsg, mAsgG, mPar, putM, mSet, forL, mFor, wipeS, keepFz, restoreS, lcL, eLc, tYes', mask, fnS, eD0, dcL, eDc, sortF, eSortIt, tyN, isB, eIs, newOf, parked, eCallN, dictF, dictP, pick, eCallK, Sl.mt, addS_ap, subS_ap, mulI_ap, mulS_ap, modS_ap, fdivS_ap, powS_ap, intB_ap, ordS_ap, shaped_bool, shaped_int, shaped_none, eqv_bool, eqv_int, eqv_str, eqv_none, PyData.eqvAll]
  | _ :: _, [] => by simp [eVar, eC, eBin, g2, Opd.get, tBl, truS, truO, tTr, tAnd', tOr', tNot', eAndT, eOrT, eNotT, eIf, frz, eFrz, aNil, aCons, allFz, disp, Sl.d, Sl.l, intS, catS, orG, repS, eqvS, strC, eChain, Sl.isN, isNS, Sl.isB, isBS, toKey, inS, ixS, pNone, pSome, slS, eSl, eNeg, gets, eFn, one, lenS, absS, intF, seqS, listF, tupF, bools, allF, isKind, eMt, appM, popM, atI, argsOf, refsOf, nodupB, putBack, eCall, iSeq, iRng1', iRng2', zipD, iZip', enumD, iEnum', gNm, gsNil, gsCons, gTp, mSkip, mSeq, mBk, mCt, mIf, mDrop, mRetN, mRet, mAsg, mAsgG, mPar, putM, mSet, forL, mFor, wipeS, keepFz, restoreS, lcL, eLc, tYes', mask, fnS, eD0, dcL, eDc, sortF, eSortIt, tyN, isB, eIs, newOf, parked, eCallN, dictF, dictP, pick, eCallK, Sl.mt, addS_ap, subS_ap, mulI_ap, mulS_ap, modS_ap, fdivS_ap, powS_ap, intB_ap, ordS_ap, shaped_bool, shaped_int, shaped_none, eqv_bool, eqv_int, eqv_str, eqv_none, PyData.eqvAll]
  | (a, b) :: xs, (c, d) :: ys => by
    show PyData.eqvAll (pairD (a, b) :: xs.map pairD) (pairD (c, d) :: ys.map pairD) = _
    rw [PySem.W.eqv_all_cons, eqv_pairs xs ys]
    have e : PyData.eqv (pairD (a, b)) (pairD (c, d)) = (decide (a = c) && decide (b = d)) := by
      unfold pairD
      rw [PyData.eqv, PySem.W.eqv_all_cons, PySem.W.eqv_all_cons, eqv_str, eqv_str]
      by_cases h1 : a = c <;> by_cases h2 : b = d <;> simp [eVar, eC, eBin, g2, Opd.get, tBl, truS, truO, tTr, tAnd', tOr', tNot', eAndT, eOrT, eNotT, eIf, frz, eFrz, aNil, aCons, allFz, disp, Sl.d, Sl.l, intS, catS, orG, repS, eqvS, strC, eChain, Sl.isN, isNS, Sl.isB, isBS, toKey, inS, ixS, pNone, pSome, slS, eSl, eNeg, gets, eFn, one, lenS, absS, intF, seqS, listF, tupF, bools, allF, isKind, eMt, appM, popM, atI, argsOf, refsOf, nodupB, putBack, eCall, iSeq, iRng1', iRng2', zipD, iZip', enumD, iEnum', gNm, gsNil, gsCons, gTp, mSkip, mSeq, mBk, mCt, mIf, mDrop, mRetN, mRet, mAsg, mAsgG, mPar, putM, mSet, forL, mFor, wipeS, keepFz, restoreS, lcL, eLc, tYes', mask, fnS, eD0, dcL, eDc, sortF, eSortIt, tyN, isB, eIs, newOf, parked, eCallN, dictF, dictP, pick, eCallK, Sl.mt, addS_ap, subS_ap, mulI_ap, mulS_ap, modS_ap, fdivS_ap, powS_ap, intB_ap, ordS_ap, shaped_bool, shaped_int, shaped_none, eqv_bool, eqv_int, eqv_str, eqv_none, h1, h2, PyData.eqvAll]
    rw [e]
    by_cases h1 : a = c <;> by_cases h2 : b = d <;> simp [eVar, eC, eBin, g2, Opd.get, tBl, truS, truO, tTr, tAnd', tOr', tNot', eAndT, eOrT, eNotT, eIf, frz, eFrz, aNil, aCons, allFz, disp, Sl.d, Sl.l, intS, catS, orG, repS, eqvS, strC, eChain, Sl.isN, isNS, Sl.isB, isBS, toKey, inS, ixS, pNone, pSome, slS, eSl, eNeg, gets, eFn, one, lenS, absS, intF, seqS, listF, tupF, bools, allF, isKind, eMt, appM, popM, atI, argsOf, refsOf, nodupB, putBack, eCall, iSeq, iRng1', iRng2', zipD, iZip', enumD, iEnum', gNm, gsNil, gsCons, gTp, mSkip, mSeq, mBk, mCt, mIf, mDrop, mRetN, mRet, mAsg, mAsgG, mPar, putM, mSet, forL, mFor, wipeS, keepFz, restoreS, lcL, eLc, tYes', mask, fnS, eD0, dcL, eDc, sortF, eSortIt, tyN, isB, eIs, newOf, parked, eCallN, dictF, dictP, pick, eCallK, Sl.mt, addS_ap, subS_ap, mulI_ap, mulS_ap, modS_ap, fdivS_ap, powS_ap, intB_ap, ordS_ap, shaped_bool, shaped_int, shaped_none, eqv_bool, eqv_int, eqv_str, eqv_none, h1, h2]
theorem pairs_shaped (xs : List SP) (h : ∀ p ∈ xs, okStr p.1 ∧ okStr p.2) : SeqAt.shaped (.tuple (xs.map pairD)) = true := by
  have lay : ∀ x : Str, okStr x → PyData.canLay0 (.str x) = true := fun x hx => SeqAt.canLay_of_shaped hx
  have l1 : ∀ ys : List SP, (∀ p ∈ ys, okStr p.1 ∧ okStr p.2) → PyData.canLayAll0 (ys.map pairD) = true ∧ PyData.depthAll (ys.map pairD) ≤ 1 := by
    intro ys
    induction ys with
    | nil => intro _; exact ⟨by simp [eVar, eC, eBin, g2, Opd.get, tBl, truS, truO, tTr, tAnd', tOr', tNot', eAndT, eOrT, eNotT, eIf, frz, eFrz, aNil, aCons, allFz, disp, Sl.d, Sl.l, intS, catS, orG, repS, eqvS, strC, eChain, Sl.isN, isNS, Sl.isB, isBS, toKey, inS, ixS, pNone, pSome, slS, eSl, eNeg, gets, eFn, one, lenS, absS, intF, seqS, listF, tupF, bools, allF, isKind, eMt, appM, popM, atI, argsOf, refsOf, nodupB, putBack, eCall, iSeq, iRng1', iRng2', zipD, iZip', enumD, iEnum', gNm, gsNil, gsCons, gTp, mSkip, mSeq, mBk, mCt, mIf, mDrop, mRetN, mRet, mAsg, mAsgG, mPar, putM, mSet, forL, mFor, wipeS, keepFz, restoreS, lcL, eLc, tYes', mask, fnS, eD0, dcL, eDc, sortF, eSortIt, tyN, isB, eIs, newOf, parked, eCallN, dictF, dictP, pick, eCallK, Sl.mt, addS_ap, subS_ap, mulI_ap, mulS_ap, modS_ap, fdivS_ap, powS_ap, intB_ap, ordS_ap, shaped_bool, shaped_int, shaped_none, eqv_bool, eqv_int, eqv_str, eqv_none, PyData.canLayAll0], by simp [eVar, eC, eBin, g2, Opd.get, tBl, truS, truO, tTr, tAnd', tOr', tNot', eAndT, eOrT, eNotT, eIf, frz, eFrz, aNil, aCons, allFz, disp, Sl.d, Sl.l, intS, catS, orG, repS, eqvS, strC, eChain, Sl.isN, isNS, Sl.isB, isBS, toKey, inS, ixS, pNone, pSome, slS, eSl, eNeg, gets, eFn, one, lenS, absS, intF, seqS, listF, tupF, bools, allF, isKind, eMt, appM, popM, atI, argsOf, refsOf, nodupB, putBack, eCall, iSeq, iRng1', iRng2', zipD, iZip', enumD, iEnum', gNm, gsNil, gsCons, gTp, mSkip, mSeq, mBk, mCt, mIf, mDrop, mRetN, mRet, mAsg, mAsgG, mPar, putM, mSet, forL, mFor, wipeS, keepFz, restoreS, lcL, eLc, tYes', mask, fnS, eD0, dcL, eDc, sortF, eSortIt, tyN, isB, eIs, newOf, parked, eCallN, dictF, dictP, pick, eCallK, Sl.mt, addS_ap, subS_ap, mulI_ap, mulS_ap, modS_ap, fdivS_ap, powS_ap, intB_ap, ordS_ap, shaped_bool, shaped_int, shaped_none, eqv_bool, eqv_int, eqv_str, eqv_none, PyData.depthAll]⟩
    | cons p ys ih =>
      intro hp
      obtain ⟨i1, i2⟩ := ih fun q hq => hp q (List.mem_cons_of_mem _ hq)
      obtain ⟨o1, o2⟩ := hp p List.mem_cons_self
      have c1 := lay _ o1
      have c2 := lay _ o2
      constructor
      · show PyData.canLayAll0 (pairD p :: ys.map pairD) = true
        simp [eVar, eC, eBin, g2, Opd.get, tBl, truS, truO, tTr, tAnd', tOr', tNot', eAndT, eOrT, eNotT, eIf, frz, eFrz, aNil, aCons, allFz, disp, Sl.d, Sl.l, intS, catS, orG, repS, eqvS, strC, eChain, Sl.isN, isNS, Sl.isB, isBS, toKey, inS, ixS, pNone, pSome, slS, eSl, eNeg, gets, eFn, one, lenS, absS, intF, seqS, listF, tupF, bools, allF, isKind, eMt, appM, popM, atI, argsOf, refsOf, nodupB, putBack, eCall, iSeq, iRng1', iRng2', zipD, iZip', enumD, iEnum', gNm, gsNil, gsCons, gTp, mSkip, mSeq, mBk, mCt, mIf, mDrop, mRetN, mRet, mAsg, mAsgG, mPar, putM, mSet, forL, mFor, wipeS, keepFz, restoreS, lcL, eLc, tYes', mask, fnS, eD0, dcL, eDc, sortF, eSortIt, tyN, isB, eIs, newOf, parked, eCallN, dictF, dictP, pick, eCallK, Sl.mt, addS_ap, subS_ap, mulI_ap, mulS_ap, modS_ap, fdivS_ap, powS_ap, intB_ap, ordS_ap, shaped_bool, shaped_int, shaped_none, eqv_bool, eqv_int, eqv_str, eqv_none, PyData.canLayAll0, PyData.canLay0, pairD, i1, c1, c2] at *
        exact ⟨c1, c2⟩
      · show PyData.depthAll (pairD p :: ys.map pairD) ≤ 1
        simp [eVar, eC, eBin, g2, Opd.get, tBl, truS, truO, tTr, tAnd', tOr', tNot', eAndT, eOrT, eNotT, eIf, frz, eFrz, aNil, aCons, allFz, disp, Sl.d, Sl.l, intS, catS, orG, repS, eqvS, strC, eChain, Sl.isN, isNS, Sl.isB, isBS, toKey, inS, ixS, pNone, pSome, slS, eSl, eNeg, gets, eFn, one, lenS, absS, intF, seqS, listF, tupF, bools, allF, isKind, eMt, appM, popM, atI, argsOf, refsOf, nodupB, putBack, eCall, iSeq, iRng1', iRng2', zipD, iZip', enumD, iEnum', gNm, gsNil, gsCons, gTp, mSkip, mSeq, mBk, mCt, mIf, mDrop, mRetN, mRet, mAsg, mAsgG, mPar, putM, mSet, forL, mFor, wipeS, keepFz, restoreS, lcL, eLc, tYes', mask, fnS, eD0, dcL, eDc, sortF, eSortIt, tyN, isB, eIs, newOf, parked, eCallN, dictF, dictP, pick, eCallK, Sl.mt, addS_ap, subS_ap, mulI_ap, mulS_ap, modS_ap, fdivS_ap, powS_ap, intB_ap, ordS_ap, shaped_bool, shaped_int, shaped_none, eqv_bool, eqv_int, eqv_str, eqv_none, PyData.depthAll, PyData.depth, pairD]
        exact Nat.max_le.mpr ⟨Nat.le_refl _, i2⟩
  obtain ⟨a, b⟩ := l1 xs h
  unfold SeqAt.shaped
  rw [Bool.and_eq_true, decide_eq_true_eq]
  refine ⟨by rw [PyData.canLay0]; exact a, ?_⟩
  rw [PyData.depth]
  omega
abbrev TD (rows : List Row) : D := .tuple (rows.map rowD)
theorem pairsK_pairs : ∀ xs : List SP, pairsK (xs.map pairD) = some (encS xs)
  | [] => rfl
  | p :: xs => by
    show pairsK (pairD p :: xs.map pairD) = _
    unfold pairsK
    rw [show pairK (pairD p) = some (Sum.inr p.1, PyData.str p.2) from rfl, pairsK_pairs xs]
    rfl
theorem putAll_enc : ∀ (xs : List SP) (acc : SD), putAll (encS acc) (encS xs) = encS (dictOf xs acc)
  | [], acc => rfl
  | p :: xs, acc => by
    show putAll (dput (encS acc) (.inr p.1) (.str p.2)) (encS xs) = encS (dictOf xs (sput acc p.1 p.2))
    rw [put_enc, putAll_enc xs]
theorem strs_shaped (xs : List Str) (h : ∀ x ∈ xs, okStr x) : SeqAt.shaped (.list (strsOf xs)) = true := by
  have l1 : ∀ ys : List Str, (∀ p ∈ ys, okStr p) → PyData.canLayAll0 (strsOf ys) = true ∧ PyData.depthAll (strsOf ys) ≤ 0 := by
    intro ys
    induction ys with
    | nil => intro _; exact ⟨by simp [eVar, eC, eBin, g2, Opd.get, tBl, truS, truO, tTr, tAnd', tOr', tNot', eAndT, eOrT, eNotT, eIf, frz, eFrz, aNil, aCons, allFz, disp, Sl.d, Sl.l, intS, catS, orG, repS, eqvS, strC, eChain, Sl.isN, isNS, Sl.isB, isBS, toKey, inS, ixS, pNone, pSome, slS, eSl, eNeg, gets, eFn, one, lenS, absS, intF, seqS, listF, tupF, bools, allF, isKind, eMt, appM, popM, atI, argsOf, refsOf, nodupB, putBack, eCall, iSeq, iRng1', iRng2', zipD, iZip', enumD, iEnum', gNm, gsNil, gsCons, gTp, mSkip, mSeq, mBk, mCt, mIf, mDrop, mRetN, mRet, mAsg, mAsgG, mPar, putM, mSet, forL, mFor, wipeS, keepFz, restoreS, lcL, eLc, tYes', mask, fnS, eD0, dcL, eDc, sortF, eSortIt, tyN, isB, eIs, newOf, parked, eCallN, dictF, dictP, pick, eCallK, Sl.mt, addS_ap, subS_ap, mulI_ap, mulS_ap, modS_ap, fdivS_ap, powS_ap, intB_ap, ordS_ap, shaped_bool, shaped_int, shaped_none, eqv_bool, eqv_int, eqv_str, eqv_none, strsOf, PyData.canLayAll0], by simp [eVar, eC, eBin, g2, Opd.get, tBl, truS, truO, tTr, tAnd', tOr', tNot', eAndT, eOrT, eNotT, eIf, frz, eFrz, aNil, aCons, allFz, disp, Sl.d, Sl.l, intS, catS, orG, repS, eqvS, strC, eChain, Sl.isN, isNS, Sl.isB, isBS, toKey, inS, ixS, pNone, pSome, slS, eSl, eNeg, gets, eFn, one, lenS, absS, intF, seqS, listF, tupF, bools, allF, isKind, eMt, appM, popM, atI, argsOf, refsOf, nodupB, putBack, eCall, iSeq, iRng1', iRng2', zipD, iZip', enumD, iEnum', gNm, gsNil, gsCons, gTp, mSkip, mSeq, mBk, mCt, mIf, mDrop, mRetN, mRet, mAsg, mAsgG, mPar, putM, mSet, forL, mFor, wipeS, keepFz, restoreS, lcL, eLc, tYes', mask, fnS, eD0, dcL, eDc, sortF, eSortIt, tyN, isB, eIs, newOf, parked, eCallN, dictF, dictP, pick, eCallK, Sl.mt, addS_ap, subS_ap, mulI_ap, mulS_ap, modS_ap, fdivS_ap, powS_ap, intB_ap, ordS_ap, shaped_bool, shaped_int, shaped_none, eqv_bool, eqv_int, eqv_str, eqv_none, strsOf, PyData.depthAll]⟩
    | cons p ys ih =>
      intro hp
      obtain ⟨i1, i2⟩ := ih fun q hq => hp q (List.mem_cons_of_mem _ hq)
      have c1 : PyData.canLay0 (.str p) = true := SeqAt.canLay_of_shaped (hp p List.mem_cons_self)
      constructor
      · show PyData.canLayAll0 (.str p :: strsOf ys) = true
        rw [PyData.canLayAll0, c1, i1]; rfl
      · show PyData.depthAll (.str p :: strsOf ys) ≤ 0
        rw [PyData.depthAll, PyData.depth]
        exact Nat.max_le.mpr ⟨Nat.le_refl _, i2⟩
  obtain ⟨a, b⟩ := l1 xs h
  unfold SeqAt.shaped
  rw [Bool.and_eq_true, decide_eq_true_eq]
  refine ⟨by rw [PyData.canLay0]; exact a, ?_⟩
  rw [PyData.depth]
  omega
theorem wf_par : ∀ (rows : List Row) (kn : List Str), wf kn rows → ∀ row ∈ rows, ∀ p, row.2.1 = some p → p ∈ kn ++ namesOf rows
  | [], _, _, row, h, _, _ => by cases h
  | (n, par, lk) :: r, kn, h, row, hr, p, hp => by
    obtain ⟨_, q2, q3⟩ := h
    rcases List.mem_cons.mp hr with rfl | hr
    · have hp : par = some p := hp
      subst hp
      exact List.mem_append_left _ q2
    · have := wf_par r (kn ++ [n]) q3 row hr p hp
      simpa [namesOf] using this
theorem Tree.rows {rows : List Row} (t : Tree rows) : ∀ row ∈ rows, okStr row.1 ∧ ∀ p, row.2.1 = some p → okStr p := fun row hr =>
  ⟨t.ok _ (List.mem_map.mpr ⟨row, hr, rfl⟩), fun p hp => t.ok p (by simpa using wf_par rows [] t.w row hr p hp)⟩
theorem putAll_plan (ps : List SP) : putAll [] (encS ps) = encS (dictOf ps []) := putAll_enc ps []
/-! ### lists in the place of tuples -/
theorem lists_seq (n : Nat) (ds : List D) (d : D) (hd : d = .list ds ∨ d = .tuple ds) (hl : ds.length ≤ 100000) (h : ∀ x ∈ ds, fs__law_lists n [.fz x] = some (softSl x, [.fz x])) : fs__law_lists (n + 1) [.fz d] = some (.ow (softs ds), [.fz d]) := by
  obtain ⟨st', e1, a, rfl⟩ := lcL_map (vs := [1]) (g := gNm 1) (e := eCall (fs__law_lists n) (aCons (eVar 1) aNil)) (fun st => ∃ a, st = [.fz d, a]) soft ds (fun x hx st hst => by
    obtain ⟨a, rfl⟩ := hst
    refine ⟨[.fz d, .fz x], [.fz d, .fz x], rfl, ?_, _, rfl⟩
    have e := h x hx
    cases x <;> simp [eVar, eC, eBin, g2, Opd.get, tBl, truS, truO, tTr, tAnd', tOr', tNot', eAndT, eOrT, eNotT, eIf, frz, eFrz, aNil, aCons, allFz, disp, Sl.d, Sl.l, intS, catS, orG, repS, eqvS, strC, eChain, Sl.isN, isNS, Sl.isB, isBS, toKey, inS, ixS, pNone, pSome, slS, eSl, eNeg, gets, eFn, one, lenS, absS, intF, seqS, listF, tupF, bools, allF, isKind, eMt, appM, popM, atI, argsOf, refsOf, nodupB, putBack, eCall, iSeq, iRng1', iRng2', zipD, iZip', enumD, iEnum', gNm, gsNil, gsCons, gTp, mSkip, mSeq, mBk, mCt, mIf, mDrop, mRetN, mRet, mAsg, mAsgG, mPar, putM, mSet, forL, mFor, wipeS, keepFz, restoreS, lcL, eLc, tYes', mask, fnS, eD0, dcL, eDc, sortF, eSortIt, tyN, isB, eIs, newOf, parked, eCallN, dictF, dictP, pick, eCallK, Sl.mt, addS_ap, subS_ap, mulI_ap, mulS_ap, modS_ap, fdivS_ap, powS_ap, intB_ap, ordS_ap, shaped_bool, shaped_int, shaped_none, eqv_bool, eqv_int, eqv_str, eqv_none, e, softSl, soft]) [.fz d, .un] ⟨_, rfl⟩
  rw [← softs_map] at e1
  rcases hd with rfl | rfl <;> simp [eVar, eC, eBin, g2, Opd.get, tBl, truS, truO, tTr, tAnd', tOr', tNot', eAndT, eOrT, eNotT, eIf, frz, eFrz, aNil, aCons, allFz, disp, Sl.d, Sl.l, intS, catS, orG, repS, eqvS, strC, eChain, Sl.isN, isNS, Sl.isB, isBS, toKey, inS, ixS, pNone, pSome, slS, eSl, eNeg, gets, eFn, one, lenS, absS, intF, seqS, listF, tupF, bools, allF, isKind, eMt, appM, popM, atI, argsOf, refsOf, nodupB, putBack, eCall, iSeq, iRng1', iRng2', zipD, iZip', enumD, iEnum', gNm, gsNil, gsCons, gTp, mSkip, mSeq, mBk, mCt, mIf, mDrop, mRetN, mRet, mAsg, mAsgG, mPar, putM, mSet, forL, mFor, wipeS, keepFz, restoreS, eLc, tYes', mask, fnS, eD0, dcL, eDc, sortF, eSortIt, tyN, isB, eIs, newOf, parked, eCallN, dictF, dictP, pick, eCallK, Sl.mt, addS_ap, subS_ap, mulI_ap, mulS_ap, modS_ap, fdivS_ap, powS_ap, intB_ap, ordS_ap, shaped_bool, shaped_int, shaped_none, eqv_bool, eqv_int, eqv_str, eqv_none, fs__law_lists, m__law_lists, hl, e1]
theorem lists_ok : ∀ (n : Nat) (d : D), okD n d = true → fs__law_lists n [.fz d] = some (softSl d, [.fz d])
  | 0, _, h => by cases h
  | n + 1, d, h => by
    have sq : ∀ ds : List D, (decide (ds.length ≤ 100000) && ds.all (okD n)) = true → ds.length ≤ 100000 ∧ ∀ x ∈ ds, fs__law_lists n [.fz x] = some (softSl x, [.fz x]) := fun ds h => by
      rw [Bool.and_eq_true, decide_eq_true_eq, List.all_eq_true] at h
      exact ⟨h.1, fun x hx => lists_ok n x (h.2 x hx)⟩
    cases d with
    | list ds => exact lists_seq n ds _ (.inl rfl) (sq ds h).1 (sq ds h).2
    | tuple ds => exact lists_seq n ds _ (.inr rfl) (sq ds h).1 (sq ds h).2
    | dict kvs => cases h
    | none => simp [eVar, eC, eBin, g2, Opd.get, tBl, truS, truO, tTr, tAnd', tOr', tNot', eAndT, eOrT, eNotT, eIf, frz, eFrz, aNil, aCons, allFz, disp, Sl.d, Sl.l, intS, catS, orG, repS, eqvS, strC, eChain, Sl.isN, isNS, Sl.isB, isBS, toKey, inS, ixS, pNone, pSome, slS, eSl, eNeg, gets, eFn, one, lenS, absS, intF, seqS, listF, tupF, bools, allF, isKind, eMt, appM, popM, atI, argsOf, refsOf, nodupB, putBack, eCall, iSeq, iRng1', iRng2', zipD, iZip', enumD, iEnum', gNm, gsNil, gsCons, gTp, mSkip, mSeq, mBk, mCt, mIf, mDrop, mRetN, mRet, mAsg, mAsgG, mPar, putM, mSet, forL, mFor, wipeS, keepFz, restoreS, lcL, eLc, tYes', mask, fnS, eD0, dcL, eDc, sortF, eSortIt, tyN, isB, eIs, newOf, parked, eCallN, dictF, dictP, pick, eCallK, Sl.mt, addS_ap, subS_ap, mulI_ap, mulS_ap, modS_ap, fdivS_ap, powS_ap, intB_ap, ordS_ap, shaped_bool, shaped_int, shaped_none, eqv_bool, eqv_int, eqv_str, eqv_none, fs__law_lists, m__law_lists, softSl]
    | bool b => simp [eVar, eC, eBin, g2, Opd.get, tBl, truS, truO, tTr, tAnd', tOr', tNot', eAndT, eOrT, eNotT, eIf, frz, eFrz, aNil, aCons, allFz, disp, Sl.d, Sl.l, intS, catS, orG, repS, eqvS, strC, eChain, Sl.isN, isNS, Sl.isB, isBS, toKey, inS, ixS, pNone, pSome, slS, eSl, eNeg, gets, eFn, one, lenS, absS, intF, seqS, listF, tupF, bools, allF, isKind, eMt, appM, popM, atI, argsOf, refsOf, nodupB, putBack, eCall, iSeq, iRng1', iRng2', zipD, iZip', enumD, iEnum', gNm, gsNil, gsCons, gTp, mSkip, mSeq, mBk, mCt, mIf, mDrop, mRetN, mRet, mAsg, mAsgG, mPar, putM, mSet, forL, mFor, wipeS, keepFz, restoreS, lcL, eLc, tYes', mask, fnS, eD0, dcL, eDc, sortF, eSortIt, tyN, isB, eIs, newOf, parked, eCallN, dictF, dictP, pick, eCallK, Sl.mt, addS_ap, subS_ap, mulI_ap, mulS_ap, modS_ap, fdivS_ap, powS_ap, intB_ap, ordS_ap, shaped_bool, shaped_int, shaped_none, eqv_bool, eqv_int, eqv_str, eqv_none, fs__law_lists, m__law_lists, softSl]
    | int i => simp [eVar, eC, eBin, g2, Opd.get, tBl, truS, truO, tTr, tAnd', tOr', tNot', eAndT, eOrT, eNotT, eIf, frz, eFrz, aNil, aCons, allFz, disp, Sl.d, Sl.l, intS, catS, orG, repS, eqvS, strC, eChain, Sl.isN, isNS, Sl.isB, isBS, toKey, inS, ixS, pNone, pSome, slS, eSl, eNeg, gets, eFn, one, lenS, absS, intF, seqS, listF, tupF, bools, allF, isKind, eMt, appM, popM, atI, argsOf, refsOf, nodupB, putBack, eCall, iSeq, iRng1', iRng2', zipD, iZip', enumD, iEnum', gNm, gsNil, gsCons, gTp, mSkip, mSeq, mBk, mCt, mIf, mDrop, mRetN, mRet, mAsg, mAsgG, mPar, putM, mSet, forL, mFor, wipeS, keepFz, restoreS, lcL, eLc, tYes', mask, fnS, eD0, dcL, eDc, sortF, eSortIt, tyN, isB, eIs, newOf, parked, eCallN, dictF, dictP, pick, eCallK, Sl.mt, addS_ap, subS_ap, mulI_ap, mulS_ap, modS_ap, fdivS_ap, powS_ap, intB_ap, ordS_ap, shaped_bool, shaped_int, shaped_none, eqv_bool, eqv_int, eqv_str, eqv_none, fs__law_lists, m__law_lists, softSl]
    | str x => simp [eVar, eC, eBin, g2, Opd.get, tBl, truS, truO, tTr, tAnd', tOr', tNot', eAndT, eOrT, eNotT, eIf, frz, eFrz, aNil, aCons, allFz, disp, Sl.d, Sl.l, intS, catS, orG, repS, eqvS, strC, eChain, Sl.isN, isNS, Sl.isB, isBS, toKey, inS, ixS, pNone, pSome, slS, eSl, eNeg, gets, eFn, one, lenS, absS, intF, seqS, listF, tupF, bools, allF, isKind, eMt, appM, popM, atI, argsOf, refsOf, nodupB, putBack, eCall, iSeq, iRng1', iRng2', zipD, iZip', enumD, iEnum', gNm, gsNil, gsCons, gTp, mSkip, mSeq, mBk, mCt, mIf, mDrop, mRetN, mRet, mAsg, mAsgG, mPar, putM, mSet, forL, mFor, wipeS, keepFz, restoreS, lcL, eLc, tYes', mask, fnS, eD0, dcL, eDc, sortF, eSortIt, tyN, isB, eIs, newOf, parked, eCallN, dictF, dictP, pick, eCallK, Sl.mt, addS_ap, subS_ap, mulI_ap, mulS_ap, modS_ap, fdivS_ap, powS_ap, intB_ap, ordS_ap, shaped_bool, shaped_int, shaped_none, eqv_bool, eqv_int, eqv_str, eqv_none, fs__law_lists, m__law_lists, softSl]
end L11

namespace L11
open PySem PySem.Spec L2 Sh

theorem forL_congr {α : Type} {g : GM} {b : SM} (f f' : α → D) : ∀ (xs : List α), (∀ x ∈ xs, ∀ st, g (f x) st = g (f' x) st) → ∀ st, forL g b (xs.map f) st = forL g b (xs.map f') st
  | [], _, _ => rfl
  | x :: xs, h, st => by
    have ih := forL_congr (g := g) (b := b) f f' xs fun y hy => h y (List.mem_cons_of_mem _ hy)
    show forL g b (f x :: xs.map f) st = forL g b (f' x :: xs.map f') st
    unfold forL
    rw [h x List.mem_cons_self st]
    cases g (f' x) st with
    | none => rfl
    | some st1 =>
      simp only
      cases b st1 with
      | none => rfl
      | some p =>
        obtain ⟨o, st2⟩ := p
        cases o <;> simp only [ih]
theorem lcL_congr {α : Type} {vs : List Nat} {g : GM} {c : TM} {e : EM} (f f' : α → D) : ∀ (xs : List α), (∀ x ∈ xs, ∀ st, g (f x) st = g (f' x) st) → ∀ st, lcL vs g c e (xs.map f) st = lcL vs g c e (xs.map f') st
  | [], _, _ => rfl
  | x :: xs, h, st => by
    have ih := lcL_congr (vs := vs) (g := g) (c := c) (e := e) f f' xs fun y hy => h y (List.mem_cons_of_mem _ hy)
    show lcL vs g c e (f x :: xs.map f) st = lcL vs g c e (f' x :: xs.map f') st
    unfold lcL
    rw [h x List.mem_cons_self]
    simp only [ih]
theorem dcL_congr {α : Type} {vs : List Nat} {g : GM} {c : TM} {k e : EM} (f f' : α → D) : ∀ (xs : List α), (∀ x ∈ xs, ∀ st, g (f x) st = g (f' x) st) → ∀ kvs st, dcL vs g c k e (xs.map f) kvs st = dcL vs g c k e (xs.map f') kvs st
  | [], _, _, _ => rfl
  | x :: xs, h, kvs, st => by
    have ih := dcL_congr (vs := vs) (g := g) (c := c) (k := k) (e := e) f f' xs fun y hy => h y (List.mem_cons_of_mem _ hy)
    show dcL vs g c k e (f x :: xs.map f) kvs st = dcL vs g c k e (f' x :: xs.map f') kvs st
    unfold dcL
    rw [h x List.mem_cons_self]
    simp only [ih]
def rowL (r : Row) : D := .list [.str r.1, parD r.2.1, .bool r.2.2]
def pairL (p : SP) : D := .list [.str p.1, .str p.2]
theorem soft_rows (rows : List Row) : softs (rows.map rowD) = rows.map rowL := by
  rw [softs_map, List.map_map]
  refine List.map_congr_left fun r _ => ?_
  obtain ⟨n, par, lk⟩ := r
  cases par <;> simp [eVar, eC, eBin, g2, Opd.get, tBl, truS, truO, tTr, tAnd', tOr', tNot', eAndT, eOrT, eNotT, eIf, frz, eFrz, aNil, aCons, allFz, disp, Sl.d, Sl.l, intS, catS, orG, repS, eqvS, strC, eChain, Sl.isN, isNS, Sl.isB, isBS, toKey, inS, ixS, pNone, pSome, slS, eSl, eNeg, gets, eFn, one, lenS, absS, intF, seqS, listF, tupF, bools, allF, isKind, eMt, appM, popM, atI, argsOf, refsOf, nodupB, putBack, eCall, iSeq, iRng1', iRng2', zipD, iZip', enumD, iEnum', gNm, gsNil, gsCons, gTp, mSkip, mSeq, mBk, mCt, mIf, mDrop, mRetN, mRet, mAsg, mAsgG, mPar, putM, mSet, forL, mFor, wipeS, keepFz, restoreS, lcL, eLc, tYes', mask, fnS, eD0, dcL, eDc, sortF, eSortIt, tyN, isB, eIs, newOf, parked, eCallN, dictF, dictP, pick, eCallK, Sl.mt, addS_ap, subS_ap, mulI_ap, mulS_ap, modS_ap, fdivS_ap, powS_ap, intB_ap, ordS_ap, shaped_bool, shaped_int, shaped_none, eqv_bool, eqv_int, eqv_str, eqv_none, rowD, rowL, parD, soft, softs]
theorem soft_pairs (ps : List SP) : softs (ps.map pairD) = ps.map pairL := by
  rw [softs_map, List.map_map]
  refine List.map_congr_left fun r _ => ?_
  simp [eVar, eC, eBin, g2, Opd.get, tBl, truS, truO, tTr, tAnd', tOr', tNot', eAndT, eOrT, eNotT, eIf, frz, eFrz, aNil, aCons, allFz, disp, Sl.d, Sl.l, intS, catS, orG, repS, eqvS, strC, eChain, Sl.isN, isNS, Sl.isB, isBS, toKey, inS, ixS, pNone, pSome, slS, eSl, eNeg, gets, eFn, one, lenS, absS, intF, seqS, listF, tupF, bools, allF, isKind, eMt, appM, popM, atI, argsOf, refsOf, nodupB, putBack, eCall, iSeq, iRng1', iRng2', zipD, iZip', enumD, iEnum', gNm, gsNil, gsCons, gTp, mSkip, mSeq, mBk, mCt, mIf, mDrop, mRetN, mRet, mAsg, mAsgG, mPar, putM, mSet, forL, mFor, wipeS, keepFz, restoreS, lcL, eLc, tYes', mask, fnS, eD0, dcL, eDc, sortF, eSortIt, tyN, isB, eIs, newOf, parked, eCallN, dictF, dictP, pick, eCallK, Sl.mt, addS_ap, subS_ap, mulI_ap, mulS_ap, modS_ap, fdivS_ap, powS_ap, intB_ap, ordS_ap, shaped_bool, shaped_int, shaped_none, eqv_bool, eqv_int, eqv_str, eqv_none, pairD, pairL, soft, softs]
abbrev TL (rows : List Row) : D := .list (rows.map rowL)
theorem g3_row (gs : GMs) (r : Row) (st : S) : gTp 3 gs (rowL r) st = gTp 3 gs (rowD r) st := rfl
theorem g2_pair (gs : GMs) (p : SP) (st : S) : gTp 2 gs (pairL p) st = gTp 2 gs (pairD p) st := rfl
theorem ok_row {r : Row} (h : okStr r.1 ∧ ∀ p, r.2.1 = some p → okStr p) (n : Nat) : okD (n + 2) (rowD r) = true := by
  obtain ⟨a, par, lk⟩ := r
  have h1 : SeqAt.shaped (.str a) = true := h.1
  cases par with
  | none => simp [eVar, eC, eBin, g2, Opd.get, tBl, truS, truO, tTr, tAnd', tOr', tNot', eAndT, eOrT, eNotT, eIf, frz, eFrz, aNil, aCons, allFz, disp, Sl.d, Sl.l, intS, catS, orG, repS, eqvS, strC, eChain, Sl.isN, isNS, Sl.isB, isBS, toKey, inS, ixS, pNone, pSome, slS, eSl, eNeg, gets, eFn, one, lenS, absS, intF, seqS, listF, tupF, bools, allF, isKind, eMt, appM, popM, atI, argsOf, refsOf, nodupB, putBack, eCall, iSeq, iRng1', iRng2', zipD, iZip', enumD, iEnum', gNm, gsNil, gsCons, gTp, mSkip, mSeq, mBk, mCt, mIf, mDrop, mRetN, mRet, mAsg, mAsgG, mPar, putM, mSet, forL, mFor, wipeS, keepFz, restoreS, lcL, eLc, tYes', mask, fnS, eD0, dcL, eDc, sortF, eSortIt, tyN, isB, eIs, newOf, parked, eCallN, dictF, dictP, pick, eCallK, Sl.mt, addS_ap, subS_ap, mulI_ap, mulS_ap, modS_ap, fdivS_ap, powS_ap, intB_ap, ordS_ap, shaped_bool, shaped_int, shaped_none, eqv_bool, eqv_int, eqv_str, eqv_none, okD, rowD, parD, h1]
  | some p =>
    have h2 : SeqAt.shaped (.str p) = true := h.2 p rfl
    simp [eVar, eC, eBin, g2, Opd.get, tBl, truS, truO, tTr, tAnd', tOr', tNot', eAndT, eOrT, eNotT, eIf, frz, eFrz, aNil, aCons, allFz, disp, Sl.d, Sl.l, intS, catS, orG, repS, eqvS, strC, eChain, Sl.isN, isNS, Sl.isB, isBS, toKey, inS, ixS, pNone, pSome, slS, eSl, eNeg, gets, eFn, one, lenS, absS, intF, seqS, listF, tupF, bools, allF, isKind, eMt, appM, popM, atI, argsOf, refsOf, nodupB, putBack, eCall, iSeq, iRng1', iRng2', zipD, iZip', enumD, iEnum', gNm, gsNil, gsCons, gTp, mSkip, mSeq, mBk, mCt, mIf, mDrop, mRetN, mRet, mAsg, mAsgG, mPar, putM, mSet, forL, mFor, wipeS, keepFz, restoreS, lcL, eLc, tYes', mask, fnS, eD0, dcL, eDc, sortF, eSortIt, tyN, isB, eIs, newOf, parked, eCallN, dictF, dictP, pick, eCallK, Sl.mt, addS_ap, subS_ap, mulI_ap, mulS_ap, modS_ap, fdivS_ap, powS_ap, intB_ap, ordS_ap, shaped_bool, shaped_int, shaped_none, eqv_bool, eqv_int, eqv_str, eqv_none, okD, rowD, parD, h1, h2]
theorem ok_list {ds : List D} {n : Nat} (hl : ds.length ≤ 100000) (h : ∀ d ∈ ds, okD n d = true) : okD (n + 1) (.list ds) = true := by
  unfold okD
  rw [Bool.and_eq_true, decide_eq_true_eq, List.all_eq_true]
  exact ⟨hl, h⟩
theorem ok_tuple {ds : List D} {n : Nat} (hl : ds.length ≤ 100000) (h : ∀ d ∈ ds, okD n d = true) : okD (n + 1) (.tuple ds) = true := by
  unfold okD
  rw [Bool.and_eq_true, decide_eq_true_eq, List.all_eq_true]
  exact ⟨hl, h⟩
theorem ok_pair {p : SP} (h1 : okStr p.1) (h2 : okStr p.2) (n : Nat) : okD (n + 2) (pairD p) = true := by
  have h1 : SeqAt.shaped (.str p.1) = true := h1
  have h2 : SeqAt.shaped (.str p.2) = true := h2
  simp [eVar, eC, eBin, g2, Opd.get, tBl, truS, truO, tTr, tAnd', tOr', tNot', eAndT, eOrT, eNotT, eIf, frz, eFrz, aNil, aCons, allFz, disp, Sl.d, Sl.l, intS, catS, orG, repS, eqvS, strC, eChain, Sl.isN, isNS, Sl.isB, isBS, toKey, inS, ixS, pNone, pSome, slS, eSl, eNeg, gets, eFn, one, lenS, absS, intF, seqS, listF, tupF, bools, allF, isKind, eMt, appM, popM, atI, argsOf, refsOf, nodupB, putBack, eCall, iSeq, iRng1', iRng2', zipD, iZip', enumD, iEnum', gNm, gsNil, gsCons, gTp, mSkip, mSeq, mBk, mCt, mIf, mDrop, mRetN, mRet, mAsg, mAsgG, mPar, putM, mSet, forL, mFor, wipeS, keepFz, restoreS, lcL, eLc, tYes', mask, fnS, eD0, dcL, eDc, sortF, eSortIt, tyN, isB, eIs, newOf, parked, eCallN, dictF, dictP, pick, eCallK, Sl.mt, addS_ap, subS_ap, mulI_ap, mulS_ap, modS_ap, fdivS_ap, powS_ap, intB_ap, ordS_ap, shaped_bool, shaped_int, shaped_none, eqv_bool, eqv_int, eqv_str, eqv_none, okD, pairD, h1, h2]
theorem ok_TD {rows : List Row} (t : Tree rows) (hl : rows.length ≤ 1000) (n : Nat) : okD (n + 3) (TD rows) = true := by
  refine ok_tuple (by rw [List.length_map]; omega) fun d hd => ?_
  obtain ⟨r, hr, rfl⟩ := List.mem_map.mp hd
  exact ok_row (t.rows r hr) n
theorem ok_pairs {ps : List SP} (h : ∀ p ∈ ps, okStr p.1 ∧ okStr p.2) (hl : ps.length ≤ 1000) (n : Nat) : ps.map pairD = ps.map pairD ∧ (∀ d ∈ ps.map pairD, okD (n + 2) d = true) := by
  refine ⟨rfl, fun d hd => ?_⟩
  obtain ⟨p, hp, rfl⟩ := List.mem_map.mp hd
  exact ok_pair (h p hp).1 (h p hp).2 n
/-- first parts ascend -/
def Asc (ps : List SP) : Prop := ps.Pairwise fun p q => p.1.cps.toList < q.1.cps.toList
theorem pairwise_and {α : Type} {R R' : α → α → Prop} {l : List α} (h : l.Pairwise R) (h' : l.Pairwise R') : l.Pairwise fun a b => R a b ∧ R' a b := by
  induction l with
  | nil => exact .nil
  | cons a l ih =>
    obtain ⟨h1, h2⟩ := List.pairwise_cons.mp h
    obtain ⟨h3, h4⟩ := List.pairwise_cons.mp h'
    exact List.pairwise_cons.mpr ⟨fun b hb => ⟨h1 b hb, h3 b hb⟩, ih h2 h4⟩
theorem asc_sort {ps : List SP} (h : (keysOf ps).Nodup) : Asc (sortP ps) := by
  have nd : (keysOf (sortP ps)).Nodup := ((sortP_perm ps).map Prod.fst).nodup_iff.mpr h
  have nd2 : (sortP ps).Pairwise fun a b => a.1 ≠ b.1 := List.pairwise_map.mp nd
  refine (pairwise_and (sortP_sorted ps) nd2).imp fun {a b} ⟨h1, h2⟩ => ?_
  rcases (leP_iff a b).mp h1 with z | ⟨z, _⟩
  · exact z
  · exact (h2 z).elim
theorem Tree.nd {rows : List Row} (t : Tree rows) : (namesOf rows).Nodup := by simpa using wf_nodup rows [] (by simp [eVar, eC, eBin, g2, Opd.get, tBl, truS, truO, tTr, tAnd', tOr', tNot', eAndT, eOrT, eNotT, eIf, frz, eFrz, aNil, aCons, allFz, disp, Sl.d, Sl.l, intS, catS, orG, repS, eqvS, strC, eChain, Sl.isN, isNS, Sl.isB, isBS, toKey, inS, ixS, pNone, pSome, slS, eSl, eNeg, gets, eFn, one, lenS, absS, intF, seqS, listF, tupF, bools, allF, isKind, eMt, appM, popM, atI, argsOf, refsOf, nodupB, putBack, eCall, iSeq, iRng1', iRng2', zipD, iZip', enumD, iEnum', gNm, gsNil, gsCons, gTp, mSkip, mSeq, mBk, mCt, mIf, mDrop, mRetN, mRet, mAsg, mAsgG, mPar, putM, mSet, forL, mFor, wipeS, keepFz, restoreS, lcL, eLc, tYes', mask, fnS, eD0, dcL, eDc, sortF, eSortIt, tyN, isB, eIs, newOf, parked, eCallN, dictF, dictP, pick, eCallK, Sl.mt, addS_ap, subS_ap, mulI_ap, mulS_ap, modS_ap, fdivS_ap, powS_ap, intB_ap, ordS_ap, shaped_bool, shaped_int, shaped_none, eqv_bool, eqv_int, eqv_str, eqv_none]) t.w
/-! ### drawn wants -/
theorem eqv_nil_list (x : D) (xs : List D) : PyData.eqv (.list (x :: xs)) (.list []) = false := by rw [PyData.eqv]; simp [eVar, eC, eBin, g2, Opd.get, tBl, truS, truO, tTr, tAnd', tOr', tNot', eAndT, eOrT, eNotT, eIf, frz, eFrz, aNil, aCons, allFz, disp, Sl.d, Sl.l, intS, catS, orG, repS, eqvS, strC, eChain, Sl.isN, isNS, Sl.isB, isBS, toKey, inS, ixS, pNone, pSome, slS, eSl, eNeg, gets, eFn, one, lenS, absS, intF, seqS, listF, tupF, bools, allF, isKind, eMt, appM, popM, atI, argsOf, refsOf, nodupB, putBack, eCall, iSeq, iRng1', iRng2', zipD, iZip', enumD, iEnum', gNm, gsNil, gsCons, gTp, mSkip, mSeq, mBk, mCt, mIf, mDrop, mRetN, mRet, mAsg, mAsgG, mPar, putM, mSet, forL, mFor, wipeS, keepFz, restoreS, lcL, eLc, tYes', mask, fnS, eD0, dcL, eDc, sortF, eSortIt, tyN, isB, eIs, newOf, parked, eCallN, dictF, dictP, pick, eCallK, Sl.mt, addS_ap, subS_ap, mulI_ap, mulS_ap, modS_ap, fdivS_ap, powS_ap, intB_ap, ordS_ap, shaped_bool, shaped_int, shaped_none, eqv_bool, eqv_int, eqv_str, eqv_none, PyData.eqvAll]
theorem eqv_nil_tup (x : D) (xs : List D) : PyData.eqv (.tuple (x :: xs)) (.tuple []) = false := by rw [PyData.eqv]; simp [eVar, eC, eBin, g2, Opd.get, tBl, truS, truO, tTr, tAnd', tOr', tNot', eAndT, eOrT, eNotT, eIf, frz, eFrz, aNil, aCons, allFz, disp, Sl.d, Sl.l, intS, catS, orG, repS, eqvS, strC, eChain, Sl.isN, isNS, Sl.isB, isBS, toKey, inS, ixS, pNone, pSome, slS, eSl, eNeg, gets, eFn, one, lenS, absS, intF, seqS, listF, tupF, bools, allF, isKind, eMt, appM, popM, atI, argsOf, refsOf, nodupB, putBack, eCall, iSeq, iRng1', iRng2', zipD, iZip', enumD, iEnum', gNm, gsNil, gsCons, gTp, mSkip, mSeq, mBk, mCt, mIf, mDrop, mRetN, mRet, mAsg, mAsgG, mPar, putM, mSet, forL, mFor, wipeS, keepFz, restoreS, lcL, eLc, tYes', mask, fnS, eD0, dcL, eDc, sortF, eSortIt, tyN, isB, eIs, newOf, parked, eCallN, dictF, dictP, pick, eCallK, Sl.mt, addS_ap, subS_ap, mulI_ap, mulS_ap, modS_ap, fdivS_ap, powS_ap, intB_ap, ordS_ap, shaped_bool, shaped_int, shaped_none, eqv_bool, eqv_int, eqv_str, eqv_none, PyData.eqvAll]
theorem wished_loop (T V0 : Sl) (vals : List Str) (hv0 : 0 < vals.length) (hv1 : vals.length < 1000) (hv : ∀ v ∈ vals, okStr v) (F : Str → Prop) : ∀ (ds : List D) (m : Nat) (s : Sl) (left : List Str) (ws : List SP) (s6 s7 : Sl), Bx m s → m + 2 * ds.length < 1000000 →
    left.length < 1000 → ws.length + ds.length < 1000 → (∀ n ∈ left, okStr n ∧ F n) → (∀ p ∈ ws, F p.1 ∧ p.2 ∈ vals) → (keysOf ws ++ left).Nodup →
    ∃ (s' : Sl) (left' : List Str) (ws' : List SP) (s6' : Sl), Bx (m + 2 * ds.length) s' ∧ ws'.length ≤ ws.length + ds.length ∧ (∀ p ∈ ws', F p.1 ∧ p.2 ∈ vals) ∧ (keysOf ws').Nodup ∧
      forL (gNm 6) lb__law_wished_1 ds [s, T, V0, .fz (.list (strsOf vals)), .ow (strsOf left), .ow (ws.map pairD), s6, s7] = some (.nx, [s', T, V0, .fz (.list (strsOf vals)), .ow (strsOf left'), .ow (ws'.map pairD), s6', s7])
  | [], m, s, left, ws, s6, s7, hb, _, _, _, _, hw, hn => ⟨s, left, ws, s6, hb, Nat.le_refl _, hw, (List.nodup_append.mp hn).1, rfl⟩
  | d :: ds, m, s, left, ws, s6, s7, hb, hm, hl, hr, ho, hw, hnd => by
    rw [List.length_cons] at hm hr
    have sh := strs_shaped left fun x hx => (ho x hx).1
    have sh0 : SeqAt.shaped (.list []) = true := by decide +kernel
    obtain ⟨x0, rfl⟩ := hb.ow
    by_cases hne : left = []
    · subst hne
      obtain ⟨s', left', ws', s6', q1, q2, q3, q5, q4⟩ := wished_loop T V0 vals hv0 hv1 hv F ds m (.ow x0) [] ws (.fz d) s7 hb (by omega) hl (by omega) ho hw hnd
      refine ⟨s', left', ws', s6', q1.mono (by rw [List.length_cons]; omega), by rw [List.length_cons]; omega, q3, q5, ?_⟩
      rw [← q4]
      have e0 : PyData.eqv (.list []) (.list []) = true := eqv_self _ rfl
      rw [forL]
      simp [eVar, eC, eBin, g2, Opd.get, tBl, truS, truO, tTr, tAnd', tOr', tNot', eAndT, eOrT, eNotT, eIf, frz, eFrz, aNil, aCons, allFz, disp, Sl.d, Sl.l, intS, catS, orG, repS, eqvS, strC, eChain, Sl.isN, isNS, Sl.isB, isBS, toKey, inS, ixS, pNone, pSome, slS, eSl, eNeg, gets, eFn, one, lenS, absS, intF, seqS, listF, tupF, bools, allF, isKind, eMt, appM, popM, atI, argsOf, refsOf, nodupB, putBack, eCall, iSeq, iRng1', iRng2', zipD, iZip', enumD, iEnum', gNm, gsNil, gsCons, gTp, mSkip, mSeq, mBk, mCt, mIf, mDrop, mRetN, mRet, mAsg, mAsgG, mPar, putM, mSet, mFor, wipeS, keepFz, restoreS, lcL, eLc, tYes', mask, fnS, eD0, dcL, eDc, sortF, eSortIt, tyN, isB, eIs, newOf, parked, eCallN, dictF, dictP, pick, eCallK, Sl.mt, addS_ap, subS_ap, mulI_ap, mulS_ap, modS_ap, fdivS_ap, powS_ap, intB_ap, ordS_ap, shaped_bool, shaped_int, shaped_none, eqv_bool, eqv_int, eqv_str, eqv_none, lb__law_wished_1, strsOf, sh0, e0]
    · have hp : 0 < left.length := List.length_pos_iff.mpr hne
      obtain ⟨v, n, s2, e2, e3, e4, pm, le, hb2⟩ := draw_one hb (by omega) left hp hl
      obtain ⟨j, pd, s3, j1, e5, hb3⟩ := of_ok (t := .fz (.list (strsOf vals))) hb2 (by omega) (strsOf vals) (.inl rfl) (by rw [strs_len]; exact hv0) (by rw [strs_len]; exact hv1)
      unfold strsOf at j1
      rw [List.getElem?_map] at j1
      obtain ⟨x, j2, rfl⟩ := Option.map_eq_some_iff.mp j1
      have hx : x ∈ vals := List.mem_of_getElem? j2
      have hin : n ∈ left := pm.mem_iff.mp List.mem_cons_self
      have hnd2 : (keysOf (ws ++ [(n, x)]) ++ left.eraseIdx v.toNat).Nodup := by
        have e : keysOf (ws ++ [(n, x)]) ++ left.eraseIdx v.toNat = keysOf ws ++ (n :: left.eraseIdx v.toNat) := by simp [eVar, eC, eBin, g2, Opd.get, tBl, truS, truO, tTr, tAnd', tOr', tNot', eAndT, eOrT, eNotT, eIf, frz, eFrz, aNil, aCons, allFz, disp, Sl.d, Sl.l, intS, catS, orG, repS, eqvS, strC, eChain, Sl.isN, isNS, Sl.isB, isBS, toKey, inS, ixS, pNone, pSome, slS, eSl, eNeg, gets, eFn, one, lenS, absS, intF, seqS, listF, tupF, bools, allF, isKind, eMt, appM, popM, atI, argsOf, refsOf, nodupB, putBack, eCall, iSeq, iRng1', iRng2', zipD, iZip', enumD, iEnum', gNm, gsNil, gsCons, gTp, mSkip, mSeq, mBk, mCt, mIf, mDrop, mRetN, mRet, mAsg, mAsgG, mPar, putM, mSet, forL, mFor, wipeS, keepFz, restoreS, lcL, eLc, tYes', mask, fnS, eD0, dcL, eDc, sortF, eSortIt, tyN, isB, eIs, newOf, parked, eCallN, dictF, dictP, pick, eCallK, Sl.mt, addS_ap, subS_ap, mulI_ap, mulS_ap, modS_ap, fdivS_ap, powS_ap, intB_ap, ordS_ap, shaped_bool, shaped_int, shaped_none, eqv_bool, eqv_int, eqv_str, eqv_none, keysOf]
        rw [e]
        exact (pm.append_left (keysOf ws)).nodup_iff.mpr hnd
      obtain ⟨s', left', ws', s6', q1, q2, q3, q6, q4⟩ := wished_loop T V0 vals hv0 hv1 hv F ds (m + 2) s3 (left.eraseIdx v.toNat) (ws ++ [(n, x)]) (.fz d) s7 hb3 (by omega) (by omega) (by simp [eVar, eC, eBin, g2, Opd.get, tBl, truS, truO, tTr, tAnd', tOr', tNot', eAndT, eOrT, eNotT, eIf, frz, eFrz, aNil, aCons, allFz, disp, Sl.d, Sl.l, intS, catS, orG, repS, eqvS, strC, eChain, Sl.isN, isNS, Sl.isB, isBS, toKey, inS, ixS, pNone, pSome, slS, eSl, eNeg, gets, eFn, one, lenS, absS, intF, seqS, listF, tupF, bools, allF, isKind, eMt, appM, popM, atI, argsOf, refsOf, nodupB, putBack, eCall, iSeq, iRng1', iRng2', zipD, iZip', enumD, iEnum', gNm, gsNil, gsCons, gTp, mSkip, mSeq, mBk, mCt, mIf, mDrop, mRetN, mRet, mAsg, mAsgG, mPar, putM, mSet, forL, mFor, wipeS, keepFz, restoreS, lcL, eLc, tYes', mask, fnS, eD0, dcL, eDc, sortF, eSortIt, tyN, isB, eIs, newOf, parked, eCallN, dictF, dictP, pick, eCallK, Sl.mt, addS_ap, subS_ap, mulI_ap, mulS_ap, modS_ap, fdivS_ap, powS_ap, intB_ap, ordS_ap, shaped_bool, shaped_int, shaped_none, eqv_bool, eqv_int, eqv_str, eqv_none]; omega)
        (fun y hy => ho y (pm.mem_iff.mp (List.mem_cons_of_mem _ hy))) (fun p hpp => by
          rcases List.mem_append.mp hpp with z | z
          · exact hw p z
          · rw [List.mem_singleton.mp z]; exact ⟨(ho n hin).2, hx⟩) hnd2
      refine ⟨s', left', ws', s6', q1.mono (by rw [List.length_cons]; omega), by rw [List.length_cons]; simp [eVar, eC, eBin, g2, Opd.get, tBl, truS, truO, tTr, tAnd', tOr', tNot', eAndT, eOrT, eNotT, eIf, frz, eFrz, aNil, aCons, allFz, disp, Sl.d, Sl.l, intS, catS, orG, repS, eqvS, strC, eChain, Sl.isN, isNS, Sl.isB, isBS, toKey, inS, ixS, pNone, pSome, slS, eSl, eNeg, gets, eFn, one, lenS, absS, intF, seqS, listF, tupF, bools, allF, isKind, eMt, appM, popM, atI, argsOf, refsOf, nodupB, putBack, eCall, iSeq, iRng1', iRng2', zipD, iZip', enumD, iEnum', gNm, gsNil, gsCons, gTp, mSkip, mSeq, mBk, mCt, mIf, mDrop, mRetN, mRet, mAsg, mAsgG, mPar, putM, mSet, forL, mFor, wipeS, keepFz, restoreS, lcL, eLc, tYes', mask, fnS, eD0, dcL, eDc, sortF, eSortIt, tyN, isB, eIs, newOf, parked, eCallN, dictF, dictP, pick, eCallK, Sl.mt, addS_ap, subS_ap, mulI_ap, mulS_ap, modS_ap, fdivS_ap, powS_ap, intB_ap, ordS_ap, shaped_bool, shaped_int, shaped_none, eqv_bool, eqv_int, eqv_str, eqv_none] at q2; omega, q3, q6, ?_⟩
      rw [← q4, ← pair_app]
      obtain ⟨x2, rfl⟩ := hb2.ow
      obtain ⟨x3, rfl⟩ := hb3.ow
      have ne : PyData.eqv (.list (strsOf left)) (.list []) = false := by
        cases left with
        | nil => exact (hne rfl).elim
        | cons a r => exact eqv_nil_list _ _
      have l1 : left.length ≤ 100000 := by omega
      have l2 : ws.length < 100000 := by omega
      rw [forL]
      simp [eVar, eC, eBin, g2, Opd.get, tBl, truS, truO, tTr, tAnd', tOr', tNot', eAndT, eOrT, eNotT, eIf, frz, eFrz, aNil, aCons, allFz, disp, Sl.d, Sl.l, intS, catS, orG, repS, eqvS, strC, eChain, Sl.isN, isNS, Sl.isB, isBS, toKey, inS, ixS, pNone, pSome, slS, eSl, eNeg, gets, eFn, one, lenS, absS, intF, seqS, listF, tupF, bools, allF, isKind, eMt, appM, popM, atI, argsOf, refsOf, nodupB, putBack, eCall, iSeq, iRng1', iRng2', zipD, iZip', enumD, iEnum', gNm, gsNil, gsCons, gTp, mSkip, mSeq, mBk, mCt, mIf, mDrop, mRetN, mRet, mAsg, mAsgG, mPar, putM, mSet, mFor, wipeS, keepFz, restoreS, lcL, eLc, tYes', mask, fnS, eD0, dcL, eDc, sortF, eSortIt, tyN, isB, eIs, newOf, parked, eCallN, dictF, dictP, pick, eCallK, Sl.mt, addS_ap, subS_ap, mulI_ap, mulS_ap, modS_ap, fdivS_ap, powS_ap, intB_ap, ordS_ap, shaped_bool, shaped_int, shaped_none, eqv_bool, eqv_int, eqv_str, eqv_none, lb__law_wished_1, sh, sh0, ne, e2, e3, e4, e5, strs_len, strs_erase, l1, l2, -L2.ixN]
theorem wished_ok {m : Nat} {s : Sl} (h : Bx m s) (hm : m < 900000) {rows : List Row} (t : Tree rows) (hr : rows.length ≤ 12) (many : Int) (h1 : 0 ≤ many) (h2 : many ≤ 12) (vals : List Str) (hv0 : 0 < vals.length) (hv1 : vals.length < 1000) (hv : ∀ v ∈ vals, okStr v) :
    ∃ (s' : Sl) (ws : List SP), fs__law_wished [s, .fz (TD rows), .fz (.int many), .fz (.list (strsOf vals))] = some (.fz (.tuple (ws.map pairD)), [s', .fz (TD rows), .fz (.int many), .fz (.list (strsOf vals))]) ∧ ws.length ≤ 12 ∧ (∀ p ∈ ws, p.1 ∈ namesOf rows ∧ p.2 ∈ vals) ∧ Asc ws ∧ Bx (m + 40) s' := by
  obtain ⟨x0, rfl⟩ := h.ow
  have i0 : L2.ixN 3 0 = some 0 := rfl
  obtain ⟨st', c1, a7, rfl⟩ := lcL_map (vs := [7]) (g := gNm 7) (e := eBin ixS (eVar 7) (eC (.int 0))) (fun st => ∃ a, st = [.ow x0, .fz (TD rows), .fz (.int many), .fz (.list (strsOf vals)), .un, .un, .un, a]) (fun d => match d with | .tuple (x :: _) => x | _ => d) (rows.map rowD) (fun d hd st hst => by
    obtain ⟨r, hr, rfl⟩ := List.mem_map.mp hd
    obtain ⟨a, rfl⟩ := hst
    exact ⟨_, [.ow x0, .fz (TD rows), .fz (.int many), .fz (.list (strsOf vals)), .un, .un, .un, .fz (rowD r)], rfl, by simp [eVar, eC, eBin, g2, Opd.get, tBl, truS, truO, tTr, tAnd', tOr', tNot', eAndT, eOrT, eNotT, eIf, frz, eFrz, aNil, aCons, allFz, disp, Sl.d, Sl.l, intS, catS, orG, repS, eqvS, strC, eChain, Sl.isN, isNS, Sl.isB, isBS, toKey, inS, ixS, pNone, pSome, slS, eSl, eNeg, gets, eFn, one, lenS, absS, intF, seqS, listF, tupF, bools, allF, isKind, eMt, appM, popM, atI, argsOf, refsOf, nodupB, putBack, eCall, iSeq, iRng1', iRng2', zipD, iZip', enumD, iEnum', gNm, gsNil, gsCons, gTp, mSkip, mSeq, mBk, mCt, mIf, mDrop, mRetN, mRet, mAsg, mAsgG, mPar, putM, mSet, forL, mFor, wipeS, keepFz, restoreS, lcL, eLc, tYes', mask, fnS, eD0, dcL, eDc, sortF, eSortIt, tyN, isB, eIs, newOf, parked, eCallN, dictF, dictP, pick, eCallK, Sl.mt, addS_ap, subS_ap, mulI_ap, mulS_ap, modS_ap, fdivS_ap, powS_ap, intB_ap, ordS_ap, shaped_bool, shaped_int, shaped_none, eqv_bool, eqv_int, eqv_str, eqv_none, rowD, i0], _, rfl⟩) [.ow x0, .fz (TD rows), .fz (.int many), .fz (.list (strsOf vals)), .un, .un, .un, .un] ⟨_, rfl⟩
  have en : (rows.map rowD).map (fun d => match d with | .tuple (x :: _) => x | _ => d) = strsOf (namesOf rows) := by
    rw [List.map_map]
    unfold strsOf namesOf
    rw [List.map_map]
    rfl
  rw [en] at c1
  have lds : (intsD 0 many.toNat).length = many.toNat := by unfold intsD; rw [List.length_map, List.length_range]
  have ln : (namesOf rows).length ≤ 12 := by unfold namesOf; rw [List.length_map]; exact hr
  obtain ⟨s', left', ws', s6', q1, q2, q3, q5, q4⟩ := wished_loop (.fz (TD rows)) (.fz (.int many)) vals hv0 hv1 hv (fun n => n ∈ namesOf rows) (intsD 0 many.toNat) m (.ow x0) (namesOf rows) [] .un .un h (by rw [lds]; omega) (by omega) (by rw [lds]; simp [eVar, eC, eBin, g2, Opd.get, tBl, truS, truO, tTr, tAnd', tOr', tNot', eAndT, eOrT, eNotT, eIf, frz, eFrz, aNil, aCons, allFz, disp, Sl.d, Sl.l, intS, catS, orG, repS, eqvS, strC, eChain, Sl.isN, isNS, Sl.isB, isBS, toKey, inS, ixS, pNone, pSome, slS, eSl, eNeg, gets, eFn, one, lenS, absS, intF, seqS, listF, tupF, bools, allF, isKind, eMt, appM, popM, atI, argsOf, refsOf, nodupB, putBack, eCall, iSeq, iRng1', iRng2', zipD, iZip', enumD, iEnum', gNm, gsNil, gsCons, gTp, mSkip, mSeq, mBk, mCt, mIf, mDrop, mRetN, mRet, mAsg, mAsgG, mPar, putM, mSet, forL, mFor, wipeS, keepFz, restoreS, lcL, eLc, tYes', mask, fnS, eD0, dcL, eDc, sortF, eSortIt, tyN, isB, eIs, newOf, parked, eCallN, dictF, dictP, pick, eCallK, Sl.mt, addS_ap, subS_ap, mulI_ap, mulS_ap, modS_ap, fdivS_ap, powS_ap, intB_ap, ordS_ap, shaped_bool, shaped_int, shaped_none, eqv_bool, eqv_int, eqv_str, eqv_none]; omega)
    (fun n hn => ⟨t.ok n hn, hn⟩) (fun p hp => by cases hp) (show (keysOf [] ++ namesOf rows).Nodup from t.nd)
  have l0 : ws'.length ≤ 12 := by rw [lds] at q2; simp [eVar, eC, eBin, g2, Opd.get, tBl, truS, truO, tTr, tAnd', tOr', tNot', eAndT, eOrT, eNotT, eIf, frz, eFrz, aNil, aCons, allFz, disp, Sl.d, Sl.l, intS, catS, orG, repS, eqvS, strC, eChain, Sl.isN, isNS, Sl.isB, isBS, toKey, inS, ixS, pNone, pSome, slS, eSl, eNeg, gets, eFn, one, lenS, absS, intF, seqS, listF, tupF, bools, allF, isKind, eMt, appM, popM, atI, argsOf, refsOf, nodupB, putBack, eCall, iSeq, iRng1', iRng2', zipD, iZip', enumD, iEnum', gNm, gsNil, gsCons, gTp, mSkip, mSeq, mBk, mCt, mIf, mDrop, mRetN, mRet, mAsg, mAsgG, mPar, putM, mSet, forL, mFor, wipeS, keepFz, restoreS, lcL, eLc, tYes', mask, fnS, eD0, dcL, eDc, sortF, eSortIt, tyN, isB, eIs, newOf, parked, eCallN, dictF, dictP, pick, eCallK, Sl.mt, addS_ap, subS_ap, mulI_ap, mulS_ap, modS_ap, fdivS_ap, powS_ap, intB_ap, ordS_ap, shaped_bool, shaped_int, shaped_none, eqv_bool, eqv_int, eqv_str, eqv_none] at q2; omega
  refine ⟨s', sortP ws', ?_, by rw [sortP_len]; exact l0, fun p hp => q3 p ((sortP_perm ws').mem_iff.mp hp), asc_sort q5, q1.mono (by rw [lds]; omega)⟩
  obtain ⟨x1, rfl⟩ := q1.ow
  have so : sortOk (ws'.map pairD) = true := pairs_sort ws' (by omega)
  have l1 : rows.length ≤ 100000 := by omega
  have l3 : many ≤ 100000 := by omega
  have l4 : -100000 ≤ many := by omega
  have q4 : forL (gNm 6) lb__law_wished_1 (intsD 0 many.toNat) [.ow x0, .fz (TD rows), .fz (.int many), .fz (.list (strsOf vals)), .ow (strsOf (namesOf rows)), .ow [], .un, .un] = _ := q4
  simp [eVar, eC, eBin, g2, Opd.get, tBl, truS, truO, tTr, tAnd', tOr', tNot', eAndT, eOrT, eNotT, eIf, frz, eFrz, aNil, aCons, allFz, disp, Sl.d, Sl.l, intS, catS, orG, repS, eqvS, strC, eChain, Sl.isN, isNS, Sl.isB, isBS, toKey, inS, ixS, pNone, pSome, slS, eSl, eNeg, gets, eFn, one, lenS, absS, intF, seqS, listF, tupF, bools, allF, isKind, eMt, appM, popM, atI, argsOf, refsOf, nodupB, putBack, eCall, iSeq, iRng1', iRng2', zipD, iZip', enumD, iEnum', gNm, gsNil, gsCons, gTp, mSkip, mSeq, mBk, mCt, mIf, mDrop, mRetN, mRet, mAsg, mAsgG, mPar, putM, mSet, mFor, wipeS, keepFz, restoreS, eLc, tYes', mask, fnS, eD0, dcL, eDc, sortF, eSortIt, tyN, isB, eIs, newOf, parked, eCallN, dictF, dictP, pick, eCallK, Sl.mt, addS_ap, subS_ap, mulI_ap, mulS_ap, modS_ap, fdivS_ap, powS_ap, intB_ap, ordS_ap, shaped_bool, shaped_int, shaped_none, eqv_bool, eqv_int, eqv_str, eqv_none, fs__law_wished, m__law_wished, c1, l1, l3, l4, q4, so, sortD_pairs]
end L11

namespace L11
open PySem PySem.Spec L2 Sh

/-! ### data of few signs -/
abbrev strs10 : List Str := ["a", "b", "c", "d", "e", "f", "g", "ab", "ba", "h", "m", "z", "", "zzzzzzzz", "zzzzzzzzz", "A", "a1", "a\n", "bb", "none", "nobody", "zzzz", "x"]
def okB : Nat → D → Bool
  | 0, _ => false
  | n + 1, .list ds => ds.all (okB n)
  | n + 1, .tuple ds => ds.all (okB n)
  | _ + 1, .none => true
  | _ + 1, .bool _ => true
  | _ + 1, .int i => i == 0 || i == 1
  | _ + 1, .str x => decide (x ∈ strs10)
  | _ + 1, .dict _ => false
mutual
def szD : D → Nat
  | .list xs => szs xs + 4
  | .tuple xs => szs xs + 4
  | .none => 16
  | .bool _ => 16
  | .int _ => 16
  | .str _ => 16
  | .dict _ => 16
def szs : List D → Nat
  | [] => 0
  | x :: xs => szD x + 2 + szs xs
end
theorem szs_len : ∀ xs : List D, 2 * xs.length ≤ szs xs
  | [] => Nat.zero_le _
  | x :: xs => by
    have := szs_len xs
    rw [szs, List.length_cons]
    omega
theorem szs_app : ∀ xs ys : List D, szs (xs ++ ys) = szs xs + szs ys
  | [], ys => by rw [List.nil_append, szs, Nat.zero_add]
  | x :: xs, ys => by rw [List.cons_append, szs, szs, szs_app xs ys]; omega
theorem szs_rev : ∀ xs : List D, szs xs.reverse = szs xs
  | [] => rfl
  | x :: xs => by rw [List.reverse_cons, szs_app, szs_rev xs, szs, szs, szs]; omega
theorem szs_cut (xs : List D) (k : Nat) : szs (xs.take k) + szs (xs.drop k) = szs xs := by rw [← szs_app, List.take_append_drop]
theorem szs_mem : ∀ {xs : List D} {x : D}, x ∈ xs → szD x + 2 ≤ szs xs
  | y :: ys, x, h => by
    rw [szs]
    rcases List.mem_cons.mp h with rfl | h
    · omega
    · have := szs_mem h; omega
theorem txt_shaped : ∀ x ∈ strs10, SeqAt.shaped (.str x) = true := by decide +kernel
theorem txt_len : ∀ x ∈ strs10, (reprText x).length ≤ 16 := by decide +kernel
theorem okB_okD : ∀ (n : Nat) (d : D), okB n d = true → szD d ≤ 100000 → okD n d = true
  | 0, _, h, _ => by cases h
  | n + 1, d, h, hz => by
    have sq : ∀ xs : List D, xs.all (okB n) = true → szs xs ≤ 100000 → (decide (xs.length ≤ 100000) && xs.all (okD n)) = true := fun xs h hz => by
      rw [Bool.and_eq_true, decide_eq_true_eq, List.all_eq_true]
      have := szs_len xs
      exact ⟨by omega, fun d hd => okB_okD n d (List.all_eq_true.mp h d hd) (by have := szs_mem hd; omega)⟩
    cases d with
    | list xs => exact sq xs h (by rw [szD] at hz; omega)
    | tuple xs => exact sq xs h (by rw [szD] at hz; omega)
    | dict kvs => cases h
    | none => rfl
    | bool b => rfl
    | int i => rfl
    | str x => exact txt_shaped x (of_decide_eq_true h)
theorem okB_mono : ∀ (n m : Nat) (d : D), n ≤ m → okB n d = true → okB m d = true
  | 0, _, _, _, h => by cases h
  | n + 1, 0, _, hm, _ => by omega
  | n + 1, m + 1, d, hm, h => by
    have sq : ∀ xs : List D, xs.all (okB n) = true → xs.all (okB m) = true := fun xs h =>
      List.all_eq_true.mpr fun d hd => okB_mono n m d (by omega) (List.all_eq_true.mp h d hd)
    cases d with
    | list xs => exact sq xs h
    | tuple xs => exact sq xs h
    | dict kvs => cases h
    | none => rfl
    | bool b => rfl
    | int i => exact h
    | str x => exact h
theorem from_len : ∀ (ts : List Str) (k : Nat) (acc : Str), (textFrom k acc ts).length ≤ acc.length + piled ts
  | [], k, acc => by show acc.length ≤ acc.length + _; omega
  | t :: r, k, acc => by
    have ih := from_len r (k + 1) (acc ++ (if k > 0 then ", " else "" : String) ++ t)
    rw [strLen_append, strLen_append] at ih
    show (textFrom (k + 1) (acc ++ (if k > 0 then ", " else "" : String) ++ t) r).length ≤ _
    rw [piled_cons]
    have e : (((if k > 0 then ", " else "" : String) : Str)).length ≤ 2 := by split <;> decide
    omega
theorem list_len (ts : List Str) : (listText ts).length ≤ piled ts + 4 := by
  unfold listText
  rw [strLen_append]
  have := from_len ts 0 "["
  have e1 : ((("[" : String) : Str)).length = 1 := rfl
  have e2 : ((("]" : String) : Str)).length = 1 := rfl
  omega
theorem tup_len (ts : List Str) : (tupleText ts).length ≤ piled ts + 4 := by
  unfold tupleText
  rw [strLen_append, strLen_append]
  have e1 : ((("(" : String) : Str)).length = 1 := rfl
  have e3 : (((if ts.length == 1 then ",)" else ")" : String) : Str)).length ≤ 2 := by split <;> decide
  by_cases h : ts = []
  · subst h
    have e4 : (Str.join ", " []).length = 0 := rfl
    omega
  · have := join_length_add ts h
    omega
theorem shown_len : ∀ (n : Nat) (d : D), okB n d = true → d.shown.length ≤ szD d
  | 0, _, h => by cases h
  | n + 1, d, h => by
    have sq : ∀ xs : List D, xs.all (okB n) = true → piled (PyData.shownAll xs) ≤ szs xs := fun xs h => by
      induction xs with
      | nil => exact Nat.zero_le _
      | cons x xs ih =>
        rw [List.all_cons, Bool.and_eq_true] at h
        rw [PyData.shownAll, piled_cons, szs]
        have := ih h.2
        have := shown_len n x h.1
        omega
    cases d with
    | list xs => rw [PyData.shown, szD]; exact Nat.le_trans (list_len _) (Nat.add_le_add_right (sq xs h) 4)
    | tuple xs => rw [PyData.shown, szD]; exact Nat.le_trans (tup_len _) (Nat.add_le_add_right (sq xs h) 4)
    | dict kvs => cases h
    | none => rw [PyData.shown, szD]; decide
    | bool b => rw [PyData.shown, szD]; cases b <;> decide
    | int i =>
      have h : (i == 0 || i == 1) = true := h
      rw [Bool.or_eq_true, beq_iff_eq, beq_iff_eq] at h
      rw [PyData.shown, szD]
      rcases h with rfl | rfl <;> decide +kernel
    | str x => rw [PyData.shown, szD]; exact txt_len x (of_decide_eq_true h)
theorem showable_ok : ∀ (n : Nat) (d : D), okB n d = true → d.showable = true
  | 0, _, h => by cases h
  | n + 1, d, h => by
    have sq : ∀ xs : List D, xs.all (okB n) = true → PyData.showableAll xs = true := fun xs h => by
      induction xs with
      | nil => rw [PyData.showableAll]
      | cons x xs ih =>
        rw [List.all_cons, Bool.and_eq_true] at h
        rw [PyData.showableAll, ih h.2, showable_ok n x h.1]
        rfl
    cases d with
    | list xs => rw [PyData.showable]; exact sq xs h
    | tuple xs => rw [PyData.showable]; exact sq xs h
    | dict kvs => cases h
    | none => rw [PyData.showable]
    | bool b => rw [PyData.showable]
    | int i =>
      have h : (i == 0 || i == 1) = true := h
      rw [Bool.or_eq_true, beq_iff_eq, beq_iff_eq] at h
      rw [PyData.showable]
      rcases h with rfl | rfl <;> decide +kernel
    | str x => rw [PyData.showable]
/-- such data can be shown -/
theorem repr_ok {n : Nat} {d : D} (h : okB n d = true) (hn : n ≤ 64) (hz : szD d ≤ 100000) : reprS (.fz d) = some (.fz (.str d.shown)) := by
  have h1 := okB_okD n d h hz
  have h2 := okD_lay n d h1
  unfold reprS
  show (if noD d = true ∧ d.showable = true ∧ d.depth ≤ 64 ∧ d.shown.length ≤ 100000 then some (Sl.fz (.str d.shown)) else none) = _
  rw [if_pos ⟨noD_lay h2.1, showable_ok n d h, by omega, Nat.le_trans (shown_len n d h) hz⟩]
/-! ### what is shown, as a text -/
theorem ok_app (a b : Str) : PyData.strOk (a ++ b) = (PyData.strOk a && PyData.strOk b) := by
  unfold PyData.strOk
  show Array.all (a.cps ++ b.cps) _ = _
  exact Array.all_append
theorem ok_from : ∀ (ts : List Str) (k : Nat) (acc : Str), PyData.strOk acc = true → (∀ t ∈ ts, PyData.strOk t = true) → PyData.strOk (textFrom k acc ts) = true
  | [], _, acc, h, _ => h
  | t :: r, k, acc, h, hh => by
    refine ok_from r (k + 1) _ ?_ fun x hx => hh x (List.mem_cons_of_mem _ hx)
    rw [ok_app, ok_app, h, hh t List.mem_cons_self]
    split <;> decide +kernel
theorem ok_listS {ts : List Str} (h : ∀ t ∈ ts, PyData.strOk t = true) : PyData.strOk (listText ts) = true := by
  unfold listText
  rw [ok_app, ok_from ts 0 "[" (by decide +kernel) h]
  decide +kernel
theorem ok_join : ∀ {ts : List Str}, (∀ t ∈ ts, PyData.strOk t = true) → PyData.strOk (Str.join ", " ts) = true
  | [], _ => by decide +kernel
  | [x], h => h x List.mem_cons_self
  | x :: y :: r, h => by
    show PyData.strOk (x ++ ", " ++ Str.join ", " (y :: r)) = true
    rw [ok_app, ok_app, h x List.mem_cons_self, ok_join (ts := y :: r) fun z hz => h z (List.mem_cons_of_mem _ hz)]
    decide +kernel
theorem ok_tup {ts : List Str} (h : ∀ t ∈ ts, PyData.strOk t = true) : PyData.strOk (tupleText ts) = true := by
  unfold tupleText
  rw [ok_app, ok_app, ok_join h]
  split <;> decide +kernel
theorem txt_ok2 : ∀ x ∈ strs10, PyData.strOk (reprText x) = true := by decide +kernel
theorem shown_strOk : ∀ (n : Nat) (d : D), okB n d = true → PyData.strOk d.shown = true
  | 0, _, h => by cases h
  | n + 1, d, h => by
    have sq : ∀ xs : List D, xs.all (okB n) = true → ∀ t ∈ PyData.shownAll xs, PyData.strOk t = true := fun xs h => by
      induction xs with
      | nil => intro t ht; rw [PyData.shownAll] at ht; cases ht
      | cons x xs ih =>
        rw [List.all_cons, Bool.and_eq_true] at h
        intro t ht
        rw [PyData.shownAll] at ht
        rcases List.mem_cons.mp ht with rfl | ht
        · exact shown_strOk n x h.1
        · exact ih h.2 t ht
    cases d with
    | list xs => rw [PyData.shown]; exact ok_listS (sq xs h)
    | tuple xs => rw [PyData.shown]; exact ok_tup (sq xs h)
    | dict kvs => cases h
    | none => rw [PyData.shown]; decide +kernel
    | bool b => rw [PyData.shown]; cases b <;> decide +kernel
    | int i =>
      have h : (i == 0 || i == 1) = true := h
      rw [Bool.or_eq_true, beq_iff_eq, beq_iff_eq] at h
      rw [PyData.shown]
      rcases h with rfl | rfl <;> decide +kernel
    | str x => rw [PyData.shown]; exact txt_ok2 x (of_decide_eq_true h)
theorem shown_shaped {n : Nat} {d : D} (h : okB n d = true) : SeqAt.shaped (.str d.shown) = true := by
  unfold SeqAt.shaped
  rw [PyData.canLay0, shown_strOk n d h, PyData.depth]
  rfl
end L11

namespace L11
open PySem PySem.Spec L2 Sh


/-! ### names -/
abbrev good10 : List Str := ["a", "b", "c", "d", "e", "f", "g", "ab", "ba", "h", "m", "z", "zzzzzzzz", "bb", "none", "nobody", "zzzz", "x"]
def nmB (x : Str) : Bool := decide (x ∈ good10)
def nameD : D → Bool
  | .str x => nmB x
  | _ => false
theorem name_str : ∀ x ∈ strs10, fs_is_name [.fz (.str x)] = some (.fz (.bool (nmB x)), [.fz (.str x)]) := by
  intro x hx
  simp only [List.mem_cons, List.not_mem_nil, or_false] at hx
  rcases hx with rfl | rfl | rfl | rfl | rfl | rfl | rfl | rfl | rfl | rfl | rfl | rfl | rfl | rfl | rfl | rfl | rfl | rfl | rfl | rfl | rfl | rfl | rfl <;> kernel_rfl
theorem word_str : ∀ x ∈ strs10, fs__law_is_word [.fz (.str x)] = some (.fz (.bool (nmB x)), [.fz (.str x)]) := by
  intro x hx
  simp only [List.mem_cons, List.not_mem_nil, or_false] at hx
  rcases hx with rfl | rfl | rfl | rfl | rfl | rfl | rfl | rfl | rfl | rfl | rfl | rfl | rfl | rfl | rfl | rfl | rfl | rfl | rfl | rfl | rfl | rfl | rfl <;> kernel_rfl
theorem name_d {n : Nat} {d : D} (h : okB n d = true) : fs_is_name [.fz d] = some (.fz (.bool (nameD d)), [.fz d]) := by
  cases n with
  | zero => cases h
  | succ n =>
    cases d with
    | str x => exact name_str x (of_decide_eq_true h)
    | dict kvs => cases h
    | _ => simp [eVar, eC, eBin, g2, Opd.get, tBl, truS, truO, tTr, tAnd', tOr', tNot', eAndT, eOrT, eNotT, eIf, frz, eFrz, aNil, aCons, allFz, disp, Sl.d, Sl.l, intS, catS, orG, repS, eqvS, strC, eChain, Sl.isN, isNS, Sl.isB, isBS, toKey, inS, ixS, pNone, pSome, slS, eSl, eNeg, gets, eFn, one, lenS, absS, intF, seqS, listF, tupF, bools, allF, isKind, eMt, appM, popM, atI, argsOf, refsOf, nodupB, putBack, eCall, iSeq, iRng1', iRng2', zipD, iZip', enumD, iEnum', gNm, gsNil, gsCons, gTp, mSkip, mSeq, mBk, mCt, mIf, mDrop, mRetN, mRet, mAsg, mAsgG, mPar, putM, mSet, forL, mFor, wipeS, keepFz, restoreS, lcL, eLc, tYes', mask, fnS, eD0, dcL, eDc, sortF, eSortIt, tyN, isB, eIs, newOf, parked, eCallN, dictF, dictP, pick, eCallK, Sl.mt, addS_ap, subS_ap, mulI_ap, mulS_ap, modS_ap, fdivS_ap, powS_ap, intB_ap, ordS_ap, shaped_bool, shaped_int, shaped_none, eqv_bool, eqv_int, eqv_str, eqv_none, addT, catL, fs_is_name, m_is_name, nameD]
theorem word_d {n : Nat} {d : D} (h : okB n d = true) : fs__law_is_word [.fz d] = some (.fz (.bool (nameD d)), [.fz d]) := by
  cases n with
  | zero => cases h
  | succ n =>
    cases d with
    | str x => exact word_str x (of_decide_eq_true h)
    | dict kvs => cases h
    | _ => simp [eVar, eC, eBin, g2, Opd.get, tBl, truS, truO, tTr, tAnd', tOr', tNot', eAndT, eOrT, eNotT, eIf, frz, eFrz, aNil, aCons, allFz, disp, Sl.d, Sl.l, intS, catS, orG, repS, eqvS, strC, eChain, Sl.isN, isNS, Sl.isB, isBS, toKey, inS, ixS, pNone, pSome, slS, eSl, eNeg, gets, eFn, one, lenS, absS, intF, seqS, listF, tupF, bools, allF, isKind, eMt, appM, popM, atI, argsOf, refsOf, nodupB, putBack, eCall, iSeq, iRng1', iRng2', zipD, iZip', enumD, iEnum', gNm, gsNil, gsCons, gTp, mSkip, mSeq, mBk, mCt, mIf, mDrop, mRetN, mRet, mAsg, mAsgG, mPar, putM, mSet, forL, mFor, wipeS, keepFz, restoreS, lcL, eLc, tYes', mask, fnS, eD0, dcL, eDc, sortF, eSortIt, tyN, isB, eIs, newOf, parked, eCallN, dictF, dictP, pick, eCallK, Sl.mt, addS_ap, subS_ap, mulI_ap, mulS_ap, modS_ap, fdivS_ap, powS_ap, intB_ap, ordS_ap, shaped_bool, shaped_int, shaped_none, eqv_bool, eqv_int, eqv_str, eqv_none, addT, catL, fs__law_is_word, m__law_is_word, nameD]

theorem nm_ok {x : Str} (h : nmB x = true) : okStr x := by
  have k : ∀ y ∈ good10, okStr y := by decide +kernel
  exact k x (of_decide_eq_true h)
theorem any_strs (kn : List Str) (x : Str) : ((strsOf kn).any fun z => PyData.eqv z (.str x)) = decide (x ∈ kn) := by
  induction kn with
  | nil => rfl
  | cons y ys ih =>
    show (PyData.eqv (.str y) (.str x) || (strsOf ys).any fun z => PyData.eqv z (.str x)) = _
    rw [ih, eqv_str]
    by_cases h : y = x
    · subst h; simp [eVar, eC, eBin, g2, Opd.get, tBl, truS, truO, tTr, tAnd', tOr', tNot', eAndT, eOrT, eNotT, eIf, frz, eFrz, aNil, aCons, allFz, disp, Sl.d, Sl.l, intS, catS, orG, repS, eqvS, strC, eChain, Sl.isN, isNS, Sl.isB, isBS, toKey, inS, ixS, pNone, pSome, slS, eSl, eNeg, gets, eFn, one, lenS, absS, intF, seqS, listF, tupF, bools, allF, isKind, eMt, appM, popM, atI, argsOf, refsOf, nodupB, putBack, eCall, iSeq, iRng1', iRng2', zipD, iZip', enumD, iEnum', gNm, gsNil, gsCons, gTp, mSkip, mSeq, mBk, mCt, mIf, mDrop, mRetN, mRet, mAsg, mAsgG, mPar, putM, mSet, forL, mFor, wipeS, keepFz, restoreS, lcL, eLc, tYes', mask, fnS, eD0, dcL, eDc, sortF, eSortIt, tyN, isB, eIs, newOf, parked, eCallN, dictF, dictP, pick, eCallK, Sl.mt, addS_ap, subS_ap, mulI_ap, mulS_ap, modS_ap, fdivS_ap, powS_ap, intB_ap, ordS_ap, shaped_bool, shaped_int, shaped_none, eqv_bool, eqv_int, eqv_str, eqv_none, addT, catL]
    · have h2 : ¬ x = y := fun z => h z.symm
      simp [eVar, eC, eBin, g2, Opd.get, tBl, truS, truO, tTr, tAnd', tOr', tNot', eAndT, eOrT, eNotT, eIf, frz, eFrz, aNil, aCons, allFz, disp, Sl.d, Sl.l, intS, catS, orG, repS, eqvS, strC, eChain, Sl.isN, isNS, Sl.isB, isBS, toKey, inS, ixS, pNone, pSome, slS, eSl, eNeg, gets, eFn, one, lenS, absS, intF, seqS, listF, tupF, bools, allF, isKind, eMt, appM, popM, atI, argsOf, refsOf, nodupB, putBack, eCall, iSeq, iRng1', iRng2', zipD, iZip', enumD, iEnum', gNm, gsNil, gsCons, gTp, mSkip, mSeq, mBk, mCt, mIf, mDrop, mRetN, mRet, mAsg, mAsgG, mPar, putM, mSet, forL, mFor, wipeS, keepFz, restoreS, lcL, eLc, tYes', mask, fnS, eD0, dcL, eDc, sortF, eSortIt, tyN, isB, eIs, newOf, parked, eCallN, dictF, dictP, pick, eCallK, Sl.mt, addS_ap, subS_ap, mulI_ap, mulS_ap, modS_ap, fdivS_ap, powS_ap, intB_ap, ordS_ap, shaped_bool, shaped_int, shaped_none, eqv_bool, eqv_int, eqv_str, eqv_none, addT, catL, h, h2]
theorem okB_soft : ∀ (n : Nat) (d : D), okB n d = true → okB n (soft d) = true ∧ szD (soft d) = szD d
  | 0, _, h => by cases h
  | n + 1, d, h => by
    have sq : ∀ xs : List D, xs.all (okB n) = true → (softs xs).all (okB n) = true ∧ szs (softs xs) = szs xs := fun xs h => by
      induction xs with
      | nil => exact ⟨rfl, rfl⟩
      | cons x xs ih =>
        rw [List.all_cons, Bool.and_eq_true] at h
        obtain ⟨a1, a2⟩ := okB_soft n x h.1
        obtain ⟨b1, b2⟩ := ih h.2
        refine ⟨?_, ?_⟩
        · show List.all (soft x :: softs xs) (okB n) = true
          rw [List.all_cons, a1, b1]; rfl
        · show szs (soft x :: softs xs) = _
          rw [szs, szs, a2, b2]
    cases d with
    | list xs => exact ⟨(sq xs h).1, by show szD (.list (softs xs)) = _; rw [szD, szD, (sq xs h).2]⟩
    | tuple xs => exact ⟨(sq xs h).1, by show szD (.list (softs xs)) = _; rw [szD, szD, (sq xs h).2]⟩
    | dict kvs => cases h
    | none => exact ⟨rfl, rfl⟩
    | bool b => exact ⟨rfl, rfl⟩
    | int i => exact ⟨h, rfl⟩
    | str x => exact ⟨h, rfl⟩
theorem left_in : ∀ x ∈ left12, decide (x ∈ strs10) = true := by decide +kernel
theorem row_okB {rows : List Row} (t : Tree rows) : ∀ row ∈ rows, okB 2 (rowD row) = true := fun row hr => by
  have h1 := left_in _ (t.nm _ (List.mem_map.mpr ⟨row, hr, rfl⟩))
  show List.all [PyData.str row.1, parD row.2.1, .bool row.2.2] (okB 1) = true
  rw [List.all_cons, List.all_cons, List.all_cons, List.all_nil]
  have e1 : okB 1 (.str row.1) = true := h1
  have e2 : okB 1 (parD row.2.1) = true := by
    cases hp : row.2.1 with
    | none => rfl
    | some p => exact left_in p (t.nm p (by simpa using wf_par rows [] t.w row hr p hp))
  rw [e1, e2]
  rfl
theorem row_sz (row : Row) : szD (rowD row) = 58 := by
  show szD (.tuple [.str row.1, parD row.2.1, .bool row.2.2]) = 58
  have e : szD (parD row.2.1) = 16 := by cases row.2.1 <;> rfl
  rw [szD, szs, szs, szs, szs, e]
  rfl
theorem rows_sz : ∀ rows : List Row, szs (rows.map rowD) = 60 * rows.length
  | [] => rfl
  | r :: rs => by rw [List.map_cons, szs, row_sz, rows_sz rs, List.length_cons]; omega

end L11

namespace L11
open PySem PySem.Spec L2 Sh


/-! ### a value with one thing in it changed -/
theorem cut_from {α : Type} (xs : List α) (k : Nat) : cut xs (some (k : Int)) none = xs.drop k := by
  unfold cut
  rw [HT.sIx_none]
  have e : HT.sIx xs.length 0 (some (k : Int)) = min k xs.length := HT.sIx_nat _ _ _
  rw [e, List.take_of_length_le (by rw [List.length_drop]; omega)]
  by_cases h : k ≤ xs.length
  · rw [Nat.min_eq_left h]
  · rw [Nat.min_eq_right (by omega), List.drop_eq_nil_of_le (Nat.le_refl _), List.drop_eq_nil_of_le (by omega)]
theorem szD_pos (d : D) : 4 ≤ szD d := by cases d <;> rw [szD] <;> omega
theorem szs_len6 : ∀ xs : List D, 6 * xs.length ≤ szs xs
  | [] => Nat.zero_le _
  | x :: xs => by
    have := szs_len6 xs
    have := szD_pos x
    rw [szs, List.length_cons]
    omega
theorem szs_take (xs : List D) (k : Nat) : szs (xs.take k) ≤ szs xs := by
  have := szs_cut xs k
  omega
theorem szs_drop (xs : List D) (k : Nat) : szs (xs.drop k) ≤ szs xs := by
  have := szs_cut xs k
  omega
theorem szs_cutle (xs : List D) (lo hi : Option Int) : szs (cut xs lo hi) ≤ szs xs := by
  unfold cut
  exact Nat.le_trans (szs_take _ _) (szs_drop _ _)
theorem cut_mem {xs : List D} {lo hi : Option Int} {x : D} (h : x ∈ cut xs lo hi) : x ∈ xs := by
  unfold cut at h
  exact List.mem_of_mem_drop (List.mem_of_mem_take h)
theorem all_cut {p : D → Bool} {xs : List D} (h : xs.all p = true) (lo hi : Option Int) : (cut xs lo hi).all p = true :=
  List.all_eq_true.mpr fun x hx => List.all_eq_true.mp h x (cut_mem hx)
theorem eqv_tnil (ds : List D) : PyData.eqv (.tuple ds) (.tuple []) = ds.isEmpty := by
  cases ds with
  | nil => rfl
  | cons x xs => rfl
def leafS (q r : Str) : List D := [.tuple [.str q, .str "a"], .str r]
def C16 (q r : Str) : List D := [.int 0, .int 1, .none, .bool true, .bool false, .str "", .str "a", .str "b", .str "zzzzzzzz", .str "zzzzzzzzz", .str "A", .str "a1", .str "a\n", .tuple [], .tuple [.str "a"], .tuple [.str q, .str "a"], .str r]
def E5 (ds : List D) : List D := [.list ds, .tuple (cut ds none (some (-1))), .tuple (ds ++ cut ds (some (-1)) none), .tuple ds.reverse, .tuple [.tuple ds]]
theorem c16_ok {q r : Str} (hq : q ∈ strs10) (hr : r ∈ strs10) : ∀ d ∈ C16 q r, okB 2 d = true ∧ szD d ≤ 60 := by
  have k : ∀ d ∈ [PyData.int 0, .int 1, .none, .bool true, .bool false, .str "", .str "a", .str "b", .str "zzzzzzzz", .str "zzzzzzzzz", .str "A", .str "a1", .str "a\n", .tuple [], .tuple [.str "a"]], okB 2 d = true ∧ szD d ≤ 60 := by decide +kernel
  intro d hd
  have hd : d ∈ [PyData.int 0, .int 1, .none, .bool true, .bool false, .str "", .str "a", .str "b", .str "zzzzzzzz", .str "zzzzzzzzz", .str "A", .str "a1", .str "a\n", .tuple [], .tuple [.str "a"]] ++ [PyData.tuple [.str q, .str "a"], .str r] := hd
  rcases List.mem_append.mp hd with h | h
  · exact k d h
  · simp only [List.mem_cons, List.not_mem_nil, or_false] at h
    have e1 : okB 1 (.str q) = true := decide_eq_true hq
    have e2 : okB 1 (.str r) = true := decide_eq_true hr
    have e3 : okB 1 (.str "a") = true := by decide +kernel
    rcases h with rfl | rfl
    · refine ⟨?_, ?_⟩
      · show List.all [PyData.str q, .str "a"] (okB 1) = true
        rw [List.all_cons, List.all_cons, List.all_nil, e1, e3]; rfl
      · rw [szD, szs, szs, szs, szD, szD]; decide
    · exact ⟨okB_mono 1 2 _ (by decide) e2, by rw [szD]; decide⟩
theorem e5_ok {n : Nat} {ds : List D} (h : ds.all (okB n) = true) : ∀ d ∈ E5 ds, okB (n + 2) d = true ∧ szD d ≤ 2 * szD (.tuple ds) + 60 := by
  have up : ∀ xs : List D, xs.all (okB n) = true → xs.all (okB (n + 1)) = true := fun xs h => List.all_eq_true.mpr fun x hx => okB_mono n (n + 1) x (by omega) (List.all_eq_true.mp h x hx)
  intro d hd
  unfold E5 at hd
  simp only [List.mem_cons, List.not_mem_nil, or_false] at hd
  rcases hd with rfl | rfl | rfl | rfl | rfl
  · exact ⟨up _ h, by rw [szD, szD]; omega⟩
  · refine ⟨up _ (all_cut h _ _), ?_⟩
    have := szs_cutle ds none (some (-1))
    rw [szD, szD]; omega
  · refine ⟨up _ (by rw [List.all_append, h, all_cut h]; rfl), ?_⟩
    have := szs_cutle ds (some (-1)) none
    rw [szD, szD, szs_app]; omega
  · refine ⟨up _ (by rw [List.all_reverse]; exact h), ?_⟩
    rw [szD, szD, szs_rev]; omega
  · refine ⟨?_, ?_⟩
    · show List.all [PyData.tuple ds] (okB (n + 1)) = true
      rw [List.all_cons, List.all_nil, Bool.and_true]
      exact h
    · rw [szD, szD, szs, szs, szD]; omega
theorem bent_leaf {q r : Str} (hq : q ∈ strs10) (hr : r ∈ strs10) (F : Nat) {s : Sl} {m : Nat} {d : D} (hb : Bx m s) (hm : m < 900000) (hd : ∀ ds, d ≠ .tuple ds) (hk : ∀ kvs, d ≠ .dict kvs) : ∃ d' s', fs__law_bent (F + 1) [s, .fz d, .fz (.list (leafS q r))] = some (.fz d', [s', .fz d, .fz (.list (leafS q r))]) ∧ d' ∈ C16 q r ∧ Bx (m + 1) s' := by
  obtain ⟨j, d', s', e1, e2, hb'⟩ := of_ok (t := .ow (C16 q r)) hb (by omega) (C16 q r) (.inr (.inr rfl)) (by unfold C16; simp [eVar, eC, eBin, g2, Opd.get, tBl, truS, truO, tTr, tAnd', tOr', tNot', eAndT, eOrT, eNotT, eIf, frz, eFrz, aNil, aCons, allFz, disp, Sl.d, Sl.l, intS, catS, orG, repS, eqvS, strC, eChain, Sl.isN, isNS, Sl.isB, isBS, toKey, inS, ixS, pNone, pSome, slS, eSl, eNeg, gets, eFn, one, lenS, absS, intF, seqS, listF, tupF, bools, allF, isKind, eMt, appM, popM, atI, argsOf, refsOf, nodupB, putBack, eCall, iSeq, iRng1', iRng2', zipD, iZip', enumD, iEnum', gNm, gsNil, gsCons, gTp, mSkip, mSeq, mBk, mCt, mIf, mDrop, mRetN, mRet, mAsg, mAsgG, mPar, putM, mSet, forL, mFor, wipeS, keepFz, restoreS, lcL, eLc, tYes', mask, fnS, eD0, dcL, eDc, sortF, eSortIt, tyN, isB, eIs, newOf, parked, eCallN, dictF, dictP, pick, eCallK, Sl.mt, addS_ap, subS_ap, mulI_ap, mulS_ap, modS_ap, fdivS_ap, powS_ap, intB_ap, ordS_ap, shaped_bool, shaped_int, shaped_none, eqv_bool, eqv_int, eqv_str, eqv_none, addT, catL, eRev, revS]) (by unfold C16; simp [eVar, eC, eBin, g2, Opd.get, tBl, truS, truO, tTr, tAnd', tOr', tNot', eAndT, eOrT, eNotT, eIf, frz, eFrz, aNil, aCons, allFz, disp, Sl.d, Sl.l, intS, catS, orG, repS, eqvS, strC, eChain, Sl.isN, isNS, Sl.isB, isBS, toKey, inS, ixS, pNone, pSome, slS, eSl, eNeg, gets, eFn, one, lenS, absS, intF, seqS, listF, tupF, bools, allF, isKind, eMt, appM, popM, atI, argsOf, refsOf, nodupB, putBack, eCall, iSeq, iRng1', iRng2', zipD, iZip', enumD, iEnum', gNm, gsNil, gsCons, gTp, mSkip, mSeq, mBk, mCt, mIf, mDrop, mRetN, mRet, mAsg, mAsgG, mPar, putM, mSet, forL, mFor, wipeS, keepFz, restoreS, lcL, eLc, tYes', mask, fnS, eD0, dcL, eDc, sortF, eSortIt, tyN, isB, eIs, newOf, parked, eCallN, dictF, dictP, pick, eCallK, Sl.mt, addS_ap, subS_ap, mulI_ap, mulS_ap, modS_ap, fdivS_ap, powS_ap, intB_ap, ordS_ap, shaped_bool, shaped_int, shaped_none, eqv_bool, eqv_int, eqv_str, eqv_none, addT, catL, eRev, revS])
  obtain ⟨b1, rfl⟩ := hb.ow
  obtain ⟨b2, rfl⟩ := hb'.ow
  refine ⟨d', .ow b2, ?_, List.mem_of_getElem? e1, hb'⟩
  unfold C16 at e2
  cases d with
  | tuple ds => exact (hd ds rfl).elim
  | dict kvs => exact (hk kvs rfl).elim
  | _ => simp [eVar, eC, eBin, g2, Opd.get, tBl, truS, truO, tTr, tAnd', tOr', tNot', eAndT, eOrT, eNotT, eIf, frz, eFrz, aNil, aCons, allFz, disp, Sl.d, Sl.l, intS, catS, orG, repS, eqvS, strC, eChain, Sl.isN, isNS, Sl.isB, isBS, toKey, inS, ixS, pNone, pSome, slS, eSl, eNeg, gets, eFn, one, lenS, absS, intF, seqS, listF, tupF, bools, allF, isKind, eMt, appM, popM, atI, argsOf, refsOf, nodupB, putBack, eCall, iSeq, iRng1', iRng2', zipD, iZip', enumD, iEnum', gNm, gsNil, gsCons, gTp, mSkip, mSeq, mBk, mCt, mIf, mDrop, mRetN, mRet, mAsg, mAsgG, mPar, putM, mSet, forL, mFor, wipeS, keepFz, restoreS, lcL, eLc, tYes', mask, fnS, eD0, dcL, eDc, sortF, eSortIt, tyN, isB, eIs, newOf, parked, eCallN, dictF, dictP, pick, eCallK, Sl.mt, addS_ap, subS_ap, mulI_ap, mulS_ap, modS_ap, fdivS_ap, powS_ap, intB_ap, ordS_ap, shaped_bool, shaped_int, shaped_none, eqv_bool, eqv_int, eqv_str, eqv_none, addT, catL, eRev, revS, fs__law_bent, m__law_bent, leafS, e2]
theorem bent_tup {q r : Str} (hq : q ∈ strs10) (hr : r ∈ strs10) (F : Nat) {s : Sl} {m n : Nat} {ds : List D} (h : ds.all (okB n) = true) (hn : n + 1 ≤ 64) (hz : szD (.tuple ds) ≤ 4000) (hb : Bx m s) (hm : m < 900000)
    (ih : ∀ x ∈ ds, ∀ s1, Bx (m + 2) s1 → ∃ d' s', fs__law_bent F [s1, .fz x, .fz (.list (leafS q r))] = some (.fz d', [s', .fz x, .fz (.list (leafS q r))]) ∧ okB (n + 1) d' = true ∧ szD d' ≤ 2 * szD x + 60 ∧ Bx (m + 2 + 3 * n) s') :
    ∃ d' s', fs__law_bent (F + 1) [s, .fz (.tuple ds), .fz (.list (leafS q r))] = some (.fz d', [s', .fz (.tuple ds), .fz (.list (leafS q r))]) ∧ okB (n + 2) d' = true ∧ szD d' ≤ 2 * szD (.tuple ds) + 60 ∧ Bx (m + 3 * (n + 1)) s' := by
  have sd : SeqAt.shaped (.tuple ds) = true := okD_shaped (okB_okD (n + 1) (.tuple ds) h (by omega)) hn
  have s2 : SeqAt.shaped (.tuple []) = true := by decide
  have l1 : ds.length ≤ 700 := by have := szs_len6 ds; rw [szD] at hz; omega
  have l0 : ds.length ≤ 100000 := by omega
  have l3 : ds.length + (cut ds (some (-1)) none).length ≤ 100000 := by have := cut_le ds (some (-1)) none; omega
  have pick : ∀ m2 s1, Bx m2 s1 → m2 < 950000 → ∃ d' s', fs__law_of [s1, .ow (C16 q r ++ E5 ds)] = some (.fz d', [s', .ow (C16 q r ++ E5 ds)]) ∧ okB (n + 2) d' = true ∧ szD d' ≤ 2 * szD (.tuple ds) + 60 ∧ Bx (m2 + 1) s' := fun m2 s1 hb1 hm2 => by
    obtain ⟨j, d', s', e1, e2, hb'⟩ := of_ok (t := .ow (C16 q r ++ E5 ds)) hb1 (by omega) (C16 q r ++ E5 ds) (.inr (.inr rfl)) (by rw [List.length_append]; exact Nat.lt_of_lt_of_le (by unfold C16; simp [eVar, eC, eBin, g2, Opd.get, tBl, truS, truO, tTr, tAnd', tOr', tNot', eAndT, eOrT, eNotT, eIf, frz, eFrz, aNil, aCons, allFz, disp, Sl.d, Sl.l, intS, catS, orG, repS, eqvS, strC, eChain, Sl.isN, isNS, Sl.isB, isBS, toKey, inS, ixS, pNone, pSome, slS, eSl, eNeg, gets, eFn, one, lenS, absS, intF, seqS, listF, tupF, bools, allF, isKind, eMt, appM, popM, atI, argsOf, refsOf, nodupB, putBack, eCall, iSeq, iRng1', iRng2', zipD, iZip', enumD, iEnum', gNm, gsNil, gsCons, gTp, mSkip, mSeq, mBk, mCt, mIf, mDrop, mRetN, mRet, mAsg, mAsgG, mPar, putM, mSet, forL, mFor, wipeS, keepFz, restoreS, lcL, eLc, tYes', mask, fnS, eD0, dcL, eDc, sortF, eSortIt, tyN, isB, eIs, newOf, parked, eCallN, dictF, dictP, pick, eCallK, Sl.mt, addS_ap, subS_ap, mulI_ap, mulS_ap, modS_ap, fdivS_ap, powS_ap, intB_ap, ordS_ap, shaped_bool, shaped_int, shaped_none, eqv_bool, eqv_int, eqv_str, eqv_none, addT, catL, eRev, revS] : 0 < (C16 q r).length) (Nat.le_add_right _ _)) (by
      rw [List.length_append]
      have a : (C16 q r).length = 17 := rfl
      have b : (E5 ds).length = 5 := rfl
      omega)
    refine ⟨d', s', e2, ?_, ?_, hb'⟩
    · rcases List.mem_append.mp (List.mem_of_getElem? e1) with q' | q'
      · exact okB_mono 2 (n + 2) d' (by omega) (c16_ok hq hr d' q').1
      · exact (e5_ok h d' q').1
    · rcases List.mem_append.mp (List.mem_of_getElem? e1) with q' | q'
      · have := (c16_ok hq hr d' q').2; omega
      · exact (e5_ok h d' q').2
  have ev := eqv_tnil ds
  cases he : ds.isEmpty with
  | true =>
    rw [he] at ev
    obtain ⟨d', s', e2, h1, h2, hb'⟩ := pick m s hb (by omega)
    obtain ⟨b1, rfl⟩ := hb.ow
    obtain ⟨b2, rfl⟩ := hb'.ow
    refine ⟨d', .ow b2, ?_, h1, h2, hb'.mono (by omega)⟩
    simp only [C16, E5, List.cons_append, List.nil_append] at e2
    simp [eVar, eC, eBin, g2, Opd.get, tBl, truS, truO, tTr, tAnd', tOr', tNot', eAndT, eOrT, eNotT, eIf, frz, eFrz, aNil, aCons, allFz, disp, Sl.d, Sl.l, intS, catS, orG, repS, eqvS, strC, eChain, Sl.isN, isNS, Sl.isB, isBS, toKey, inS, ixS, pNone, pSome, slS, eSl, eNeg, gets, eFn, one, lenS, absS, intF, seqS, listF, tupF, bools, allF, isKind, eMt, appM, popM, atI, argsOf, refsOf, nodupB, putBack, eCall, iSeq, iRng1', iRng2', zipD, iZip', enumD, iEnum', gNm, gsNil, gsCons, gTp, mSkip, mSeq, mBk, mCt, mIf, mDrop, mRetN, mRet, mAsg, mAsgG, mPar, putM, mSet, forL, mFor, wipeS, keepFz, restoreS, lcL, eLc, tYes', mask, fnS, eD0, dcL, eDc, sortF, eSortIt, tyN, isB, eIs, newOf, parked, eCallN, dictF, dictP, pick, eCallK, Sl.mt, addS_ap, subS_ap, mulI_ap, mulS_ap, modS_ap, fdivS_ap, powS_ap, intB_ap, ordS_ap, shaped_bool, shaped_int, shaped_none, eqv_bool, eqv_int, eqv_str, eqv_none, addT, catL, eRev, revS, fs__law_bent, m__law_bent, leafS, e2, sd, s2, ev, l0, l3, l1]
  | false =>
    rw [he] at ev
    have pos : 0 < ds.length := by
      cases ds with
      | nil => cases he
      | cons x xs => rw [List.length_cons]; omega
    obtain ⟨v, s1, e3, v1, v2, hb1⟩ := hb.take (by omega) (n := 5) (by omega) (by omega)
    by_cases hv : v = 0
    · subst hv
      obtain ⟨d', s', e2, h1, h2, hb'⟩ := pick (m + 1) s1 hb1 (by omega)
      obtain ⟨b1, rfl⟩ := hb.ow
      obtain ⟨b2, rfl⟩ := hb1.ow
      obtain ⟨b3, rfl⟩ := hb'.ow
      refine ⟨d', .ow b3, ?_, h1, h2, hb'.mono (by omega)⟩
      simp only [C16, E5, List.cons_append, List.nil_append] at e2
      simp [eVar, eC, eBin, g2, Opd.get, tBl, truS, truO, tTr, tAnd', tOr', tNot', eAndT, eOrT, eNotT, eIf, frz, eFrz, aNil, aCons, allFz, disp, Sl.d, Sl.l, intS, catS, orG, repS, eqvS, strC, eChain, Sl.isN, isNS, Sl.isB, isBS, toKey, inS, ixS, pNone, pSome, slS, eSl, eNeg, gets, eFn, one, lenS, absS, intF, seqS, listF, tupF, bools, allF, isKind, eMt, appM, popM, atI, argsOf, refsOf, nodupB, putBack, eCall, iSeq, iRng1', iRng2', zipD, iZip', enumD, iEnum', gNm, gsNil, gsCons, gTp, mSkip, mSeq, mBk, mCt, mIf, mDrop, mRetN, mRet, mAsg, mAsgG, mPar, putM, mSet, forL, mFor, wipeS, keepFz, restoreS, lcL, eLc, tYes', mask, fnS, eD0, dcL, eDc, sortF, eSortIt, tyN, isB, eIs, newOf, parked, eCallN, dictF, dictP, pick, eCallK, Sl.mt, addS_ap, subS_ap, mulI_ap, mulS_ap, modS_ap, fdivS_ap, powS_ap, intB_ap, ordS_ap, shaped_bool, shaped_int, shaped_none, eqv_bool, eqv_int, eqv_str, eqv_none, addT, catL, eRev, revS, fs__law_bent, m__law_bent, leafS, e2, e3, sd, s2, ev, l0, l3, l1]
    · have hv2 : 0 < v := by omega
      obtain ⟨k, s3, e4, k1, k2, hb3⟩ := hb1.take (by omega) (n := (ds.length : Int)) (by omega) (by omega)
      obtain ⟨j, rfl⟩ := Int.eq_ofNat_of_zero_le k1
      have hj : j < ds.length := by omega
      obtain ⟨d', s', e5, h1, h2, hb'⟩ := ih ds[j] (List.getElem_mem hj) s3 hb3
      obtain ⟨b1, rfl⟩ := hb.ow
      obtain ⟨b2, rfl⟩ := hb1.ow
      obtain ⟨b3, rfl⟩ := hb3.ow
      obtain ⟨b4, rfl⟩ := hb'.ow
      have e6 : atI ds (j : Int) = some ds[j] := (atI_nat' ds j).trans (List.getElem?_eq_getElem hj)
      have e7 := cut_to ds j
      have e8 := cut_from ds (j + 1)
      have e8 : cut ds (some ((j : Int) + 1)) none = ds.drop (j + 1) := e8
      have l4 : (ds.take j).length ≤ 100000 := by rw [List.length_take]; omega
      have l5 : j ≤ ds.length := by omega
      have l6 : min j ds.length ≤ 99999 := by omega
      have l7 : min j ds.length + 1 + (ds.length - (j + 1)) ≤ 100000 := by omega
      refine ⟨.tuple (ds.take j ++ [d'] ++ ds.drop (j + 1)), .ow b4, ?_, ?_, ?_, hb'.mono (by omega)⟩
      · unfold leafS at e5
        simp [eVar, eC, eBin, g2, Opd.get, tBl, truS, truO, tTr, tAnd', tOr', tNot', eAndT, eOrT, eNotT, eIf, frz, eFrz, aNil, aCons, allFz, disp, Sl.d, Sl.l, intS, catS, orG, repS, eqvS, strC, eChain, Sl.isN, isNS, Sl.isB, isBS, toKey, inS, ixS, pNone, pSome, slS, eSl, eNeg, gets, eFn, one, lenS, absS, intF, seqS, listF, tupF, bools, allF, isKind, eMt, appM, popM, argsOf, refsOf, nodupB, putBack, eCall, iSeq, iRng1', iRng2', zipD, iZip', enumD, iEnum', gNm, gsNil, gsCons, gTp, mSkip, mSeq, mBk, mCt, mIf, mDrop, mRetN, mRet, mAsg, mAsgG, mPar, putM, mSet, forL, mFor, wipeS, keepFz, restoreS, lcL, eLc, tYes', mask, fnS, eD0, dcL, eDc, sortF, eSortIt, tyN, isB, eIs, newOf, parked, eCallN, dictF, dictP, pick, eCallK, Sl.mt, addS_ap, subS_ap, mulI_ap, mulS_ap, modS_ap, fdivS_ap, powS_ap, intB_ap, ordS_ap, shaped_bool, shaped_int, shaped_none, eqv_bool, eqv_int, eqv_str, eqv_none, addT, catL, eRev, revS, fs__law_bent, m__law_bent, leafS, e3, e4, e5, e6, e7, e8, hv2, sd, s2, ev, l0, l1, l6, l7]
      · show List.all (ds.take j ++ [d'] ++ ds.drop (j + 1)) (okB (n + 1)) = true
        rw [List.all_append, List.all_append, List.all_cons, List.all_nil, h1]
        have up : ∀ x ∈ ds, okB (n + 1) x = true := fun x hx => okB_mono n (n + 1) x (by omega) (List.all_eq_true.mp h x hx)
        rw [List.all_eq_true.mpr fun x hx => up x (List.mem_of_mem_take hx), List.all_eq_true.mpr fun x hx => up x (List.mem_of_mem_drop hx)]
        rfl
      · have z := szs_cut ds j
        have z2 : ds.drop j = ds[j] :: ds.drop (j + 1) := (List.getElem_cons_drop hj).symm
        rw [z2, szs] at z
        rw [szD, szD, szs_app, szs_app, szs, szs]
        omega
theorem bent_ok {q r : Str} (hq : q ∈ strs10) (hr : r ∈ strs10) : ∀ (n F : Nat) (d : D) (m : Nat) (s : Sl), okB n d = true → n ≤ F → n ≤ 60 → szD d ≤ 4000 → Bx m s → m + 3 * n < 900000 →
    ∃ d' s', fs__law_bent F [s, .fz d, .fz (.list (leafS q r))] = some (.fz d', [s', .fz d, .fz (.list (leafS q r))]) ∧ okB (n + 1) d' = true ∧ szD d' ≤ 2 * szD d + 60 ∧ Bx (m + 3 * n) s'
  | 0, _, _, _, _, h, _, _, _, _, _ => by cases h
  | n + 1, 0, _, _, _, _, hF, _, _, _, _ => by omega
  | n + 1, F + 1, d, m, s, h, hF, hn, hz, hb, hm => by
    by_cases ht : ∃ ds, d = .tuple ds
    · obtain ⟨ds, rfl⟩ := ht
      have h : ds.all (okB n) = true := h
      exact bent_tup hq hr F h (by omega) hz hb (by omega) fun x hx s1 hb1 => by
        have := szs_mem hx
        rw [szD] at hz
        exact bent_ok hq hr n F x (m + 2) s1 (List.all_eq_true.mp h x hx) (by omega) (by omega) (by omega) hb1 (by omega)
    · obtain ⟨d', s', e, h1, h2⟩ := bent_leaf hq hr F hb (by omega) (fun ds e => ht ⟨ds, e⟩) (d := d) (fun kvs e => by subst e; cases h)
      have := c16_ok hq hr d' h1
      exact ⟨d', s', e, okB_mono 2 (n + 2) d' (by omega) this.1, by omega, h2.mono (by omega)⟩
end L11

namespace L11
open PySem PySem.Spec L2 Sh


/-! ### are_pairs -/
def outB (b : Bool) : Out := if b = true then .nx else .rt (.fz (.bool false))
def pairB : D → Option SP
  | .tuple [.str x, .str v] => if (nmB x && nmB v) = true then some (x, v) else none
  | _ => none
theorem pairB_some {d : D} {p : SP} (h : pairB d = some p) : d = pairD p ∧ nmB p.1 = true ∧ nmB p.2 = true := by
  unfold pairB at h
  split at h
  · rename_i x v
    split at h
    · rename_i c
      cases h
      rw [Bool.and_eq_true] at c
      exact ⟨rfl, c⟩
    · cases h
  · cases h
def ascL : Str → List D → Bool
  | _, [] => true
  | last, d :: ds => match pairB d with
    | some p => if last.cps.toList < p.1.cps.toList then ascL p.1 ds else false
    | none => false
theorem pairB_none2 {a b : D} (h : nameD a = false ∨ nameD b = false) : pairB (.tuple [a, b]) = none := by
  cases q : pairB (.tuple [a, b]) with
  | none => rfl
  | some p =>
    obtain ⟨e, h1, h2⟩ := pairB_some q
    cases e
    rcases h with h | h
    · rw [show nameD (.str p.1) = nmB p.1 from rfl, h1] at h; cases h
    · rw [show nameD (.str p.2) = nmB p.2 from rfl, h2] at h; cases h
theorem prog_bad {n : Nat} {d : D} (h : okB n d = true) (T : Sl) (last : Str) (q : pairB d = none) : lb_are_pairs_1 [T, .fz (.str last), .fz d, .un] = some (.rt (.fz (.bool false)), [T, .fz (.str last), .fz d, .un]) := by
  cases n with
  | zero => cases h
  | succ n =>
    cases d with
    | dict kvs => cases h
    | none => simp [eVar, eC, eBin, g2, Opd.get, tBl, truS, truO, tTr, tAnd', tOr', tNot', eAndT, eOrT, eNotT, eIf, frz, eFrz, aNil, aCons, allFz, disp, Sl.d, Sl.l, intS, catS, orG, repS, eqvS, strC, eChain, Sl.isN, isNS, Sl.isB, isBS, toKey, inS, ixS, pNone, pSome, slS, eSl, eNeg, gets, eFn, one, lenS, absS, intF, seqS, listF, tupF, bools, allF, isKind, eMt, appM, popM, atI, argsOf, refsOf, nodupB, putBack, eCall, iSeq, iRng1', iRng2', zipD, iZip', enumD, iEnum', gNm, gsNil, gsCons, gTp, mSkip, mSeq, mBk, mCt, mIf, mDrop, mRetN, mRet, mAsg, mAsgG, mPar, putM, mSet, forL, mFor, wipeS, keepFz, restoreS, lcL, eLc, tYes', mask, fnS, eD0, dcL, eDc, sortF, eSortIt, tyN, isB, eIs, newOf, parked, eCallN, dictF, dictP, pick, eCallK, Sl.mt, addS_ap, subS_ap, mulI_ap, mulS_ap, modS_ap, fdivS_ap, powS_ap, intB_ap, ordS_ap, shaped_bool, shaped_int, shaped_none, eqv_bool, eqv_int, eqv_str, eqv_none, addT, catL, lb_are_pairs_1]
    | bool b => simp [eVar, eC, eBin, g2, Opd.get, tBl, truS, truO, tTr, tAnd', tOr', tNot', eAndT, eOrT, eNotT, eIf, frz, eFrz, aNil, aCons, allFz, disp, Sl.d, Sl.l, intS, catS, orG, repS, eqvS, strC, eChain, Sl.isN, isNS, Sl.isB, isBS, toKey, inS, ixS, pNone, pSome, slS, eSl, eNeg, gets, eFn, one, lenS, absS, intF, seqS, listF, tupF, bools, allF, isKind, eMt, appM, popM, atI, argsOf, refsOf, nodupB, putBack, eCall, iSeq, iRng1', iRng2', zipD, iZip', enumD, iEnum', gNm, gsNil, gsCons, gTp, mSkip, mSeq, mBk, mCt, mIf, mDrop, mRetN, mRet, mAsg, mAsgG, mPar, putM, mSet, forL, mFor, wipeS, keepFz, restoreS, lcL, eLc, tYes', mask, fnS, eD0, dcL, eDc, sortF, eSortIt, tyN, isB, eIs, newOf, parked, eCallN, dictF, dictP, pick, eCallK, Sl.mt, addS_ap, subS_ap, mulI_ap, mulS_ap, modS_ap, fdivS_ap, powS_ap, intB_ap, ordS_ap, shaped_bool, shaped_int, shaped_none, eqv_bool, eqv_int, eqv_str, eqv_none, addT, catL, lb_are_pairs_1]
    | int i => simp [eVar, eC, eBin, g2, Opd.get, tBl, truS, truO, tTr, tAnd', tOr', tNot', eAndT, eOrT, eNotT, eIf, frz, eFrz, aNil, aCons, allFz, disp, Sl.d, Sl.l, intS, catS, orG, repS, eqvS, strC, eChain, Sl.isN, isNS, Sl.isB, isBS, toKey, inS, ixS, pNone, pSome, slS, eSl, eNeg, gets, eFn, one, lenS, absS, intF, seqS, listF, tupF, bools, allF, isKind, eMt, appM, popM, atI, argsOf, refsOf, nodupB, putBack, eCall, iSeq, iRng1', iRng2', zipD, iZip', enumD, iEnum', gNm, gsNil, gsCons, gTp, mSkip, mSeq, mBk, mCt, mIf, mDrop, mRetN, mRet, mAsg, mAsgG, mPar, putM, mSet, forL, mFor, wipeS, keepFz, restoreS, lcL, eLc, tYes', mask, fnS, eD0, dcL, eDc, sortF, eSortIt, tyN, isB, eIs, newOf, parked, eCallN, dictF, dictP, pick, eCallK, Sl.mt, addS_ap, subS_ap, mulI_ap, mulS_ap, modS_ap, fdivS_ap, powS_ap, intB_ap, ordS_ap, shaped_bool, shaped_int, shaped_none, eqv_bool, eqv_int, eqv_str, eqv_none, addT, catL, lb_are_pairs_1]
    | str x => simp [eVar, eC, eBin, g2, Opd.get, tBl, truS, truO, tTr, tAnd', tOr', tNot', eAndT, eOrT, eNotT, eIf, frz, eFrz, aNil, aCons, allFz, disp, Sl.d, Sl.l, intS, catS, orG, repS, eqvS, strC, eChain, Sl.isN, isNS, Sl.isB, isBS, toKey, inS, ixS, pNone, pSome, slS, eSl, eNeg, gets, eFn, one, lenS, absS, intF, seqS, listF, tupF, bools, allF, isKind, eMt, appM, popM, atI, argsOf, refsOf, nodupB, putBack, eCall, iSeq, iRng1', iRng2', zipD, iZip', enumD, iEnum', gNm, gsNil, gsCons, gTp, mSkip, mSeq, mBk, mCt, mIf, mDrop, mRetN, mRet, mAsg, mAsgG, mPar, putM, mSet, forL, mFor, wipeS, keepFz, restoreS, lcL, eLc, tYes', mask, fnS, eD0, dcL, eDc, sortF, eSortIt, tyN, isB, eIs, newOf, parked, eCallN, dictF, dictP, pick, eCallK, Sl.mt, addS_ap, subS_ap, mulI_ap, mulS_ap, modS_ap, fdivS_ap, powS_ap, intB_ap, ordS_ap, shaped_bool, shaped_int, shaped_none, eqv_bool, eqv_int, eqv_str, eqv_none, addT, catL, lb_are_pairs_1]
    | list ds => simp [eVar, eC, eBin, g2, Opd.get, tBl, truS, truO, tTr, tAnd', tOr', tNot', eAndT, eOrT, eNotT, eIf, frz, eFrz, aNil, aCons, allFz, disp, Sl.d, Sl.l, intS, catS, orG, repS, eqvS, strC, eChain, Sl.isN, isNS, Sl.isB, isBS, toKey, inS, ixS, pNone, pSome, slS, eSl, eNeg, gets, eFn, one, lenS, absS, intF, seqS, listF, tupF, bools, allF, isKind, eMt, appM, popM, atI, argsOf, refsOf, nodupB, putBack, eCall, iSeq, iRng1', iRng2', zipD, iZip', enumD, iEnum', gNm, gsNil, gsCons, gTp, mSkip, mSeq, mBk, mCt, mIf, mDrop, mRetN, mRet, mAsg, mAsgG, mPar, putM, mSet, forL, mFor, wipeS, keepFz, restoreS, lcL, eLc, tYes', mask, fnS, eD0, dcL, eDc, sortF, eSortIt, tyN, isB, eIs, newOf, parked, eCallN, dictF, dictP, pick, eCallK, Sl.mt, addS_ap, subS_ap, mulI_ap, mulS_ap, modS_ap, fdivS_ap, powS_ap, intB_ap, ordS_ap, shaped_bool, shaped_int, shaped_none, eqv_bool, eqv_int, eqv_str, eqv_none, addT, catL, lb_are_pairs_1]
    | tuple ds =>
      have h : ds.all (okB n) = true := h
      match ds, h with
      | [], _ => simp [eVar, eC, eBin, g2, Opd.get, tBl, truS, truO, tTr, tAnd', tOr', tNot', eAndT, eOrT, eNotT, eIf, frz, eFrz, aNil, aCons, allFz, disp, Sl.d, Sl.l, intS, catS, orG, repS, eqvS, strC, eChain, Sl.isN, isNS, Sl.isB, isBS, toKey, inS, ixS, pNone, pSome, slS, eSl, eNeg, gets, eFn, one, lenS, absS, intF, seqS, listF, tupF, bools, allF, isKind, eMt, appM, popM, atI, argsOf, refsOf, nodupB, putBack, eCall, iSeq, iRng1', iRng2', zipD, iZip', enumD, iEnum', gNm, gsNil, gsCons, gTp, mSkip, mSeq, mBk, mCt, mIf, mDrop, mRetN, mRet, mAsg, mAsgG, mPar, putM, mSet, forL, mFor, wipeS, keepFz, restoreS, lcL, eLc, tYes', mask, fnS, eD0, dcL, eDc, sortF, eSortIt, tyN, isB, eIs, newOf, parked, eCallN, dictF, dictP, pick, eCallK, Sl.mt, addS_ap, subS_ap, mulI_ap, mulS_ap, modS_ap, fdivS_ap, powS_ap, intB_ap, ordS_ap, shaped_bool, shaped_int, shaped_none, eqv_bool, eqv_int, eqv_str, eqv_none, addT, catL, lb_are_pairs_1]
      | [_], _ => simp [eVar, eC, eBin, g2, Opd.get, tBl, truS, truO, tTr, tAnd', tOr', tNot', eAndT, eOrT, eNotT, eIf, frz, eFrz, aNil, aCons, allFz, disp, Sl.d, Sl.l, intS, catS, orG, repS, eqvS, strC, eChain, Sl.isN, isNS, Sl.isB, isBS, toKey, inS, ixS, pNone, pSome, slS, eSl, eNeg, gets, eFn, one, lenS, absS, intF, seqS, listF, tupF, bools, allF, isKind, eMt, appM, popM, atI, argsOf, refsOf, nodupB, putBack, eCall, iSeq, iRng1', iRng2', zipD, iZip', enumD, iEnum', gNm, gsNil, gsCons, gTp, mSkip, mSeq, mBk, mCt, mIf, mDrop, mRetN, mRet, mAsg, mAsgG, mPar, putM, mSet, forL, mFor, wipeS, keepFz, restoreS, lcL, eLc, tYes', mask, fnS, eD0, dcL, eDc, sortF, eSortIt, tyN, isB, eIs, newOf, parked, eCallN, dictF, dictP, pick, eCallK, Sl.mt, addS_ap, subS_ap, mulI_ap, mulS_ap, modS_ap, fdivS_ap, powS_ap, intB_ap, ordS_ap, shaped_bool, shaped_int, shaped_none, eqv_bool, eqv_int, eqv_str, eqv_none, addT, catL, lb_are_pairs_1]
      | a :: b :: c :: es, _ =>
        have ne : ((es.length : Int) + 1 + 1 + 1 == 2) = false := by
          rw [beq_eq_false_iff_ne]
          omega
        simp [eVar, eC, eBin, g2, Opd.get, tBl, truS, truO, tTr, tAnd', tOr', tNot', eAndT, eOrT, eNotT, eIf, frz, eFrz, aNil, aCons, allFz, disp, Sl.d, Sl.l, intS, catS, orG, repS, eqvS, strC, eChain, Sl.isN, isNS, Sl.isB, isBS, toKey, inS, ixS, pNone, pSome, slS, eSl, eNeg, gets, eFn, one, lenS, absS, intF, seqS, listF, tupF, bools, allF, isKind, eMt, appM, popM, atI, argsOf, refsOf, nodupB, putBack, eCall, iSeq, iRng1', iRng2', zipD, iZip', enumD, iEnum', gNm, gsNil, gsCons, gTp, mSkip, mSeq, mBk, mCt, mIf, mDrop, mRetN, mRet, mAsg, mAsgG, mPar, putM, mSet, forL, mFor, wipeS, keepFz, restoreS, lcL, eLc, tYes', mask, fnS, eD0, dcL, eDc, sortF, eSortIt, tyN, isB, eIs, newOf, parked, eCallN, dictF, dictP, pick, eCallK, Sl.mt, addS_ap, subS_ap, mulI_ap, mulS_ap, modS_ap, fdivS_ap, powS_ap, intB_ap, ordS_ap, shaped_bool, shaped_int, shaped_none, eqv_bool, eqv_int, eqv_str, eqv_none, addT, catL, lb_are_pairs_1, ne]
      | [a, b], h =>
        simp only [List.all_cons, List.all_nil, Bool.and_true, Bool.and_eq_true] at h
        have e1 := name_d h.1
        have e2 := name_d h.2
        cases ha : nameD a with
        | false => rw [ha] at e1; cases hb : nameD b <;> rw [hb] at e2 <;> simp [eVar, eC, eBin, g2, Opd.get, tBl, truS, truO, tTr, tAnd', tOr', tNot', eAndT, eOrT, eNotT, eIf, frz, eFrz, aNil, aCons, allFz, disp, Sl.d, Sl.l, intS, catS, orG, repS, eqvS, strC, eChain, Sl.isN, isNS, Sl.isB, isBS, toKey, inS, ixS, pNone, pSome, slS, eSl, eNeg, gets, eFn, one, lenS, absS, intF, seqS, listF, tupF, bools, allF, isKind, eMt, appM, popM, atI, argsOf, refsOf, nodupB, putBack, eCall, iSeq, iRng1', iRng2', zipD, iZip', enumD, iEnum', gNm, gsNil, gsCons, gTp, mSkip, mSeq, mBk, mCt, mIf, mDrop, mRetN, mRet, mAsg, mAsgG, mPar, putM, mSet, forL, mFor, wipeS, keepFz, restoreS, lcL, eLc, tYes', mask, fnS, eD0, dcL, eDc, sortF, eSortIt, tyN, isB, eIs, newOf, parked, eCallN, dictF, dictP, pick, eCallK, Sl.mt, addS_ap, subS_ap, mulI_ap, mulS_ap, modS_ap, fdivS_ap, powS_ap, intB_ap, ordS_ap, shaped_bool, shaped_int, shaped_none, eqv_bool, eqv_int, eqv_str, eqv_none, addT, catL, lb_are_pairs_1, e1, e2]
        | true =>
          cases hb : nameD b with
          | false => rw [ha] at e1; rw [hb] at e2; simp [eVar, eC, eBin, g2, Opd.get, tBl, truS, truO, tTr, tAnd', tOr', tNot', eAndT, eOrT, eNotT, eIf, frz, eFrz, aNil, aCons, allFz, disp, Sl.d, Sl.l, intS, catS, orG, repS, eqvS, strC, eChain, Sl.isN, isNS, Sl.isB, isBS, toKey, inS, ixS, pNone, pSome, slS, eSl, eNeg, gets, eFn, one, lenS, absS, intF, seqS, listF, tupF, bools, allF, isKind, eMt, appM, popM, atI, argsOf, refsOf, nodupB, putBack, eCall, iSeq, iRng1', iRng2', zipD, iZip', enumD, iEnum', gNm, gsNil, gsCons, gTp, mSkip, mSeq, mBk, mCt, mIf, mDrop, mRetN, mRet, mAsg, mAsgG, mPar, putM, mSet, forL, mFor, wipeS, keepFz, restoreS, lcL, eLc, tYes', mask, fnS, eD0, dcL, eDc, sortF, eSortIt, tyN, isB, eIs, newOf, parked, eCallN, dictF, dictP, pick, eCallK, Sl.mt, addS_ap, subS_ap, mulI_ap, mulS_ap, modS_ap, fdivS_ap, powS_ap, intB_ap, ordS_ap, shaped_bool, shaped_int, shaped_none, eqv_bool, eqv_int, eqv_str, eqv_none, addT, catL, lb_are_pairs_1, e1, e2]
          | true =>
            cases a with
            | str x =>
              cases b with
              | str v =>
                have c : (nmB x && nmB v) = true := by rw [Bool.and_eq_true]; exact ⟨ha, hb⟩
                have : pairB (.tuple [.str x, .str v]) = some (x, v) := by show (if (nmB x && nmB v) = true then some (x, v) else none) = _; rw [if_pos c]
                rw [this] at q
                cases q
              | _ => cases hb
            | _ => cases ha
theorem nm_in {x : Str} (h : nmB x = true) : x ∈ strs10 := by
  have k : ∀ y ∈ good10, y ∈ strs10 := by decide +kernel
  exact k x (of_decide_eq_true h)
theorem prog_good {p : SP} (h1 : nmB p.1 = true) (h2 : nmB p.2 = true) (T : Sl) (last : Str) : lb_are_pairs_1 [T, .fz (.str last), .fz (pairD p), .un] =
    some (if last.cps.toList < p.1.cps.toList then (.nx, [T, .fz (.str p.1), .fz (pairD p), .un]) else (.rt (.fz (.bool false)), [T, .fz (.str last), .fz (pairD p), .un])) := by
  have e1 := name_str p.1 (nm_in h1)
  have e2 := name_str p.2 (nm_in h2)
  rw [h1] at e1
  rw [h2] at e2
  have z0 : ∀ x y : D, atI [x, y] 0 = some x := fun _ _ => rfl
  by_cases lt : last.cps.toList < p.1.cps.toList
  · rw [if_pos lt]
    simp [eVar, eC, eBin, g2, Opd.get, tBl, truS, truO, tTr, tAnd', tOr', tNot', eAndT, eOrT, eNotT, eIf, frz, eFrz, aNil, aCons, allFz, disp, Sl.d, Sl.l, intS, catS, orG, repS, eqvS, strC, eChain, Sl.isN, isNS, Sl.isB, isBS, toKey, inS, ixS, pNone, pSome, slS, eSl, eNeg, gets, eFn, one, lenS, absS, intF, seqS, listF, tupF, bools, allF, isKind, eMt, appM, popM, argsOf, refsOf, nodupB, putBack, eCall, iSeq, iRng1', iRng2', zipD, iZip', enumD, iEnum', gNm, gsNil, gsCons, gTp, mSkip, mSeq, mBk, mCt, mIf, mDrop, mRetN, mRet, mAsg, mAsgG, mPar, putM, mSet, forL, mFor, wipeS, keepFz, restoreS, lcL, eLc, tYes', mask, fnS, eD0, dcL, eDc, sortF, eSortIt, tyN, isB, eIs, newOf, parked, eCallN, dictF, dictP, pick, eCallK, Sl.mt, addS_ap, subS_ap, mulI_ap, mulS_ap, modS_ap, fdivS_ap, powS_ap, intB_ap, ordS_ap, shaped_bool, shaped_int, shaped_none, eqv_bool, eqv_int, eqv_str, eqv_none, addT, catL, lb_are_pairs_1, pairD, e1, e2, z0, lt]
  · rw [if_neg lt]
    have le : p.1.cps.toList ≤ last.cps.toList := List.not_lt.mp lt
    simp [eVar, eC, eBin, g2, Opd.get, tBl, truS, truO, tTr, tAnd', tOr', tNot', eAndT, eOrT, eNotT, eIf, frz, eFrz, aNil, aCons, allFz, disp, Sl.d, Sl.l, intS, catS, orG, repS, eqvS, strC, eChain, Sl.isN, isNS, Sl.isB, isBS, toKey, inS, ixS, pNone, pSome, slS, eSl, eNeg, gets, eFn, one, lenS, absS, intF, seqS, listF, tupF, bools, allF, isKind, eMt, appM, popM, argsOf, refsOf, nodupB, putBack, eCall, iSeq, iRng1', iRng2', zipD, iZip', enumD, iEnum', gNm, gsNil, gsCons, gTp, mSkip, mSeq, mBk, mCt, mIf, mDrop, mRetN, mRet, mAsg, mAsgG, mPar, putM, mSet, forL, mFor, wipeS, keepFz, restoreS, lcL, eLc, tYes', mask, fnS, eD0, dcL, eDc, sortF, eSortIt, tyN, isB, eIs, newOf, parked, eCallN, dictF, dictP, pick, eCallK, Sl.mt, addS_ap, subS_ap, mulI_ap, mulS_ap, modS_ap, fdivS_ap, powS_ap, intB_ap, ordS_ap, shaped_bool, shaped_int, shaped_none, eqv_bool, eqv_int, eqv_str, eqv_none, addT, catL, lb_are_pairs_1, pairD, e1, e2, z0, lt, le]
theorem prog_loop {n : Nat} (T : Sl) : ∀ (ds : List D) (last : Str) (a : Sl), (∀ d ∈ ds, okB n d = true) → ∃ l a', forL (gNm 2) lb_are_pairs_1 ds [T, .fz (.str last), a, .un] = some (outB (ascL last ds), [T, l, a', .un])
  | [], last, a, _ => ⟨_, _, rfl⟩
  | d :: ds, last, a, h => by
    have step : forL (gNm 2) lb_are_pairs_1 (d :: ds) [T, .fz (.str last), a, .un] = (match lb_are_pairs_1 [T, .fz (.str last), .fz d, .un] with
        | some (.nx, st2) => forL (gNm 2) lb_are_pairs_1 ds st2
        | some (.ct, st2) => forL (gNm 2) lb_are_pairs_1 ds st2
        | some (.bk, st2) => some (.nx, st2)
        | some (.rt z, st2) => some (.rt z, st2)
        | none => none) := rfl
    rw [step]
    cases q : pairB d with
    | none =>
      rw [prog_bad (h d List.mem_cons_self) T last q]
      refine ⟨.fz (.str last), .fz d, ?_⟩
      simp only [ascL, q]
      rfl
    | some p =>
      obtain ⟨rfl, h1, h2⟩ := pairB_some q
      rw [prog_good h1 h2 T last]
      by_cases lt : last.cps.toList < p.1.cps.toList
      · rw [if_pos lt]
        obtain ⟨l, a', e⟩ := prog_loop (n := n) T ds p.1 (.fz (pairD p)) fun y hy => h y (List.mem_cons_of_mem _ hy)
        refine ⟨l, a', ?_⟩
        simp only [ascL, q, if_pos lt]
        exact e
      · rw [if_neg lt]
        refine ⟨.fz (.str last), .fz (pairD p), ?_⟩
        simp only [ascL, q, if_neg lt]
        rfl
def arePB : D → Bool
  | .tuple ds => ascL "" ds
  | _ => false
theorem are_pairs_d {n : Nat} {d : D} (h : okB n d = true) (hz : szD d ≤ 90000) : fs_are_pairs [.fz d] = some (.fz (.bool (arePB d)), [.fz d]) := by
  cases n with
  | zero => cases h
  | succ n =>
    cases d with
    | dict kvs => cases h
    | tuple ds =>
      have h : ds.all (okB n) = true := h
      have l1 := szs_len ds
      have l2 : ds.length ≤ 100000 := by rw [szD] at hz; omega
      obtain ⟨l, a', e⟩ := prog_loop (n := n) (.fz (.tuple ds)) ds "" .un (List.all_eq_true.mp h)
      cases q : ascL "" ds <;> rw [q] at e <;> simp [eVar, eC, eBin, g2, Opd.get, tBl, truS, truO, tTr, tAnd', tOr', tNot', eAndT, eOrT, eNotT, eIf, frz, eFrz, aNil, aCons, allFz, disp, Sl.d, Sl.l, intS, catS, orG, repS, eqvS, strC, eChain, Sl.isN, isNS, Sl.isB, isBS, toKey, inS, ixS, pNone, pSome, slS, eSl, eNeg, gets, eFn, one, lenS, absS, intF, seqS, listF, tupF, bools, allF, isKind, eMt, appM, popM, atI, argsOf, refsOf, nodupB, putBack, eCall, iSeq, iRng1', iRng2', zipD, iZip', enumD, iEnum', gNm, gsNil, gsCons, gTp, mSkip, mSeq, mBk, mCt, mIf, mDrop, mRetN, mRet, mAsg, mAsgG, mPar, putM, mSet, mFor, wipeS, keepFz, restoreS, lcL, eLc, tYes', mask, fnS, eD0, dcL, eDc, sortF, eSortIt, tyN, isB, eIs, newOf, parked, eCallN, dictF, dictP, pick, eCallK, Sl.mt, addS_ap, subS_ap, mulI_ap, mulS_ap, modS_ap, fdivS_ap, powS_ap, intB_ap, ordS_ap, shaped_bool, shaped_int, shaped_none, eqv_bool, eqv_int, eqv_str, eqv_none, addT, catL, fs_are_pairs, m_are_pairs, arePB, l2, e, q, outB]
    | _ => simp [eVar, eC, eBin, g2, Opd.get, tBl, truS, truO, tTr, tAnd', tOr', tNot', eAndT, eOrT, eNotT, eIf, frz, eFrz, aNil, aCons, allFz, disp, Sl.d, Sl.l, intS, catS, orG, repS, eqvS, strC, eChain, Sl.isN, isNS, Sl.isB, isBS, toKey, inS, ixS, pNone, pSome, slS, eSl, eNeg, gets, eFn, one, lenS, absS, intF, seqS, listF, tupF, bools, allF, isKind, eMt, appM, popM, atI, argsOf, refsOf, nodupB, putBack, eCall, iSeq, iRng1', iRng2', zipD, iZip', enumD, iEnum', gNm, gsNil, gsCons, gTp, mSkip, mSeq, mBk, mCt, mIf, mDrop, mRetN, mRet, mAsg, mAsgG, mPar, putM, mSet, forL, mFor, wipeS, keepFz, restoreS, lcL, eLc, tYes', mask, fnS, eD0, dcL, eDc, sortF, eSortIt, tyN, isB, eIs, newOf, parked, eCallN, dictF, dictP, pick, eCallK, Sl.mt, addS_ap, subS_ap, mulI_ap, mulS_ap, modS_ap, fdivS_ap, powS_ap, intB_ap, ordS_ap, shaped_bool, shaped_int, shaped_none, eqv_bool, eqv_int, eqv_str, eqv_none, addT, catL, fs_are_pairs, m_are_pairs, arePB]
end L11

namespace L11
open PySem PySem.Spec L2 Sh


/-! ### texts in order, none twice -/
def StrL (xs : List Str) : Prop := xs.Pairwise fun a b => a.cps.toList < b.cps.toList
instance (xs : List Str) : Decidable (StrL xs) := by unfold StrL; exact inferInstance
theorem fold_nodup : ∀ (xs ks : List Str), ks.Nodup → (xs.foldl addS1 ks).Nodup
  | [], ks, h => h
  | x :: xs, ks, h => by
    show (xs.foldl addS1 (addS1 ks x)).Nodup
    refine fold_nodup xs _ ?_
    unfold addS1
    split
    · exact h
    · rename_i hx
      rw [List.nodup_append]
      exact ⟨h, by simp [eVar, eC, eBin, g2, Opd.get, tBl, truS, truO, tTr, tAnd', tOr', tNot', eAndT, eOrT, eNotT, eIf, frz, eFrz, aNil, aCons, allFz, disp, Sl.d, Sl.l, intS, catS, orG, repS, eqvS, strC, eChain, Sl.isN, isNS, Sl.isB, isBS, toKey, inS, ixS, pNone, pSome, slS, eSl, eNeg, gets, eFn, one, lenS, absS, intF, seqS, listF, tupF, bools, allF, isKind, eMt, appM, popM, atI, argsOf, refsOf, nodupB, putBack, eCall, iSeq, iRng1', iRng2', zipD, iZip', enumD, iEnum', gNm, gsNil, gsCons, gTp, mSkip, mSeq, mBk, mCt, mIf, mDrop, mRetN, mRet, mAsg, mAsgG, mPar, putM, mSet, forL, mFor, wipeS, keepFz, restoreS, lcL, eLc, tYes', mask, fnS, eD0, dcL, eDc, sortF, eSortIt, tyN, isB, eIs, newOf, parked, eCallN, dictF, dictP, pick, eCallK, Sl.mt, addS_ap, subS_ap, mulI_ap, mulS_ap, modS_ap, fdivS_ap, powS_ap, intB_ap, ordS_ap, shaped_bool, shaped_int, shaped_none, eqv_bool, eqv_int, eqv_str, eqv_none, addT, catL], fun a ha b hb e => by rw [List.mem_singleton.mp hb] at e; rw [e] at ha; exact hx ha⟩
theorem fold_fix : ∀ (xs ks : List Str), (ks ++ xs).Nodup → xs.foldl addS1 ks = ks ++ xs
  | [], ks, _ => by simp [eVar, eC, eBin, g2, Opd.get, tBl, truS, truO, tTr, tAnd', tOr', tNot', eAndT, eOrT, eNotT, eIf, frz, eFrz, aNil, aCons, allFz, disp, Sl.d, Sl.l, intS, catS, orG, repS, eqvS, strC, eChain, Sl.isN, isNS, Sl.isB, isBS, toKey, inS, ixS, pNone, pSome, slS, eSl, eNeg, gets, eFn, one, lenS, absS, intF, seqS, listF, tupF, bools, allF, isKind, eMt, appM, popM, atI, argsOf, refsOf, nodupB, putBack, eCall, iSeq, iRng1', iRng2', zipD, iZip', enumD, iEnum', gNm, gsNil, gsCons, gTp, mSkip, mSeq, mBk, mCt, mIf, mDrop, mRetN, mRet, mAsg, mAsgG, mPar, putM, mSet, forL, mFor, wipeS, keepFz, restoreS, lcL, eLc, tYes', mask, fnS, eD0, dcL, eDc, sortF, eSortIt, tyN, isB, eIs, newOf, parked, eCallN, dictF, dictP, pick, eCallK, Sl.mt, addS_ap, subS_ap, mulI_ap, mulS_ap, modS_ap, fdivS_ap, powS_ap, intB_ap, ordS_ap, shaped_bool, shaped_int, shaped_none, eqv_bool, eqv_int, eqv_str, eqv_none, addT, catL]
  | x :: xs, ks, h => by
    show xs.foldl addS1 (addS1 ks x) = _
    have hx : x ∉ ks := fun z => by
      rw [List.nodup_append] at h
      exact h.2.2 x z x List.mem_cons_self rfl
    have e : addS1 ks x = ks ++ [x] := by unfold addS1; rw [if_neg hx]
    rw [e, fold_fix xs (ks ++ [x]) (by simpa using h)]
    simp [eVar, eC, eBin, g2, Opd.get, tBl, truS, truO, tTr, tAnd', tOr', tNot', eAndT, eOrT, eNotT, eIf, frz, eFrz, aNil, aCons, allFz, disp, Sl.d, Sl.l, intS, catS, orG, repS, eqvS, strC, eChain, Sl.isN, isNS, Sl.isB, isBS, toKey, inS, ixS, pNone, pSome, slS, eSl, eNeg, gets, eFn, one, lenS, absS, intF, seqS, listF, tupF, bools, allF, isKind, eMt, appM, popM, atI, argsOf, refsOf, nodupB, putBack, eCall, iSeq, iRng1', iRng2', zipD, iZip', enumD, iEnum', gNm, gsNil, gsCons, gTp, mSkip, mSeq, mBk, mCt, mIf, mDrop, mRetN, mRet, mAsg, mAsgG, mPar, putM, mSet, forL, mFor, wipeS, keepFz, restoreS, lcL, eLc, tYes', mask, fnS, eD0, dcL, eDc, sortF, eSortIt, tyN, isB, eIs, newOf, parked, eCallN, dictF, dictP, pick, eCallK, Sl.mt, addS_ap, subS_ap, mulI_ap, mulS_ap, modS_ap, fdivS_ap, powS_ap, intB_ap, ordS_ap, shaped_bool, shaped_int, shaped_none, eqv_bool, eqv_int, eqv_str, eqv_none, addT, catL]
theorem str_nodup {xs : List Str} (h : StrL xs) : xs.Nodup := h.imp fun {a b} l e => by
  subst e
  exact List.lt_irrefl _ l
theorem sort_fix (xs : List Str) : (xs = sortSt (dedL xs)) ↔ StrL xs := by
  constructor
  · intro h
    have p := sortSt_le (dedL xs)
    have n : (sortSt (dedL xs)).Nodup := (sortSt_perm (dedL xs)).nodup_iff.mpr (fold_nodup xs [] List.nodup_nil)
    rw [← h] at p n
    have both := pairwise_and p n
    refine both.imp fun {a b} ⟨h1, h2⟩ => ?_
    have l := (leStr_iff a b).mp h1
    rcases List.le_iff_lt_or_eq.mp l with z | z
    · exact z
    · exact (h2 (str_ext z)).elim
  · intro h
    have n := str_nodup h
    have e : dedL xs = xs := by
      unfold dedL
      rw [fold_fix xs [] (by simpa using n)]
      rfl
    rw [e]
    unfold sortSt
    exact (List.mergeSort_of_pairwise (h.imp fun {a b} l => (leStr_iff a b).mpr (List.le_of_lt l))).symm
end L11

namespace L11
open PySem PySem.Spec L2 Sh


/-! ### the law's own look at pairs -/
def rowIn (N : List Str) : D → Bool
  | .tuple [.str x, .str v] => decide (x ∈ N) && nmB v
  | _ => false
def pD (x v : Str) : D := .tuple [.str x, .str v]
theorem rowIn_some {N : List Str} {d : D} (h : rowIn N d = true) : ∃ p : SP, d = pairD p ∧ p.1 ∈ N ∧ nmB p.2 = true := by
  unfold rowIn at h
  split at h
  · rename_i x v
    rw [Bool.and_eq_true, decide_eq_true_eq] at h
    exact ⟨(x, v), rfl, h.1, h.2⟩
  · cases h
theorem law_bad {n : Nat} {d : D} {N : List Str} (hN : ∀ x ∈ N, nmB x = true) (T S : Sl) (hS : S = .fz (.list (strsOf N)) ∨ S = .ow (strsOf N)) (h : okB n d = true) (q : rowIn N d = false) :
    lb__law_are_pairs_1 [T, S, .fz d] = some (.rt (.fz (.bool false)), [T, S, .fz d]) := by
  have s1 := strs_shaped N fun x hx => nm_ok (hN x hx)
  cases n with
  | zero => cases h
  | succ n =>
    cases d with
    | dict kvs => cases h
    | none => simp [eVar, eC, eBin, g2, Opd.get, tBl, truS, truO, tTr, tAnd', tOr', tNot', eAndT, eOrT, eNotT, eIf, frz, eFrz, aNil, aCons, allFz, disp, Sl.d, Sl.l, intS, catS, orG, repS, eqvS, strC, eChain, Sl.isN, isNS, Sl.isB, isBS, toKey, inS, ixS, pNone, pSome, slS, eSl, eNeg, gets, eFn, one, lenS, absS, intF, seqS, listF, tupF, bools, allF, isKind, eMt, appM, popM, atI, argsOf, refsOf, nodupB, putBack, eCall, iSeq, iRng1', iRng2', zipD, iZip', enumD, iEnum', gNm, gsNil, gsCons, gTp, mSkip, mSeq, mBk, mCt, mIf, mDrop, mRetN, mRet, mAsg, mAsgG, mPar, putM, mSet, forL, mFor, wipeS, keepFz, restoreS, lcL, eLc, tYes', mask, fnS, eD0, dcL, eDc, sortF, eSortIt, tyN, isB, eIs, newOf, parked, eCallN, dictF, dictP, pick, eCallK, Sl.mt, addS_ap, subS_ap, mulI_ap, mulS_ap, modS_ap, fdivS_ap, powS_ap, intB_ap, ordS_ap, shaped_bool, shaped_int, shaped_none, eqv_bool, eqv_int, eqv_str, eqv_none, addT, catL, lb__law_are_pairs_1]
    | bool b => simp [eVar, eC, eBin, g2, Opd.get, tBl, truS, truO, tTr, tAnd', tOr', tNot', eAndT, eOrT, eNotT, eIf, frz, eFrz, aNil, aCons, allFz, disp, Sl.d, Sl.l, intS, catS, orG, repS, eqvS, strC, eChain, Sl.isN, isNS, Sl.isB, isBS, toKey, inS, ixS, pNone, pSome, slS, eSl, eNeg, gets, eFn, one, lenS, absS, intF, seqS, listF, tupF, bools, allF, isKind, eMt, appM, popM, atI, argsOf, refsOf, nodupB, putBack, eCall, iSeq, iRng1', iRng2', zipD, iZip', enumD, iEnum', gNm, gsNil, gsCons, gTp, mSkip, mSeq, mBk, mCt, mIf, mDrop, mRetN, mRet, mAsg, mAsgG, mPar, putM, mSet, forL, mFor, wipeS, keepFz, restoreS, lcL, eLc, tYes', mask, fnS, eD0, dcL, eDc, sortF, eSortIt, tyN, isB, eIs, newOf, parked, eCallN, dictF, dictP, pick, eCallK, Sl.mt, addS_ap, subS_ap, mulI_ap, mulS_ap, modS_ap, fdivS_ap, powS_ap, intB_ap, ordS_ap, shaped_bool, shaped_int, shaped_none, eqv_bool, eqv_int, eqv_str, eqv_none, addT, catL, lb__law_are_pairs_1]
    | int i => simp [eVar, eC, eBin, g2, Opd.get, tBl, truS, truO, tTr, tAnd', tOr', tNot', eAndT, eOrT, eNotT, eIf, frz, eFrz, aNil, aCons, allFz, disp, Sl.d, Sl.l, intS, catS, orG, repS, eqvS, strC, eChain, Sl.isN, isNS, Sl.isB, isBS, toKey, inS, ixS, pNone, pSome, slS, eSl, eNeg, gets, eFn, one, lenS, absS, intF, seqS, listF, tupF, bools, allF, isKind, eMt, appM, popM, atI, argsOf, refsOf, nodupB, putBack, eCall, iSeq, iRng1', iRng2', zipD, iZip', enumD, iEnum', gNm, gsNil, gsCons, gTp, mSkip, mSeq, mBk, mCt, mIf, mDrop, mRetN, mRet, mAsg, mAsgG, mPar, putM, mSet, forL, mFor, wipeS, keepFz, restoreS, lcL, eLc, tYes', mask, fnS, eD0, dcL, eDc, sortF, eSortIt, tyN, isB, eIs, newOf, parked, eCallN, dictF, dictP, pick, eCallK, Sl.mt, addS_ap, subS_ap, mulI_ap, mulS_ap, modS_ap, fdivS_ap, powS_ap, intB_ap, ordS_ap, shaped_bool, shaped_int, shaped_none, eqv_bool, eqv_int, eqv_str, eqv_none, addT, catL, lb__law_are_pairs_1]
    | str x => simp [eVar, eC, eBin, g2, Opd.get, tBl, truS, truO, tTr, tAnd', tOr', tNot', eAndT, eOrT, eNotT, eIf, frz, eFrz, aNil, aCons, allFz, disp, Sl.d, Sl.l, intS, catS, orG, repS, eqvS, strC, eChain, Sl.isN, isNS, Sl.isB, isBS, toKey, inS, ixS, pNone, pSome, slS, eSl, eNeg, gets, eFn, one, lenS, absS, intF, seqS, listF, tupF, bools, allF, isKind, eMt, appM, popM, atI, argsOf, refsOf, nodupB, putBack, eCall, iSeq, iRng1', iRng2', zipD, iZip', enumD, iEnum', gNm, gsNil, gsCons, gTp, mSkip, mSeq, mBk, mCt, mIf, mDrop, mRetN, mRet, mAsg, mAsgG, mPar, putM, mSet, forL, mFor, wipeS, keepFz, restoreS, lcL, eLc, tYes', mask, fnS, eD0, dcL, eDc, sortF, eSortIt, tyN, isB, eIs, newOf, parked, eCallN, dictF, dictP, pick, eCallK, Sl.mt, addS_ap, subS_ap, mulI_ap, mulS_ap, modS_ap, fdivS_ap, powS_ap, intB_ap, ordS_ap, shaped_bool, shaped_int, shaped_none, eqv_bool, eqv_int, eqv_str, eqv_none, addT, catL, lb__law_are_pairs_1]
    | list ds => simp [eVar, eC, eBin, g2, Opd.get, tBl, truS, truO, tTr, tAnd', tOr', tNot', eAndT, eOrT, eNotT, eIf, frz, eFrz, aNil, aCons, allFz, disp, Sl.d, Sl.l, intS, catS, orG, repS, eqvS, strC, eChain, Sl.isN, isNS, Sl.isB, isBS, toKey, inS, ixS, pNone, pSome, slS, eSl, eNeg, gets, eFn, one, lenS, absS, intF, seqS, listF, tupF, bools, allF, isKind, eMt, appM, popM, atI, argsOf, refsOf, nodupB, putBack, eCall, iSeq, iRng1', iRng2', zipD, iZip', enumD, iEnum', gNm, gsNil, gsCons, gTp, mSkip, mSeq, mBk, mCt, mIf, mDrop, mRetN, mRet, mAsg, mAsgG, mPar, putM, mSet, forL, mFor, wipeS, keepFz, restoreS, lcL, eLc, tYes', mask, fnS, eD0, dcL, eDc, sortF, eSortIt, tyN, isB, eIs, newOf, parked, eCallN, dictF, dictP, pick, eCallK, Sl.mt, addS_ap, subS_ap, mulI_ap, mulS_ap, modS_ap, fdivS_ap, powS_ap, intB_ap, ordS_ap, shaped_bool, shaped_int, shaped_none, eqv_bool, eqv_int, eqv_str, eqv_none, addT, catL, lb__law_are_pairs_1]
    | tuple ds =>
      have h : ds.all (okB n) = true := h
      match ds, h with
      | [], _ => simp [eVar, eC, eBin, g2, Opd.get, tBl, truS, truO, tTr, tAnd', tOr', tNot', eAndT, eOrT, eNotT, eIf, frz, eFrz, aNil, aCons, allFz, disp, Sl.d, Sl.l, intS, catS, orG, repS, eqvS, strC, eChain, Sl.isN, isNS, Sl.isB, isBS, toKey, inS, ixS, pNone, pSome, slS, eSl, eNeg, gets, eFn, one, lenS, absS, intF, seqS, listF, tupF, bools, allF, isKind, eMt, appM, popM, atI, argsOf, refsOf, nodupB, putBack, eCall, iSeq, iRng1', iRng2', zipD, iZip', enumD, iEnum', gNm, gsNil, gsCons, gTp, mSkip, mSeq, mBk, mCt, mIf, mDrop, mRetN, mRet, mAsg, mAsgG, mPar, putM, mSet, forL, mFor, wipeS, keepFz, restoreS, lcL, eLc, tYes', mask, fnS, eD0, dcL, eDc, sortF, eSortIt, tyN, isB, eIs, newOf, parked, eCallN, dictF, dictP, pick, eCallK, Sl.mt, addS_ap, subS_ap, mulI_ap, mulS_ap, modS_ap, fdivS_ap, powS_ap, intB_ap, ordS_ap, shaped_bool, shaped_int, shaped_none, eqv_bool, eqv_int, eqv_str, eqv_none, addT, catL, lb__law_are_pairs_1]
      | [_], _ => simp [eVar, eC, eBin, g2, Opd.get, tBl, truS, truO, tTr, tAnd', tOr', tNot', eAndT, eOrT, eNotT, eIf, frz, eFrz, aNil, aCons, allFz, disp, Sl.d, Sl.l, intS, catS, orG, repS, eqvS, strC, eChain, Sl.isN, isNS, Sl.isB, isBS, toKey, inS, ixS, pNone, pSome, slS, eSl, eNeg, gets, eFn, one, lenS, absS, intF, seqS, listF, tupF, bools, allF, isKind, eMt, appM, popM, atI, argsOf, refsOf, nodupB, putBack, eCall, iSeq, iRng1', iRng2', zipD, iZip', enumD, iEnum', gNm, gsNil, gsCons, gTp, mSkip, mSeq, mBk, mCt, mIf, mDrop, mRetN, mRet, mAsg, mAsgG, mPar, putM, mSet, forL, mFor, wipeS, keepFz, restoreS, lcL, eLc, tYes', mask, fnS, eD0, dcL, eDc, sortF, eSortIt, tyN, isB, eIs, newOf, parked, eCallN, dictF, dictP, pick, eCallK, Sl.mt, addS_ap, subS_ap, mulI_ap, mulS_ap, modS_ap, fdivS_ap, powS_ap, intB_ap, ordS_ap, shaped_bool, shaped_int, shaped_none, eqv_bool, eqv_int, eqv_str, eqv_none, addT, catL, lb__law_are_pairs_1]
      | a :: b :: c :: es, _ =>
        have ne : ((es.length : Int) + 1 + 1 + 1 == 2) = false := by
          rw [beq_eq_false_iff_ne]
          omega
        simp [eVar, eC, eBin, g2, Opd.get, tBl, truS, truO, tTr, tAnd', tOr', tNot', eAndT, eOrT, eNotT, eIf, frz, eFrz, aNil, aCons, allFz, disp, Sl.d, Sl.l, intS, catS, orG, repS, eqvS, strC, eChain, Sl.isN, isNS, Sl.isB, isBS, toKey, inS, ixS, pNone, pSome, slS, eSl, eNeg, gets, eFn, one, lenS, absS, intF, seqS, listF, tupF, bools, allF, isKind, eMt, appM, popM, atI, argsOf, refsOf, nodupB, putBack, eCall, iSeq, iRng1', iRng2', zipD, iZip', enumD, iEnum', gNm, gsNil, gsCons, gTp, mSkip, mSeq, mBk, mCt, mIf, mDrop, mRetN, mRet, mAsg, mAsgG, mPar, putM, mSet, forL, mFor, wipeS, keepFz, restoreS, lcL, eLc, tYes', mask, fnS, eD0, dcL, eDc, sortF, eSortIt, tyN, isB, eIs, newOf, parked, eCallN, dictF, dictP, pick, eCallK, Sl.mt, addS_ap, subS_ap, mulI_ap, mulS_ap, modS_ap, fdivS_ap, powS_ap, intB_ap, ordS_ap, shaped_bool, shaped_int, shaped_none, eqv_bool, eqv_int, eqv_str, eqv_none, addT, catL, lb__law_are_pairs_1, ne]
      | [a, b], h =>
        simp only [List.all_cons, List.all_nil, Bool.and_true, Bool.and_eq_true] at h
        have i0 : ixN 2 0 = some 0 := rfl
        have i1 : ixN 2 1 = some 1 := rfl
        have e2 := word_d h.2
        cases a with
        | str x =>
          have sx : SeqAt.shaped (.str x) = true := by
            cases n with
            | zero => cases h.1
            | succ n => exact txt_shaped x (of_decide_eq_true h.1)
          have g := any_strs N x
          by_cases hx : x ∈ N
          · rw [decide_eq_true hx] at g
            have hb : nameD b = false := by
              cases b with
              | str v =>
                have q : (decide (x ∈ N) && nmB v) = false := q
                rw [decide_eq_true hx, Bool.true_and] at q
                exact q
              | _ => rfl
            rw [hb] at e2
            rcases hS with rfl | rfl <;> simp [eVar, eC, eBin, g2, Opd.get, tBl, truS, truO, tTr, tAnd', tOr', tNot', eAndT, eOrT, eNotT, eIf, frz, eFrz, aNil, aCons, allFz, disp, Sl.d, Sl.l, intS, catS, orG, repS, eqvS, strC, eChain, Sl.isN, isNS, Sl.isB, isBS, toKey, inS, ixS, pNone, pSome, slS, eSl, eNeg, gets, eFn, one, lenS, absS, intF, seqS, listF, tupF, bools, allF, isKind, eMt, appM, popM, atI, argsOf, refsOf, nodupB, putBack, eCall, iSeq, iRng1', iRng2', zipD, iZip', enumD, iEnum', gNm, gsNil, gsCons, gTp, mSkip, mSeq, mBk, mCt, mIf, mDrop, mRetN, mRet, mAsg, mAsgG, mPar, putM, mSet, forL, mFor, wipeS, keepFz, restoreS, lcL, eLc, tYes', mask, fnS, eD0, dcL, eDc, sortF, eSortIt, tyN, isB, eIs, newOf, parked, eCallN, dictF, dictP, pick, eCallK, Sl.mt, addS_ap, subS_ap, mulI_ap, mulS_ap, modS_ap, fdivS_ap, powS_ap, intB_ap, ordS_ap, shaped_bool, shaped_int, shaped_none, eqv_bool, eqv_int, eqv_str, eqv_none, addT, catL, lb__law_are_pairs_1, i0, i1, sx, s1, g, e2]
          · rw [decide_eq_false hx] at g
            rcases hS with rfl | rfl <;> simp [eVar, eC, eBin, g2, Opd.get, tBl, truS, truO, tTr, tAnd', tOr', tNot', eAndT, eOrT, eNotT, eIf, frz, eFrz, aNil, aCons, allFz, disp, Sl.d, Sl.l, intS, catS, orG, repS, eqvS, strC, eChain, Sl.isN, isNS, Sl.isB, isBS, toKey, inS, ixS, pNone, pSome, slS, eSl, eNeg, gets, eFn, one, lenS, absS, intF, seqS, listF, tupF, bools, allF, isKind, eMt, appM, popM, atI, argsOf, refsOf, nodupB, putBack, eCall, iSeq, iRng1', iRng2', zipD, iZip', enumD, iEnum', gNm, gsNil, gsCons, gTp, mSkip, mSeq, mBk, mCt, mIf, mDrop, mRetN, mRet, mAsg, mAsgG, mPar, putM, mSet, forL, mFor, wipeS, keepFz, restoreS, lcL, eLc, tYes', mask, fnS, eD0, dcL, eDc, sortF, eSortIt, tyN, isB, eIs, newOf, parked, eCallN, dictF, dictP, pick, eCallK, Sl.mt, addS_ap, subS_ap, mulI_ap, mulS_ap, modS_ap, fdivS_ap, powS_ap, intB_ap, ordS_ap, shaped_bool, shaped_int, shaped_none, eqv_bool, eqv_int, eqv_str, eqv_none, addT, catL, lb__law_are_pairs_1, i0, i1, sx, s1, g]
        | dict kvs => cases n <;> cases h.1
        | _ => simp [eVar, eC, eBin, g2, Opd.get, tBl, truS, truO, tTr, tAnd', tOr', tNot', eAndT, eOrT, eNotT, eIf, frz, eFrz, aNil, aCons, allFz, disp, Sl.d, Sl.l, intS, catS, orG, repS, eqvS, strC, eChain, Sl.isN, isNS, Sl.isB, isBS, toKey, inS, ixS, pNone, pSome, slS, eSl, eNeg, gets, eFn, one, lenS, absS, intF, seqS, listF, tupF, bools, allF, isKind, eMt, appM, popM, atI, argsOf, refsOf, nodupB, putBack, eCall, iSeq, iRng1', iRng2', zipD, iZip', enumD, iEnum', gNm, gsNil, gsCons, gTp, mSkip, mSeq, mBk, mCt, mIf, mDrop, mRetN, mRet, mAsg, mAsgG, mPar, putM, mSet, forL, mFor, wipeS, keepFz, restoreS, lcL, eLc, tYes', mask, fnS, eD0, dcL, eDc, sortF, eSortIt, tyN, isB, eIs, newOf, parked, eCallN, dictF, dictP, pick, eCallK, Sl.mt, addS_ap, subS_ap, mulI_ap, mulS_ap, modS_ap, fdivS_ap, powS_ap, intB_ap, ordS_ap, shaped_bool, shaped_int, shaped_none, eqv_bool, eqv_int, eqv_str, eqv_none, addT, catL, lb__law_are_pairs_1, i0]
theorem law_good {N : List Str} (hN : ∀ x ∈ N, nmB x = true) (T S : Sl) (hS : S = .fz (.list (strsOf N)) ∨ S = .ow (strsOf N)) {p : SP} (h1 : p.1 ∈ N) (h2 : nmB p.2 = true) :
    lb__law_are_pairs_1 [T, S, .fz (pairD p)] = some (.nx, [T, S, .fz (pairD p)]) := by
  have s1 := strs_shaped N fun x hx => nm_ok (hN x hx)
  have i0 : ixN 2 0 = some 0 := rfl
  have i1 : ixN 2 1 = some 1 := rfl
  have e2 := word_str p.2 (nm_in h2)
  rw [h2] at e2
  have sx : SeqAt.shaped (.str p.1) = true := nm_ok (hN _ h1)
  have g := any_strs N p.1
  rw [decide_eq_true h1] at g
  rcases hS with rfl | rfl <;> simp [eVar, eC, eBin, g2, Opd.get, tBl, truS, truO, tTr, tAnd', tOr', tNot', eAndT, eOrT, eNotT, eIf, frz, eFrz, aNil, aCons, allFz, disp, Sl.d, Sl.l, intS, catS, orG, repS, eqvS, strC, eChain, Sl.isN, isNS, Sl.isB, isBS, toKey, inS, ixS, pNone, pSome, slS, eSl, eNeg, gets, eFn, one, lenS, absS, intF, seqS, listF, tupF, bools, allF, isKind, eMt, appM, popM, atI, argsOf, refsOf, nodupB, putBack, eCall, iSeq, iRng1', iRng2', zipD, iZip', enumD, iEnum', gNm, gsNil, gsCons, gTp, mSkip, mSeq, mBk, mCt, mIf, mDrop, mRetN, mRet, mAsg, mAsgG, mPar, putM, mSet, forL, mFor, wipeS, keepFz, restoreS, lcL, eLc, tYes', mask, fnS, eD0, dcL, eDc, sortF, eSortIt, tyN, isB, eIs, newOf, parked, eCallN, dictF, dictP, pick, eCallK, Sl.mt, addS_ap, subS_ap, mulI_ap, mulS_ap, modS_ap, fdivS_ap, powS_ap, intB_ap, ordS_ap, shaped_bool, shaped_int, shaped_none, eqv_bool, eqv_int, eqv_str, eqv_none, addT, catL, lb__law_are_pairs_1, pairD, i0, i1, sx, s1, g, e2]
theorem law_pairs_loop {n : Nat} {N : List Str} (hN : ∀ x ∈ N, nmB x = true) (T S : Sl) (hS : S = .fz (.list (strsOf N)) ∨ S = .ow (strsOf N)) : ∀ (ds : List D) (a : Sl), (∀ d ∈ ds, okB n d = true) →
    ∃ a', forL (gNm 2) lb__law_are_pairs_1 ds [T, S, a] = some (outB (ds.all (rowIn N)), [T, S, a'])
  | [], a, _ => ⟨_, rfl⟩
  | d :: ds, a, h => by
    have step : forL (gNm 2) lb__law_are_pairs_1 (d :: ds) [T, S, a] = (match lb__law_are_pairs_1 [T, S, .fz d] with
        | some (.nx, st2) => forL (gNm 2) lb__law_are_pairs_1 ds st2
        | some (.ct, st2) => forL (gNm 2) lb__law_are_pairs_1 ds st2
        | some (.bk, st2) => some (.nx, st2)
        | some (.rt z, st2) => some (.rt z, st2)
        | none => none) := rfl
    rw [step]
    cases q : rowIn N d with
    | false =>
      rw [law_bad hN T S hS (h d List.mem_cons_self) q]
      refine ⟨.fz d, ?_⟩
      rw [List.all_cons, q]
      rfl
    | true =>
      obtain ⟨p, rfl, h1, h2⟩ := rowIn_some q
      rw [law_good hN T S hS h1 h2]
      obtain ⟨a', e⟩ := law_pairs_loop (n := n) hN T S hS ds (.fz (pairD p)) fun y hy => h y (List.mem_cons_of_mem _ hy)
      refine ⟨a', ?_⟩
      rw [List.all_cons, q, Bool.true_and]
      exact e
theorem all_pairs {N : List Str} : ∀ {ds : List D}, ds.all (rowIn N) = true → ∃ ps : List SP, ds = ps.map pairD ∧ (∀ p ∈ ps, p.1 ∈ N ∧ nmB p.2 = true)
  | [], _ => ⟨[], rfl, fun _ h => nomatch h⟩
  | d :: ds, h => by
    rw [List.all_cons, Bool.and_eq_true] at h
    obtain ⟨p, rfl, h1⟩ := rowIn_some h.1
    obtain ⟨ps, rfl, h2⟩ := all_pairs h.2
    exact ⟨p :: ps, rfl, fun z hz => by
      rcases List.mem_cons.mp hz with rfl | hz
      · exact h1
      · exact h2 z hz⟩
theorem firsts_comp (s0 s1 : Sl) : ∀ (ps : List SP) (a : Sl), ∃ a', lcL [2] (gNm 2) tYes' (eBin ixS (eVar 2) (eC (.int 0))) (ps.map pairD) [s0, s1, a] = some (strsOf (keysOf ps), [s0, s1, a'])
  | [], a => ⟨a, rfl⟩
  | p :: ps, a => by
    have i0 : ixN 2 0 = some 0 := rfl
    obtain ⟨a', e⟩ := firsts_comp s0 s1 ps (.fz (pairD p))
    have e : lcL [2] (gNm 2) tYes' (eBin ixS (eVar 2) (eC (.int 0))) (ps.map pairD) [s0, s1, .fz (.tuple [.str p.1, .str p.2])] = some (strsOf (keysOf ps), [s0, s1, a']) := e
    refine ⟨a', ?_⟩
    rw [List.map_cons, lcL]
    simp [eVar, eC, eBin, g2, Opd.get, tBl, truS, truO, tTr, tAnd', tOr', tNot', eAndT, eOrT, eNotT, eIf, frz, eFrz, aNil, aCons, allFz, disp, Sl.d, Sl.l, intS, catS, orG, repS, eqvS, strC, eChain, Sl.isN, isNS, Sl.isB, isBS, toKey, inS, ixS, pNone, pSome, slS, eSl, eNeg, gets, eFn, one, lenS, absS, intF, seqS, listF, tupF, bools, allF, isKind, eMt, appM, popM, atI, argsOf, refsOf, nodupB, putBack, eCall, iSeq, iRng1', iRng2', zipD, iZip', enumD, iEnum', gNm, gsNil, gsCons, gTp, mSkip, mSeq, mBk, mCt, mIf, mDrop, mRetN, mRet, mAsg, mAsgG, mPar, putM, mSet, forL, mFor, wipeS, keepFz, restoreS, eLc, tYes', mask, fnS, eD0, dcL, eDc, sortF, eSortIt, tyN, isB, eIs, newOf, parked, eCallN, dictF, dictP, pick, eCallK, Sl.mt, addS_ap, subS_ap, mulI_ap, mulS_ap, modS_ap, fdivS_ap, powS_ap, intB_ap, ordS_ap, shaped_bool, shaped_int, shaped_none, eqv_bool, eqv_int, eqv_str, eqv_none, addT, catL, pairD, i0, e]
    rfl
theorem txs_strs : ∀ xs : List Str, txs (strsOf xs) = some xs
  | [] => rfl
  | x :: xs => by
    show (match txs (strsOf xs) with | some ys => some (x :: ys) | none => none) = _
    rw [txs_strs xs]
theorem eqv_strs (xs ys : List Str) : PyData.eqv (.list (strsOf xs)) (.list (strsOf ys)) = decide (xs = ys) := by
  have key : ∀ xs ys : List Str, PyData.eqvAll (strsOf xs) (strsOf ys) = decide (xs = ys) := by
    intro xs
    induction xs with
    | nil => intro ys; cases ys <;> simp [eVar, eC, eBin, g2, Opd.get, tBl, truS, truO, tTr, tAnd', tOr', tNot', eAndT, eOrT, eNotT, eIf, frz, eFrz, aNil, aCons, allFz, disp, Sl.d, Sl.l, intS, catS, orG, repS, eqvS, strC, eChain, Sl.isN, isNS, Sl.isB, isBS, toKey, inS, ixS, pNone, pSome, slS, eSl, eNeg, gets, eFn, one, lenS, absS, intF, seqS, listF, tupF, bools, allF, isKind, eMt, appM, popM, atI, argsOf, refsOf, nodupB, putBack, eCall, iSeq, iRng1', iRng2', zipD, iZip', enumD, iEnum', gNm, gsNil, gsCons, gTp, mSkip, mSeq, mBk, mCt, mIf, mDrop, mRetN, mRet, mAsg, mAsgG, mPar, putM, mSet, forL, mFor, wipeS, keepFz, restoreS, lcL, eLc, tYes', mask, fnS, eD0, dcL, eDc, sortF, eSortIt, tyN, isB, eIs, newOf, parked, eCallN, dictF, dictP, pick, eCallK, Sl.mt, addS_ap, subS_ap, mulI_ap, mulS_ap, modS_ap, fdivS_ap, powS_ap, intB_ap, ordS_ap, shaped_bool, shaped_int, shaped_none, eqv_bool, eqv_int, eqv_str, eqv_none, addT, catL, strsOf, PyData.eqvAll]
    | cons x xs ih =>
      intro ys
      cases ys with
      | nil => simp [eVar, eC, eBin, g2, Opd.get, tBl, truS, truO, tTr, tAnd', tOr', tNot', eAndT, eOrT, eNotT, eIf, frz, eFrz, aNil, aCons, allFz, disp, Sl.d, Sl.l, intS, catS, orG, repS, eqvS, strC, eChain, Sl.isN, isNS, Sl.isB, isBS, toKey, inS, ixS, pNone, pSome, slS, eSl, eNeg, gets, eFn, one, lenS, absS, intF, seqS, listF, tupF, bools, allF, isKind, eMt, appM, popM, atI, argsOf, refsOf, nodupB, putBack, eCall, iSeq, iRng1', iRng2', zipD, iZip', enumD, iEnum', gNm, gsNil, gsCons, gTp, mSkip, mSeq, mBk, mCt, mIf, mDrop, mRetN, mRet, mAsg, mAsgG, mPar, putM, mSet, forL, mFor, wipeS, keepFz, restoreS, lcL, eLc, tYes', mask, fnS, eD0, dcL, eDc, sortF, eSortIt, tyN, isB, eIs, newOf, parked, eCallN, dictF, dictP, pick, eCallK, Sl.mt, addS_ap, subS_ap, mulI_ap, mulS_ap, modS_ap, fdivS_ap, powS_ap, intB_ap, ordS_ap, shaped_bool, shaped_int, shaped_none, eqv_bool, eqv_int, eqv_str, eqv_none, addT, catL, strsOf, PyData.eqvAll]
      | cons y ys =>
        have := ih ys
        show (PyData.eqv (.str x) (.str y) && PyData.eqvAll (strsOf xs) (strsOf ys)) = _
        rw [this, eqv_str]
        by_cases h : x = y <;> by_cases h2 : xs = ys <;> simp [eVar, eC, eBin, g2, Opd.get, tBl, truS, truO, tTr, tAnd', tOr', tNot', eAndT, eOrT, eNotT, eIf, frz, eFrz, aNil, aCons, allFz, disp, Sl.d, Sl.l, intS, catS, orG, repS, eqvS, strC, eChain, Sl.isN, isNS, Sl.isB, isBS, toKey, inS, ixS, pNone, pSome, slS, eSl, eNeg, gets, eFn, one, lenS, absS, intF, seqS, listF, tupF, bools, allF, isKind, eMt, appM, popM, atI, argsOf, refsOf, nodupB, putBack, eCall, iSeq, iRng1', iRng2', zipD, iZip', enumD, iEnum', gNm, gsNil, gsCons, gTp, mSkip, mSeq, mBk, mCt, mIf, mDrop, mRetN, mRet, mAsg, mAsgG, mPar, putM, mSet, forL, mFor, wipeS, keepFz, restoreS, lcL, eLc, tYes', mask, fnS, eD0, dcL, eDc, sortF, eSortIt, tyN, isB, eIs, newOf, parked, eCallN, dictF, dictP, pick, eCallK, Sl.mt, addS_ap, subS_ap, mulI_ap, mulS_ap, modS_ap, fdivS_ap, powS_ap, intB_ap, ordS_ap, shaped_bool, shaped_int, shaped_none, eqv_bool, eqv_int, eqv_str, eqv_none, addT, catL, h, h2]
  rw [PyData.eqv]
  exact key xs ys
theorem ded_sub {xs : List Str} {y : Str} (h : y ∈ sortSt (dedL xs)) : y ∈ xs := by
  have h := (sortSt_perm (dedL xs)).mem_iff.mp h
  have key : ∀ (xs ks : List Str), y ∈ xs.foldl addS1 ks → y ∈ ks ∨ y ∈ xs := by
    intro xs
    induction xs with
    | nil => intro ks h; exact .inl h
    | cons x xs ih =>
      intro ks h
      rcases ih _ h with q | q
      · unfold addS1 at q
        split at q
        · exact .inl q
        · rcases List.mem_append.mp q with q | q
          · exact .inl q
          · rw [List.mem_singleton.mp q]; exact .inr List.mem_cons_self
      · exact .inr (List.mem_cons_of_mem _ q)
  rcases key xs [] h with q | q
  · cases q
  · exact q
def firstsD (ds : List D) : List Str := ds.filterMap fun d => match d with
  | .tuple (.str x :: _) => some x
  | _ => none
theorem firstsD_pairs : ∀ ps : List SP, firstsD (ps.map pairD) = keysOf ps
  | [] => rfl
  | p :: ps => by
    show p.1 :: firstsD (ps.map pairD) = _
    rw [firstsD_pairs ps]
    rfl
def lawB (N : List Str) : D → Bool
  | .tuple ds => ds.all (rowIn N) && decide (StrL (firstsD ds))
  | _ => false
end L11

namespace L11
open PySem PySem.Spec L2 Sh


/-! ### walks over rows and over pairs -/
theorem names3 (s0 s1 : Sl) (f : Row → D) (hf : ∀ r, f r = rowD r ∨ f r = rowL r) : ∀ (rows : List Row) (a : Sl), ∃ a', lcL [2] (gNm 2) tYes' (eBin ixS (eVar 2) (eC (.int 0))) (rows.map f) [s0, s1, a] = some (strsOf (namesOf rows), [s0, s1, a'])
  | [], a => ⟨a, rfl⟩
  | r :: rows, a => by
    have i0 : ixN 3 0 = some 0 := rfl
    have i2 : ixN 3 2 = some 2 := rfl
    obtain ⟨a', e⟩ := names3 s0 s1 f hf rows (.fz (f r))
    refine ⟨a', ?_⟩
    rw [List.map_cons, lcL]
    obtain ⟨n, par, lk⟩ := r
    rcases hf (n, par, lk) with z | z <;> rw [z] at e ⊢ <;> cases lk <;> simp [eVar, eC, eBin, g2, Opd.get, tBl, truS, truO, tTr, tAnd', tOr', tNot', eAndT, eOrT, eNotT, eIf, frz, eFrz, aNil, aCons, allFz, disp, Sl.d, Sl.l, intS, catS, orG, repS, eqvS, strC, eChain, Sl.isN, isNS, Sl.isB, isBS, toKey, inS, ixS, pNone, pSome, slS, eSl, eNeg, gets, eFn, one, lenS, absS, intF, seqS, listF, tupF, bools, allF, isKind, eMt, appM, popM, atI, argsOf, refsOf, nodupB, putBack, eCall, iSeq, iRng1', iRng2', zipD, iZip', enumD, iEnum', gNm, gsNil, gsCons, gTp, mSkip, mSeq, mBk, mCt, mIf, mDrop, mRetN, mRet, mAsg, mAsgG, mPar, putM, mSet, forL, mFor, wipeS, keepFz, restoreS, eLc, tYes', mask, fnS, eD0, dcL, eDc, sortF, eSortIt, tyN, isB, eIs, newOf, parked, eCallN, dictF, dictP, pick, eCallK, Sl.mt, addS_ap, subS_ap, mulI_ap, mulS_ap, modS_ap, fdivS_ap, powS_ap, intB_ap, ordS_ap, shaped_bool, shaped_int, shaped_none, eqv_bool, eqv_int, eqv_str, eqv_none, addT, catL, rowD, rowL, i0, i2] <;> (try (simp only [rowD, rowL] at e)) <;> simp [eVar, eC, eBin, g2, Opd.get, tBl, truS, truO, tTr, tAnd', tOr', tNot', eAndT, eOrT, eNotT, eIf, frz, eFrz, aNil, aCons, allFz, disp, Sl.d, Sl.l, intS, catS, orG, repS, eqvS, strC, eChain, Sl.isN, isNS, Sl.isB, isBS, toKey, inS, ixS, pNone, pSome, slS, eSl, eNeg, gets, eFn, one, lenS, absS, intF, seqS, listF, tupF, bools, allF, isKind, eMt, appM, popM, atI, argsOf, refsOf, nodupB, putBack, eCall, iSeq, iRng1', iRng2', zipD, iZip', enumD, iEnum', gNm, gsNil, gsCons, gTp, mSkip, mSeq, mBk, mCt, mIf, mDrop, mRetN, mRet, mAsg, mAsgG, mPar, putM, mSet, forL, mFor, wipeS, keepFz, restoreS, eLc, tYes', mask, fnS, eD0, dcL, eDc, sortF, eSortIt, tyN, isB, eIs, newOf, parked, eCallN, dictF, dictP, pick, eCallK, Sl.mt, addS_ap, subS_ap, mulI_ap, mulS_ap, modS_ap, fdivS_ap, powS_ap, intB_ap, ordS_ap, shaped_bool, shaped_int, shaped_none, eqv_bool, eqv_int, eqv_str, eqv_none, addT, catL, e, strsOf, namesOf]
theorem names5f (s0 s1 s2 s4 : Sl) (f : Row → D) (hf : ∀ r, f r = rowD r ∨ f r = rowL r) : ∀ (rows : List Row) (a : Sl), ∃ a', lcL [3] (gNm 3) (tNot' (tTr (eBin ixS (eVar 3) (eC (.int 2))))) (eBin ixS (eVar 3) (eC (.int 0))) (rows.map f) [s0, s1, s2, a, s4] = some (strsOf (namesOf (rows.filter fun r => !r.2.2)), [s0, s1, s2, a', s4])
  | [], a => ⟨a, rfl⟩
  | r :: rows, a => by
    have i0 : ixN 3 0 = some 0 := rfl
    have i2 : ixN 3 2 = some 2 := rfl
    obtain ⟨a', e⟩ := names5f s0 s1 s2 s4 f hf rows (.fz (f r))
    refine ⟨a', ?_⟩
    rw [List.map_cons, lcL]
    obtain ⟨n, par, lk⟩ := r
    rcases hf (n, par, lk) with z | z <;> rw [z] at e ⊢ <;> cases lk <;> simp [eVar, eC, eBin, g2, Opd.get, tBl, truS, truO, tTr, tAnd', tOr', tNot', eAndT, eOrT, eNotT, eIf, frz, eFrz, aNil, aCons, allFz, disp, Sl.d, Sl.l, intS, catS, orG, repS, eqvS, strC, eChain, Sl.isN, isNS, Sl.isB, isBS, toKey, inS, ixS, pNone, pSome, slS, eSl, eNeg, gets, eFn, one, lenS, absS, intF, seqS, listF, tupF, bools, allF, isKind, eMt, appM, popM, atI, argsOf, refsOf, nodupB, putBack, eCall, iSeq, iRng1', iRng2', zipD, iZip', enumD, iEnum', gNm, gsNil, gsCons, gTp, mSkip, mSeq, mBk, mCt, mIf, mDrop, mRetN, mRet, mAsg, mAsgG, mPar, putM, mSet, forL, mFor, wipeS, keepFz, restoreS, eLc, tYes', mask, fnS, eD0, dcL, eDc, sortF, eSortIt, tyN, isB, eIs, newOf, parked, eCallN, dictF, dictP, pick, eCallK, Sl.mt, addS_ap, subS_ap, mulI_ap, mulS_ap, modS_ap, fdivS_ap, powS_ap, intB_ap, ordS_ap, shaped_bool, shaped_int, shaped_none, eqv_bool, eqv_int, eqv_str, eqv_none, addT, catL, rowD, rowL, i0, i2] <;> (try (simp only [rowD, rowL] at e)) <;> simp [eVar, eC, eBin, g2, Opd.get, tBl, truS, truO, tTr, tAnd', tOr', tNot', eAndT, eOrT, eNotT, eIf, frz, eFrz, aNil, aCons, allFz, disp, Sl.d, Sl.l, intS, catS, orG, repS, eqvS, strC, eChain, Sl.isN, isNS, Sl.isB, isBS, toKey, inS, ixS, pNone, pSome, slS, eSl, eNeg, gets, eFn, one, lenS, absS, intF, seqS, listF, tupF, bools, allF, isKind, eMt, appM, popM, atI, argsOf, refsOf, nodupB, putBack, eCall, iSeq, iRng1', iRng2', zipD, iZip', enumD, iEnum', gNm, gsNil, gsCons, gTp, mSkip, mSeq, mBk, mCt, mIf, mDrop, mRetN, mRet, mAsg, mAsgG, mPar, putM, mSet, forL, mFor, wipeS, keepFz, restoreS, eLc, tYes', mask, fnS, eD0, dcL, eDc, sortF, eSortIt, tyN, isB, eIs, newOf, parked, eCallN, dictF, dictP, pick, eCallK, Sl.mt, addS_ap, subS_ap, mulI_ap, mulS_ap, modS_ap, fdivS_ap, powS_ap, intB_ap, ordS_ap, shaped_bool, shaped_int, shaped_none, eqv_bool, eqv_int, eqv_str, eqv_none, addT, catL, e, strsOf, namesOf]
theorem firsts5 (s0 s1 s2 s3 : Sl) : ∀ (ps : List SP) (a : Sl), ∃ a', lcL [4] (gNm 4) tYes' (eBin ixS (eVar 4) (eC (.int 0))) (ps.map pairD) [s0, s1, s2, s3, a] = some (strsOf (keysOf ps), [s0, s1, s2, s3, a'])
  | [], a => ⟨a, rfl⟩
  | p :: ps, a => by
    have i0 : ixN 2 0 = some 0 := rfl
    obtain ⟨a', e⟩ := firsts5 s0 s1 s2 s3 ps (.fz (pairD p))
    refine ⟨a', ?_⟩
    rw [List.map_cons, lcL]
    simp only [pairD] at e
    simp [eVar, eC, eBin, g2, Opd.get, tBl, truS, truO, tTr, tAnd', tOr', tNot', eAndT, eOrT, eNotT, eIf, frz, eFrz, aNil, aCons, allFz, disp, Sl.d, Sl.l, intS, catS, orG, repS, eqvS, strC, eChain, Sl.isN, isNS, Sl.isB, isBS, toKey, inS, ixS, pNone, pSome, slS, eSl, eNeg, gets, eFn, one, lenS, absS, intF, seqS, listF, tupF, bools, allF, isKind, eMt, appM, popM, atI, argsOf, refsOf, nodupB, putBack, eCall, iSeq, iRng1', iRng2', zipD, iZip', enumD, iEnum', gNm, gsNil, gsCons, gTp, mSkip, mSeq, mBk, mCt, mIf, mDrop, mRetN, mRet, mAsg, mAsgG, mPar, putM, mSet, forL, mFor, wipeS, keepFz, restoreS, eLc, tYes', mask, fnS, eD0, dcL, eDc, sortF, eSortIt, tyN, isB, eIs, newOf, parked, eCallN, dictF, dictP, pick, eCallK, Sl.mt, addS_ap, subS_ap, mulI_ap, mulS_ap, modS_ap, fdivS_ap, powS_ap, intB_ap, ordS_ap, shaped_bool, shaped_int, shaped_none, eqv_bool, eqv_int, eqv_str, eqv_none, addT, catL, pairD, i0, e]
    rfl
theorem names7 (s0 s1 s2 s3 s4 s6 : Sl) (f : Row → D) (hf : ∀ r, f r = rowD r ∨ f r = rowL r) : ∀ (rows : List Row) (a : Sl), ∃ a', lcL [5] (gNm 5) tYes' (eBin ixS (eVar 5) (eC (.int 0))) (rows.map f) [s0, s1, s2, s3, s4, a, s6] = some (strsOf (namesOf rows), [s0, s1, s2, s3, s4, a', s6])
  | [], a => ⟨a, rfl⟩
  | r :: rows, a => by
    have i0 : ixN 3 0 = some 0 := rfl
    have i2 : ixN 3 2 = some 2 := rfl
    obtain ⟨a', e⟩ := names7 s0 s1 s2 s3 s4 s6 f hf rows (.fz (f r))
    refine ⟨a', ?_⟩
    rw [List.map_cons, lcL]
    obtain ⟨n, par, lk⟩ := r
    rcases hf (n, par, lk) with z | z <;> rw [z] at e ⊢ <;> cases lk <;> simp [eVar, eC, eBin, g2, Opd.get, tBl, truS, truO, tTr, tAnd', tOr', tNot', eAndT, eOrT, eNotT, eIf, frz, eFrz, aNil, aCons, allFz, disp, Sl.d, Sl.l, intS, catS, orG, repS, eqvS, strC, eChain, Sl.isN, isNS, Sl.isB, isBS, toKey, inS, ixS, pNone, pSome, slS, eSl, eNeg, gets, eFn, one, lenS, absS, intF, seqS, listF, tupF, bools, allF, isKind, eMt, appM, popM, atI, argsOf, refsOf, nodupB, putBack, eCall, iSeq, iRng1', iRng2', zipD, iZip', enumD, iEnum', gNm, gsNil, gsCons, gTp, mSkip, mSeq, mBk, mCt, mIf, mDrop, mRetN, mRet, mAsg, mAsgG, mPar, putM, mSet, forL, mFor, wipeS, keepFz, restoreS, eLc, tYes', mask, fnS, eD0, dcL, eDc, sortF, eSortIt, tyN, isB, eIs, newOf, parked, eCallN, dictF, dictP, pick, eCallK, Sl.mt, addS_ap, subS_ap, mulI_ap, mulS_ap, modS_ap, fdivS_ap, powS_ap, intB_ap, ordS_ap, shaped_bool, shaped_int, shaped_none, eqv_bool, eqv_int, eqv_str, eqv_none, addT, catL, rowD, rowL, i0, i2] <;> (try (simp only [rowD, rowL] at e)) <;> simp [eVar, eC, eBin, g2, Opd.get, tBl, truS, truO, tTr, tAnd', tOr', tNot', eAndT, eOrT, eNotT, eIf, frz, eFrz, aNil, aCons, allFz, disp, Sl.d, Sl.l, intS, catS, orG, repS, eqvS, strC, eChain, Sl.isN, isNS, Sl.isB, isBS, toKey, inS, ixS, pNone, pSome, slS, eSl, eNeg, gets, eFn, one, lenS, absS, intF, seqS, listF, tupF, bools, allF, isKind, eMt, appM, popM, atI, argsOf, refsOf, nodupB, putBack, eCall, iSeq, iRng1', iRng2', zipD, iZip', enumD, iEnum', gNm, gsNil, gsCons, gTp, mSkip, mSeq, mBk, mCt, mIf, mDrop, mRetN, mRet, mAsg, mAsgG, mPar, putM, mSet, forL, mFor, wipeS, keepFz, restoreS, eLc, tYes', mask, fnS, eD0, dcL, eDc, sortF, eSortIt, tyN, isB, eIs, newOf, parked, eCallN, dictF, dictP, pick, eCallK, Sl.mt, addS_ap, subS_ap, mulI_ap, mulS_ap, modS_ap, fdivS_ap, powS_ap, intB_ap, ordS_ap, shaped_bool, shaped_int, shaped_none, eqv_bool, eqv_int, eqv_str, eqv_none, addT, catL, e, strsOf, namesOf]
theorem names7f (s0 s1 s2 s3 s4 s6 : Sl) (f : Row → D) (hf : ∀ r, f r = rowD r ∨ f r = rowL r) : ∀ (rows : List Row) (a : Sl), ∃ a', lcL [5] (gNm 5) (tNot' (tTr (eBin ixS (eVar 5) (eC (.int 2))))) (eBin ixS (eVar 5) (eC (.int 0))) (rows.map f) [s0, s1, s2, s3, s4, a, s6] = some (strsOf (namesOf (rows.filter fun r => !r.2.2)), [s0, s1, s2, s3, s4, a', s6])
  | [], a => ⟨a, rfl⟩
  | r :: rows, a => by
    have i0 : ixN 3 0 = some 0 := rfl
    have i2 : ixN 3 2 = some 2 := rfl
    obtain ⟨a', e⟩ := names7f s0 s1 s2 s3 s4 s6 f hf rows (.fz (f r))
    refine ⟨a', ?_⟩
    rw [List.map_cons, lcL]
    obtain ⟨n, par, lk⟩ := r
    rcases hf (n, par, lk) with z | z <;> rw [z] at e ⊢ <;> cases lk <;> simp [eVar, eC, eBin, g2, Opd.get, tBl, truS, truO, tTr, tAnd', tOr', tNot', eAndT, eOrT, eNotT, eIf, frz, eFrz, aNil, aCons, allFz, disp, Sl.d, Sl.l, intS, catS, orG, repS, eqvS, strC, eChain, Sl.isN, isNS, Sl.isB, isBS, toKey, inS, ixS, pNone, pSome, slS, eSl, eNeg, gets, eFn, one, lenS, absS, intF, seqS, listF, tupF, bools, allF, isKind, eMt, appM, popM, atI, argsOf, refsOf, nodupB, putBack, eCall, iSeq, iRng1', iRng2', zipD, iZip', enumD, iEnum', gNm, gsNil, gsCons, gTp, mSkip, mSeq, mBk, mCt, mIf, mDrop, mRetN, mRet, mAsg, mAsgG, mPar, putM, mSet, forL, mFor, wipeS, keepFz, restoreS, eLc, tYes', mask, fnS, eD0, dcL, eDc, sortF, eSortIt, tyN, isB, eIs, newOf, parked, eCallN, dictF, dictP, pick, eCallK, Sl.mt, addS_ap, subS_ap, mulI_ap, mulS_ap, modS_ap, fdivS_ap, powS_ap, intB_ap, ordS_ap, shaped_bool, shaped_int, shaped_none, eqv_bool, eqv_int, eqv_str, eqv_none, addT, catL, rowD, rowL, i0, i2] <;> (try (simp only [rowD, rowL] at e)) <;> simp [eVar, eC, eBin, g2, Opd.get, tBl, truS, truO, tTr, tAnd', tOr', tNot', eAndT, eOrT, eNotT, eIf, frz, eFrz, aNil, aCons, allFz, disp, Sl.d, Sl.l, intS, catS, orG, repS, eqvS, strC, eChain, Sl.isN, isNS, Sl.isB, isBS, toKey, inS, ixS, pNone, pSome, slS, eSl, eNeg, gets, eFn, one, lenS, absS, intF, seqS, listF, tupF, bools, allF, isKind, eMt, appM, popM, atI, argsOf, refsOf, nodupB, putBack, eCall, iSeq, iRng1', iRng2', zipD, iZip', enumD, iEnum', gNm, gsNil, gsCons, gTp, mSkip, mSeq, mBk, mCt, mIf, mDrop, mRetN, mRet, mAsg, mAsgG, mPar, putM, mSet, forL, mFor, wipeS, keepFz, restoreS, eLc, tYes', mask, fnS, eD0, dcL, eDc, sortF, eSortIt, tyN, isB, eIs, newOf, parked, eCallN, dictF, dictP, pick, eCallK, Sl.mt, addS_ap, subS_ap, mulI_ap, mulS_ap, modS_ap, fdivS_ap, powS_ap, intB_ap, ordS_ap, shaped_bool, shaped_int, shaped_none, eqv_bool, eqv_int, eqv_str, eqv_none, addT, catL, e, strsOf, namesOf]
theorem firsts7 (s0 s1 s2 s3 s4 s5 : Sl) : ∀ (ps : List SP) (a : Sl), ∃ a', lcL [6] (gNm 6) tYes' (eBin ixS (eVar 6) (eC (.int 0))) (ps.map pairD) [s0, s1, s2, s3, s4, s5, a] = some (strsOf (keysOf ps), [s0, s1, s2, s3, s4, s5, a'])
  | [], a => ⟨a, rfl⟩
  | p :: ps, a => by
    have i0 : ixN 2 0 = some 0 := rfl
    obtain ⟨a', e⟩ := firsts7 s0 s1 s2 s3 s4 s5 ps (.fz (pairD p))
    refine ⟨a', ?_⟩
    rw [List.map_cons, lcL]
    simp only [pairD] at e
    simp [eVar, eC, eBin, g2, Opd.get, tBl, truS, truO, tTr, tAnd', tOr', tNot', eAndT, eOrT, eNotT, eIf, frz, eFrz, aNil, aCons, allFz, disp, Sl.d, Sl.l, intS, catS, orG, repS, eqvS, strC, eChain, Sl.isN, isNS, Sl.isB, isBS, toKey, inS, ixS, pNone, pSome, slS, eSl, eNeg, gets, eFn, one, lenS, absS, intF, seqS, listF, tupF, bools, allF, isKind, eMt, appM, popM, atI, argsOf, refsOf, nodupB, putBack, eCall, iSeq, iRng1', iRng2', zipD, iZip', enumD, iEnum', gNm, gsNil, gsCons, gTp, mSkip, mSeq, mBk, mCt, mIf, mDrop, mRetN, mRet, mAsg, mAsgG, mPar, putM, mSet, forL, mFor, wipeS, keepFz, restoreS, eLc, tYes', mask, fnS, eD0, dcL, eDc, sortF, eSortIt, tyN, isB, eIs, newOf, parked, eCallN, dictF, dictP, pick, eCallK, Sl.mt, addS_ap, subS_ap, mulI_ap, mulS_ap, modS_ap, fdivS_ap, powS_ap, intB_ap, ordS_ap, shaped_bool, shaped_int, shaped_none, eqv_bool, eqv_int, eqv_str, eqv_none, addT, catL, pairD, i0, e]
    rfl
theorem allof_comp {N : List Str} (hN : ∀ x ∈ N, nmB x = true) (S s1 : Sl) (hS : S = .fz (.list (strsOf N)) ∨ S = .ow (strsOf N)) : ∀ (ps : List SP) (a : Sl), (∀ p ∈ ps, nmB p.1 = true) →
    ∃ a', lcL [2] (gNm 2) tYes' (eBin (inS false) (eBin ixS (eVar 2) (eC (.int 0))) (eVar 0)) (ps.map pairD) [S, s1, a] = some (ps.map fun p => PyData.bool (decide (p.1 ∈ N)), [S, s1, a'])
  | [], a, _ => ⟨a, rfl⟩
  | p :: ps, a, h => by
    have s2 := strs_shaped N fun x hx => nm_ok (hN x hx)
    have i0 : ixN 2 0 = some 0 := rfl
    have sx : SeqAt.shaped (.str p.1) = true := nm_ok (h p List.mem_cons_self)
    have g := any_strs N p.1
    obtain ⟨a', e⟩ := allof_comp hN S s1 hS ps (.fz (pairD p)) fun z hz => h z (List.mem_cons_of_mem _ hz)
    refine ⟨a', ?_⟩
    rw [List.map_cons, lcL]
    simp only [pairD] at e
    rcases hS with rfl | rfl <;> simp [eVar, eC, eBin, g2, Opd.get, tBl, truS, truO, tTr, tAnd', tOr', tNot', eAndT, eOrT, eNotT, eIf, frz, eFrz, aNil, aCons, allFz, disp, Sl.d, Sl.l, intS, catS, orG, repS, eqvS, strC, eChain, Sl.isN, isNS, Sl.isB, isBS, toKey, inS, ixS, pNone, pSome, slS, eSl, eNeg, gets, eFn, one, lenS, absS, intF, seqS, listF, tupF, bools, allF, isKind, eMt, appM, popM, atI, argsOf, refsOf, nodupB, putBack, eCall, iSeq, iRng1', iRng2', zipD, iZip', enumD, iEnum', gNm, gsNil, gsCons, gTp, mSkip, mSeq, mBk, mCt, mIf, mDrop, mRetN, mRet, mAsg, mAsgG, mPar, putM, mSet, forL, mFor, wipeS, keepFz, restoreS, eLc, tYes', mask, fnS, eD0, dcL, eDc, sortF, eSortIt, tyN, isB, eIs, newOf, parked, eCallN, dictF, dictP, pick, eCallK, Sl.mt, addS_ap, subS_ap, mulI_ap, mulS_ap, modS_ap, fdivS_ap, powS_ap, intB_ap, ordS_ap, shaped_bool, shaped_int, shaped_none, eqv_bool, eqv_int, eqv_str, eqv_none, addT, catL, pairD, i0, e, sx, s2, g]
end L11

namespace L11
open PySem PySem.Spec L2 Sh


theorem law_pairs_d {n : Nat} {d : D} {N : List Str} (hN : ∀ x ∈ N, nmB x = true) (S : Sl) (hS : S = .fz (.list (strsOf N)) ∨ S = .ow (strsOf N)) (h : okB n d = true) (hz : szD d ≤ 7000) :
    fs__law_are_pairs [.fz d, S] = some (.fz (.bool (lawB N d)), [.fz d, S]) := by
  have hSu : S ≠ .un := by rcases hS with rfl | rfl <;> simp [eVar, eC, eBin, g2, Opd.get, tBl, truS, truO, tTr, tAnd', tOr', tNot', eAndT, eOrT, eNotT, eIf, frz, eFrz, aNil, aCons, allFz, disp, Sl.d, Sl.l, intS, catS, orG, repS, eqvS, strC, eChain, Sl.isN, isNS, Sl.isB, isBS, toKey, inS, ixS, pNone, pSome, slS, eSl, eNeg, gets, eFn, one, lenS, absS, intF, seqS, listF, tupF, bools, allF, isKind, eMt, appM, popM, atI, argsOf, refsOf, nodupB, putBack, eCall, iSeq, iRng1', iRng2', zipD, iZip', enumD, iEnum', gNm, gsNil, gsCons, gTp, mSkip, mSeq, mBk, mCt, mIf, mDrop, mRetN, mRet, mAsg, mAsgG, mPar, putM, mSet, forL, mFor, wipeS, keepFz, restoreS, lcL, eLc, tYes', mask, fnS, eD0, dcL, eDc, sortF, eSortIt, tyN, isB, eIs, newOf, parked, eCallN, dictF, dictP, pick, eCallK, Sl.mt, addS_ap, subS_ap, mulI_ap, mulS_ap, modS_ap, fdivS_ap, powS_ap, intB_ap, ordS_ap, shaped_bool, shaped_int, shaped_none, eqv_bool, eqv_int, eqv_str, eqv_none, addT, catL]
  cases n with
  | zero => cases h
  | succ n =>
    cases d with
    | dict kvs => cases h
    | tuple ds =>
      have h : ds.all (okB n) = true := h
      have l1 := szs_len ds
      have l3 : ds.length ≤ 3500 := by rw [szD] at hz; omega
      have l2 : ds.length ≤ 100000 := by omega
      obtain ⟨a', e⟩ := law_pairs_loop (n := n) hN (.fz (.tuple ds)) S hS ds .un (List.all_eq_true.mp h)
      cases q : ds.all (rowIn N) with
      | false =>
        rw [q] at e
        rcases hS with rfl | rfl <;> simp [eVar, eC, eBin, g2, Opd.get, tBl, truS, truO, tTr, tAnd', tOr', tNot', eAndT, eOrT, eNotT, eIf, frz, eFrz, aNil, aCons, allFz, disp, Sl.d, Sl.l, intS, catS, orG, repS, eqvS, strC, eChain, Sl.isN, isNS, Sl.isB, isBS, toKey, inS, ixS, pNone, pSome, slS, eSl, eNeg, gets, eFn, one, lenS, absS, intF, seqS, listF, tupF, bools, allF, isKind, eMt, appM, popM, atI, argsOf, refsOf, nodupB, putBack, eCall, iSeq, iRng1', iRng2', zipD, iZip', enumD, iEnum', gNm, gsNil, gsCons, gTp, mSkip, mSeq, mBk, mCt, mIf, mDrop, mRetN, mRet, mAsg, mAsgG, mPar, putM, mSet, mFor, wipeS, keepFz, restoreS, lcL, eLc, tYes', mask, fnS, eD0, dcL, eDc, sortF, eSortIt, tyN, isB, eIs, newOf, parked, eCallN, dictF, dictP, pick, eCallK, Sl.mt, addS_ap, subS_ap, mulI_ap, mulS_ap, modS_ap, fdivS_ap, powS_ap, intB_ap, ordS_ap, shaped_bool, shaped_int, shaped_none, eqv_bool, eqv_int, eqv_str, eqv_none, addT, catL, fs__law_are_pairs, m__law_are_pairs, lawB, l2, e, q, outB]
      | true =>
        rw [q] at e
        obtain ⟨ps, rfl, hp⟩ := all_pairs q
        obtain ⟨a1, e1⟩ := firsts_comp (.fz (.tuple (ps.map pairD))) S ps a'
        obtain ⟨a2, e2⟩ := firsts_comp (.fz (.tuple (ps.map pairD))) S ps (keepFz (some a'))
        have kl : (keysOf ps).length ≤ 3500 := by unfold keysOf; rw [List.length_map]; rw [List.length_map] at l3; exact l3
        have hk : ∀ x ∈ keysOf ps, okStr x := fun x hx => by
          obtain ⟨p, hpp, rfl⟩ := List.mem_map.mp hx
          exact nm_ok (hN _ (hp p hpp).1)
        have sh1 := strs_shaped (keysOf ps) hk
        have sh2 := strs_shaped (sortSt (dedL (keysOf ps))) fun x hx => hk x (ded_sub hx)
        have ev := eqv_strs (keysOf ps) (sortSt (dedL (keysOf ps)))
        have de : decide (keysOf ps = sortSt (dedL (keysOf ps))) = decide (StrL (keysOf ps)) := by
          by_cases c : StrL (keysOf ps)
          · rw [decide_eq_true c, decide_eq_true ((sort_fix _).mpr c)]
          · rw [decide_eq_false c, decide_eq_false fun z => c ((sort_fix _).mp z)]
        rw [de] at ev
        have so : sortSetS (.ow (strsOf (keysOf ps))) = some (.ow (strsOf (sortSt (dedL (keysOf ps))))) := by
          unfold sortSetS
          show (match txs (strsOf (keysOf ps)) with
            | some ks => if ks.length < 4000 then some (Sl.ow ((sortSt (dedL ks)).map PyData.str)) else none
            | none => none) = _
          rw [txs_strs]
          show (if (keysOf ps).length < 4000 then some (Sl.ow ((sortSt (dedL (keysOf ps))).map PyData.str)) else none) = _
          rw [if_pos (by omega)]
          rfl
        have fd := firstsD_pairs ps
        have lb : lawB N (.tuple (ps.map pairD)) = decide (StrL (keysOf ps)) := by
          show ((ps.map pairD).all (rowIn N) && decide (StrL (firstsD (ps.map pairD)))) = _
          rw [q, fd, Bool.true_and]
        have e3 : (strsOf (keysOf ps)).length ≤ 100000 := by rw [strs_len]; omega
        have oN : outB true = Out.nx := rfl
        rw [oN] at e
        rw [lb]
        generalize ekk : keysOf ps = kk at *
        unfold fs__law_are_pairs m__law_are_pairs
        generalize lb__law_are_pairs_1 = LB at e ⊢
        generalize ps.map pairD = qs at *
        rcases hS with rfl | rfl <;> simp [eVar, eC, eBin, g2, Opd.get, tBl, truS, truO, tTr, tAnd', tOr', tNot', eAndT, eOrT, eNotT, eIf, frz, eFrz, aNil, aCons, allFz, disp, Sl.d, Sl.l, intS, catS, orG, repS, eqvS, strC, eChain, Sl.isN, isNS, Sl.isB, isBS, toKey, inS, ixS, pNone, pSome, slS, eSl, eNeg, gets, eFn, one, lenS, absS, intF, seqS, listF, tupF, bools, allF, isKind, eMt, appM, popM, atI, argsOf, refsOf, nodupB, putBack, eCall, iSeq, iRng1', iRng2', zipD, iZip', enumD, iEnum', gNm, gsNil, gsCons, gTp, mSkip, mSeq, mBk, mCt, mIf, mDrop, mRetN, mRet, mAsg, mAsgG, mPar, putM, mSet, mFor, wipeS, restoreS, eLc, tYes', mask, fnS, eD0, dcL, eDc, sortF, eSortIt, tyN, isB, eIs, newOf, parked, eCallN, dictF, dictP, pick, eCallK, Sl.mt, addS_ap, subS_ap, mulI_ap, mulS_ap, modS_ap, fdivS_ap, powS_ap, intB_ap, ordS_ap, shaped_bool, shaped_int, shaped_none, eqv_bool, eqv_int, eqv_str, eqv_none, addT, catL, e, e1, e2, so, sh1, sh2, ev, l2, e3]
    | _ => rcases hS with rfl | rfl <;> simp [eVar, eC, eBin, g2, Opd.get, tBl, truS, truO, tTr, tAnd', tOr', tNot', eAndT, eOrT, eNotT, eIf, frz, eFrz, aNil, aCons, allFz, disp, Sl.d, Sl.l, intS, catS, orG, repS, eqvS, strC, eChain, Sl.isN, isNS, Sl.isB, isBS, toKey, inS, ixS, pNone, pSome, slS, eSl, eNeg, gets, eFn, one, lenS, absS, intF, seqS, listF, tupF, bools, allF, isKind, eMt, appM, popM, atI, argsOf, refsOf, nodupB, putBack, eCall, iSeq, iRng1', iRng2', zipD, iZip', enumD, iEnum', gNm, gsNil, gsCons, gTp, mSkip, mSeq, mBk, mCt, mIf, mDrop, mRetN, mRet, mAsg, mAsgG, mPar, putM, mSet, forL, mFor, wipeS, keepFz, restoreS, lcL, eLc, tYes', mask, fnS, eD0, dcL, eDc, sortF, eSortIt, tyN, isB, eIs, newOf, parked, eCallN, dictF, dictP, pick, eCallK, Sl.mt, addS_ap, subS_ap, mulI_ap, mulS_ap, modS_ap, fdivS_ap, powS_ap, intB_ap, ordS_ap, shaped_bool, shaped_int, shaped_none, eqv_bool, eqv_int, eqv_str, eqv_none, addT, catL, fs__law_are_pairs, m__law_are_pairs, lawB]
end L11

namespace L11
open PySem PySem.Spec L2 Sh


/-! ### the program's answers -/
theorem asc_keys : ∀ (ps : List SP) (last : Str), (∀ p ∈ ps, nmB p.1 = true ∧ nmB p.2 = true) → ascL last (ps.map pairD) = decide (StrL (last :: keysOf ps))
  | [], last, _ => by
    have : StrL (last :: keysOf []) := List.pairwise_singleton _ _
    rw [decide_eq_true this]
    rfl
  | p :: ps, last, h => by
    have hp := h p List.mem_cons_self
    have c : (nmB p.1 && nmB p.2) = true := by rw [Bool.and_eq_true]; exact hp
    have e : pairB (pairD p) = some p := by
      show (if (nmB p.1 && nmB p.2) = true then some (p.1, p.2) else none) = _
      rw [if_pos c]
    have ih := asc_keys ps p.1 fun x hx => h x (List.mem_cons_of_mem _ hx)
    show (match pairB (pairD p) with
      | some p => if last.cps.toList < p.1.cps.toList then ascL p.1 (ps.map pairD) else false
      | none => false) = _
    rw [e]
    show (if last.cps.toList < p.1.cps.toList then ascL p.1 (ps.map pairD) else false) = decide (StrL (last :: p.1 :: keysOf ps))
    rw [ih]
    by_cases lt : last.cps.toList < p.1.cps.toList
    · rw [if_pos lt]
      have e2 : StrL (last :: p.1 :: keysOf ps) ↔ StrL (p.1 :: keysOf ps) := by
        unfold StrL
        constructor
        · intro z; exact (List.pairwise_cons.mp z).2
        · intro z
          refine List.pairwise_cons.mpr ⟨fun y hy => ?_, z⟩
          rcases List.mem_cons.mp hy with rfl | hy
          · exact lt
          · exact List.lt_trans lt ((List.pairwise_cons.mp z).1 y hy)
      exact decide_eq_decide.mpr e2.symm
    · rw [if_neg lt]
      have : ¬ StrL (last :: p.1 :: keysOf ps) := fun z => lt ((List.pairwise_cons.mp z).1 p.1 List.mem_cons_self)
      rw [decide_eq_false this]
theorem nm_pos {x : Str} (h : nmB x = true) : ("" : Str).cps.toList < x.cps.toList := by
  have k : ∀ y ∈ good10, decide (("" : Str).cps.toList < y.cps.toList) = true := by decide +kernel
  exact of_decide_eq_true (k x (of_decide_eq_true h))
theorem are_pairs_ps {ps : List SP} (h : ∀ p ∈ ps, nmB p.1 = true ∧ nmB p.2 = true) : arePB (.tuple (ps.map pairD)) = decide (StrL (keysOf ps)) := by
  show ascL "" (ps.map pairD) = _
  rw [asc_keys ps "" h]
  refine decide_eq_decide.mpr ?_
  unfold StrL
  constructor
  · intro z; exact (List.pairwise_cons.mp z).2
  · intro z
    refine List.pairwise_cons.mpr ⟨fun y hy => ?_, z⟩
    obtain ⟨p, hp, rfl⟩ := List.mem_map.mp hy
    exact nm_pos (h p hp).1
theorem asc_pairs : ∀ {ds : List D} {last : Str}, ascL last ds = true → ∃ ps : List SP, ds = ps.map pairD ∧ ∀ p ∈ ps, nmB p.1 = true ∧ nmB p.2 = true
  | [], _, _ => ⟨[], rfl, fun _ h => nomatch h⟩
  | d :: ds, last, h => by
    unfold ascL at h
    cases q : pairB d with
    | none => rw [q] at h; cases h
    | some p =>
      rw [q] at h
      obtain ⟨rfl, h1⟩ := pairB_some q
      by_cases lt : last.cps.toList < p.1.cps.toList
      · have h : (if last.cps.toList < p.1.cps.toList then ascL p.1 ds else false) = true := h
        rw [if_pos lt] at h
        obtain ⟨ps, rfl, h2⟩ := asc_pairs h
        exact ⟨p :: ps, rfl, fun z hz => by
          rcases List.mem_cons.mp hz with rfl | hz
          · exact h1
          · exact h2 z hz⟩
      · have h : (if last.cps.toList < p.1.cps.toList then ascL p.1 ds else false) = true := h
        rw [if_neg lt] at h
        cases h
theorem law_ps {N : List Str} {ps : List SP} (h : ∀ p ∈ ps, nmB p.1 = true ∧ nmB p.2 = true) (hs : StrL (keysOf ps)) : lawB N (.tuple (ps.map pairD)) = ps.all fun p => decide (p.1 ∈ N) := by
  show ((ps.map pairD).all (rowIn N) && decide (StrL (firstsD (ps.map pairD)))) = _
  rw [firstsD_pairs, decide_eq_true hs, Bool.and_true, List.all_map]
  have each : ∀ p ∈ ps, (rowIn N ∘ pairD) p = decide (p.1 ∈ N) := fun p hp => by
    show (decide (p.1 ∈ N) && nmB p.2) = _
    rw [(h p hp).2, Bool.and_true]
  rw [Bool.eq_iff_iff, List.all_eq_true, List.all_eq_true]
  constructor
  · intro z p hp; rw [← each p hp]; exact z p hp
  · intro z p hp; rw [each p hp]; exact z p hp
theorem law_are {N : List Str} (hN : ∀ x ∈ N, nmB x = true) {d : D} (h : lawB N d = true) : arePB d = true := by
  cases d with
  | tuple ds =>
    have h : (ds.all (rowIn N) && decide (StrL (firstsD ds))) = true := h
    rw [Bool.and_eq_true, decide_eq_true_eq] at h
    obtain ⟨ps, rfl, h2⟩ := all_pairs h.1
    rw [firstsD_pairs] at h
    rw [are_pairs_ps fun p hp => ⟨hN _ (h2 p hp).1, (h2 p hp).2⟩]
    exact decide_eq_true h.2
  | _ => cases h
theorem all_of_ok {N : List Str} (hN : ∀ x ∈ N, nmB x = true) (S : Sl) (hS : S = .fz (.list (strsOf N)) ∨ S = .ow (strsOf N)) {ps : List SP} (h : ∀ p ∈ ps, nmB p.1 = true ∧ nmB p.2 = true) (hl : ps.length ≤ 3500) :
    fs__are_all_of [S, .fz (.tuple (ps.map pairD))] = some (.fz (.bool (ps.all fun p => decide (p.1 ∈ N))), [S, .fz (.tuple (ps.map pairD))]) := by
  obtain ⟨a', e⟩ := allof_comp hN S (.fz (.tuple (ps.map pairD))) hS ps .un fun p hp => (h p hp).1
  have l1 : (ps.map pairD).length ≤ 100000 := by rw [List.length_map]; omega
  have b1 := bools_map (fun p : SP => decide (p.1 ∈ N)) ps
  have l2 : ps.length ≤ 100000 := by omega
  have e5 : (ps.map fun p : SP => decide (p.1 ∈ N)).all id = ps.all fun p => decide (p.1 ∈ N) := by rw [List.all_map]; rfl
  rcases hS with rfl | rfl <;> simp [eVar, eC, eBin, g2, Opd.get, tBl, truS, truO, tTr, tAnd', tOr', tNot', eAndT, eOrT, eNotT, eIf, frz, eFrz, aNil, aCons, allFz, disp, Sl.d, Sl.l, intS, catS, orG, repS, eqvS, strC, eChain, Sl.isN, isNS, Sl.isB, isBS, toKey, inS, ixS, pNone, pSome, slS, eSl, eNeg, gets, eFn, one, lenS, absS, intF, seqS, listF, tupF, bools, allF, isKind, eMt, appM, popM, atI, argsOf, refsOf, nodupB, putBack, eCall, iSeq, iRng1', iRng2', zipD, iZip', enumD, iEnum', gNm, gsNil, gsCons, gTp, mSkip, mSeq, mBk, mCt, mIf, mDrop, mRetN, mRet, mAsg, mAsgG, mPar, putM, mSet, forL, mFor, wipeS, keepFz, restoreS, eLc, tYes', mask, fnS, eD0, dcL, eDc, sortF, eSortIt, tyN, isB, eIs, newOf, parked, eCallN, dictF, dictP, pick, eCallK, Sl.mt, addS_ap, subS_ap, mulI_ap, mulS_ap, modS_ap, fdivS_ap, powS_ap, intB_ap, ordS_ap, shaped_bool, shaped_int, shaped_none, eqv_bool, eqv_int, eqv_str, eqv_none, addT, catL, fs__are_all_of, m__are_all_of, e, b1, l1, l2, e5, -List.all_map, -List.all_eq_true]
end L11

namespace L11
open PySem PySem.Spec L2 Sh


/-! ### are_wants, is_plan -/
def SS (rows : List Row) (T : Sl) : Prop := T = .fz (.list (rows.map rowL)) ∨ T = .ow (rows.map rowL)
def TT (rows : List Row) (T : Sl) : Prop := T = .fz (.tuple (rows.map rowD)) ∨ T = .fz (.list (rows.map rowL)) ∨ T = .ow (rows.map rowL)
theorem names_nm {rows : List Row} (t : Tree rows) : ∀ x ∈ namesOf rows, nmB x = true := fun x hx => by
  have k : ∀ y ∈ left12, nmB y = true := by decide +kernel
  exact k x (t.nm x hx)
theorem are_wants_d {n : Nat} {d : D} {rows : List Row} (t : Tree rows) (hr : rows.length ≤ 12) {T : Sl} (hT : TT rows T) (h : okB n d = true) (hz : szD d ≤ 7000) :
    ∃ T', (SS rows T → SS rows T') ∧ ((∃ x, T = .fz x) → T' = T) ∧ fs_are_wants [T, .fz d] = some (.fz (.bool (lawB (namesOf rows) d)), [T', .fz d]) := by
  have e1 := are_pairs_d h (by omega)
  have hN := names_nm t
  cases q : arePB d with
  | false =>
    have q2 : lawB (namesOf rows) d = false := by
      cases z : lawB (namesOf rows) d with
      | false => rfl
      | true => rw [law_are hN z] at q; cases q
    rw [q] at e1
    refine ⟨T, id, fun _ => rfl, ?_⟩
    rw [q2]
    rcases hT with rfl | rfl | rfl <;> simp [eVar, eC, eBin, g2, Opd.get, tBl, truS, truO, tTr, tAnd', tOr', tNot', eAndT, eOrT, eNotT, eIf, frz, eFrz, aNil, aCons, allFz, disp, Sl.d, Sl.l, intS, catS, orG, repS, eqvS, strC, eChain, Sl.isN, isNS, Sl.isB, isBS, toKey, inS, ixS, pNone, pSome, slS, eSl, eNeg, gets, eFn, one, lenS, absS, intF, seqS, listF, tupF, bools, allF, isKind, eMt, appM, popM, atI, argsOf, refsOf, nodupB, putBack, eCall, iSeq, iRng1', iRng2', zipD, iZip', enumD, iEnum', gNm, gsNil, gsCons, gTp, mSkip, mSeq, mBk, mCt, mIf, mDrop, mRetN, mRet, mAsg, mAsgG, mPar, putM, mSet, forL, mFor, wipeS, keepFz, restoreS, lcL, eLc, tYes', mask, fnS, eD0, dcL, eDc, sortF, eSortIt, tyN, isB, eIs, newOf, parked, eCallN, dictF, dictP, pick, eCallK, Sl.mt, addS_ap, subS_ap, mulI_ap, mulS_ap, modS_ap, fdivS_ap, powS_ap, intB_ap, ordS_ap, shaped_bool, shaped_int, shaped_none, eqv_bool, eqv_int, eqv_str, eqv_none, addT, catL, fs_are_wants, m_are_wants, e1]
  | true =>
    rw [q] at e1
    have hT0 := hT
    cases d with
    | tuple ds =>
      obtain ⟨ps, rfl, hp⟩ := asc_pairs (show ascL "" ds = true from q)
      rw [are_pairs_ps hp, decide_eq_true_eq] at q
      have l1 := szs_len (ps.map pairD)
      rw [List.length_map] at l1
      have e2 := all_of_ok hN (.fz (.list (strsOf (namesOf rows)))) (.inl rfl) hp (by rw [szD] at hz; omega)
      rw [law_ps hp q]
      have l2 : rows.length ≤ 100000 := by omega
      rcases hT with rfl | rfl | rfl
      · obtain ⟨a', e3⟩ := names3 (.fz (.tuple (rows.map rowD))) (.fz (.tuple (ps.map pairD))) rowD (fun _ => .inl rfl) rows .un
        refine ⟨.fz (.tuple (rows.map rowD)), id, fun _ => rfl, ?_⟩
        simp [eVar, eC, eBin, g2, Opd.get, tBl, truS, truO, tTr, tAnd', tOr', tNot', eAndT, eOrT, eNotT, eIf, frz, eFrz, aNil, aCons, allFz, disp, Sl.d, Sl.l, intS, catS, orG, repS, eqvS, strC, eChain, Sl.isN, isNS, Sl.isB, isBS, toKey, inS, ixS, pNone, pSome, slS, eSl, eNeg, gets, eFn, one, lenS, absS, intF, seqS, listF, tupF, bools, allF, isKind, eMt, appM, popM, atI, argsOf, refsOf, nodupB, putBack, eCall, iSeq, iRng1', iRng2', zipD, iZip', enumD, iEnum', gNm, gsNil, gsCons, gTp, mSkip, mSeq, mBk, mCt, mIf, mDrop, mRetN, mRet, mAsg, mAsgG, mPar, putM, mSet, forL, mFor, wipeS, keepFz, restoreS, eLc, tYes', mask, fnS, eD0, dcL, eDc, sortF, eSortIt, tyN, isB, eIs, newOf, parked, eCallN, dictF, dictP, pick, eCallK, Sl.mt, addS_ap, subS_ap, mulI_ap, mulS_ap, modS_ap, fdivS_ap, powS_ap, intB_ap, ordS_ap, shaped_bool, shaped_int, shaped_none, eqv_bool, eqv_int, eqv_str, eqv_none, addT, catL, fs_are_wants, m_are_wants, e1, e2, e3, l2]
      · obtain ⟨a', e3⟩ := names3 (.fz (.list (rows.map rowL))) (.fz (.tuple (ps.map pairD))) rowL (fun _ => .inr rfl) rows .un
        refine ⟨.fz (.list (rows.map rowL)), id, fun _ => rfl, ?_⟩
        simp [eVar, eC, eBin, g2, Opd.get, tBl, truS, truO, tTr, tAnd', tOr', tNot', eAndT, eOrT, eNotT, eIf, frz, eFrz, aNil, aCons, allFz, disp, Sl.d, Sl.l, intS, catS, orG, repS, eqvS, strC, eChain, Sl.isN, isNS, Sl.isB, isBS, toKey, inS, ixS, pNone, pSome, slS, eSl, eNeg, gets, eFn, one, lenS, absS, intF, seqS, listF, tupF, bools, allF, isKind, eMt, appM, popM, atI, argsOf, refsOf, nodupB, putBack, eCall, iSeq, iRng1', iRng2', zipD, iZip', enumD, iEnum', gNm, gsNil, gsCons, gTp, mSkip, mSeq, mBk, mCt, mIf, mDrop, mRetN, mRet, mAsg, mAsgG, mPar, putM, mSet, forL, mFor, wipeS, keepFz, restoreS, eLc, tYes', mask, fnS, eD0, dcL, eDc, sortF, eSortIt, tyN, isB, eIs, newOf, parked, eCallN, dictF, dictP, pick, eCallK, Sl.mt, addS_ap, subS_ap, mulI_ap, mulS_ap, modS_ap, fdivS_ap, powS_ap, intB_ap, ordS_ap, shaped_bool, shaped_int, shaped_none, eqv_bool, eqv_int, eqv_str, eqv_none, addT, catL, fs_are_wants, m_are_wants, e1, e2, e3, l2]
      · obtain ⟨a', e3⟩ := names3 (.fz (.list (rows.map rowL))) (.fz (.tuple (ps.map pairD))) rowL (fun _ => .inr rfl) rows .un
        refine ⟨.fz (.list (rows.map rowL)), fun _ => .inl rfl, (fun ⟨_, z⟩ => nomatch z), ?_⟩
        simp [eVar, eC, eBin, g2, Opd.get, tBl, truS, truO, tTr, tAnd', tOr', tNot', eAndT, eOrT, eNotT, eIf, frz, eFrz, aNil, aCons, allFz, disp, Sl.d, Sl.l, intS, catS, orG, repS, eqvS, strC, eChain, Sl.isN, isNS, Sl.isB, isBS, toKey, inS, ixS, pNone, pSome, slS, eSl, eNeg, gets, eFn, one, lenS, absS, intF, seqS, listF, tupF, bools, allF, isKind, eMt, appM, popM, atI, argsOf, refsOf, nodupB, putBack, eCall, iSeq, iRng1', iRng2', zipD, iZip', enumD, iEnum', gNm, gsNil, gsCons, gTp, mSkip, mSeq, mBk, mCt, mIf, mDrop, mRetN, mRet, mAsg, mAsgG, mPar, putM, mSet, forL, mFor, wipeS, keepFz, restoreS, eLc, tYes', mask, fnS, eD0, dcL, eDc, sortF, eSortIt, tyN, isB, eIs, newOf, parked, eCallN, dictF, dictP, pick, eCallK, Sl.mt, addS_ap, subS_ap, mulI_ap, mulS_ap, modS_ap, fdivS_ap, powS_ap, intB_ap, ordS_ap, shaped_bool, shaped_int, shaped_none, eqv_bool, eqv_int, eqv_str, eqv_none, addT, catL, fs_are_wants, m_are_wants, e1, e2, e3, l2]
    | _ => cases q
def freeOf (rows : List Row) : List Str := namesOf (rows.filter fun r => !r.2.2)
def topIn (top : Str) : D → Bool
  | .tuple ds => decide (top ∈ firstsD ds)
  | _ => false
theorem free_nm {rows : List Row} (t : Tree rows) : ∀ x ∈ freeOf rows, nmB x = true := fun x hx => by
  obtain ⟨r, hr, rfl⟩ := List.mem_map.mp hx
  exact names_nm t _ (List.mem_map.mpr ⟨r, (List.mem_filter.mp hr).1, rfl⟩)
theorem is_plan_d {n : Nat} {d : D} {rows : List Row} (t : Tree rows) (hr : rows.length ≤ 12) {r0 : Row} {rest : List Row} (er : rows = r0 :: rest) {T : Sl} (hT : TT rows T) (h : okB n d = true) (hz : szD d ≤ 7000) :
    ∃ T', (SS rows T → SS rows T') ∧ ((∃ x, T = .fz x) → T' = T) ∧ fs_is_plan [T, .fz d] = some (.fz (.bool (lawB (freeOf rows) d && topIn r0.1 d)), [T', .fz d]) := by
  have e1 := are_pairs_d h (by omega)
  have hN := free_nm t
  have l2 : rows.length ≤ 100000 := by omega
  have z1 : atI (rows.map rowD) 0 = some (.tuple [.str r0.1, parD r0.2.1, .bool r0.2.2]) := by rw [er]; exact (atI_nat' _ 0).trans rfl
  have z2 : atI (rows.map rowL) 0 = some (.list [.str r0.1, parD r0.2.1, .bool r0.2.2]) := by rw [er]; exact (atI_nat' _ 0).trans rfl
  have z3 : atI [PyData.str r0.1, parD r0.2.1, .bool r0.2.2] 0 = some (.str r0.1) := rfl
  have nm0 : nmB r0.1 = true := names_nm t _ (by rw [er]; exact List.mem_cons_self)
  have st0 : SeqAt.shaped (.str r0.1) = true := nm_ok nm0
  cases q : arePB d with
  | false =>
    have q2 : lawB (freeOf rows) d = false := by
      cases z : lawB (freeOf rows) d with
      | false => rfl
      | true => rw [law_are hN z] at q; cases q
    rw [q] at e1
    rw [q2, Bool.false_and]
    rcases hT with rfl | rfl | rfl
    · obtain ⟨a', e3⟩ := names5f (.fz (.tuple (rows.map rowD))) (.fz d) .un .un rowD (fun _ => .inl rfl) rows .un
      refine ⟨.fz (.tuple (rows.map rowD)), id, fun _ => rfl, ?_⟩
      simp [eVar, eC, eBin, g2, Opd.get, tBl, truS, truO, tTr, tAnd', tOr', tNot', eAndT, eOrT, eNotT, eIf, frz, eFrz, aNil, aCons, allFz, disp, Sl.d, Sl.l, intS, catS, orG, repS, eqvS, strC, eChain, Sl.isN, isNS, Sl.isB, isBS, toKey, inS, ixS, pNone, pSome, slS, eSl, eNeg, gets, eFn, one, lenS, absS, intF, seqS, listF, tupF, bools, allF, isKind, eMt, appM, popM, atI, argsOf, refsOf, nodupB, putBack, eCall, iSeq, iRng1', iRng2', zipD, iZip', enumD, iEnum', gNm, gsNil, gsCons, gTp, mSkip, mSeq, mBk, mCt, mIf, mDrop, mRetN, mRet, mAsg, mAsgG, mPar, putM, mSet, forL, mFor, wipeS, keepFz, restoreS, eLc, tYes', mask, fnS, eD0, dcL, eDc, sortF, eSortIt, tyN, isB, eIs, newOf, parked, eCallN, dictF, dictP, pick, eCallK, Sl.mt, addS_ap, subS_ap, mulI_ap, mulS_ap, modS_ap, fdivS_ap, powS_ap, intB_ap, ordS_ap, shaped_bool, shaped_int, shaped_none, eqv_bool, eqv_int, eqv_str, eqv_none, addT, catL, fs_is_plan, m_is_plan, e1, e3, l2]
    · obtain ⟨a', e3⟩ := names5f (.fz (.list (rows.map rowL))) (.fz d) .un .un rowL (fun _ => .inr rfl) rows .un
      refine ⟨.fz (.list (rows.map rowL)), id, fun _ => rfl, ?_⟩
      simp [eVar, eC, eBin, g2, Opd.get, tBl, truS, truO, tTr, tAnd', tOr', tNot', eAndT, eOrT, eNotT, eIf, frz, eFrz, aNil, aCons, allFz, disp, Sl.d, Sl.l, intS, catS, orG, repS, eqvS, strC, eChain, Sl.isN, isNS, Sl.isB, isBS, toKey, inS, ixS, pNone, pSome, slS, eSl, eNeg, gets, eFn, one, lenS, absS, intF, seqS, listF, tupF, bools, allF, isKind, eMt, appM, popM, atI, argsOf, refsOf, nodupB, putBack, eCall, iSeq, iRng1', iRng2', zipD, iZip', enumD, iEnum', gNm, gsNil, gsCons, gTp, mSkip, mSeq, mBk, mCt, mIf, mDrop, mRetN, mRet, mAsg, mAsgG, mPar, putM, mSet, forL, mFor, wipeS, keepFz, restoreS, eLc, tYes', mask, fnS, eD0, dcL, eDc, sortF, eSortIt, tyN, isB, eIs, newOf, parked, eCallN, dictF, dictP, pick, eCallK, Sl.mt, addS_ap, subS_ap, mulI_ap, mulS_ap, modS_ap, fdivS_ap, powS_ap, intB_ap, ordS_ap, shaped_bool, shaped_int, shaped_none, eqv_bool, eqv_int, eqv_str, eqv_none, addT, catL, fs_is_plan, m_is_plan, e1, e3, l2]
    · obtain ⟨a', e3⟩ := names5f (.fz (.list (rows.map rowL))) (.fz d) .un .un rowL (fun _ => .inr rfl) rows .un
      refine ⟨.fz (.list (rows.map rowL)), fun _ => .inl rfl, (fun ⟨_, z⟩ => nomatch z), ?_⟩
      simp [eVar, eC, eBin, g2, Opd.get, tBl, truS, truO, tTr, tAnd', tOr', tNot', eAndT, eOrT, eNotT, eIf, frz, eFrz, aNil, aCons, allFz, disp, Sl.d, Sl.l, intS, catS, orG, repS, eqvS, strC, eChain, Sl.isN, isNS, Sl.isB, isBS, toKey, inS, ixS, pNone, pSome, slS, eSl, eNeg, gets, eFn, one, lenS, absS, intF, seqS, listF, tupF, bools, allF, isKind, eMt, appM, popM, atI, argsOf, refsOf, nodupB, putBack, eCall, iSeq, iRng1', iRng2', zipD, iZip', enumD, iEnum', gNm, gsNil, gsCons, gTp, mSkip, mSeq, mBk, mCt, mIf, mDrop, mRetN, mRet, mAsg, mAsgG, mPar, putM, mSet, forL, mFor, wipeS, keepFz, restoreS, eLc, tYes', mask, fnS, eD0, dcL, eDc, sortF, eSortIt, tyN, isB, eIs, newOf, parked, eCallN, dictF, dictP, pick, eCallK, Sl.mt, addS_ap, subS_ap, mulI_ap, mulS_ap, modS_ap, fdivS_ap, powS_ap, intB_ap, ordS_ap, shaped_bool, shaped_int, shaped_none, eqv_bool, eqv_int, eqv_str, eqv_none, addT, catL, fs_is_plan, m_is_plan, e1, e3, l2]
  | true =>
    rw [q] at e1
    cases d with
    | tuple ds =>
      obtain ⟨ps, rfl, hp⟩ := asc_pairs (show ascL "" ds = true from q)
      rw [are_pairs_ps hp, decide_eq_true_eq] at q
      have l1 := szs_len (ps.map pairD)
      rw [List.length_map] at l1
      have l3 : ps.length ≤ 100000 := by rw [szD] at hz; omega
      have e2 := all_of_ok hN (.ow (strsOf (freeOf rows))) (.inr rfl) hp (by rw [szD] at hz; omega)
      rw [law_ps hp q]
      have sk := strs_shaped (keysOf ps) fun x hx => by
        obtain ⟨p, hpp, rfl⟩ := List.mem_map.mp hx
        exact nm_ok (hp p hpp).1
      have g := any_strs (keysOf ps) r0.1
      have tk : topIn r0.1 (.tuple (ps.map pairD)) = decide (r0.1 ∈ keysOf ps) := by
        show decide (r0.1 ∈ firstsD (ps.map pairD)) = _
        rw [firstsD_pairs]
      rw [tk]
      unfold freeOf at e2 ⊢
      generalize (ps.all fun p => decide (p.1 ∈ namesOf (rows.filter fun r => !r.2.2))) = al at e2 ⊢
      rcases hT with rfl | rfl | rfl
      · obtain ⟨a', e3⟩ := names5f (.fz (.tuple (rows.map rowD))) (.fz (.tuple (ps.map pairD))) .un .un rowD (fun _ => .inl rfl) rows .un
        obtain ⟨a2, e4⟩ := firsts5 (.fz (.tuple (rows.map rowD))) (.fz (.tuple (ps.map pairD))) (.ow (strsOf (namesOf (rows.filter fun r => !r.2.2)))) .un ps .un
        refine ⟨.fz (.tuple (rows.map rowD)), id, fun _ => rfl, ?_⟩
        cases al <;> simp [eVar, eC, eBin, g2, Opd.get, tBl, truS, truO, tTr, tAnd', tOr', tNot', eAndT, eOrT, eNotT, eIf, frz, eFrz, aNil, aCons, allFz, disp, Sl.d, Sl.l, intS, catS, orG, repS, eqvS, strC, eChain, Sl.isN, isNS, Sl.isB, isBS, toKey, inS, ixS, pNone, pSome, slS, eSl, eNeg, gets, eFn, one, lenS, absS, intF, seqS, listF, tupF, bools, allF, isKind, eMt, appM, popM, argsOf, refsOf, nodupB, putBack, eCall, iSeq, iRng1', iRng2', zipD, iZip', enumD, iEnum', gNm, gsNil, gsCons, gTp, mSkip, mSeq, mBk, mCt, mIf, mDrop, mRetN, mRet, mAsg, mAsgG, mPar, putM, mSet, forL, mFor, wipeS, keepFz, restoreS, eLc, tYes', mask, fnS, eD0, dcL, eDc, sortF, eSortIt, tyN, isB, eIs, newOf, parked, eCallN, dictF, dictP, pick, eCallK, Sl.mt, addS_ap, subS_ap, mulI_ap, mulS_ap, modS_ap, fdivS_ap, powS_ap, intB_ap, ordS_ap, shaped_bool, shaped_int, shaped_none, eqv_bool, eqv_int, eqv_str, eqv_none, addT, catL, fs_is_plan, m_is_plan, e1, e2, e3, e4, l2, l3, z1, z3, st0, sk, g]
      · obtain ⟨a', e3⟩ := names5f (.fz (.list (rows.map rowL))) (.fz (.tuple (ps.map pairD))) .un .un rowL (fun _ => .inr rfl) rows .un
        obtain ⟨a2, e4⟩ := firsts5 (.fz (.list (rows.map rowL))) (.fz (.tuple (ps.map pairD))) (.ow (strsOf (namesOf (rows.filter fun r => !r.2.2)))) .un ps .un
        refine ⟨.fz (.list (rows.map rowL)), id, fun _ => rfl, ?_⟩
        cases al <;> simp [eVar, eC, eBin, g2, Opd.get, tBl, truS, truO, tTr, tAnd', tOr', tNot', eAndT, eOrT, eNotT, eIf, frz, eFrz, aNil, aCons, allFz, disp, Sl.d, Sl.l, intS, catS, orG, repS, eqvS, strC, eChain, Sl.isN, isNS, Sl.isB, isBS, toKey, inS, ixS, pNone, pSome, slS, eSl, eNeg, gets, eFn, one, lenS, absS, intF, seqS, listF, tupF, bools, allF, isKind, eMt, appM, popM, argsOf, refsOf, nodupB, putBack, eCall, iSeq, iRng1', iRng2', zipD, iZip', enumD, iEnum', gNm, gsNil, gsCons, gTp, mSkip, mSeq, mBk, mCt, mIf, mDrop, mRetN, mRet, mAsg, mAsgG, mPar, putM, mSet, forL, mFor, wipeS, keepFz, restoreS, eLc, tYes', mask, fnS, eD0, dcL, eDc, sortF, eSortIt, tyN, isB, eIs, newOf, parked, eCallN, dictF, dictP, pick, eCallK, Sl.mt, addS_ap, subS_ap, mulI_ap, mulS_ap, modS_ap, fdivS_ap, powS_ap, intB_ap, ordS_ap, shaped_bool, shaped_int, shaped_none, eqv_bool, eqv_int, eqv_str, eqv_none, addT, catL, fs_is_plan, m_is_plan, e1, e2, e3, e4, l2, l3, z2, z3, st0, sk, g]
      · obtain ⟨a', e3⟩ := names5f (.fz (.list (rows.map rowL))) (.fz (.tuple (ps.map pairD))) .un .un rowL (fun _ => .inr rfl) rows .un
        obtain ⟨a2, e4⟩ := firsts5 (.fz (.list (rows.map rowL))) (.fz (.tuple (ps.map pairD))) (.ow (strsOf (namesOf (rows.filter fun r => !r.2.2)))) .un ps .un
        refine ⟨.fz (.list (rows.map rowL)), fun _ => .inl rfl, (fun ⟨_, z⟩ => nomatch z), ?_⟩
        cases al <;> simp [eVar, eC, eBin, g2, Opd.get, tBl, truS, truO, tTr, tAnd', tOr', tNot', eAndT, eOrT, eNotT, eIf, frz, eFrz, aNil, aCons, allFz, disp, Sl.d, Sl.l, intS, catS, orG, repS, eqvS, strC, eChain, Sl.isN, isNS, Sl.isB, isBS, toKey, inS, ixS, pNone, pSome, slS, eSl, eNeg, gets, eFn, one, lenS, absS, intF, seqS, listF, tupF, bools, allF, isKind, eMt, appM, popM, argsOf, refsOf, nodupB, putBack, eCall, iSeq, iRng1', iRng2', zipD, iZip', enumD, iEnum', gNm, gsNil, gsCons, gTp, mSkip, mSeq, mBk, mCt, mIf, mDrop, mRetN, mRet, mAsg, mAsgG, mPar, putM, mSet, forL, mFor, wipeS, keepFz, restoreS, eLc, tYes', mask, fnS, eD0, dcL, eDc, sortF, eSortIt, tyN, isB, eIs, newOf, parked, eCallN, dictF, dictP, pick, eCallK, Sl.mt, addS_ap, subS_ap, mulI_ap, mulS_ap, modS_ap, fdivS_ap, powS_ap, intB_ap, ordS_ap, shaped_bool, shaped_int, shaped_none, eqv_bool, eqv_int, eqv_str, eqv_none, addT, catL, fs_is_plan, m_is_plan, e1, e2, e3, e4, l2, l3, z2, z3, st0, sk, g]
    | _ => cases q
theorem due_d {n : Nat} {d : D} {rows : List Row} (t : Tree rows) (hr : rows.length ≤ 12) {r0 : Row} {rest : List Row} (er : rows = r0 :: rest) (h : okB n d = true) (hz : szD d ≤ 7000) :
    fs__law_due [.fz (.tuple (rows.map rowD)), .fz d] = some (.ow [.bool (lawB (namesOf rows) d), .bool (lawB (freeOf rows) d && topIn r0.1 d)], [.fz (.tuple (rows.map rowD)), .fz d]) := by
  have hN := names_nm t
  have hF := free_nm t
  have l2 : rows.length ≤ 100000 := by omega
  have e1 := law_pairs_d hN (.fz (.list (strsOf (namesOf rows)))) (.inl rfl) h hz
  have e2 := law_pairs_d hF (.ow (strsOf (freeOf rows))) (.inr rfl) h hz
  have z1 : atI (rows.map rowD) 0 = some (.tuple [.str r0.1, parD r0.2.1, .bool r0.2.2]) := by rw [er]; exact (atI_nat' _ 0).trans rfl
  have z3 : atI [PyData.str r0.1, parD r0.2.1, .bool r0.2.2] 0 = some (.str r0.1) := rfl
  have nm0 : nmB r0.1 = true := names_nm t _ (by rw [er]; exact List.mem_cons_self)
  have st0 : SeqAt.shaped (.str r0.1) = true := nm_ok nm0
  obtain ⟨a1, e3⟩ := names7f (.fz (.tuple (rows.map rowD))) (.fz d) .un .un .un .un rowD (fun _ => .inl rfl) rows .un
  obtain ⟨a2, e4⟩ := names7 (.fz (.tuple (rows.map rowD))) (.fz d) (.ow (strsOf (freeOf rows))) .un .un .un rowD (fun _ => .inl rfl) rows .un
  cases q : lawB (freeOf rows) d with
  | false =>
    rw [q] at e2
    unfold freeOf at e2 e4
    simp [eVar, eC, eBin, g2, Opd.get, tBl, truS, truO, tTr, tAnd', tOr', tNot', eAndT, eOrT, eNotT, eIf, frz, eFrz, aNil, aCons, allFz, disp, Sl.d, Sl.l, intS, catS, orG, repS, eqvS, strC, eChain, Sl.isN, isNS, Sl.isB, isBS, toKey, inS, ixS, pNone, pSome, slS, eSl, eNeg, gets, eFn, one, lenS, absS, intF, seqS, listF, tupF, bools, allF, isKind, eMt, appM, popM, atI, argsOf, refsOf, nodupB, putBack, eCall, iSeq, iRng1', iRng2', zipD, iZip', enumD, iEnum', gNm, gsNil, gsCons, gTp, mSkip, mSeq, mBk, mCt, mIf, mDrop, mRetN, mRet, mAsg, mAsgG, mPar, putM, mSet, forL, mFor, wipeS, keepFz, restoreS, eLc, tYes', mask, fnS, eD0, dcL, eDc, sortF, eSortIt, tyN, isB, eIs, newOf, parked, eCallN, dictF, dictP, pick, eCallK, Sl.mt, addS_ap, subS_ap, mulI_ap, mulS_ap, modS_ap, fdivS_ap, powS_ap, intB_ap, ordS_ap, shaped_bool, shaped_int, shaped_none, eqv_bool, eqv_int, eqv_str, eqv_none, addT, catL, fs__law_due, m__law_due, e1, e2, e3, e4, l2]
  | true =>
    rw [q] at e2
    cases d with
    | tuple ds =>
      have q' : (ds.all (rowIn (freeOf rows)) && decide (StrL (firstsD ds))) = true := q
      rw [Bool.and_eq_true] at q'
      obtain ⟨ps, rfl, hp⟩ := all_pairs q'.1
      have l1 := szs_len (ps.map pairD)
      rw [List.length_map] at l1
      have l3 : ps.length ≤ 100000 := by rw [szD] at hz; omega
      have sk := strs_shaped (keysOf ps) fun x hx => by
        obtain ⟨p, hpp, rfl⟩ := List.mem_map.mp hx
        exact nm_ok (hF _ (hp p hpp).1)
      have g := any_strs (keysOf ps) r0.1
      have tk : topIn r0.1 (.tuple (ps.map pairD)) = decide (r0.1 ∈ keysOf ps) := by
        show decide (r0.1 ∈ firstsD (ps.map pairD)) = _
        rw [firstsD_pairs]
      rw [tk]
      generalize lawB (namesOf rows) (.tuple (ps.map pairD)) = lb at e1 ⊢
      obtain ⟨a3, e5⟩ := firsts7 (.fz (.tuple (rows.map rowD))) (.fz (.tuple (ps.map pairD))) (.ow (strsOf (freeOf rows))) (.fz (.bool lb)) .un .un ps .un
      unfold freeOf at e2 e4 e5
      simp [eVar, eC, eBin, g2, Opd.get, tBl, truS, truO, tTr, tAnd', tOr', tNot', eAndT, eOrT, eNotT, eIf, frz, eFrz, aNil, aCons, allFz, disp, Sl.d, Sl.l, intS, catS, orG, repS, eqvS, strC, eChain, Sl.isN, isNS, Sl.isB, isBS, toKey, inS, ixS, pNone, pSome, slS, eSl, eNeg, gets, eFn, one, lenS, absS, intF, seqS, listF, tupF, bools, allF, isKind, eMt, appM, popM, argsOf, refsOf, nodupB, putBack, eCall, iSeq, iRng1', iRng2', zipD, iZip', enumD, iEnum', gNm, gsNil, gsCons, gTp, mSkip, mSeq, mBk, mCt, mIf, mDrop, mRetN, mRet, mAsg, mAsgG, mPar, putM, mSet, forL, mFor, wipeS, keepFz, restoreS, eLc, tYes', mask, fnS, eD0, dcL, eDc, sortF, eSortIt, tyN, isB, eIs, newOf, parked, eCallN, dictF, dictP, pick, eCallK, Sl.mt, addS_ap, subS_ap, mulI_ap, mulS_ap, modS_ap, fdivS_ap, powS_ap, intB_ap, ordS_ap, shaped_bool, shaped_int, shaped_none, eqv_bool, eqv_int, eqv_str, eqv_none, addT, catL, fs__law_due, m__law_due, e1, e2, e3, e4, e5, l2, l3, z1, z3, st0, sk, g]
    | _ => cases q
end L11

namespace L11
open PySem PySem.Spec L2 Sh


/-! ### by hand -/
def bhHead (M : SM) : SM := (mSeq (mPar 1 2 (aCons (eBin ixS (eBin ixS (eVar 0) (eC (.int 0))) (eC (.int 0))) (aCons (eLc [7] (iSeq (eVar 0)) (gNm 7) (tTr (eBin ixS (eVar 7) (eC (.int 2)))) (eBin ixS (eVar 7) (eC (.int 0)))) aNil)))
  (mSeq (mAsg 3 (eLst (aCons (eFrz (eTup aNil)) (aCons (eFrz (eTup (aCons (eFrz (eTup (aCons (eFrz (eVar 1)) (aCons (eC (.str "a")) aNil)))) aNil))) (aCons (eFrz (eTup (aCons (eFrz (eTup (aCons (eFrz (eVar 1)) (aCons (eC (.str "none")) aNil)))) aNil))) (aCons (eFrz (eTup (aCons (eFrz (eTup (aCons (eFrz (eVar 1)) (aCons (eC (.str "zzzzzzzz")) aNil)))) aNil))) (aCons (eFrz (eTup (aCons (eFrz (eTup (aCons (eFrz (eVar 1)) (aCons (eC (.str "a")) aNil)))) (aCons (eFrz (eTup (aCons (eFrz (eVar 1)) (aCons (eC (.str "a")) aNil)))) aNil)))) aNil)))))))
  (mSeq (mAsg 3 (eBin addT (eVar 3) (eLst (aCons (eFrz (eTup (aCons (eFrz (eTup (aCons (eFrz (eVar 1)) (aCons (eC (.str "a")) aNil)))) (aCons (eFrz (eTup (aCons (eFrz (eVar 1)) (aCons (eC (.str "b")) aNil)))) aNil)))) (aCons (eFrz (eTup (aCons (eFrz (eTup (aCons (eC (.str "nobody")) (aCons (eC (.str "a")) aNil)))) aNil))) (aCons (eFrz (eTup (aCons (eFrz (eTup (aCons (eFrz (eVar 1)) (aCons (eC (.str "a")) aNil)))) (aCons (eFrz (eTup (aCons (eC (.str "zzzz")) (aCons (eC (.str "b")) aNil)))) aNil)))) (aCons (eFrz (eTup (aCons (eFrz (eTup (aCons (eFrz (eVar 1)) (aCons (eC (.str "")) aNil)))) aNil))) aNil)))))))
  (mSeq (mAsg 3 (eBin addT (eVar 3) (eLst (aCons (eFrz (eTup (aCons (eFrz (eTup (aCons (eFrz (eVar 1)) (aCons (eC (.str "A")) aNil)))) aNil))) (aCons (eFrz (eTup (aCons (eFrz (eTup (aCons (eFrz (eVar 1)) (aCons (eC .none) aNil)))) aNil))) aNil)))))
  (mSeq (mAsg 3 (eBin addT (eVar 3) (eLst (aCons (eFrz (eTup (aCons (eFrz (eTup (aCons (eFrz (eVar 1)) aNil))) aNil))) (aCons (eFrz (eTup (aCons (eFrz (eTup (aCons (eFrz (eVar 1)) (aCons (eC (.str "a")) (aCons (eC (.str "b")) aNil))))) aNil))) (aCons (eFrz (eTup (aCons (eFrz (eVar 1)) (aCons (eC (.str "a")) aNil)))) (aCons (eFrz (eLst (aCons (eFrz (eTup (aCons (eFrz (eVar 1)) (aCons (eC (.str "a")) aNil)))) aNil))) (aCons (eFrz (eTup (aCons (eFrz (eLst (aCons (eFrz (eVar 1)) (aCons (eC (.str "a")) aNil)))) aNil))) (aCons (eC (.str "a")) (aCons (eC .none) (aCons (eC (.int 0)) aNil)))))))))))
  (mSeq (mAsg 3 (eBin addT (eVar 3) (eLst (aCons (eFrz (eTup (aCons (eFrz (eTup (aCons (eC .none) (aCons (eC (.str "a")) aNil)))) aNil))) (aCons (eFrz (eTup (aCons (eFrz (eTup (aCons (eC (.int 0)) (aCons (eC (.str "a")) aNil)))) aNil))) (aCons (eFrz (eTup (aCons (eFrz (eTup (aCons (eFrz (eLst (aCons (eFrz (eVar 1)) aNil))) (aCons (eC (.str "a")) aNil)))) aNil))) (aCons (eFrz (eTup (aCons (eFrz (eTup (aCons (eFrz (eVar 1)) (aCons (eFrz (eLst (aCons (eC (.str "a")) aNil))) aNil)))) aNil))) (aCons (eFrz (eTup (aCons (eFrz (eTup (aCons (eFrz (eLst aNil)) (aCons (eFrz (eLst aNil)) aNil)))) aNil))) (aCons (eFrz (eTup (aCons (eFrz (eTup (aCons (eFrz (eVar 1)) (aCons (eFrz (eTup (aCons (eC (.str "a")) aNil))) aNil)))) aNil))) aNil))))))))) M))))))
def bhTail : SM := (mSeq (mFor (iSeq (eSl (eVar 2) pNone (pSome (eC (.int 2))))) (gNm 4) lb__law_by_hand_1)
  (mSeq (mAsg 6 (eFn (one sortF) (aCons (eLc [7] (iSeq (eVar 0)) (gNm 7) tYes' (eBin ixS (eVar 7) (eC (.int 0)))) aNil)))
  (mRet (eBin addT (eVar 3) (eLst (aCons (eFrz (eFn (one tupF) (aCons (eLc [4] (iSeq (eVar 6)) (gNm 4) tYes' (eTup (aCons (eFrz (eVar 4)) (aCons (eC (.str "x")) aNil)))) aNil))) (aCons (eFrz (eFn (one tupF) (aCons (eLc [4] (iSeq (eRev (eVar 6))) (gNm 4) tYes' (eTup (aCons (eFrz (eVar 4)) (aCons (eC (.str "x")) aNil)))) aNil))) aNil)))))))
theorem bh_eq : m__law_by_hand = bhHead bhTail := rfl
def L0 (top : Str) : List D := [.tuple [], .tuple [.tuple [.str top, .str "a"]], .tuple [.tuple [.str top, .str "none"]], .tuple [.tuple [.str top, .str "zzzzzzzz"]], .tuple [.tuple [.str top, .str "a"], .tuple [.str top, .str "a"]], .tuple [.tuple [.str top, .str "a"], .tuple [.str top, .str "b"]], .tuple [.tuple [.str "nobody", .str "a"]], .tuple [.tuple [.str top, .str "a"], .tuple [.str "zzzz", .str "b"]], .tuple [.tuple [.str top, .str ""]], .tuple [.tuple [.str top, .str "A"]], .tuple [.tuple [.str top, .none]], .tuple [.tuple [.str top]], .tuple [.tuple [.str top, .str "a", .str "b"]], .tuple [.str top, .str "a"], .list [.tuple [.str top, .str "a"]], .tuple [.list [.str top, .str "a"]], .str "a", .none, .int 0, .tuple [.tuple [.none, .str "a"]], .tuple [.tuple [.int 0, .str "a"]], .tuple [.tuple [.list [.str top], .str "a"]], .tuple [.tuple [.str top, .list [.str "a"]]], .tuple [.tuple [.list [], .list []]], .tuple [.tuple [.str top, .tuple [.str "a"]]]]
theorem l0_ok : ∀ top ∈ left12, ∀ d ∈ L0 top, okB 4 d = true ∧ szD d ≤ 724 := by decide +kernel
theorem l0_len (top : Str) : (L0 top).length = 25 := rfl
theorem low8 (s0 s1 s2 s3 s4 s5 s6 : Sl) : ∀ (rows : List Row) (a : Sl), ∃ a', lcL [7] (gNm 7) (tTr (eBin ixS (eVar 7) (eC (.int 2)))) (eBin ixS (eVar 7) (eC (.int 0))) (rows.map rowD) [s0, s1, s2, s3, s4, s5, s6, a] = some (strsOf (namesOf (rows.filter fun r => r.2.2)), [s0, s1, s2, s3, s4, s5, s6, a'])
  | [], a => ⟨a, rfl⟩
  | r :: rows, a => by
    have i0 : ixN 3 0 = some 0 := rfl
    have i2 : ixN 3 2 = some 2 := rfl
    obtain ⟨a', e⟩ := low8 s0 s1 s2 s3 s4 s5 s6 rows (.fz (rowD r))
    refine ⟨a', ?_⟩
    rw [List.map_cons, lcL]
    obtain ⟨n, par, lk⟩ := r
    cases lk <;> simp [eVar, eC, eBin, g2, Opd.get, tBl, truS, truO, tTr, tAnd', tOr', tNot', eAndT, eOrT, eNotT, eIf, frz, eFrz, aNil, aCons, allFz, disp, Sl.d, Sl.l, intS, catS, orG, repS, eqvS, strC, eChain, Sl.isN, isNS, Sl.isB, isBS, toKey, inS, ixS, pNone, pSome, slS, eSl, eNeg, gets, eFn, one, lenS, absS, intF, seqS, listF, tupF, bools, allF, isKind, eMt, appM, popM, atI, argsOf, refsOf, nodupB, putBack, eCall, iSeq, iRng1', iRng2', zipD, iZip', enumD, iEnum', gNm, gsNil, gsCons, gTp, mSkip, mSeq, mBk, mCt, mIf, mDrop, mRetN, mRet, mAsg, mAsgG, mPar, putM, mSet, forL, mFor, wipeS, keepFz, restoreS, eLc, tYes', mask, fnS, eD0, dcL, eDc, sortF, eSortIt, tyN, isB, eIs, newOf, parked, eCallN, dictF, dictP, pick, eCallK, Sl.mt, addS_ap, subS_ap, mulI_ap, mulS_ap, modS_ap, fdivS_ap, powS_ap, intB_ap, ordS_ap, shaped_bool, shaped_int, shaped_none, eqv_bool, eqv_int, eqv_str, eqv_none, addT, catL, eRev, revS, rowD, i0, i2] <;> (try (simp only [rowD] at e)) <;> simp [eVar, eC, eBin, g2, Opd.get, tBl, truS, truO, tTr, tAnd', tOr', tNot', eAndT, eOrT, eNotT, eIf, frz, eFrz, aNil, aCons, allFz, disp, Sl.d, Sl.l, intS, catS, orG, repS, eqvS, strC, eChain, Sl.isN, isNS, Sl.isB, isBS, toKey, inS, ixS, pNone, pSome, slS, eSl, eNeg, gets, eFn, one, lenS, absS, intF, seqS, listF, tupF, bools, allF, isKind, eMt, appM, popM, atI, argsOf, refsOf, nodupB, putBack, eCall, iSeq, iRng1', iRng2', zipD, iZip', enumD, iEnum', gNm, gsNil, gsCons, gTp, mSkip, mSeq, mBk, mCt, mIf, mDrop, mRetN, mRet, mAsg, mAsgG, mPar, putM, mSet, forL, mFor, wipeS, keepFz, restoreS, eLc, tYes', mask, fnS, eD0, dcL, eDc, sortF, eSortIt, tyN, isB, eIs, newOf, parked, eCallN, dictF, dictP, pick, eCallK, Sl.mt, addS_ap, subS_ap, mulI_ap, mulS_ap, modS_ap, fdivS_ap, powS_ap, intB_ap, ordS_ap, shaped_bool, shaped_int, shaped_none, eqv_bool, eqv_int, eqv_str, eqv_none, addT, catL, eRev, revS, e, strsOf, namesOf]
theorem all8 (s0 s1 s2 s3 s4 s5 s6 : Sl) : ∀ (rows : List Row) (a : Sl), ∃ a', lcL [7] (gNm 7) tYes' (eBin ixS (eVar 7) (eC (.int 0))) (rows.map rowD) [s0, s1, s2, s3, s4, s5, s6, a] = some (strsOf (namesOf rows), [s0, s1, s2, s3, s4, s5, s6, a'])
  | [], a => ⟨a, rfl⟩
  | r :: rows, a => by
    have i0 : ixN 3 0 = some 0 := rfl
    have i2 : ixN 3 2 = some 2 := rfl
    obtain ⟨a', e⟩ := all8 s0 s1 s2 s3 s4 s5 s6 rows (.fz (rowD r))
    refine ⟨a', ?_⟩
    rw [List.map_cons, lcL]
    obtain ⟨n, par, lk⟩ := r
    cases lk <;> simp [eVar, eC, eBin, g2, Opd.get, tBl, truS, truO, tTr, tAnd', tOr', tNot', eAndT, eOrT, eNotT, eIf, frz, eFrz, aNil, aCons, allFz, disp, Sl.d, Sl.l, intS, catS, orG, repS, eqvS, strC, eChain, Sl.isN, isNS, Sl.isB, isBS, toKey, inS, ixS, pNone, pSome, slS, eSl, eNeg, gets, eFn, one, lenS, absS, intF, seqS, listF, tupF, bools, allF, isKind, eMt, appM, popM, atI, argsOf, refsOf, nodupB, putBack, eCall, iSeq, iRng1', iRng2', zipD, iZip', enumD, iEnum', gNm, gsNil, gsCons, gTp, mSkip, mSeq, mBk, mCt, mIf, mDrop, mRetN, mRet, mAsg, mAsgG, mPar, putM, mSet, forL, mFor, wipeS, keepFz, restoreS, eLc, tYes', mask, fnS, eD0, dcL, eDc, sortF, eSortIt, tyN, isB, eIs, newOf, parked, eCallN, dictF, dictP, pick, eCallK, Sl.mt, addS_ap, subS_ap, mulI_ap, mulS_ap, modS_ap, fdivS_ap, powS_ap, intB_ap, ordS_ap, shaped_bool, shaped_int, shaped_none, eqv_bool, eqv_int, eqv_str, eqv_none, addT, catL, eRev, revS, rowD, i0, i2] <;> (try (simp only [rowD] at e)) <;> simp [eVar, eC, eBin, g2, Opd.get, tBl, truS, truO, tTr, tAnd', tOr', tNot', eAndT, eOrT, eNotT, eIf, frz, eFrz, aNil, aCons, allFz, disp, Sl.d, Sl.l, intS, catS, orG, repS, eqvS, strC, eChain, Sl.isN, isNS, Sl.isB, isBS, toKey, inS, ixS, pNone, pSome, slS, eSl, eNeg, gets, eFn, one, lenS, absS, intF, seqS, listF, tupF, bools, allF, isKind, eMt, appM, popM, atI, argsOf, refsOf, nodupB, putBack, eCall, iSeq, iRng1', iRng2', zipD, iZip', enumD, iEnum', gNm, gsNil, gsCons, gTp, mSkip, mSeq, mBk, mCt, mIf, mDrop, mRetN, mRet, mAsg, mAsgG, mPar, putM, mSet, forL, mFor, wipeS, keepFz, restoreS, eLc, tYes', mask, fnS, eD0, dcL, eDc, sortF, eSortIt, tyN, isB, eIs, newOf, parked, eCallN, dictF, dictP, pick, eCallK, Sl.mt, addS_ap, subS_ap, mulI_ap, mulS_ap, modS_ap, fdivS_ap, powS_ap, intB_ap, ordS_ap, shaped_bool, shaped_int, shaped_none, eqv_bool, eqv_int, eqv_str, eqv_none, addT, catL, eRev, revS, e, strsOf, namesOf]
theorem x8 (s0 s1 s2 s3 s5 s6 s7 : Sl) : ∀ (xs : List Str) (a : Sl), ∃ a', lcL [4] (gNm 4) tYes' (eTup (aCons (eFrz (eVar 4)) (aCons (eC (.str "x")) aNil))) (strsOf xs) [s0, s1, s2, s3, a, s5, s6, s7] = some ((xs.map fun n => ((n, "x") : SP)).map pairD, [s0, s1, s2, s3, a', s5, s6, s7])
  | [], a => ⟨a, rfl⟩
  | x :: xs, a => by
    obtain ⟨a', e⟩ := x8 s0 s1 s2 s3 s5 s6 s7 xs (.fz (.str x))
    refine ⟨a', ?_⟩
    have e0 : strsOf (x :: xs) = .str x :: strsOf xs := rfl
    rw [e0, lcL]
    simp [eVar, eC, eBin, g2, Opd.get, tBl, truS, truO, tTr, tAnd', tOr', tNot', eAndT, eOrT, eNotT, eIf, frz, eFrz, aNil, aCons, allFz, disp, Sl.d, Sl.l, intS, catS, orG, repS, eqvS, strC, eChain, Sl.isN, isNS, Sl.isB, isBS, toKey, inS, ixS, pNone, pSome, slS, eSl, eNeg, gets, eFn, one, lenS, absS, intF, seqS, listF, tupF, bools, allF, isKind, eMt, appM, popM, atI, argsOf, refsOf, nodupB, putBack, eCall, iSeq, iRng1', iRng2', zipD, iZip', enumD, iEnum', gNm, gsNil, gsCons, gTp, mSkip, mSeq, mBk, mCt, mIf, mDrop, mRetN, mRet, mAsg, mAsgG, mPar, putM, mSet, forL, mFor, wipeS, keepFz, restoreS, eLc, tYes', mask, fnS, eD0, dcL, eDc, sortF, eSortIt, tyN, isB, eIs, newOf, parked, eCallN, dictF, dictP, pick, eCallK, Sl.mt, addS_ap, subS_ap, mulI_ap, mulS_ap, modS_ap, fdivS_ap, powS_ap, intB_ap, ordS_ap, shaped_bool, shaped_int, shaped_none, eqv_bool, eqv_int, eqv_str, eqv_none, addT, catL, eRev, revS, e, pairD]
theorem head_ok (M : SM) {rows : List Row} (hr : rows.length ≤ 12) {r0 : Row} {rest : List Row} (er : rows = r0 :: rest) :
    bhHead M [.fz (.tuple (rows.map rowD)), .un, .un, .un, .un, .un, .un, .un] = M [.fz (.tuple (rows.map rowD)), .fz (.str r0.1), .ow (strsOf (namesOf (rows.filter fun r => r.2.2))), .ow (L0 r0.1), .un, .un, .un, .un] := by
  have l2 : rows.length ≤ 100000 := by omega
  have z1 : atI (rows.map rowD) 0 = some (.tuple [.str r0.1, parD r0.2.1, .bool r0.2.2]) := by rw [er]; exact (atI_nat' _ 0).trans rfl
  have z3 : atI [PyData.str r0.1, parD r0.2.1, .bool r0.2.2] 0 = some (.str r0.1) := rfl
  obtain ⟨a1, e1⟩ := low8 (.fz (.tuple (rows.map rowD))) .un .un .un .un .un .un rows .un
  simp [eVar, eC, eBin, g2, Opd.get, tBl, truS, truO, tTr, tAnd', tOr', tNot', eAndT, eOrT, eNotT, eIf, frz, eFrz, aNil, aCons, allFz, disp, Sl.d, Sl.l, intS, catS, orG, repS, eqvS, strC, eChain, Sl.isN, isNS, Sl.isB, isBS, toKey, inS, ixS, pNone, pSome, slS, eSl, eNeg, gets, eFn, one, lenS, absS, intF, seqS, listF, tupF, bools, allF, isKind, eMt, appM, popM, argsOf, refsOf, nodupB, putBack, eCall, iSeq, iRng1', iRng2', zipD, iZip', enumD, iEnum', gNm, gsNil, gsCons, gTp, mSkip, mSeq, mBk, mCt, mIf, mDrop, mRetN, mRet, mAsg, mAsgG, mPar, putM, mSet, forL, mFor, wipeS, keepFz, restoreS, eLc, tYes', mask, fnS, eD0, dcL, eDc, sortF, eSortIt, tyN, isB, eIs, newOf, parked, eCallN, dictF, dictP, pick, eCallK, Sl.mt, addS_ap, subS_ap, mulI_ap, mulS_ap, modS_ap, fdivS_ap, powS_ap, intB_ap, ordS_ap, shaped_bool, shaped_int, shaped_none, eqv_bool, eqv_int, eqv_str, eqv_none, addT, catL, eRev, revS, bhHead, L0, e1, z1, z3, l2]
end L11

namespace L11
open PySem PySem.Spec L2 Sh


theorem pairs_okB {ps : List SP} (h : ∀ p ∈ ps, p.1 ∈ strs10 ∧ p.2 ∈ strs10) : okB 3 (.tuple (ps.map pairD)) = true := by
  show List.all (ps.map pairD) (okB 2) = true
  rw [List.all_eq_true]
  intro d hd
  obtain ⟨p, hp, rfl⟩ := List.mem_map.mp hd
  show List.all [PyData.str p.1, .str p.2] (okB 1) = true
  have e1 : okB 1 (.str p.1) = true := decide_eq_true (h p hp).1
  have e2 : okB 1 (.str p.2) = true := decide_eq_true (h p hp).2
  rw [List.all_cons, List.all_cons, List.all_nil, e1, e2]
  rfl
theorem pairs_sz : ∀ ps : List SP, szs (ps.map pairD) = 42 * ps.length
  | [] => rfl
  | p :: ps => by
    have e : szD (pairD p) = 40 := by
      show szD (.tuple [.str p.1, .str p.2]) = 40
      rw [szD, szs, szs, szs, szD, szD]
    rw [List.map_cons, szs, e, pairs_sz ps, List.length_cons]; omega
def Few (d : D) : Prop := okB 4 d = true ∧ szD d ≤ 724
theorem few_pairs {ps : List SP} (h : ∀ p ∈ ps, p.1 ∈ strs10 ∧ p.2 ∈ strs10) (hl : ps.length ≤ 12) : Few (.tuple (ps.map pairD)) :=
  ⟨okB_mono 3 4 _ (by decide) (pairs_okB h), by rw [szD, pairs_sz]; omega⟩
theorem nm_strs {x : Str} (h : x ∈ left12) : x ∈ strs10 := of_decide_eq_true (left_in x h)
theorem ain : ("a" : Str) ∈ strs10 := by decide +kernel
theorem bin : ("b" : Str) ∈ strs10 := by decide +kernel
theorem low_loop (T t2 : Sl) {top : Str} (ht : top ∈ left12) (xs : List Str) (hx : ∀ x ∈ xs, x ∈ left12) (hl : xs.length ≤ 2) : ∃ L a4 a5, forL (gNm 4) lb__law_by_hand_1 (strsOf xs) [T, .fz (.str top), t2, .ow (L0 top), .un, .un, .un, .un] =
    some (.nx, [T, .fz (.str top), t2, .ow L, a4, a5, .un, .un]) ∧ L.length ≤ 31 ∧ ∀ d ∈ L, Few d := by
  obtain ⟨st', e, L, a4, a5, rfl, h1, h2⟩ := forL_run (g := gNm 4) (b := lb__law_by_hand_1) (strsOf xs) (fun j st => ∃ L a4 a5, st = [T, .fz (.str top), t2, .ow L, a4, a5, .un, .un] ∧ L.length ≤ 25 + 3 * j ∧ ∀ d ∈ L, Few d) 0 (fun j d hj st hst => by
    obtain ⟨L, a4, a5, rfl, h1, h2⟩ := hst
    have hjl : j < (strsOf xs).length := (List.getElem?_eq_some_iff.mp hj).1
    rw [strs_len] at hjl
    obtain ⟨x, hxm, rfl⟩ := List.mem_map.mp (List.mem_of_getElem? hj)
    have xin := hx x hxm
    have so := pairs_sort [(x, "a"), (top, "b")] (by simp [eVar, eC, eBin, g2, Opd.get, tBl, truS, truO, tTr, tAnd', tOr', tNot', eAndT, eOrT, eNotT, eIf, frz, eFrz, aNil, aCons, allFz, disp, Sl.d, Sl.l, intS, catS, orG, repS, eqvS, strC, eChain, Sl.isN, isNS, Sl.isB, isBS, toKey, inS, ixS, pNone, pSome, slS, eSl, eNeg, gets, eFn, one, lenS, absS, intF, seqS, listF, tupF, bools, allF, isKind, eMt, appM, popM, atI, argsOf, refsOf, nodupB, putBack, eCall, iSeq, iRng1', iRng2', zipD, iZip', enumD, iEnum', gNm, gsNil, gsCons, gTp, mSkip, mSeq, mBk, mCt, mIf, mDrop, mRetN, mRet, mAsg, mAsgG, mPar, putM, mSet, forL, mFor, wipeS, keepFz, restoreS, lcL, eLc, tYes', mask, fnS, eD0, dcL, eDc, sortF, eSortIt, tyN, isB, eIs, newOf, parked, eCallN, dictF, dictP, pick, eCallK, Sl.mt, addS_ap, subS_ap, mulI_ap, mulS_ap, modS_ap, fdivS_ap, powS_ap, intB_ap, ordS_ap, shaped_bool, shaped_int, shaped_none, eqv_bool, eqv_int, eqv_str, eqv_none, addT, catL, eRev, revS])
    have so : sortOk [.tuple [.str x, .str "a"], .tuple [.str top, .str "b"]] = true := so
    have sd : sortD [.tuple [.str x, .str "a"], .tuple [.str top, .str "b"]] = (sortP [(x, "a"), (top, "b")]).map pairD := sortD_pairs [(x, "a"), (top, "b")]
    have mem : ∀ p ∈ sortP [(x, "a"), (top, "b")], p.1 ∈ strs10 ∧ p.2 ∈ strs10 := fun p hp => by
      have hp := (sortP_perm _).mem_iff.mp hp
      simp only [List.mem_cons, List.not_mem_nil, or_false] at hp
      rcases hp with rfl | rfl
      · exact ⟨nm_strs xin, ain⟩
      · exact ⟨nm_strs ht, bin⟩
    have ln : (sortP [(x, "a"), (top, "b")]).length = 2 := sortP_len _
    generalize sortP [(x, "a"), (top, "b")] = zs at sd mem ln
    have lL : L.length ≤ 99000 := by omega
    have lL3 : L.length + 3 ≤ 100000 := by omega
    have lL4 : L.length ≤ 99997 := by omega
    refine ⟨[T, .fz (.str top), t2, .ow L, .fz (.str x), a5, .un, .un], [T, .fz (.str top), t2, .ow (L ++ [.tuple [.tuple [.str x, .str "a"]], .tuple (zs.map pairD), .tuple (zs.map pairD).reverse]), .fz (.str x), .ow (zs.map pairD), .un, .un], rfl, ?_, _, _, _, rfl, ?_, ?_⟩
    · simp [eVar, eC, eBin, g2, Opd.get, tBl, truS, truO, tTr, tAnd', tOr', tNot', eAndT, eOrT, eNotT, eIf, frz, eFrz, aNil, aCons, allFz, disp, Sl.d, Sl.l, intS, catS, orG, repS, eqvS, strC, eChain, Sl.isN, isNS, Sl.isB, isBS, toKey, inS, ixS, pNone, pSome, slS, eSl, eNeg, gets, eFn, one, lenS, absS, intF, seqS, listF, tupF, bools, allF, isKind, eMt, appM, popM, atI, argsOf, refsOf, nodupB, putBack, eCall, iSeq, iRng1', iRng2', zipD, iZip', enumD, iEnum', gNm, gsNil, gsCons, gTp, mSkip, mSeq, mBk, mCt, mIf, mDrop, mRetN, mRet, mAsg, mAsgG, mPar, putM, mSet, forL, mFor, wipeS, keepFz, restoreS, lcL, eLc, tYes', mask, fnS, eD0, dcL, eDc, sortF, eSortIt, tyN, isB, eIs, newOf, parked, eCallN, dictF, dictP, pick, eCallK, Sl.mt, addS_ap, subS_ap, mulI_ap, mulS_ap, modS_ap, fdivS_ap, powS_ap, intB_ap, ordS_ap, shaped_bool, shaped_int, shaped_none, eqv_bool, eqv_int, eqv_str, eqv_none, addT, catL, eRev, revS, lb__law_by_hand_1, so, sd, lL, lL3, lL4]
    · rw [List.length_append]
      show L.length + 3 ≤ _
      omega
    · intro d hd
      rcases List.mem_append.mp hd with hd | hd
      · exact h2 d hd
      · simp only [List.mem_cons, List.not_mem_nil, or_false] at hd
        rcases hd with rfl | rfl | rfl
        · exact few_pairs (ps := [(x, "a")]) (fun p hp => by
            rw [List.mem_singleton.mp hp]
            exact ⟨nm_strs xin, ain⟩) (by simp [eVar, eC, eBin, g2, Opd.get, tBl, truS, truO, tTr, tAnd', tOr', tNot', eAndT, eOrT, eNotT, eIf, frz, eFrz, aNil, aCons, allFz, disp, Sl.d, Sl.l, intS, catS, orG, repS, eqvS, strC, eChain, Sl.isN, isNS, Sl.isB, isBS, toKey, inS, ixS, pNone, pSome, slS, eSl, eNeg, gets, eFn, one, lenS, absS, intF, seqS, listF, tupF, bools, allF, isKind, eMt, appM, popM, atI, argsOf, refsOf, nodupB, putBack, eCall, iSeq, iRng1', iRng2', zipD, iZip', enumD, iEnum', gNm, gsNil, gsCons, gTp, mSkip, mSeq, mBk, mCt, mIf, mDrop, mRetN, mRet, mAsg, mAsgG, mPar, putM, mSet, forL, mFor, wipeS, keepFz, restoreS, lcL, eLc, tYes', mask, fnS, eD0, dcL, eDc, sortF, eSortIt, tyN, isB, eIs, newOf, parked, eCallN, dictF, dictP, pick, eCallK, Sl.mt, addS_ap, subS_ap, mulI_ap, mulS_ap, modS_ap, fdivS_ap, powS_ap, intB_ap, ordS_ap, shaped_bool, shaped_int, shaped_none, eqv_bool, eqv_int, eqv_str, eqv_none, addT, catL, eRev, revS])
        · exact few_pairs mem (by omega)
        · rw [← List.map_reverse]
          exact few_pairs (fun p hp => mem p (List.mem_reverse.mp hp)) (by rw [List.length_reverse]; omega))
    [T, .fz (.str top), t2, .ow (L0 top), .un, .un, .un, .un] ⟨_, _, _, rfl, by rw [l0_len]; omega, fun d hd => l0_ok top ht d hd⟩
  refine ⟨L, a4, a5, e, ?_, h2⟩
  rw [strs_len] at h1
  omega
theorem by_hand_ok {rows : List Row} (t : Tree rows) (hr : rows.length ≤ 12) : ∃ L, fs__law_by_hand [.fz (.tuple (rows.map rowD))] = some (.ow L, [.fz (.tuple (rows.map rowD))]) ∧ L.length ≤ 40 ∧ ∀ d ∈ L, Few d := by
  obtain ⟨r0, rest, er⟩ : ∃ r0 rest, rows = r0 :: rest := by
    cases rows with
    | nil => exact (t.ne rfl).elim
    | cons a b => exact ⟨a, b, rfl⟩
  have t0 : r0.1 ∈ left12 := t.nm _ (by rw [er]; exact List.mem_cons_self)
  have lown : ∀ x ∈ namesOf (rows.filter fun r => r.2.2), x ∈ left12 := fun x hx => by
    obtain ⟨r, hr, rfl⟩ := List.mem_map.mp hx
    exact t.nm _ (List.mem_map.mpr ⟨r, (List.mem_filter.mp hr).1, rfl⟩)
  have cutm : cut (strsOf (namesOf (rows.filter fun r => r.2.2))) none (some 2) = strsOf ((namesOf (rows.filter fun r => r.2.2)).take 2) := by
    have := cut_to (strsOf (namesOf (rows.filter fun r => r.2.2))) 2
    rw [show ((2 : Nat) : Int) = 2 from rfl] at this
    rw [this]
    unfold strsOf
    rw [List.map_take]
  obtain ⟨L, a4, a5, e1, h1, h2⟩ := low_loop (.fz (.tuple (rows.map rowD))) (.ow (strsOf (namesOf (rows.filter fun r => r.2.2)))) t0 ((namesOf (rows.filter fun r => r.2.2)).take 2) (fun x hx => lown x (List.mem_of_mem_take hx)) (List.length_take_le _ _)
  have l2 : rows.length ≤ 100000 := by omega
  have hd := head_ok bhTail hr er
  obtain ⟨b1, e2⟩ := all8 (.fz (.tuple (rows.map rowD))) (.fz (.str r0.1)) (.ow (strsOf (namesOf (rows.filter fun r => r.2.2)))) (.ow L) a4 a5 .un rows .un
  have nl : (namesOf rows).length ≤ 12 := by unfold namesOf; rw [List.length_map]; exact hr
  have nn : ∀ x ∈ namesOf rows, x ∈ left12 := t.nm
  have so := strs_sortOk (namesOf rows) (by omega)
  have so : sortOk (strsOf (namesOf rows)) = true := so
  have sd : sortD (strsOf (namesOf rows)) = strsOf (sortSt (namesOf rows)) := (sort_map PyData.str (namesOf rows)).symm
  have sm : ∀ x ∈ sortSt (namesOf rows), x ∈ left12 := fun x hx => nn x ((sortSt_perm _).mem_iff.mp hx)
  have sl : (sortSt (namesOf rows)).length ≤ 12 := by rw [(sortSt_perm _).length_eq]; exact nl
  generalize sortSt (namesOf rows) = zs at sd sm sl
  obtain ⟨b2, e3⟩ := x8 (.fz (.tuple (rows.map rowD))) (.fz (.str r0.1)) (.ow (strsOf (namesOf (rows.filter fun r => r.2.2)))) (.ow L) a5 (.fz (.list (strsOf zs))) .un zs a4
  obtain ⟨b3, e4⟩ := x8 (.fz (.tuple (rows.map rowD))) (.fz (.str r0.1)) (.ow (strsOf (namesOf (rows.filter fun r => r.2.2)))) (.ow L) a5 (.fz (.list (strsOf zs))) .un zs.reverse (keepFz (some a4))
  have rv : strsOf zs.reverse = (strsOf zs).reverse := by unfold strsOf; rw [List.map_reverse]
  rw [rv] at e4
  have lz : (strsOf zs).length ≤ 100000 := by rw [strs_len]; omega
  have ll : L.length + 2 ≤ 100000 := by omega
  have ll2 : L.length ≤ 99998 := by omega
  have lc : (cut (strsOf (namesOf (rows.filter fun r => r.2.2))) none (some 2)).length ≤ 100000 := by rw [cutm, strs_len]; have := List.length_take_le 2 (namesOf (rows.filter fun r => r.2.2)); omega
  refine ⟨L ++ [.tuple ((zs.map fun n => ((n, "x") : SP)).map pairD), .tuple ((zs.reverse.map fun n => ((n, "x") : SP)).map pairD)], ?_, ?_, ?_⟩
  · unfold fs__law_by_hand
    rw [bh_eq]
    generalize hM : bhHead bhTail = M at hd
    generalize namesOf (rows.filter fun r => r.2.2) = low at *
    have ku : keepFz (some .un) = .un := rfl
    simp [eVar, eC, eBin, g2, Opd.get, tBl, truS, truO, tTr, tAnd', tOr', tNot', eAndT, eOrT, eNotT, eIf, frz, eFrz, aNil, aCons, allFz, disp, Sl.d, Sl.l, intS, catS, orG, repS, eqvS, strC, eChain, Sl.isN, isNS, Sl.isB, isBS, toKey, inS, ixS, pNone, pSome, slS, eSl, eNeg, gets, eFn, one, lenS, absS, intF, seqS, listF, tupF, bools, allF, isKind, eMt, appM, popM, atI, argsOf, refsOf, nodupB, putBack, eCall, iSeq, iRng1', iRng2', zipD, iZip', enumD, iEnum', gNm, gsNil, gsCons, gTp, mSkip, mSeq, mBk, mCt, mIf, mDrop, mRetN, mRet, mAsg, mAsgG, mPar, putM, mSet, mFor, wipeS, restoreS, eLc, tYes', mask, fnS, eD0, dcL, eDc, sortF, eSortIt, tyN, isB, eIs, newOf, parked, eCallN, dictF, dictP, pick, eCallK, Sl.mt, addS_ap, subS_ap, mulI_ap, mulS_ap, modS_ap, fdivS_ap, powS_ap, intB_ap, ordS_ap, shaped_bool, shaped_int, shaped_none, eqv_bool, eqv_int, eqv_str, eqv_none, addT, catL, eRev, revS, ku, hd, bhTail, cutm, e1, e2, so, sd, e3, e4, l2, lz, ll, ll2, lc, nl, -List.map_reverse]
  · rw [List.length_append]
    show L.length + 2 ≤ 40
    omega
  · have xs10 : ("x" : Str) ∈ strs10 := by decide +kernel
    intro d hd
    rcases List.mem_append.mp hd with hd | hd
    · exact h2 d hd
    · simp only [List.mem_cons, List.not_mem_nil, or_false] at hd
      rcases hd with rfl | rfl
      · exact few_pairs (fun p hp => by
          obtain ⟨x, hx, rfl⟩ := List.mem_map.mp hp
          exact ⟨nm_strs (sm x hx), xs10⟩) (by rw [List.length_map]; omega)
      · exact few_pairs (fun p hp => by
          obtain ⟨x, hx, rfl⟩ := List.mem_map.mp hp
          exact ⟨nm_strs (sm x (List.mem_reverse.mp hx)), xs10⟩) (by rw [List.length_map, List.length_reverse]; omega)
end L11

namespace L11
open PySem PySem.Spec L2 Sh


/-! ### a part, looked at -/
theorem soft_ok {rows : List Row} (t : Tree rows) (hr : rows.length ≤ 12) : fs__law_lists 20 [.fz (.tuple (rows.map rowD))] = some (.ow (rows.map rowL), [.fz (.tuple (rows.map rowD))]) := by
  have h := lists_ok 20 (TD rows) (okD_mono 3 20 _ (by decide) (ok_TD t (by omega) 0))
  have e : softSl (TD rows) = .ow (softs (rows.map rowD)) := rfl
  rw [e, soft_rows] at h
  exact h
theorem shaped_soft {rows : List Row} (t : Tree rows) (hr : rows.length ≤ 12) : SeqAt.shaped (.list (rows.map rowL)) = true := by
  have h := ok_TD t (by omega) 0
  have h2 := okD_shaped (okD_soft 3 _ h) (by decide)
  have e : soft (TD rows) = .list (softs (rows.map rowD)) := rfl
  rw [e, soft_rows] at h2
  exact h2
theorem look_ok (b tn sm ag lap w du told : Sl) {rows : List Row} (t : Tree rows) (hr : rows.length ≤ 12) {S7 : Sl} (hS : SS rows S7) {n : Nat} {d : D} (h : okB n d = true) (hn : n ≤ 64) (hz : szD d ≤ 7000) :
    ∃ S7' w' du' told', SS rows S7' ∧ lb__law_right_3 [b, tn, .fz (.tuple (rows.map rowD)), sm, ag, .fz d, lap, S7, w, du, told] = some (.nx, [b, tn, .fz (.tuple (rows.map rowD)), sm, ag, .fz d, lap, S7', w', du', told']) := by
  obtain ⟨r0, rest, er⟩ : ∃ r0 rest, rows = r0 :: rest := by
    cases rows with
    | nil => exact (t.ne rfl).elim
    | cons a b => exact ⟨a, b, rfl⟩
  have e1 := repr_ok h hn (by omega)
  have s1 := shown_shaped h
  have e2 := due_d t hr er h hz
  obtain ⟨T1, _, q1, e3⟩ := are_wants_d t hr (T := .fz (.tuple (rows.map rowD))) (.inl rfl) h hz
  obtain ⟨T2, _, q2, e4⟩ := is_plan_d t hr er (T := .fz (.tuple (rows.map rowD))) (.inl rfl) h hz
  obtain rfl := q1 ⟨_, rfl⟩
  obtain rfl := q2 ⟨_, rfl⟩
  have up : ∀ {S : Sl}, SS rows S → TT rows S := fun h => .inr h
  obtain ⟨S1, p1, c1, e5⟩ := are_wants_d t hr (up hS) h hz
  replace p1 := p1 hS
  obtain ⟨S2, p2, c2, e6⟩ := is_plan_d t hr er (up p1) h hz
  replace p2 := p2 p1
  have e7 := soft_ok t hr
  have s7 := shaped_soft t hr
  have v7 : PyData.eqv (.list (rows.map rowL)) (.list (rows.map rowL)) = true := eqv_self _ (noD_shaped s7)
  generalize lawB (namesOf rows) d = b1 at e2 e3 e5
  generalize (lawB (freeOf rows) d && topIn r0.1 d) = b2 at e2 e4 e6
  have e8 := same_ok 20 (.list [.bool b1, .bool b2, .bool b1, .bool b2]) (.ow [.bool b1, .bool b2, .bool b1, .bool b2]) (by cases b1 <;> cases b2 <;> decide +kernel) (.inr ⟨_, rfl, rfl⟩)
  refine ⟨S2, .fz (.str d.shown), .ow [.bool b1, .bool b2], .fz (.list [.bool b1, .bool b2, .bool b1, .bool b2]), p2, ?_⟩
  rcases hS with rfl | rfl
  · obtain rfl := c1 ⟨_, rfl⟩
    obtain rfl := c2 ⟨_, rfl⟩
    simp [eVar, eC, eBin, g2, Opd.get, tBl, truS, truO, tTr, tAnd', tOr', tNot', eAndT, eOrT, eNotT, eIf, frz, eFrz, aNil, aCons, allFz, disp, Sl.d, Sl.l, intS, catS, orG, repS, eqvS, strC, eChain, Sl.isN, isNS, Sl.isB, isBS, toKey, inS, ixS, pNone, pSome, slS, eSl, eNeg, gets, eFn, one, lenS, absS, intF, seqS, listF, tupF, bools, allF, isKind, eMt, appM, popM, atI, argsOf, refsOf, nodupB, putBack, eCall, iSeq, iRng1', iRng2', zipD, iZip', enumD, iEnum', gNm, gsNil, gsCons, gTp, mSkip, mSeq, mBk, mCt, mIf, mDrop, mRetN, mRet, mAsg, mAsgG, mPar, putM, mSet, forL, mFor, wipeS, keepFz, restoreS, lcL, eLc, tYes', mask, fnS, eD0, dcL, eDc, sortF, eSortIt, tyN, isB, eIs, newOf, parked, eCallN, dictF, dictP, pick, eCallK, Sl.mt, addS_ap, subS_ap, mulI_ap, mulS_ap, modS_ap, fdivS_ap, powS_ap, intB_ap, ordS_ap, shaped_bool, shaped_int, shaped_none, eqv_bool, eqv_int, eqv_str, eqv_none, addT, catL, eRev, revS, lb__law_right_3, e1, s1, e2, e3, e4, e5, e6, e7, s7, v7, e8]
  · rcases p1 with rfl | rfl
    · obtain rfl := c2 ⟨_, rfl⟩
      simp [eVar, eC, eBin, g2, Opd.get, tBl, truS, truO, tTr, tAnd', tOr', tNot', eAndT, eOrT, eNotT, eIf, frz, eFrz, aNil, aCons, allFz, disp, Sl.d, Sl.l, intS, catS, orG, repS, eqvS, strC, eChain, Sl.isN, isNS, Sl.isB, isBS, toKey, inS, ixS, pNone, pSome, slS, eSl, eNeg, gets, eFn, one, lenS, absS, intF, seqS, listF, tupF, bools, allF, isKind, eMt, appM, popM, atI, argsOf, refsOf, nodupB, putBack, eCall, iSeq, iRng1', iRng2', zipD, iZip', enumD, iEnum', gNm, gsNil, gsCons, gTp, mSkip, mSeq, mBk, mCt, mIf, mDrop, mRetN, mRet, mAsg, mAsgG, mPar, putM, mSet, forL, mFor, wipeS, keepFz, restoreS, lcL, eLc, tYes', mask, fnS, eD0, dcL, eDc, sortF, eSortIt, tyN, isB, eIs, newOf, parked, eCallN, dictF, dictP, pick, eCallK, Sl.mt, addS_ap, subS_ap, mulI_ap, mulS_ap, modS_ap, fdivS_ap, powS_ap, intB_ap, ordS_ap, shaped_bool, shaped_int, shaped_none, eqv_bool, eqv_int, eqv_str, eqv_none, addT, catL, eRev, revS, lb__law_right_3, e1, s1, e2, e3, e4, e5, e6, e7, s7, v7, e8]
    · rcases p2 with rfl | rfl <;> simp [eVar, eC, eBin, g2, Opd.get, tBl, truS, truO, tTr, tAnd', tOr', tNot', eAndT, eOrT, eNotT, eIf, frz, eFrz, aNil, aCons, allFz, disp, Sl.d, Sl.l, intS, catS, orG, repS, eqvS, strC, eChain, Sl.isN, isNS, Sl.isB, isBS, toKey, inS, ixS, pNone, pSome, slS, eSl, eNeg, gets, eFn, one, lenS, absS, intF, seqS, listF, tupF, bools, allF, isKind, eMt, appM, popM, atI, argsOf, refsOf, nodupB, putBack, eCall, iSeq, iRng1', iRng2', zipD, iZip', enumD, iEnum', gNm, gsNil, gsCons, gTp, mSkip, mSeq, mBk, mCt, mIf, mDrop, mRetN, mRet, mAsg, mAsgG, mPar, putM, mSet, forL, mFor, wipeS, keepFz, restoreS, lcL, eLc, tYes', mask, fnS, eD0, dcL, eDc, sortF, eSortIt, tyN, isB, eIs, newOf, parked, eCallN, dictF, dictP, pick, eCallK, Sl.mt, addS_ap, subS_ap, mulI_ap, mulS_ap, modS_ap, fdivS_ap, powS_ap, intB_ap, ordS_ap, shaped_bool, shaped_int, shaped_none, eqv_bool, eqv_int, eqv_str, eqv_none, addT, catL, eRev, revS, lb__law_right_3, e1, s1, e2, e3, e4, e5, e6, e7, s7, v7, e8]
end L11

namespace L11
open PySem PySem.Spec L2 Sh


theorem looks_ok (b tn sm ag lap : Sl) {rows : List Row} (t : Tree rows) (hr : rows.length ≤ 12) (xs : List D) (h : ∀ d ∈ xs, okB 7 d = true ∧ szD d ≤ 7000) (p S7 w du told : Sl) (hS : SS rows S7) :
    ∃ p' S' w' du' told', forL (gNm 5) lb__law_right_3 xs [b, tn, .fz (.tuple (rows.map rowD)), sm, ag, p, lap, S7, w, du, told] = some (.nx, [b, tn, .fz (.tuple (rows.map rowD)), sm, ag, p', lap, S', w', du', told']) := by
  obtain ⟨st', e, p', S', w', du', told', rfl, _⟩ := forL_inv (g := gNm 5) (b := lb__law_right_3) (fun st => ∃ p S w du told, st = [b, tn, .fz (.tuple (rows.map rowD)), sm, ag, p, lap, S, w, du, told] ∧ SS rows S) xs (fun d hd st hst => by
    obtain ⟨p, S, w, du, told, rfl, hS⟩ := hst
    obtain ⟨S', w', du', told', hS', e⟩ := look_ok b tn sm ag lap w du told t hr hS (h d hd).1 (by decide) (h d hd).2
    exact ⟨_, _, rfl, e, _, _, _, _, _, rfl, hS'⟩) [b, tn, .fz (.tuple (rows.map rowD)), sm, ag, p, lap, S7, w, du, told] ⟨_, _, _, _, _, rfl, hS⟩
  exact ⟨p', S', w', du', told', e⟩

/-! ### three things changed -/
def bnd : Nat → Nat
  | 0 => 724
  | n + 1 => 2 * bnd n + 60
theorem bnd_le : ∀ j, j ≤ 3 → bnd j ≤ 7000 ∧ (j < 3 → bnd j ≤ 4000) := by decide
def Mid (d : D) : Prop := okB 7 d = true ∧ szD d ≤ 7000
theorem few_mid {d : D} (h : Few d) : Mid d := ⟨okB_mono 4 7 _ (by decide) h.1, by have := h.2; omega⟩
theorem atI_last {α : Type} (xs : List α) (h : xs ≠ []) : ∃ x ∈ xs, atI xs (-1) = some x := by
  have h0 : 0 < xs.length := List.length_pos_iff.mpr h
  have e : L2.ixN xs.length (-1) = some (xs.length - 1) := by
    unfold L2.ixN
    rw [if_neg (by omega), if_pos (by omega)]
    congr 1
    omega
  refine ⟨xs[xs.length - 1]'(by omega), List.getElem_mem _, ?_⟩
  unfold atI
  rw [e]
  exact List.getElem?_eq_getElem _
structure BS (tn ag S7 w du told : Sl) (T : D) (n0 m j : Nat) (st : S) : Prop where
  ex : ∃ s ys d g, st = [s, tn, .fz T, .ow ys, ag, .fz d, g, S7, w, du, told] ∧ Bx (m + 30 * j) s ∧ okB (4 + j) d = true ∧ szD d ≤ bnd j ∧ (∀ y ∈ ys, Mid y) ∧ ys.length ≤ n0 + j
theorem bents_ok (tn ag S7 w du told : Sl) {rows : List Row} (t : Tree rows) (hr : rows.length ≤ 12) (n0 : Nat) (hx : n0 ≤ 2000) (m : Nat) (hm : m < 800000) (ds : List D) (hd : ds.length = 3) (st : S) (h : BS tn ag S7 w du told (.tuple (rows.map rowD)) n0 m 0 st) :
    ∃ st', forL (gNm 6) lb__law_right_1 ds st = some (.nx, st') ∧ BS tn ag S7 w du told (.tuple (rows.map rowD)) n0 m 3 st' := by
  obtain ⟨r0, rest, er⟩ : ∃ r0 rest, rows = r0 :: rest := by
    cases rows with
    | nil => exact (t.ne rfl).elim
    | cons a b => exact ⟨a, b, rfl⟩
  have nl : ∀ r ∈ rows, r.1 ∈ strs10 := fun r hr => nm_strs (t.nm _ (List.mem_map.mpr ⟨r, hr, rfl⟩))
  have z1 : atI (rows.map rowD) 0 = some (.tuple [.str r0.1, parD r0.2.1, .bool r0.2.2]) := by rw [er]; exact (atI_nat' _ 0).trans rfl
  have z3 : ∀ r : Row, atI [PyData.str r.1, parD r.2.1, .bool r.2.2] 0 = some (.str r.1) := fun _ => rfl
  obtain ⟨rl, hrl, z2⟩ : ∃ rl ∈ rows, atI (rows.map rowD) (-1) = some (.tuple [.str rl.1, parD rl.2.1, .bool rl.2.2]) := by
    obtain ⟨x, hx, e⟩ := atI_last (rows.map rowD) (by rw [er]; simp [eVar, eC, eBin, g2, Opd.get, tBl, truS, truO, tTr, tAnd', tOr', tNot', eAndT, eOrT, eNotT, eIf, frz, eFrz, aNil, aCons, allFz, disp, Sl.d, Sl.l, intS, catS, orG, repS, eqvS, strC, eChain, Sl.isN, isNS, Sl.isB, isBS, toKey, inS, ixS, pNone, pSome, slS, eSl, eNeg, gets, eFn, one, lenS, absS, intF, seqS, listF, tupF, bools, allF, isKind, eMt, appM, popM, atI, argsOf, refsOf, nodupB, putBack, eCall, iSeq, iRng1', iRng2', zipD, iZip', enumD, iEnum', gNm, gsNil, gsCons, gTp, mSkip, mSeq, mBk, mCt, mIf, mDrop, mRetN, mRet, mAsg, mAsgG, mPar, putM, mSet, forL, mFor, wipeS, keepFz, restoreS, lcL, eLc, tYes', mask, fnS, eD0, dcL, eDc, sortF, eSortIt, tyN, isB, eIs, newOf, parked, eCallN, dictF, dictP, pick, eCallK, Sl.mt, addS_ap, subS_ap, mulI_ap, mulS_ap, modS_ap, fdivS_ap, powS_ap, intB_ap, ordS_ap, shaped_bool, shaped_int, shaped_none, eqv_bool, eqv_int, eqv_str, eqv_none, addT, catL, eRev, revS])
    obtain ⟨rl, hrl, rfl⟩ := List.mem_map.mp hx
    exact ⟨rl, hrl, e⟩
  have h0 := nl r0 (by rw [er]; exact List.mem_cons_self)
  have hq := nl rl hrl
  obtain ⟨st', e, h'⟩ := forL_run (g := gNm 6) (b := lb__law_right_1) ds (BS tn ag S7 w du told (.tuple (rows.map rowD)) n0 m) 0 (fun j x hj st hst => by
    have hj3 : j < 3 := by rw [← hd]; exact (List.getElem?_eq_some_iff.mp hj).1
    rw [Nat.zero_add] at hst ⊢
    obtain ⟨s, ys, d, g, rfl, hb, ho, hz, hf, hl⟩ := hst.ex
    have hbd := (bnd_le j (by omega)).2 hj3
    obtain ⟨d', s', e1, o1, o2, o3⟩ := bent_ok hq h0 (4 + j) 20 d (m + 30 * j) s ho (by omega) (by omega) (by omega) hb (by omega)
    unfold leafS at e1
    obtain ⟨b1, rfl⟩ := hb.ow
    obtain ⟨b2, rfl⟩ := o3.ow
    have hb3 := (bnd_le (j + 1) (by omega)).1
    have hz' : szD d' ≤ bnd (j + 1) := by rw [bnd]; omega
    have ll : ys.length < 100000 := by omega
    refine ⟨[.ow b1, tn, .fz (.tuple (rows.map rowD)), .ow ys, ag, .fz d, .fz x, S7, w, du, told], [.ow b2, tn, .fz (.tuple (rows.map rowD)), .ow (ys ++ [d']), ag, .fz d', .fz x, S7, w, du, told], rfl, ?_, ⟨.ow b2, ys ++ [d'], d', .fz x, rfl, o3.mono (by omega), by rw [show 4 + (j + 1) = 4 + j + 1 by omega]; exact o1, hz', ?_, ?_⟩⟩
    · simp [eVar, eC, eBin, g2, Opd.get, tBl, truS, truO, tTr, tAnd', tOr', tNot', eAndT, eOrT, eNotT, eIf, frz, eFrz, aNil, aCons, allFz, disp, Sl.d, Sl.l, intS, catS, orG, repS, eqvS, strC, eChain, Sl.isN, isNS, Sl.isB, isBS, toKey, inS, ixS, pNone, pSome, slS, eSl, eNeg, gets, eFn, one, lenS, absS, intF, seqS, listF, tupF, bools, allF, isKind, eMt, appM, popM, argsOf, refsOf, nodupB, putBack, eCall, iSeq, iRng1', iRng2', zipD, iZip', enumD, iEnum', gNm, gsNil, gsCons, gTp, mSkip, mSeq, mBk, mCt, mIf, mDrop, mRetN, mRet, mAsg, mAsgG, mPar, putM, mSet, forL, mFor, wipeS, keepFz, restoreS, lcL, eLc, tYes', mask, fnS, eD0, dcL, eDc, sortF, eSortIt, tyN, isB, eIs, newOf, parked, eCallN, dictF, dictP, pick, eCallK, Sl.mt, addS_ap, subS_ap, mulI_ap, mulS_ap, modS_ap, fdivS_ap, powS_ap, intB_ap, ordS_ap, shaped_bool, shaped_int, shaped_none, eqv_bool, eqv_int, eqv_str, eqv_none, addT, catL, eRev, revS, lb__law_right_1, e1, ll, z1, z2, z3]
    · intro y hy
      rcases List.mem_append.mp hy with hy | hy
      · exact hf y hy
      · rw [List.mem_singleton.mp hy]
        exact ⟨okB_mono (4 + j + 1) 7 _ (by omega) o1, by omega⟩
    · rw [List.length_append, List.length_singleton]; omega) st h
  rw [Nat.zero_add, hd] at h'
  exact ⟨st', e, h'⟩
end L11

namespace L11
open PySem PySem.Spec L2 Sh


/-! ### the law -/
structure AS (tn S7 w du told : Sl) (T : D) (n0 m j : Nat) (st : S) : Prop where
  ex : ∃ s ys ag p g, st = [s, tn, .fz T, .ow ys, ag, p, g, S7, w, du, told] ∧ Bx (m + 300 * j) s ∧ (∀ y ∈ ys, Mid y) ∧ ys.length ≤ n0 + 7 * j
theorem again_ok (tn S7 w du told : Sl) {rows : List Row} (t : Tree rows) (hr : rows.length ≤ 12) (n0 : Nat) (hx : n0 ≤ 1000) (m : Nat) (hm : m < 700000) (j : Nat) (hj : j < 4) (st : S) (h : AS tn S7 w du told (.tuple (rows.map rowD)) n0 m j st) :
    ∃ s1 s2, gNm 4 (.int (j : Int)) st = some s1 ∧ lb__law_right_2 s1 = some (.nx, s2) ∧ AS tn S7 w du told (.tuple (rows.map rowD)) n0 m (j + 1) s2 := by
  obtain ⟨s, ys, ag, p, g, rfl, hb, hf, hl⟩ := h.ex
  refine ⟨[s, tn, .fz (.tuple (rows.map rowD)), .ow ys, .fz (.int j), p, g, S7, w, du, told], ?_⟩
  have vok : ∀ v ∈ (["a", "b"] : List Str), okStr v := by decide +kernel
  have v10 : ∀ v ∈ (["a", "b"] : List Str), v ∈ strs10 := by decide +kernel
  have u10 : ∀ v ∈ (["a", "bb", "c"] : List Str), v ∈ strs10 := by decide +kernel
  obtain ⟨t1, ws, e1, w1, w2, _, hb1⟩ := wished_ok hb (by omega) t hr 5 (by decide) (by decide) ["a", "b"] (by decide) (by decide) vok
  have e1 : fs__law_wished [s, .fz (.tuple (rows.map rowD)), .fz (.int 5), .fz (.list [.str "a", .str "b"])] = some (.fz (.tuple (ws.map pairD)), [t1, .fz (.tuple (rows.map rowD)), .fz (.int 5), .fz (.list [.str "a", .str "b"])]) := e1
  obtain ⟨t2, ps, e2, hp, hb2⟩ := planned_ok hb1 (by omega) ["a", "bb", "c"] (by decide) (by decide) t hr
  have e2 : fs__law_planned [t1, .fz (.tuple (rows.map rowD)), .fz (.list [.str "a", .str "bb", .str "c"])] = some (.fz (.tuple ((sortP ps).map pairD)), [t2, .fz (.tuple (rows.map rowD)), .fz (.list [.str "a", .str "bb", .str "c"])]) := e2
  have nl : ∀ x ∈ namesOf rows, x ∈ strs10 := fun x hx => nm_strs (t.nm x hx)
  -- the part that is taken
  have rest : ∀ (qs : List SP) (t3 : Sl), (∀ p ∈ qs, p.1 ∈ strs10 ∧ p.2 ∈ strs10) → qs.length ≤ 12 → Bx (m + 300 * j + 80) t3 →
      ∃ s2, mSeq (mAsg 3 (eBin addT (eVar 3) (eLst (aCons (eFrz (eVar 5)) (aCons (eFrz (eCall (fs__law_lists 20) (aCons (eVar 5) aNil))) (aCons (eFrz (eSl (eVar 5) (pSome (eC (.int 1))) pNone)) (aCons (eFrz (eRev (eVar 5))) aNil)))))))
        (mFor (iRng1' (aCons (eC (.int 3)) aNil)) (gNm 6) lb__law_right_1) [t3, tn, .fz (.tuple (rows.map rowD)), .ow ys, .fz (.int j), .fz (.tuple (qs.map pairD)), g, S7, w, du, told] = some (.nx, s2) ∧ AS tn S7 w du told (.tuple (rows.map rowD)) n0 m (j + 1) s2 := by
    intro qs t3 hq ql hb3
    have f1 := few_pairs hq ql
    have oS := okB_soft 4 _ f1.1
    have eS : soft (.tuple (qs.map pairD)) = .list (softs (qs.map pairD)) := rfl
    rw [eS] at oS
    have e4 : fs__law_lists 20 [.fz (.tuple (qs.map pairD))] = some (.ow (softs (qs.map pairD)), [.fz (.tuple (qs.map pairD))]) := lists_ok 20 _ (okD_mono 4 20 _ (by decide) (okB_okD 4 _ f1.1 (by have := f1.2; omega)))
    have e5 : cut (qs.map pairD) (some 1) none = (qs.drop 1).map pairD := by rw [cut_tail, List.map_drop]
    have e6 : (qs.map pairD).reverse = qs.reverse.map pairD := by rw [List.map_reverse]
    have f3 := few_pairs (ps := qs.drop 1) (fun p hp => hq p (List.mem_of_mem_drop hp)) (by rw [List.length_drop]; omega)
    have f4 := few_pairs (ps := qs.reverse) (fun p hp => hq p (List.mem_reverse.mp hp)) (by rw [List.length_reverse]; exact ql)
    obtain ⟨b3, rfl⟩ := hb3.ow
    obtain ⟨st', e8, h8⟩ := bents_ok tn (.fz (.int j)) S7 w du told t hr (ys.length + 4) (by omega) (m + 300 * j + 80) (by omega) (intsD 0 3) rfl
      [.ow b3, tn, .fz (.tuple (rows.map rowD)), .ow (ys ++ [.tuple (qs.map pairD), .list (softs (qs.map pairD)), .tuple ((qs.drop 1).map pairD), .tuple (qs.reverse.map pairD)]), .fz (.int j), .fz (.tuple (qs.map pairD)), g, S7, w, du, told]
      ⟨_, _, _, _, rfl, hb3, f1.1, f1.2, fun y hy => by
        rcases List.mem_append.mp hy with hy | hy
        · exact hf y hy
        · simp only [List.mem_cons, List.not_mem_nil, or_false] at hy
          rcases hy with rfl | rfl | rfl | rfl
          · exact few_mid f1
          · exact few_mid ⟨oS.1, by rw [oS.2]; exact f1.2⟩
          · exact few_mid f3
          · exact few_mid f4, by rw [List.length_append]; exact Nat.le_refl _⟩
    obtain ⟨s5, ys5, d5, g5, rfl, hb5, _, _, hf5, hl5⟩ := h8.ex
    refine ⟨[s5, tn, .fz (.tuple (rows.map rowD)), .ow ys5, .fz (.int j), .fz d5, g5, S7, w, du, told], ?_, ⟨s5, ys5, .fz (.int j), .fz d5, g5, rfl, hb5.mono (by omega), hf5, by omega⟩⟩
    have l4 : ys.length + 4 ≤ 100000 := by omega
    have l5 : ys.length ≤ 99996 := by omega
    generalize List.map pairD (List.drop 1 qs) = Q1 at e5 e8
    simp [eVar, eC, eBin, g2, Opd.get, tBl, truS, truO, tTr, tAnd', tOr', tNot', eAndT, eOrT, eNotT, eIf, frz, eFrz, aNil, aCons, allFz, disp, Sl.d, Sl.l, intS, catS, orG, repS, eqvS, strC, eChain, Sl.isN, isNS, Sl.isB, isBS, toKey, inS, ixS, pNone, pSome, slS, eSl, eNeg, gets, eFn, one, lenS, absS, intF, seqS, listF, tupF, bools, allF, isKind, eMt, appM, popM, atI, argsOf, refsOf, nodupB, putBack, eCall, iSeq, iRng1', iRng2', zipD, iZip', enumD, iEnum', gNm, gsNil, gsCons, gTp, mSkip, mSeq, mBk, mCt, mIf, mDrop, mRetN, mRet, mAsg, mAsgG, mPar, putM, mSet, mFor, wipeS, keepFz, restoreS, lcL, eLc, tYes', mask, fnS, eD0, dcL, eDc, sortF, eSortIt, tyN, isB, eIs, newOf, parked, eCallN, dictF, dictP, pick, eCallK, Sl.mt, addS_ap, subS_ap, mulI_ap, mulS_ap, modS_ap, fdivS_ap, powS_ap, intB_ap, ordS_ap, shaped_bool, shaped_int, shaped_none, eqv_bool, eqv_int, eqv_str, eqv_none, addT, catL, eRev, revS, e4, e5, e6, l4, l5, -List.map_reverse, -List.map_drop]
    exact e8
  by_cases hj2 : j < 2
  · obtain ⟨s2, e9, h9⟩ := rest (sortP ps) t2 (fun p hpp => by
      obtain ⟨h1, row, h2, h3, _⟩ := hp.sub p ((sortP_perm ps).mem_iff.mp hpp)
      exact ⟨by rw [← h3]; exact nl _ (List.mem_map.mpr ⟨row, h2, rfl⟩), u10 _ h1⟩) (by rw [sortP_len]; have := hp.len; omega) (hb2.mono (by omega))
    refine ⟨s2, rfl, ?_, h9⟩
    have c : (decide ((j : Int) < 2)) = true := decide_eq_true (by omega)
    have c2 : (j : Int) < 2 := by omega
    unfold lb__law_right_2
    generalize mSeq (mAsg 3 (eBin addT (eVar 3) (eLst (aCons (eFrz (eVar 5)) (aCons (eFrz (eCall (fs__law_lists 20) (aCons (eVar 5) aNil))) (aCons (eFrz (eSl (eVar 5) (pSome (eC (.int 1))) pNone)) (aCons (eFrz (eRev (eVar 5))) aNil)))))))
        (mFor (iRng1' (aCons (eC (.int 3)) aNil)) (gNm 6) lb__law_right_1) = M at e9 ⊢
    obtain ⟨x0, rfl⟩ := hb.ow
    obtain ⟨x1, rfl⟩ := hb1.ow
    obtain ⟨x2, rfl⟩ := hb2.ow
    simp [eVar, eC, eBin, g2, Opd.get, tBl, truS, truO, tTr, tAnd', tOr', tNot', eAndT, eOrT, eNotT, eIf, frz, eFrz, aNil, aCons, allFz, disp, Sl.d, Sl.l, intS, catS, orG, repS, eqvS, strC, eChain, Sl.isN, isNS, Sl.isB, isBS, toKey, inS, ixS, pNone, pSome, slS, eSl, eNeg, gets, eFn, one, lenS, absS, intF, seqS, listF, tupF, bools, allF, isKind, eMt, appM, popM, atI, argsOf, refsOf, nodupB, putBack, eCall, iSeq, iRng1', iRng2', zipD, iZip', enumD, iEnum', gNm, gsNil, gsCons, gTp, mSkip, mSeq, mBk, mCt, mIf, mDrop, mRetN, mRet, mAsg, mAsgG, mPar, putM, mSet, forL, mFor, wipeS, keepFz, restoreS, lcL, eLc, tYes', mask, fnS, eD0, dcL, eDc, sortF, eSortIt, tyN, isB, eIs, newOf, parked, eCallN, dictF, dictP, pick, eCallK, Sl.mt, addS_ap, subS_ap, mulI_ap, mulS_ap, modS_ap, fdivS_ap, powS_ap, intB_ap, ordS_ap, shaped_bool, shaped_int, shaped_none, eqv_bool, eqv_int, eqv_str, eqv_none, addT, catL, eRev, revS, e1, e2, c2, e9]
  · obtain ⟨s2, e9, h9⟩ := rest ws t1 (fun p hpp => ⟨nl _ (w2 p hpp).1, v10 _ (w2 p hpp).2⟩) w1 (hb1.mono (by omega))
    refine ⟨s2, rfl, ?_, h9⟩
    have c2 : ¬ (j : Int) < 2 := by omega
    have c3 : ¬ j < 2 := hj2
    unfold lb__law_right_2
    generalize mSeq (mAsg 3 (eBin addT (eVar 3) (eLst (aCons (eFrz (eVar 5)) (aCons (eFrz (eCall (fs__law_lists 20) (aCons (eVar 5) aNil))) (aCons (eFrz (eSl (eVar 5) (pSome (eC (.int 1))) pNone)) (aCons (eFrz (eRev (eVar 5))) aNil)))))))
        (mFor (iRng1' (aCons (eC (.int 3)) aNil)) (gNm 6) lb__law_right_1) = M at e9 ⊢
    obtain ⟨x0, rfl⟩ := hb.ow
    obtain ⟨x1, rfl⟩ := hb1.ow
    simp [eVar, eC, eBin, g2, Opd.get, tBl, truS, truO, tTr, tAnd', tOr', tNot', eAndT, eOrT, eNotT, eIf, frz, eFrz, aNil, aCons, allFz, disp, Sl.d, Sl.l, intS, catS, orG, repS, eqvS, strC, eChain, Sl.isN, isNS, Sl.isB, isBS, toKey, inS, ixS, pNone, pSome, slS, eSl, eNeg, gets, eFn, one, lenS, absS, intF, seqS, listF, tupF, bools, allF, isKind, eMt, appM, popM, atI, argsOf, refsOf, nodupB, putBack, eCall, iSeq, iRng1', iRng2', zipD, iZip', enumD, iEnum', gNm, gsNil, gsCons, gTp, mSkip, mSeq, mBk, mCt, mIf, mDrop, mRetN, mRet, mAsg, mAsgG, mPar, putM, mSet, forL, mFor, wipeS, keepFz, restoreS, lcL, eLc, tYes', mask, fnS, eD0, dcL, eDc, sortF, eSortIt, tyN, isB, eIs, newOf, parked, eCallN, dictF, dictP, pick, eCallK, Sl.mt, addS_ap, subS_ap, mulI_ap, mulS_ap, modS_ap, fdivS_ap, powS_ap, intB_ap, ordS_ap, shaped_bool, shaped_int, shaped_none, eqv_bool, eqv_int, eqv_str, eqv_none, addT, catL, eRev, revS, e1, c2, c3, e9]
theorem turn_ok (s9 s10 : Sl) (m : Nat) (hm : m < 500000) (x : D) (st : S) (h : ∃ s t2 t3 t4 t5 t6 t7 t8 t9 t10 t1, st = [s, t1, t2, t3, t4, t5, t6, t7, t8, t9, t10] ∧ Bx m s) :
    ∃ s1 s2, gNm 1 x st = some s1 ∧ lb__law_right_4 s1 = some (.nx, s2) ∧ ∃ s t2 t3 t4 t5 t6 t7 t8 t9 t10 t1, s2 = [s, t1, t2, t3, t4, t5, t6, t7, t8, t9, t10] ∧ Bx (m + 2000) s := by
  obtain ⟨s, t2, t3, t4, t5, t6, t7, t8, t9, t10, t1, rfl, hb⟩ := h
  refine ⟨[s, .fz x, t2, t3, t4, t5, t6, t7, t8, t9, t10], ?_⟩
  obtain ⟨v, b1, e1, v1, v2, hb1⟩ := hb.take (by omega) (n := 12) (by decide) (by decide)
  obtain ⟨b2, rows, e2, ht, hr, hb2⟩ := grown_ok hb1 (by omega) (1 + v) 4 (by omega) (by omega)
  obtain ⟨L, e3, hl, hf⟩ := by_hand_ok ht hr
  obtain ⟨st', e4, h4⟩ := forL_run (g := gNm 4) (b := lb__law_right_2) (intsD 0 4) (fun j st => AS (.fz x) t7 t8 t9 t10 (.tuple (rows.map rowD)) 40 (m + 50) j st) 0 (fun j d hj st hst => by
    have hj4 : j < 4 := (List.getElem?_eq_some_iff.mp hj).1
    have ed : d = .int (j : Int) := by
      have e : intsD 0 4 = [.int 0, .int 1, .int 2, .int 3] := rfl
      rw [e] at hj
      match j, hj4 with
      | 0, _ => cases hj; rfl
      | 1, _ => cases hj; rfl
      | 2, _ => cases hj; rfl
      | 3, _ => cases hj; rfl
    subst ed
    rw [Nat.zero_add] at hst ⊢
    exact again_ok (.fz x) t7 t8 t9 t10 ht hr 40 (by omega) (m + 50) (by omega) j hj4 st hst) [b2, .fz x, .fz (.tuple (rows.map rowD)), .ow L, t4, t5, t6, t7, t8, t9, t10] ⟨b2, L, t4, t5, t6, rfl, hb2.mono (by omega), fun y hy => few_mid (hf y hy), by omega⟩
  obtain ⟨b3, ys, ag, p, g, rfl, hb3, hf3, hl3⟩ := h4.ex
  have e5 := soft_ok ht hr
  obtain ⟨p', S', w', du', told', e6⟩ := looks_ok b3 (.fz x) (.fz (.list ys)) ag g ht hr ys hf3 p (.ow (rows.map rowL)) t8 t9 t10 (.inr rfl)
  have n4 : (0 : Nat) + (intsD 0 4).length = 4 := rfl
  rw [n4] at hl3 hb3
  have l1 : ys.length ≤ 100000 := by omega
  refine ⟨[b3, .fz x, .fz (.tuple (rows.map rowD)), .fz (.list ys), ag, p', g, S', w', du', told'], rfl, ?_, _, _, _, _, _, _, _, _, _, _, _, rfl, hb3.mono (by omega)⟩
  generalize rows.map rowD = ds at e2 e3 e4 e5 e6 ⊢
  obtain ⟨x0, rfl⟩ := hb.ow
  obtain ⟨x1, rfl⟩ := hb1.ow
  obtain ⟨x2, rfl⟩ := hb2.ow
  unfold lb__law_right_4
  generalize lb__law_right_2 = B2 at e4 ⊢
  generalize lb__law_right_3 = B3 at e6 ⊢
  generalize hx : intsD 0 4 = xs at e4
  simp [eVar, eC, eBin, g2, Opd.get, tBl, truS, truO, tTr, tAnd', tOr', tNot', eAndT, eOrT, eNotT, eIf, frz, eFrz, aNil, aCons, allFz, disp, Sl.d, Sl.l, intS, catS, orG, repS, eqvS, strC, eChain, Sl.isN, isNS, Sl.isB, isBS, toKey, inS, ixS, pNone, pSome, slS, eSl, eNeg, gets, eFn, one, lenS, absS, intF, seqS, listF, tupF, bools, allF, isKind, eMt, appM, popM, atI, argsOf, refsOf, nodupB, putBack, eCall, iSeq, iRng1', iRng2', zipD, iZip', enumD, iEnum', gNm, gsNil, gsCons, gTp, mSkip, mSeq, mBk, mCt, mIf, mDrop, mRetN, mRet, mAsg, mAsgG, mPar, putM, mSet, mFor, wipeS, keepFz, restoreS, lcL, eLc, tYes', mask, fnS, eD0, dcL, eDc, sortF, eSortIt, tyN, isB, eIs, newOf, parked, eCallN, dictF, dictP, pick, eCallK, Sl.mt, addS_ap, subS_ap, mulI_ap, mulS_ap, modS_ap, fdivS_ap, powS_ap, intB_ap, ordS_ap, shaped_bool, shaped_int, shaped_none, eqv_bool, eqv_int, eqv_str, eqv_none, addT, catL, eRev, revS, e1, e2, e3, hx, e4, e5, e6, l1]
theorem right_ok (a b : Int) (ha : 0 ≤ a) (hb : 0 ≤ b) (hb2 : b < 2 ^ 62) : ∃ as', fs__law_right [.ow [.int a, .int b, .int 0]] = some (.fz (.bool true), as') := by
  obtain ⟨st', e, s, t2, t3, t4, t5, t6, t7, t8, t9, t10, t1, rfl, _⟩ := forL_run (g := gNm 1) (b := lb__law_right_4) (intsD 0 3) (fun j st => ∃ s t2 t3 t4 t5 t6 t7 t8 t9 t10 t1, st = [s, t1, t2, t3, t4, t5, t6, t7, t8, t9, t10] ∧ Bx (2000 * j) s) 0 (fun j d hj st hst => by
    have hj3 : j < 3 := (List.getElem?_eq_some_iff.mp hj).1
    rw [Nat.zero_add] at hst ⊢
    exact turn_ok .un .un (2000 * j) (by omega) d st hst) [.ow [.int a, .int b, .int 0], .un, .un, .un, .un, .un, .un, .un, .un, .un, .un] ⟨_, _, _, _, _, _, _, _, _, _, _, rfl, a, b, 0, rfl, ha, hb, hb2, Int.le_refl _, Int.le_refl _⟩
  unfold fs__law_right m__law_right
  generalize lb__law_right_4 = B1 at e ⊢
  generalize hx : intsD 0 3 = xs at e
  simp [eVar, eC, eBin, g2, Opd.get, tBl, truS, truO, tTr, tAnd', tOr', tNot', eAndT, eOrT, eNotT, eIf, frz, eFrz, aNil, aCons, allFz, disp, Sl.d, Sl.l, intS, catS, orG, repS, eqvS, strC, eChain, Sl.isN, isNS, Sl.isB, isBS, toKey, inS, ixS, pNone, pSome, slS, eSl, eNeg, gets, eFn, one, lenS, absS, intF, seqS, listF, tupF, bools, allF, isKind, eMt, appM, popM, atI, argsOf, refsOf, nodupB, putBack, eCall, iSeq, iRng1', iRng2', zipD, iZip', enumD, iEnum', gNm, gsNil, gsCons, gTp, mSkip, mSeq, mBk, mCt, mIf, mDrop, mRetN, mRet, mAsg, mAsgG, mPar, putM, mSet, mFor, wipeS, keepFz, restoreS, lcL, eLc, tYes', mask, fnS, eD0, dcL, eDc, sortF, eSortIt, tyN, isB, eIs, newOf, parked, eCallN, dictF, dictP, pick, eCallK, Sl.mt, addS_ap, subS_ap, mulI_ap, mulS_ap, modS_ap, fdivS_ap, powS_ap, intB_ap, ordS_ap, shaped_bool, shaped_int, shaped_none, eqv_bool, eqv_int, eqv_str, eqv_none, addT, catL, eRev, revS, e, hx]
theorem put_last (as' : List Sl) (p q r s : Sl) : (putBack [.ref 3] as' [p, q, r, s]).take 3 = [p, q, r] := by
  cases as' <;> rfl
theorem law_loop (cs : List Int) (h64 : cs.length < 64) (s0 : Sl) : ∀ (ks : List Nat) (s2 : Sl), (∀ k ∈ ks, k < cs.length) → ∃ s2',
    lcL [2] (gNm 2) tYes' (eCallN fs__law_right (aCons (eCall fs__law_box (aCons (eVar 1) (aCons (eVar 2) aNil))) aNil)) (ks.map fun (k : Nat) => .int (k : Int)) [s0, .ow (intsOf cs), s2] = some (ks.map fun _ => PyData.bool true, [s0, .ow (intsOf cs), s2'])
  | [], s2, _ => ⟨s2, rfl⟩
  | k :: ks, s2, h => by
    obtain ⟨a, b, e, ha, hb, hb2⟩ := box_ok cs (.ow (intsOf cs)) (.inr rfl) k (h k List.mem_cons_self) h64
    obtain ⟨as', e2⟩ := right_ok a b ha hb hb2
    obtain ⟨s2', q⟩ := law_loop cs h64 s0 ks (.fz (.int k)) fun z hz => h z (List.mem_cons_of_mem _ hz)
    refine ⟨s2', ?_⟩
    have pl := put_last as' s0 (.ow (intsOf cs)) (.fz (.int k)) (.ow [.int a, .int b, .int 0])
    simp [eVar, eC, eBin, g2, Opd.get, tBl, truS, truO, tTr, tAnd', tOr', tNot', eAndT, eOrT, eNotT, eIf, frz, eFrz, aNil, aCons, allFz, disp, Sl.d, Sl.l, intS, catS, orG, repS, eqvS, strC, eChain, Sl.isN, isNS, Sl.isB, isBS, toKey, inS, ixS, pNone, pSome, slS, eSl, eNeg, gets, eFn, one, lenS, absS, intF, seqS, listF, tupF, bools, allF, isKind, eMt, appM, popM, atI, argsOf, refsOf, nodupB, eCall, iSeq, iRng1', iRng2', zipD, iZip', enumD, iEnum', gNm, gsNil, gsCons, gTp, mSkip, mSeq, mBk, mCt, mIf, mDrop, mRetN, mRet, mAsg, mAsgG, mPar, putM, mSet, forL, mFor, wipeS, keepFz, restoreS, lcL, eLc, tYes', mask, fnS, eD0, dcL, eDc, sortF, eSortIt, tyN, isB, eIs, newOf, parked, eCallN, dictF, dictP, pick, eCallK, Sl.mt, addS_ap, subS_ap, mulI_ap, mulS_ap, modS_ap, fdivS_ap, powS_ap, intB_ap, ordS_ap, shaped_bool, shaped_int, shaped_none, eqv_bool, eqv_int, eqv_str, eqv_none, addT, catL, eRev, revS, e, e2, q, pl]
    simp [eVar, eC, eBin, g2, Opd.get, tBl, truS, truO, tTr, tAnd', tOr', tNot', eAndT, eOrT, eNotT, eIf, frz, eFrz, aNil, aCons, allFz, disp, Sl.d, Sl.l, intS, catS, orG, repS, eqvS, strC, eChain, Sl.isN, isNS, Sl.isB, isBS, toKey, inS, ixS, pNone, pSome, slS, eSl, eNeg, gets, eFn, one, lenS, absS, intF, seqS, listF, tupF, bools, allF, isKind, eMt, appM, popM, atI, argsOf, refsOf, nodupB, putBack, eCall, iSeq, iRng1', iRng2', zipD, iZip', enumD, iEnum', gNm, gsNil, gsCons, gTp, mSkip, mSeq, mBk, mCt, mIf, mDrop, mRetN, mRet, mAsg, mAsgG, mPar, putM, mSet, forL, mFor, wipeS, keepFz, restoreS, lcL, eLc, tYes', mask, fnS, eD0, dcL, eDc, sortF, eSortIt, tyN, isB, eIs, newOf, parked, eCallN, dictF, dictP, pick, eCallK, Sl.mt, addS_ap, subS_ap, mulI_ap, mulS_ap, modS_ap, fdivS_ap, powS_ap, intB_ap, ordS_ap, shaped_bool, shaped_int, shaped_none, eqv_bool, eqv_int, eqv_str, eqv_none, addT, catL, eRev, revS, putBack, pl, q]
theorem pure_law (ns : List Int) (h : ns.length ≤ 63) : ∃ as', fs_law [.fz (.list (ns.map .int))] = some (.fz (.bool true), as') := by
  obtain ⟨cs, h1, h2, e⟩ := cells_ok 3 (by decide) (by decide) ns h
  have e : fs__law_cells [.fz (.list (ns.map .int)), .fz (.int 3)] = some (.ow (intsOf cs), [.fz (.list (ns.map .int)), .fz (.int 3)]) := e
  obtain ⟨s2, q⟩ := law_loop cs (by omega) (.fz (.list (ns.map .int))) (List.range cs.length) .un fun k hk => List.mem_range.mp hk
  have er : intsD 0 cs.length = (List.range cs.length).map fun (k : Nat) => .int (k : Int) := by
    unfold intsD
    simp [eVar, eC, eBin, g2, Opd.get, tBl, truS, truO, tTr, tAnd', tOr', tNot', eAndT, eOrT, eNotT, eIf, frz, eFrz, aNil, aCons, allFz, disp, Sl.d, Sl.l, intS, catS, orG, repS, eqvS, strC, eChain, Sl.isN, isNS, Sl.isB, isBS, toKey, inS, ixS, pNone, pSome, slS, eSl, eNeg, gets, eFn, one, lenS, absS, intF, seqS, listF, tupF, bools, allF, isKind, eMt, appM, popM, atI, argsOf, refsOf, nodupB, putBack, eCall, iSeq, iRng1', iRng2', zipD, iZip', enumD, iEnum', gNm, gsNil, gsCons, gTp, mSkip, mSeq, mBk, mCt, mIf, mDrop, mRetN, mRet, mAsg, mAsgG, mPar, putM, mSet, forL, mFor, wipeS, keepFz, restoreS, lcL, eLc, tYes', mask, fnS, eD0, dcL, eDc, sortF, eSortIt, tyN, isB, eIs, newOf, parked, eCallN, dictF, dictP, pick, eCallK, Sl.mt, addS_ap, subS_ap, mulI_ap, mulS_ap, modS_ap, fdivS_ap, powS_ap, intB_ap, ordS_ap, shaped_bool, shaped_int, shaped_none, eqv_bool, eqv_int, eqv_str, eqv_none, addT, catL, eRev, revS]
  have l1 : (cs.length : Int) ≤ 100000 := by omega
  have l2 : -100000 ≤ (cs.length : Int) := by omega
  have l3 : cs.length ≤ 100000 := by omega
  have li : (intsOf cs).length = cs.length := by unfold intsOf; rw [List.length_map]
  simp [eVar, eC, eBin, g2, Opd.get, tBl, truS, truO, tTr, tAnd', tOr', tNot', eAndT, eOrT, eNotT, eIf, frz, eFrz, aNil, aCons, allFz, disp, Sl.d, Sl.l, intS, catS, orG, repS, eqvS, strC, eChain, Sl.isN, isNS, Sl.isB, isBS, toKey, inS, ixS, pNone, pSome, slS, eSl, eNeg, gets, eFn, one, lenS, absS, intF, seqS, listF, tupF, bools, allF, isKind, eMt, appM, popM, atI, argsOf, refsOf, nodupB, putBack, eCall, iSeq, iRng1', iRng2', zipD, iZip', enumD, iEnum', gNm, gsNil, gsCons, gTp, mSkip, mSeq, mBk, mCt, mIf, mDrop, mRetN, mRet, mAsg, mAsgG, mPar, putM, mSet, forL, mFor, wipeS, keepFz, restoreS, eLc, tYes', mask, fnS, eD0, dcL, eDc, sortF, eSortIt, tyN, isB, eIs, newOf, parked, eCallN, dictF, dictP, pick, eCallK, Sl.mt, addS_ap, subS_ap, mulI_ap, mulS_ap, modS_ap, fdivS_ap, powS_ap, intB_ap, ordS_ap, shaped_bool, shaped_int, shaped_none, eqv_bool, eqv_int, eqv_str, eqv_none, addT, catL, eRev, revS, fs_law, m_law, e, li, er, q, l1, l2, l3, bools_true]
end L11

namespace L11
open PySem PySem.Spec L2 Sh
def topS (i : Nat) : Stmt := PySem.Challenge.pw_handeddown_k11_wants_and_plans_or_none.main.body.getD i (.Pass ⟨0, 0, 0, 0⟩)
abbrev s__law_cells : Stmt := topS 10
abbrev s__law_take : Stmt := topS 9
abbrev s__law_of : Stmt := topS 11
abbrev s__law_grown : Stmt := topS 14
abbrev s__law_by_hand : Stmt := topS 21
abbrev s__law_lists : Stmt := topS 12
abbrev s__law_wished : Stmt := topS 15
abbrev s__law_planned : Stmt := topS 16
abbrev s__law_bent : Stmt := topS 17
abbrev s__law_is_word : Stmt := topS 18
abbrev s__law_are_pairs : Stmt := topS 19
abbrev s__law_due : Stmt := topS 20
abbrev s_is_name : Stmt := topS 4
abbrev s_are_pairs : Stmt := topS 5
abbrev s__are_all_of : Stmt := topS 6
abbrev s_are_wants : Stmt := topS 2
abbrev s_is_plan : Stmt := topS 3
abbrev s__law_same : Stmt := topS 13
abbrev s__law_right : Stmt := topS 22
abbrev s__law_box : Stmt := topS 8
abbrev s_law : Stmt := topS 23
structure Ev (K : PySem.W.Frag) (mg : Str → Option Value) where
  a__law_cells : Addr
  d__law_cells : FuncData
  F__law_cells : Fun K "_law_cells" "_law_cells" s__law_cells a__law_cells d__law_cells
  g__law_cells : mg "_law_cells" = some (.ref a__law_cells)
  b__law_cells : Binds K d__law_cells ["_law_script", "_law_most"] []
  a__law_take : Addr
  d__law_take : FuncData
  F__law_take : Fun K "_law_take" "_law_take" s__law_take a__law_take d__law_take
  g__law_take : mg "_law_take" = some (.ref a__law_take)
  b__law_take : Binds K d__law_take ["_law_box_here", "_law_below"] []
  a__law_of : Addr
  d__law_of : FuncData
  F__law_of : Fun K "_law_of" "_law_of" s__law_of a__law_of d__law_of
  g__law_of : mg "_law_of" = some (.ref a__law_of)
  b__law_of : Binds K d__law_of ["_law_box_here", "_law_some"] []
  a__law_grown : Addr
  d__law_grown : FuncData
  F__law_grown : Fun K "_law_grown" "_law_grown" s__law_grown a__law_grown d__law_grown
  g__law_grown : mg "_law_grown" = some (.ref a__law_grown)
  b__law_grown : Binds K d__law_grown ["_law_box_here", "_law_many", "_law_locked"] []
  a__law_by_hand : Addr
  d__law_by_hand : FuncData
  F__law_by_hand : Fun K "_law_by_hand" "_law_by_hand" s__law_by_hand a__law_by_hand d__law_by_hand
  g__law_by_hand : mg "_law_by_hand" = some (.ref a__law_by_hand)
  b__law_by_hand : Binds K d__law_by_hand ["_law_tree_so"] []
  a__law_lists : Addr
  d__law_lists : FuncData
  F__law_lists : Fun K "_law_lists" "_law_lists" s__law_lists a__law_lists d__law_lists
  g__law_lists : mg "_law_lists" = some (.ref a__law_lists)
  b__law_lists : Binds K d__law_lists ["_law_matter"] []
  a__law_wished : Addr
  d__law_wished : FuncData
  F__law_wished : Fun K "_law_wished" "_law_wished" s__law_wished a__law_wished d__law_wished
  g__law_wished : mg "_law_wished" = some (.ref a__law_wished)
  b__law_wished : Binds K d__law_wished ["_law_box_here", "_law_tree_so", "_law_many", "_law_values"] []
  a__law_planned : Addr
  d__law_planned : FuncData
  F__law_planned : Fun K "_law_planned" "_law_planned" s__law_planned a__law_planned d__law_planned
  g__law_planned : mg "_law_planned" = some (.ref a__law_planned)
  b__law_planned : Binds K d__law_planned ["_law_box_here", "_law_tree_so", "_law_values"] []
  a__law_bent : Addr
  d__law_bent : FuncData
  F__law_bent : Fun K "_law_bent" "_law_bent" s__law_bent a__law_bent d__law_bent
  g__law_bent : mg "_law_bent" = some (.ref a__law_bent)
  b__law_bent : Binds K d__law_bent ["_law_box_here", "_law_part", "_law_more"] []
  a__law_is_word : Addr
  d__law_is_word : FuncData
  F__law_is_word : Fun K "_law_is_word" "_law_is_word" s__law_is_word a__law_is_word d__law_is_word
  g__law_is_word : mg "_law_is_word" = some (.ref a__law_is_word)
  b__law_is_word : Binds K d__law_is_word ["_law_matter"] []
  a__law_are_pairs : Addr
  d__law_are_pairs : FuncData
  F__law_are_pairs : Fun K "_law_are_pairs" "_law_are_pairs" s__law_are_pairs a__law_are_pairs d__law_are_pairs
  g__law_are_pairs : mg "_law_are_pairs" = some (.ref a__law_are_pairs)
  b__law_are_pairs : Binds K d__law_are_pairs ["_law_matter", "_law_names"] []
  a__law_due : Addr
  d__law_due : FuncData
  F__law_due : Fun K "_law_due" "_law_due" s__law_due a__law_due d__law_due
  g__law_due : mg "_law_due" = some (.ref a__law_due)
  b__law_due : Binds K d__law_due ["_law_tree_so", "_law_matter"] []
  a_is_name : Addr
  d_is_name : FuncData
  F_is_name : Fun K "is_name" "is_name" s_is_name a_is_name d_is_name
  g_is_name : mg "is_name" = some (.ref a_is_name)
  b_is_name : Binds K d_is_name ["thing"] []
  a_are_pairs : Addr
  d_are_pairs : FuncData
  F_are_pairs : Fun K "are_pairs" "are_pairs" s_are_pairs a_are_pairs d_are_pairs
  g_are_pairs : mg "are_pairs" = some (.ref a_are_pairs)
  b_are_pairs : Binds K d_are_pairs ["thing"] []
  a__are_all_of : Addr
  d__are_all_of : FuncData
  F__are_all_of : Fun K "_are_all_of" "_are_all_of" s__are_all_of a__are_all_of d__are_all_of
  g__are_all_of : mg "_are_all_of" = some (.ref a__are_all_of)
  b__are_all_of : Binds K d__are_all_of ["folders", "pairs"] []
  a_are_wants : Addr
  d_are_wants : FuncData
  F_are_wants : Fun K "are_wants" "are_wants" s_are_wants a_are_wants d_are_wants
  g_are_wants : mg "are_wants" = some (.ref a_are_wants)
  b_are_wants : Binds K d_are_wants ["tree", "thing"] []
  a_is_plan : Addr
  d_is_plan : FuncData
  F_is_plan : Fun K "is_plan" "is_plan" s_is_plan a_is_plan d_is_plan
  g_is_plan : mg "is_plan" = some (.ref a_is_plan)
  b_is_plan : Binds K d_is_plan ["tree", "thing"] []
  a__law_same : Addr
  d__law_same : FuncData
  F__law_same : Fun K "_law_same" "_law_same" s__law_same a__law_same d__law_same
  g__law_same : mg "_law_same" = some (.ref a__law_same)
  b__law_same : Binds K d__law_same ["_law_found", "_law_due_here"] []
  a__law_right : Addr
  d__law_right : FuncData
  F__law_right : Fun K "_law_right" "_law_right" s__law_right a__law_right d__law_right
  g__law_right : mg "_law_right" = some (.ref a__law_right)
  b__law_right : Binds K d__law_right ["_law_box_here"] []
  a__law_box : Addr
  d__law_box : FuncData
  F__law_box : Fun K "_law_box" "_law_box" s__law_box a__law_box d__law_box
  g__law_box : mg "_law_box" = some (.ref a__law_box)
  b__law_box : Binds K d__law_box ["_law_script", "_law_k"] []
  a_law : Addr
  d_law : FuncData
  F_law : Fun K "law" "law" s_law a_law d_law
  g_law : mg "law" = some (.ref a_law)
  b_law : Binds K d_law ["_law_script"] []
  z_list : mg "list" = none
  z_enumerate : mg "enumerate" = none
  z_int : mg "int" = none
  z_len : mg "len" = none
  z_range : mg "range" = none
  z_tuple : mg "tuple" = none
  z_sorted : mg "sorted" = none
  z_isinstance : mg "isinstance" = none
  z_str : mg "str" = none
  z_all : mg "all" = none
  z_set : mg "set" = none
  z_zip : mg "zip" = none
  z_bool : mg "bool" = none
  z_repr : mg "repr" = none
  z_abs : mg "abs" = none
  c_LONGEST_NAME : ∃ t, mg "LONGEST_NAME" = some (.int 8 t)
section
variable {P : Program} {w : World} {K : PySem.W.Frag} {mg : Str → Option Value} {base : Heap}
theorem kb_are_wants_1_0 (E : Ev K mg) : KBinds K E.d_are_wants ["tree", "thing"] ["thing", "tree"] (kg 2 [1, 0]) (kg 2 [1, 0]) :=
  fun_kb E.F_are_wants 2 [1, 0] (by decide) fun _ _ _ _ _ _ ws hl => match ws, hl with | [_, _], _ => rfl
theorem kb_is_plan_1_0 (E : Ev K mg) : KBinds K E.d_is_plan ["tree", "thing"] ["thing", "tree"] (kg 2 [1, 0]) (kg 2 [1, 0]) :=
  fun_kb E.F_is_plan 2 [1, 0] (by decide) fun _ _ _ _ _ _ ws hl => match ws, hl with | [_, _], _ => rfl
theorem sc__law_cells : FnScope ["_law_script", "_law_most", "_law_cells_here", "_law_k", "_law_cell", "_law_at_so"] ["_law_script", "_law_most"] (defScope s__law_cells) := ⟨rfl, rfl, rfl, by decide +kernel, rfl, by decide +kernel, by decide +kernel⟩
theorem ok__law_cells (E : Ev K mg) : FnOk P w K mg base CX0 1 E.a__law_cells E.d__law_cells ["_law_script", "_law_most"] (spOf K fs__law_cells) :=
  fn_ok (k := 0) (A := Aof [true, true]) (m := m__law_cells) E.F__law_cells sc__law_cells rfl rfl (Aof_ok _)
      (fun cdv A2 outer s H X0 hr => ⟨_, (ss_cons (ss_set sc__law_cells.nd rfl (.inl rfl) rfl (se_orT (se_listF (by rfl) E.z_list (sa_cons (se_sl (se_var 0) sp_none (sp_some (se_var 1))) sa_nil)) (se_one (se_lst (sa_cons se_int sa_nil)))))
      (ss_cons (ss_for PassesOwn.never rfl (si_enum (by rfl) E.z_enumerate (sa_cons (se_frz (se_sl (se_var 0) (sp_some (se_var 1)) (sp_some se_int))) sa_nil)) (sg_tup rfl (sgs_cons (sg_name sc__law_cells.nd rfl (.inl rfl) rfl) (sgs_cons (sg_name sc__law_cells.nd rfl (.inl rfl) rfl) sgs_nil))) (ss_cons (ss_set sc__law_cells.nd rfl (.inl rfl) rfl (se_mod (se_intF (by rfl) E.z_int (sa_cons (se_var 3) sa_nil)) (se_var 1)))
      (ss_one (ss_put (room1 hr) (se_add (se_ix (room1 hr) (se_var 2) (se_var 5)) (se_mul (se_var 4) (se_add (se_var 3) se_int))) (se_var 2) (se_var 5)))))
      (ss_one (ss_ret (se_var 2)))))⟩)
theorem sc__law_take : FnScope ["_law_box_here", "_law_below", "_law_drawn", "_law_once", "_law_far", "_law_twice"] ["_law_box_here", "_law_below"] (defScope s__law_take) := ⟨rfl, rfl, rfl, by decide +kernel, rfl, by decide +kernel, by decide +kernel⟩
theorem ok__law_take (E : Ev K mg) : FnOk P w K mg base CX0 1 E.a__law_take E.d__law_take ["_law_box_here", "_law_below"] (spOf K fs__law_take) :=
  fn_ok (k := 0) (A := Aof [true, true]) (m := m__law_take) E.F__law_take sc__law_take rfl rfl (Aof_ok _)
      (fun cdv A2 outer s H X0 hr => ⟨_, (ss_cons (ss_if (st_gt (se_ix (room1 hr) (se_var 0) se_int) se_int) (ss_cons (ss_set sc__law_take.nd rfl (.inl rfl) rfl (se_mod (se_intF (by rfl) E.z_int (sa_cons (se_ix (room1 hr) (se_var 0) se_int) sa_nil)) (se_var 1)))
      (ss_cons (ss_put (room1 hr) (se_fdiv (se_ix (room1 hr) (se_var 0) se_int) (se_var 1)) (se_var 0) se_int)
      (ss_one (ss_ret (se_var 2))))) ss_nil)
      (ss_cons (ss_put (room1 hr) (se_add (se_ix (room1 hr) (se_var 0) se_int) se_int) (se_var 0) se_int)
      (ss_cons (ss_set sc__law_take.nd rfl (.inl rfl) rfl (se_mod (se_intF (by rfl) E.z_int (sa_cons (se_mul (se_add (se_ix (room1 hr) (se_var 0) se_int) (se_mul se_int (se_ix (room1 hr) (se_var 0) se_int))) (se_add se_int (se_ix (room1 hr) (se_var 0) se_int))) sa_nil)) se_int))
      (ss_cons (ss_set sc__law_take.nd rfl (.inl rfl) rfl (se_add (se_mod (se_intF (by rfl) E.z_int (sa_cons (se_var 3) sa_nil)) se_int) se_int))
      (ss_cons (ss_set sc__law_take.nd rfl (.inl rfl) rfl (se_mod (se_intF (by rfl) E.z_int (sa_cons (se_mul (se_add (se_add (se_var 3) (se_ix (room1 hr) (se_var 0) se_int)) (se_fdiv (se_ix (room1 hr) (se_var 0) se_int) se_int)) (se_var 4)) sa_nil)) se_int))
      (ss_one (ss_ret (se_mod (se_intF (by rfl) E.z_int (sa_cons (se_fdiv (se_mod (se_intF (by rfl) E.z_int (sa_cons (se_add (se_mul (se_var 5) se_int) (se_var 3)) sa_nil)) se_int) se_int) sa_nil)) (se_var 1)))))))))⟩)
theorem sc__law_of : FnScope ["_law_box_here", "_law_some"] ["_law_box_here", "_law_some"] (defScope s__law_of) := ⟨rfl, rfl, rfl, by decide +kernel, rfl, by decide +kernel, by decide +kernel⟩
theorem ok__law_of (E : Ev K mg) : FnOk P w K mg base CX0 2 E.a__law_of E.d__law_of ["_law_box_here", "_law_some"] (spOf K fs__law_of) :=
  fn_ok (k := 1) (A := Aof [true, true]) (m := m__law_of) E.F__law_of sc__law_of rfl rfl (Aof_ok _)
      (fun cdv A2 outer s H X0 hr => ⟨_, (ss_one (ss_ret (se_ix (room1 hr) (se_var 1) (se_call ((ok__law_take E).mono (by decide)) hr (by rfl) E.g__law_take E.F__law_take.kp E.b__law_take (sa_cons (se_var 0) (sa_cons (se_frz (se_len (by rfl) E.z_len (sa_cons (se_var 1) sa_nil))) sa_nil))))))⟩)
theorem sc__law_grown : FnScope ["_law_box_here", "_law_many", "_law_locked", "_law_left", "_law_rows", "_law_turn", "_law_parent_so"] ["_law_box_here", "_law_many", "_law_locked"] (defScope s__law_grown) := ⟨rfl, rfl, rfl, by decide +kernel, rfl, by decide +kernel, by decide +kernel⟩
theorem ok__law_grown (E : Ev K mg) : FnOk P w K mg base CX0 3 E.a__law_grown E.d__law_grown ["_law_box_here", "_law_many", "_law_locked"] (spOf K fs__law_grown) :=
  fn_ok (k := 2) (A := Aof [true, true, true]) (m := m__law_grown) E.F__law_grown sc__law_grown rfl rfl (Aof_ok _)
      (fun cdv A2 outer s H X0 hr => ⟨_, (ss_cons (ss_set sc__law_grown.nd rfl (.inl rfl) rfl (se_lst (sa_cons se_str (sa_cons se_str (sa_cons se_str (sa_cons se_str (sa_cons se_str (sa_cons se_str (sa_cons se_str (sa_cons se_str (sa_cons se_str (sa_cons se_str (sa_cons se_str (sa_cons se_str sa_nil))))))))))))))
      (ss_cons (ss_set sc__law_grown.nd rfl (.inl rfl) rfl (se_lst (sa_cons (se_frz (se_tup (sa_cons (se_frz (se_pop (se_var 3) (sa_cons (se_frz (se_call ((ok__law_take E).mono (by decide)) hr (by rfl) E.g__law_take E.F__law_take.kp E.b__law_take (sa_cons (se_var 0) (sa_cons (se_frz (se_len (by rfl) E.z_len (sa_cons (se_var 3) sa_nil))) sa_nil)))) sa_nil))) (sa_cons se_non (sa_cons se_bl sa_nil))))) sa_nil)))
      (ss_cons (ss_for PassesOwn.never rfl (si_rng1 (by rfl) E.z_range (sa_cons (se_sub (se_var 1) se_int) sa_nil)) (sg_name sc__law_grown.nd rfl (.inl rfl) rfl) (ss_cons (ss_set sc__law_grown.nd rfl (.inl rfl) rfl (se_ix (room1 hr) (se_call ((ok__law_of E).mono (by decide)) hr (by rfl) E.g__law_of E.F__law_of.kp E.b__law_of (sa_cons (se_var 0) (sa_cons (se_var 4) sa_nil))) se_int))
      (ss_one (ss_expr (se_app (se_var 4) (sa_cons (se_frz (se_tup (sa_cons (se_frz (se_pop (se_var 3) (sa_cons (se_frz (se_call ((ok__law_take E).mono (by decide)) hr (by rfl) E.g__law_take E.F__law_take.kp E.b__law_take (sa_cons (se_var 0) (sa_cons (se_frz (se_len (by rfl) E.z_len (sa_cons (se_var 3) sa_nil))) sa_nil)))) sa_nil))) (sa_cons (se_frz (se_var 6)) (sa_cons (se_frz (se_lt (se_call ((ok__law_take E).mono (by decide)) hr (by rfl) E.g__law_take E.F__law_take.kp E.b__law_take (sa_cons (se_var 0) (sa_cons se_int sa_nil))) (se_var 2))) sa_nil))))) sa_nil))))))
      (ss_one (ss_ret (se_tupF (by rfl) E.z_tuple (sa_cons (se_var 4) sa_nil)))))))⟩)
theorem sc__law_by_hand : FnScope ["_law_tree_so", "_law_top", "_law_low", "_law_some", "_law_name", "_law_two", "_law_names", "_law_row"] ["_law_tree_so"] (defScope s__law_by_hand) := ⟨rfl, rfl, rfl, by decide +kernel, rfl, by decide +kernel, by decide +kernel⟩
theorem ok__law_by_hand (E : Ev K mg) : FnOk P w K mg base CX0 1 E.a__law_by_hand E.d__law_by_hand ["_law_tree_so"] (spOf K fs__law_by_hand) :=
  fn_ok (k := 0) (A := Aof [true]) (m := m__law_by_hand) E.F__law_by_hand sc__law_by_hand rfl rfl (Aof_ok _)
      (fun cdv A2 outer s H X0 hr => ⟨_, (ss_cons (ss_par rfl sc__law_by_hand.nd rfl rfl (by decide) rfl rfl rfl rfl (se_ix (room1 hr) (se_ix (room1 hr) (se_var 0) se_int) se_int) (se_lcIfA (own := [("_law_row", 7)]) s H rfl sc__law_by_hand.nd (blkOk_by (by kernel_rfl)) (si_seq (se_var 0)) (sg_name sc__law_by_hand.nd rfl (.inl rfl) rfl) (st_tr (se_ix (room1 hr) (se_var 7) se_int)) (se_ix (room1 hr) (se_var 7) se_int) (fun _ _ _ _ _ => (sg_name sc__law_by_hand.nd rfl (.inl rfl) rfl)) (fun _ _ _ _ _ => (st_tr (se_ix (room1 hr) (se_var 7) se_int))) (fun _ _ _ _ _ => (se_ix (room1 hr) (se_var 7) se_int))) rfl)
      (ss_cons (ss_set sc__law_by_hand.nd rfl (.inl rfl) rfl (se_lst (sa_cons (se_frz (se_tup sa_nil)) (sa_cons (se_frz (se_tup (sa_cons (se_frz (se_tup (sa_cons (se_frz (se_var 1)) (sa_cons se_str sa_nil)))) sa_nil))) (sa_cons (se_frz (se_tup (sa_cons (se_frz (se_tup (sa_cons (se_frz (se_var 1)) (sa_cons se_str sa_nil)))) sa_nil))) (sa_cons (se_frz (se_tup (sa_cons (se_frz (se_tup (sa_cons (se_frz (se_var 1)) (sa_cons se_str sa_nil)))) sa_nil))) (sa_cons (se_frz (se_tup (sa_cons (se_frz (se_tup (sa_cons (se_frz (se_var 1)) (sa_cons se_str sa_nil)))) (sa_cons (se_frz (se_tup (sa_cons (se_frz (se_var 1)) (sa_cons se_str sa_nil)))) sa_nil)))) sa_nil)))))))
      (ss_cons (ss_set sc__law_by_hand.nd rfl (.inl rfl) rfl (se_addT (se_var 3) (se_lst (sa_cons (se_frz (se_tup (sa_cons (se_frz (se_tup (sa_cons (se_frz (se_var 1)) (sa_cons se_str sa_nil)))) (sa_cons (se_frz (se_tup (sa_cons (se_frz (se_var 1)) (sa_cons se_str sa_nil)))) sa_nil)))) (sa_cons (se_frz (se_tup (sa_cons (se_frz (se_tup (sa_cons se_str (sa_cons se_str sa_nil)))) sa_nil))) (sa_cons (se_frz (se_tup (sa_cons (se_frz (se_tup (sa_cons (se_frz (se_var 1)) (sa_cons se_str sa_nil)))) (sa_cons (se_frz (se_tup (sa_cons se_str (sa_cons se_str sa_nil)))) sa_nil)))) (sa_cons (se_frz (se_tup (sa_cons (se_frz (se_tup (sa_cons (se_frz (se_var 1)) (sa_cons se_str sa_nil)))) sa_nil))) sa_nil)))))))
      (ss_cons (ss_set sc__law_by_hand.nd rfl (.inl rfl) rfl (se_addT (se_var 3) (se_lst (sa_cons (se_frz (se_tup (sa_cons (se_frz (se_tup (sa_cons (se_frz (se_var 1)) (sa_cons se_str sa_nil)))) sa_nil))) (sa_cons (se_frz (se_tup (sa_cons (se_frz (se_tup (sa_cons (se_frz (se_var 1)) (sa_cons se_non sa_nil)))) sa_nil))) sa_nil)))))
      (ss_cons (ss_set sc__law_by_hand.nd rfl (.inl rfl) rfl (se_addT (se_var 3) (se_lst (sa_cons (se_frz (se_tup (sa_cons (se_frz (se_tup (sa_cons (se_frz (se_var 1)) sa_nil))) sa_nil))) (sa_cons (se_frz (se_tup (sa_cons (se_frz (se_tup (sa_cons (se_frz (se_var 1)) (sa_cons se_str (sa_cons se_str sa_nil))))) sa_nil))) (sa_cons (se_frz (se_tup (sa_cons (se_frz (se_var 1)) (sa_cons se_str sa_nil)))) (sa_cons (se_frz (se_lst (sa_cons (se_frz (se_tup (sa_cons (se_frz (se_var 1)) (sa_cons se_str sa_nil)))) sa_nil))) (sa_cons (se_frz (se_tup (sa_cons (se_frz (se_lst (sa_cons (se_frz (se_var 1)) (sa_cons se_str sa_nil)))) sa_nil))) (sa_cons se_str (sa_cons se_non (sa_cons se_int sa_nil)))))))))))
      (ss_cons (ss_set sc__law_by_hand.nd rfl (.inl rfl) rfl (se_addT (se_var 3) (se_lst (sa_cons (se_frz (se_tup (sa_cons (se_frz (se_tup (sa_cons se_non (sa_cons se_str sa_nil)))) sa_nil))) (sa_cons (se_frz (se_tup (sa_cons (se_frz (se_tup (sa_cons se_int (sa_cons se_str sa_nil)))) sa_nil))) (sa_cons (se_frz (se_tup (sa_cons (se_frz (se_tup (sa_cons (se_frz (se_lst (sa_cons (se_frz (se_var 1)) sa_nil))) (sa_cons se_str sa_nil)))) sa_nil))) (sa_cons (se_frz (se_tup (sa_cons (se_frz (se_tup (sa_cons (se_frz (se_var 1)) (sa_cons (se_frz (se_lst (sa_cons se_str sa_nil))) sa_nil)))) sa_nil))) (sa_cons (se_frz (se_tup (sa_cons (se_frz (se_tup (sa_cons (se_frz (se_lst sa_nil)) (sa_cons (se_frz (se_lst sa_nil)) sa_nil)))) sa_nil))) (sa_cons (se_frz (se_tup (sa_cons (se_frz (se_tup (sa_cons (se_frz (se_var 1)) (sa_cons (se_frz (se_tup (sa_cons se_str sa_nil))) sa_nil)))) sa_nil))) sa_nil)))))))))
      (ss_cons (ss_for PassesOwn.never rfl (si_seq (se_sl (se_var 2) sp_none (sp_some se_int))) (sg_name sc__law_by_hand.nd rfl (.inl rfl) rfl) (ss_cons (ss_set sc__law_by_hand.nd rfl (.inl rfl) rfl (se_sorted hr.units (by rfl) E.z_sorted (sa_cons (se_lst (sa_cons (se_frz (se_tup (sa_cons (se_frz (se_var 4)) (sa_cons se_str sa_nil)))) (sa_cons (se_frz (se_tup (sa_cons (se_frz (se_var 1)) (sa_cons se_str sa_nil)))) sa_nil))) sa_nil)))
      (ss_one (ss_set sc__law_by_hand.nd rfl (.inl rfl) rfl (se_addT (se_var 3) (se_lst (sa_cons (se_frz (se_tup (sa_cons (se_frz (se_tup (sa_cons (se_frz (se_var 4)) (sa_cons se_str sa_nil)))) sa_nil))) (sa_cons (se_frz (se_tupF (by rfl) E.z_tuple (sa_cons (se_var 5) sa_nil))) (sa_cons (se_frz (se_tupF (by rfl) E.z_tuple (sa_cons (se_revE (se_var 5)) sa_nil))) sa_nil)))))))))
      (ss_cons (ss_set sc__law_by_hand.nd rfl (.inl rfl) rfl (se_sorted hr.units (by rfl) E.z_sorted (sa_cons (se_lcA (own := [("_law_row", 7)]) s H rfl sc__law_by_hand.nd (blkOk_by (by kernel_rfl)) (si_seq (se_var 0)) (sg_name sc__law_by_hand.nd rfl (.inl rfl) rfl) (se_ix (room1 hr) (se_var 7) se_int) (fun _ _ _ _ _ => (sg_name sc__law_by_hand.nd rfl (.inl rfl) rfl)) (fun _ _ _ _ _ => (se_ix (room1 hr) (se_var 7) se_int))) sa_nil)))
      (ss_one (ss_ret (se_addT (se_var 3) (se_lst (sa_cons (se_frz (se_tupF (by rfl) E.z_tuple (sa_cons (se_lcA (own := [("_law_name", 4)]) s H rfl sc__law_by_hand.nd (blkOk_by (by kernel_rfl)) (si_seq (se_var 6)) (sg_name sc__law_by_hand.nd rfl (.inl rfl) rfl) (se_tup (sa_cons (se_frz (se_var 4)) (sa_cons se_str sa_nil))) (fun _ _ _ _ _ => (sg_name sc__law_by_hand.nd rfl (.inl rfl) rfl)) (fun _ _ _ _ _ => (se_tup (sa_cons (se_frz (se_var 4)) (sa_cons se_str sa_nil))))) sa_nil))) (sa_cons (se_frz (se_tupF (by rfl) E.z_tuple (sa_cons (se_lcA (own := [("_law_name", 4)]) s H rfl sc__law_by_hand.nd (blkOk_by (by kernel_rfl)) (si_seq (se_revE (se_var 6))) (sg_name sc__law_by_hand.nd rfl (.inl rfl) rfl) (se_tup (sa_cons (se_frz (se_var 4)) (sa_cons se_str sa_nil))) (fun _ _ _ _ _ => (sg_name sc__law_by_hand.nd rfl (.inl rfl) rfl)) (fun _ _ _ _ _ => (se_tup (sa_cons (se_frz (se_var 4)) (sa_cons se_str sa_nil))))) sa_nil))) sa_nil))))))))))))))⟩)
theorem sc__law_lists : FnScope ["_law_matter", "_law_bit"] ["_law_matter"] (defScope s__law_lists) := ⟨rfl, rfl, rfl, by decide +kernel, rfl, by decide +kernel, by decide +kernel⟩
theorem ok__law_lists (E : Ev K mg) : ∀ d : Nat, FnOk P w K mg base CX0 (0 + d) E.a__law_lists E.d__law_lists ["_law_matter"] (spOf K (fs__law_lists d))
  | 0 => fn_none
  | d + 1 => have ih := ok__law_lists E d
    fn_ok (k := 0 + d) (A := Aof [true]) (m := m__law_lists (fs__law_lists d)) E.F__law_lists sc__law_lists rfl rfl (Aof_ok _)
      (fun cdv A2 outer s H X0 hr => ⟨_, (ss_one (ss_ret (se_if (st_tr (se_isi2 (T := "list") (U := "tuple") (by decide) (by decide) (by decide +kernel) (by decide) (by decide) (by decide +kernel) (by decide) (by decide) (by rfl) E.z_isinstance (by rfl) E.z_list (by rfl) E.z_tuple (se_var 0))) (se_lcA (own := [("_law_bit", 1)]) s H rfl sc__law_lists.nd (blkOk_by (by kernel_rfl)) (si_seq (se_var 0)) (sg_name sc__law_lists.nd rfl (.inl rfl) rfl) (se_call (ih.mono (Nat.le_refl _)) hr (by rfl) E.g__law_lists E.F__law_lists.kp E.b__law_lists (sa_cons (se_var 1) sa_nil)) (fun _ _ _ _ _ => (sg_name sc__law_lists.nd rfl (.inl rfl) rfl)) (fun _ _ _ _ _ => (se_call (ih.mono (Nat.le_refl _)) hr (by rfl) E.g__law_lists E.F__law_lists.kp E.b__law_lists (sa_cons (se_var 1) sa_nil)))) (se_var 0))))⟩)
theorem sc__law_wished : FnScope ["_law_box_here", "_law_tree_so", "_law_many", "_law_values", "_law_left", "_law_found", "_law_turn", "_law_row"] ["_law_box_here", "_law_tree_so", "_law_many", "_law_values"] (defScope s__law_wished) := ⟨rfl, rfl, rfl, by decide +kernel, rfl, by decide +kernel, by decide +kernel⟩
theorem ok__law_wished (E : Ev K mg) : FnOk P w K mg base CX0 3 E.a__law_wished E.d__law_wished ["_law_box_here", "_law_tree_so", "_law_many", "_law_values"] (spOf K fs__law_wished) :=
  fn_ok (k := 2) (A := Aof [true, true, true, true]) (m := m__law_wished) E.F__law_wished sc__law_wished rfl rfl (Aof_ok _)
      (fun cdv A2 outer s H X0 hr => ⟨_, (ss_cons (ss_par rfl sc__law_wished.nd rfl rfl (by decide) rfl rfl rfl rfl (se_lcA (own := [("_law_row", 7)]) s H rfl sc__law_wished.nd (blkOk_by (by kernel_rfl)) (si_seq (se_var 1)) (sg_name sc__law_wished.nd rfl (.inl rfl) rfl) (se_ix (room1 hr) (se_var 7) se_int) (fun _ _ _ _ _ => (sg_name sc__law_wished.nd rfl (.inl rfl) rfl)) (fun _ _ _ _ _ => (se_ix (room1 hr) (se_var 7) se_int))) (se_lst sa_nil) rfl)
      (ss_cons (ss_for PassesOwn.never rfl (si_rng1 (by rfl) E.z_range (sa_cons (se_var 2) sa_nil)) (sg_name sc__law_wished.nd rfl (.inl rfl) rfl) (ss_one (ss_if (st_ne hr.units (se_var 4) (se_lst sa_nil)) (ss_one (ss_expr (se_app (se_var 5) (sa_cons (se_frz (se_tup (sa_cons (se_frz (se_pop (se_var 4) (sa_cons (se_frz (se_call ((ok__law_take E).mono (by decide)) hr (by rfl) E.g__law_take E.F__law_take.kp E.b__law_take (sa_cons (se_var 0) (sa_cons (se_frz (se_len (by rfl) E.z_len (sa_cons (se_var 4) sa_nil))) sa_nil)))) sa_nil))) (sa_cons (se_frz (se_call ((ok__law_of E).mono (by decide)) hr (by rfl) E.g__law_of E.F__law_of.kp E.b__law_of (sa_cons (se_var 0) (sa_cons (se_var 3) sa_nil)))) sa_nil)))) sa_nil)))) ss_nil)))
      (ss_one (ss_ret (se_tupF (by rfl) E.z_tuple (sa_cons (se_sorted hr.units (by rfl) E.z_sorted (sa_cons (se_var 5) sa_nil)) sa_nil))))))⟩)
theorem sc__law_planned : FnScope ["_law_box_here", "_law_tree_so", "_law_values", "_law_found", "_law_name", "_law_parent_so", "_law_is_locked"] ["_law_box_here", "_law_tree_so", "_law_values"] (defScope s__law_planned) := ⟨rfl, rfl, rfl, by decide +kernel, rfl, by decide +kernel, by decide +kernel⟩
theorem ok__law_planned (E : Ev K mg) : FnOk P w K mg base CX0 3 E.a__law_planned E.d__law_planned ["_law_box_here", "_law_tree_so", "_law_values"] (spOf K fs__law_planned) :=
  fn_ok (k := 2) (A := Aof [true, true, true]) (m := m__law_planned) E.F__law_planned sc__law_planned rfl rfl (Aof_ok _)
      (fun cdv A2 outer s H X0 hr => ⟨_, (ss_cons (ss_set sc__law_planned.nd rfl (.inl rfl) rfl (se_lst (sa_cons (se_frz (se_tup (sa_cons (se_frz (se_ix (room1 hr) (se_ix (room1 hr) (se_var 1) se_int) se_int)) (sa_cons (se_frz (se_call ((ok__law_of E).mono (by decide)) hr (by rfl) E.g__law_of E.F__law_of.kp E.b__law_of (sa_cons (se_var 0) (sa_cons (se_var 2) sa_nil)))) sa_nil)))) sa_nil)))
      (ss_cons (ss_for PassesOwn.never rfl (si_seq (se_sl (se_var 1) (sp_some se_int) sp_none)) (sg_tup rfl (sgs_cons (sg_name sc__law_planned.nd rfl (.inl rfl) rfl) (sgs_cons (sg_name sc__law_planned.nd rfl (.inl rfl) rfl) (sgs_cons (sg_name sc__law_planned.nd rfl (.inl rfl) rfl) sgs_nil)))) (ss_one (ss_if (sw_and (st_not (st_tr (se_var 6))) (sw_and1 (st_eq hr.units (se_call ((ok__law_take E).mono (by decide)) hr (by rfl) E.g__law_take E.F__law_take.kp E.b__law_take (sa_cons (se_var 0) (sa_cons se_int sa_nil))) se_int))).st (ss_one (ss_expr (se_app (se_var 3) (sa_cons (se_frz (se_tup (sa_cons (se_frz (se_var 4)) (sa_cons (se_frz (se_call ((ok__law_of E).mono (by decide)) hr (by rfl) E.g__law_of E.F__law_of.kp E.b__law_of (sa_cons (se_var 0) (sa_cons (se_var 2) sa_nil)))) sa_nil)))) sa_nil)))) ss_nil)))
      (ss_one (ss_ret (se_tupF (by rfl) E.z_tuple (sa_cons (se_sorted hr.units (by rfl) E.z_sorted (sa_cons (se_var 3) sa_nil)) sa_nil))))))⟩)
theorem sc__law_bent : FnScope ["_law_box_here", "_law_part", "_law_more", "_law_k", "_law_some"] ["_law_box_here", "_law_part", "_law_more"] (defScope s__law_bent) := ⟨rfl, rfl, rfl, by decide +kernel, rfl, by decide +kernel, by decide +kernel⟩
theorem ok__law_bent (E : Ev K mg) : ∀ d : Nat, FnOk P w K mg base CX0 (2 + d) E.a__law_bent E.d__law_bent ["_law_box_here", "_law_part", "_law_more"] (spOf K (fs__law_bent d))
  | 0 => fn_none
  | d + 1 => have ih := ok__law_bent E d
    fn_ok (k := 2 + d) (A := Aof [true, true, true]) (m := m__law_bent (fs__law_bent d)) E.F__law_bent sc__law_bent rfl rfl (Aof_ok _)
      (fun cdv A2 outer s H X0 hr => ⟨_, (ss_cons (ss_if (sw_and (st_tr (se_isi (T := "tuple") (by decide) (by decide +kernel) (by decide) (by decide) (by rfl) E.z_isinstance (by rfl) E.z_tuple (se_var 1))) (sw_and (st_ne hr.units (se_var 1) (se_tup sa_nil)) (sw_and1 (st_gt (se_call ((ok__law_take E).mono (Nat.le_add_right_of_le (by decide))) hr (by rfl) E.g__law_take E.F__law_take.kp E.b__law_take (sa_cons (se_var 0) (sa_cons se_int sa_nil))) se_int)))).st (ss_cons (ss_set sc__law_bent.nd rfl (.inl rfl) rfl (se_call ((ok__law_take E).mono (Nat.le_add_right_of_le (by decide))) hr (by rfl) E.g__law_take E.F__law_take.kp E.b__law_take (sa_cons (se_var 0) (sa_cons (se_frz (se_len (by rfl) E.z_len (sa_cons (se_var 1) sa_nil))) sa_nil))))
      (ss_one (ss_ret (se_addT (se_addT (se_sl (se_var 1) sp_none (sp_some (se_var 3))) (se_tup (sa_cons (se_frz (se_call (ih.mono (Nat.le_refl _)) hr (by rfl) E.g__law_bent E.F__law_bent.kp E.b__law_bent (sa_cons (se_var 0) (sa_cons (se_frz (se_ix (room1 hr) (se_var 1) (se_var 3))) (sa_cons (se_var 2) sa_nil))))) sa_nil))) (se_sl (se_var 1) (sp_some (se_add (se_var 3) se_int)) sp_none))))) ss_nil)
      (ss_cons (ss_set sc__law_bent.nd rfl (.inl rfl) rfl (se_addT (se_lst (sa_cons se_int (sa_cons se_int (sa_cons se_non (sa_cons se_bl (sa_cons se_bl (sa_cons se_str (sa_cons se_str (sa_cons se_str (sa_cons se_str (sa_cons se_str (sa_cons se_str (sa_cons se_str (sa_cons se_str (sa_cons (se_frz (se_tup sa_nil)) (sa_cons (se_frz (se_tup (sa_cons se_str sa_nil))) sa_nil)))))))))))))))) (se_var 2)))
      (ss_cons (ss_if (st_tr (se_isi (T := "tuple") (by decide) (by decide +kernel) (by decide) (by decide) (by rfl) E.z_isinstance (by rfl) E.z_tuple (se_var 1))) (ss_one (ss_set sc__law_bent.nd rfl (.inl rfl) rfl (se_addT (se_var 4) (se_lst (sa_cons (se_frz (se_listF (by rfl) E.z_list (sa_cons (se_var 1) sa_nil))) (sa_cons (se_frz (se_sl (se_var 1) sp_none (sp_some (se_neg se_int)))) (sa_cons (se_frz (se_addT (se_var 1) (se_sl (se_var 1) (sp_some (se_neg se_int)) sp_none))) (sa_cons (se_frz (se_revE (se_var 1))) (sa_cons (se_frz (se_tup (sa_cons (se_frz (se_var 1)) sa_nil))) sa_nil))))))))) ss_nil)
      (ss_one (ss_ret (se_call ((ok__law_of E).mono (Nat.le_add_right_of_le (by decide))) hr (by rfl) E.g__law_of E.F__law_of.kp E.b__law_of (sa_cons (se_var 0) (sa_cons (se_var 4) sa_nil))))))))⟩)
theorem sc__law_is_word : FnScope ["_law_matter", "_law_sign"] ["_law_matter"] (defScope s__law_is_word) := ⟨rfl, rfl, rfl, by decide +kernel, rfl, by decide +kernel, by decide +kernel⟩
theorem ok__law_is_word (E : Ev K mg) : FnOk P w K mg base CX0 1 E.a__law_is_word E.d__law_is_word ["_law_matter"] (spOf K fs__law_is_word) :=
  fn_ok (k := 0) (A := Aof [true]) (m := m__law_is_word) E.F__law_is_word sc__law_is_word rfl rfl (Aof_ok _)
      (fun cdv A2 outer s H X0 hr => ⟨_, (ss_cons (ss_if (sw_or (st_not (st_tr (se_isi (T := "str") (by decide) (by decide +kernel) (by decide) (by decide) (by rfl) E.z_isinstance (by rfl) E.z_str (se_var 0)))) (sw_or (st_lt (se_len (by rfl) E.z_len (sa_cons (se_var 0) sa_nil)) se_int) (sw_or1 (st_gt (se_len (by rfl) E.z_len (sa_cons (se_var 0) sa_nil)) se_int)))).st (ss_one (ss_ret se_bl)) ss_nil)
      (ss_one (ss_ret (se_all rfl (by rfl) E.z_all (sa_cons (se_lcA (own := [("_law_sign", 1)]) s H rfl sc__law_is_word.nd (blkOk_by (by kernel_rfl)) (si_seq (se_var 0)) (sg_name sc__law_is_word.nd rfl (.inl rfl) rfl) (se_inC (se_var 1) se_str) (fun _ _ _ _ _ => (sg_name sc__law_is_word.nd rfl (.inl rfl) rfl)) (fun _ _ _ _ _ => (se_inC (se_var 1) se_str))) sa_nil)))))⟩)
theorem sc__law_are_pairs : FnScope ["_law_matter", "_law_names", "_law_pair"] ["_law_matter", "_law_names"] (defScope s__law_are_pairs) := ⟨rfl, rfl, rfl, by decide +kernel, rfl, by decide +kernel, by decide +kernel⟩
theorem ok__law_are_pairs (E : Ev K mg) : FnOk P w K mg base CX0 2 E.a__law_are_pairs E.d__law_are_pairs ["_law_matter", "_law_names"] (spOf K fs__law_are_pairs) :=
  fn_ok (k := 1) (A := Aof [true, true]) (m := m__law_are_pairs) E.F__law_are_pairs sc__law_are_pairs rfl rfl (Aof_ok _)
      (fun cdv A2 outer s H X0 hr => ⟨_, (ss_cons (ss_if (st_not (st_tr (se_isi (T := "tuple") (by decide) (by decide +kernel) (by decide) (by decide) (by rfl) E.z_isinstance (by rfl) E.z_tuple (se_var 0)))) (ss_one (ss_ret se_bl)) ss_nil)
      (ss_cons (ss_for PassesOwn.never rfl (si_seq (se_var 0)) (sg_name sc__law_are_pairs.nd rfl (.inl rfl) rfl) (ss_cons (ss_if (sw_or (st_not (st_tr (se_isi (T := "tuple") (by decide) (by decide +kernel) (by decide) (by decide) (by rfl) E.z_isinstance (by rfl) E.z_tuple (se_var 2)))) (sw_or (st_ne hr.units (se_len (by rfl) E.z_len (sa_cons (se_var 2) sa_nil)) se_int) (sw_or (st_not (st_tr (se_isi (T := "str") (by decide) (by decide +kernel) (by decide) (by decide) (by rfl) E.z_isinstance (by rfl) E.z_str (se_ix (room1 hr) (se_var 2) se_int)))) (sw_or1 (st_notin (room65 hr) (se_ix (room1 hr) (se_var 2) se_int) (se_var 1)))))).st (ss_one (ss_ret se_bl)) ss_nil)
      (ss_one (ss_if (st_not (st_tr (se_call ((ok__law_is_word E).mono (by decide)) hr (by rfl) E.g__law_is_word E.F__law_is_word.kp E.b__law_is_word (sa_cons (se_frz (se_ix (room1 hr) (se_var 2) se_int)) sa_nil)))) (ss_one (ss_ret se_bl)) ss_nil))))
      (ss_one (ss_ret (se_eq hr.units (se_lcA (own := [("_law_pair", 2)]) s H rfl sc__law_are_pairs.nd (blkOk_by (by kernel_rfl)) (si_seq (se_var 0)) (sg_name sc__law_are_pairs.nd rfl (.inl rfl) rfl) (se_ix (room1 hr) (se_var 2) se_int) (fun _ _ _ _ _ => (sg_name sc__law_are_pairs.nd rfl (.inl rfl) rfl)) (fun _ _ _ _ _ => (se_ix (room1 hr) (se_var 2) se_int))) (se_sortSet rfl hr.units (by rfl) E.z_sorted (by rfl) E.z_set (sa_cons (se_lcA (own := [("_law_pair", 2)]) s H rfl sc__law_are_pairs.nd (blkOk_by (by kernel_rfl)) (si_seq (se_var 0)) (sg_name sc__law_are_pairs.nd rfl (.inl rfl) rfl) (se_ix (room1 hr) (se_var 2) se_int) (fun _ _ _ _ _ => (sg_name sc__law_are_pairs.nd rfl (.inl rfl) rfl)) (fun _ _ _ _ _ => (se_ix (room1 hr) (se_var 2) se_int))) sa_nil)))))))⟩)
theorem sc__law_due : FnScope ["_law_tree_so", "_law_matter", "_law_free", "_law_mine", "_law_its", "_law_row", "_law_pair"] ["_law_tree_so", "_law_matter"] (defScope s__law_due) := ⟨rfl, rfl, rfl, by decide +kernel, rfl, by decide +kernel, by decide +kernel⟩
theorem ok__law_due (E : Ev K mg) : FnOk P w K mg base CX0 3 E.a__law_due E.d__law_due ["_law_tree_so", "_law_matter"] (spOf K fs__law_due) :=
  fn_ok (k := 2) (A := Aof [true, true]) (m := m__law_due) E.F__law_due sc__law_due rfl rfl (Aof_ok _)
      (fun cdv A2 outer s H X0 hr => ⟨_, (ss_cons (ss_setLcIfA (own := [("_law_row", 5)]) s H rfl sc__law_due.nd rfl rfl rfl (sw_true rfl rfl rfl rfl) (blkOk_by (by kernel_rfl)) (si_seq (se_var 0)) (sg_name sc__law_due.nd rfl (.inl rfl) rfl) (st_not (st_tr (se_ix (room1 hr) (se_var 5) se_int))) (se_ix (room1 hr) (se_var 5) se_int) (fun _ _ _ _ _ => (sg_name sc__law_due.nd rfl (.inl rfl) rfl)) (fun _ _ _ _ _ => (st_not (st_tr (se_ix (room1 hr) (se_var 5) se_int)))) (fun _ _ _ _ _ => (se_ix (room1 hr) (se_var 5) se_int)))
      (ss_cons (ss_set sc__law_due.nd rfl (.inl rfl) rfl (se_call ((ok__law_are_pairs E).mono (by decide)) hr (by rfl) E.g__law_are_pairs E.F__law_are_pairs.kp E.b__law_are_pairs (sa_cons (se_var 1) (sa_cons (se_frz (se_lcA (own := [("_law_row", 5)]) s H rfl sc__law_due.nd (blkOk_by (by kernel_rfl)) (si_seq (se_var 0)) (sg_name sc__law_due.nd rfl (.inl rfl) rfl) (se_ix (room1 hr) (se_var 5) se_int) (fun _ _ _ _ _ => (sg_name sc__law_due.nd rfl (.inl rfl) rfl)) (fun _ _ _ _ _ => (se_ix (room1 hr) (se_var 5) se_int)))) sa_nil))))
      (ss_cons (ss_set sc__law_due.nd rfl (.inl rfl) rfl (se_andT (se_call ((ok__law_are_pairs E).mono (by decide)) hr (by rfl) E.g__law_are_pairs E.F__law_are_pairs.kp E.b__law_are_pairs (sa_cons (se_var 1) (sa_cons (se_var 2) sa_nil))) (se_one (se_in (room65 hr) (se_ix (room1 hr) (se_ix (room1 hr) (se_var 0) se_int) se_int) (se_lcA (own := [("_law_pair", 6)]) s H rfl sc__law_due.nd (blkOk_by (by kernel_rfl)) (si_seq (se_var 1)) (sg_name sc__law_due.nd rfl (.inl rfl) rfl) (se_ix (room1 hr) (se_var 6) se_int) (fun _ _ _ _ _ => (sg_name sc__law_due.nd rfl (.inl rfl) rfl)) (fun _ _ _ _ _ => (se_ix (room1 hr) (se_var 6) se_int)))))))
      (ss_one (ss_ret (se_lst (sa_cons (se_frz (se_var 3)) (sa_cons (se_frz (se_var 4)) sa_nil))))))))⟩)
theorem sc_is_name : FnScope ["thing", "letter"] ["thing"] (defScope s_is_name) := ⟨rfl, rfl, rfl, by decide +kernel, rfl, by decide +kernel, by decide +kernel⟩
theorem ok_is_name (E : Ev K mg) : FnOk P w K mg base CX0 1 E.a_is_name E.d_is_name ["thing"] (spOf K fs_is_name) :=
  fn_ok (k := 0) (A := Aof [true]) (m := m_is_name) E.F_is_name sc_is_name rfl rfl (Aof_ok _)
      (fun cdv A2 outer s H X0 hr => ⟨_, (ss_cons (ss_if (sw_or (st_not (st_tr (se_isi (T := "str") (by decide) (by decide +kernel) (by decide) (by decide) (by rfl) E.z_isinstance (by rfl) E.z_str (se_var 0)))) (sw_or1 (st_not (st_lele se_int (se_len (by rfl) E.z_len (sa_cons (se_var 0) sa_nil)) (se_gint (by rfl) E.c_LONGEST_NAME.choose_spec))))).st (ss_one (ss_ret se_bl)) ss_nil)
      (ss_one (ss_ret (se_all rfl (by rfl) E.z_all (sa_cons (se_lcA (own := [("letter", 1)]) s H rfl sc_is_name.nd (blkOk_by (by kernel_rfl)) (si_seq (se_var 0)) (sg_name sc_is_name.nd rfl (.inl rfl) rfl) (se_lele se_str (se_var 1) se_str) (fun _ _ _ _ _ => (sg_name sc_is_name.nd rfl (.inl rfl) rfl)) (fun _ _ _ _ _ => (se_lele se_str (se_var 1) se_str))) sa_nil)))))⟩)
theorem sc_are_pairs : FnScope ["thing", "last", "pair", "part"] ["thing"] (defScope s_are_pairs) := ⟨rfl, rfl, rfl, by decide +kernel, rfl, by decide +kernel, by decide +kernel⟩
theorem ok_are_pairs (E : Ev K mg) : FnOk P w K mg base CX0 2 E.a_are_pairs E.d_are_pairs ["thing"] (spOf K fs_are_pairs) :=
  fn_ok (k := 1) (A := Aof [true]) (m := m_are_pairs) E.F_are_pairs sc_are_pairs rfl rfl (Aof_ok _)
      (fun cdv A2 outer s H X0 hr => ⟨_, (ss_cons (ss_if (st_not (st_tr (se_isi (T := "tuple") (by decide) (by decide +kernel) (by decide) (by decide) (by rfl) E.z_isinstance (by rfl) E.z_tuple (se_var 0)))) (ss_one (ss_ret se_bl)) ss_nil)
      (ss_cons (ss_set sc_are_pairs.nd rfl (.inl rfl) rfl se_str)
      (ss_cons (ss_for PassesOwn.never rfl (si_seq (se_var 0)) (sg_name sc_are_pairs.nd rfl (.inl rfl) rfl) (ss_cons (ss_if (sw_or (st_not (st_tr (se_isi (T := "tuple") (by decide) (by decide +kernel) (by decide) (by decide) (by rfl) E.z_isinstance (by rfl) E.z_tuple (se_var 2)))) (sw_or (st_ne hr.units (se_len (by rfl) E.z_len (sa_cons (se_var 2) sa_nil)) se_int) (sw_or1 (st_not (st_tr (se_all rfl (by rfl) E.z_all (sa_cons (se_lcA (own := [("part", 3)]) s H rfl sc_are_pairs.nd (blkOk_by (by kernel_rfl)) (si_seq (se_var 2)) (sg_name sc_are_pairs.nd rfl (.inl rfl) rfl) (se_call ((ok_is_name E).mono (by decide)) hr (by rfl) E.g_is_name E.F_is_name.kp E.b_is_name (sa_cons (se_var 3) sa_nil)) (fun _ _ _ _ _ => (sg_name sc_are_pairs.nd rfl (.inl rfl) rfl)) (fun _ _ _ _ _ => (se_call ((ok_is_name E).mono (by decide)) hr (by rfl) E.g_is_name E.F_is_name.kp E.b_is_name (sa_cons (se_var 3) sa_nil)))) sa_nil))))))).st (ss_one (ss_ret se_bl)) ss_nil)
      (ss_cons (ss_if (st_le (se_ix (room1 hr) (se_var 2) se_int) (se_var 1)) (ss_one (ss_ret se_bl)) ss_nil)
      (ss_one (ss_set sc_are_pairs.nd rfl (.inl rfl) rfl (se_ix (room1 hr) (se_var 2) se_int))))))
      (ss_one (ss_ret se_bl)))))⟩)
theorem sc__are_all_of : FnScope ["folders", "pairs", "pair"] ["folders", "pairs"] (defScope s__are_all_of) := ⟨rfl, rfl, rfl, by decide +kernel, rfl, by decide +kernel, by decide +kernel⟩
theorem ok__are_all_of (E : Ev K mg) : FnOk P w K mg base CX0 1 E.a__are_all_of E.d__are_all_of ["folders", "pairs"] (spOf K fs__are_all_of) :=
  fn_ok (k := 0) (A := Aof [true, true]) (m := m__are_all_of) E.F__are_all_of sc__are_all_of rfl rfl (Aof_ok _)
      (fun cdv A2 outer s H X0 hr => ⟨_, (ss_one (ss_ret (se_all rfl (by rfl) E.z_all (sa_cons (se_lcA (own := [("pair", 2)]) s H rfl sc__are_all_of.nd (blkOk_by (by kernel_rfl)) (si_seq (se_var 1)) (sg_name sc__are_all_of.nd rfl (.inl rfl) rfl) (se_in (room65 hr) (se_ix (room1 hr) (se_var 2) se_int) (se_var 0)) (fun _ _ _ _ _ => (sg_name sc__are_all_of.nd rfl (.inl rfl) rfl)) (fun _ _ _ _ _ => (se_in (room65 hr) (se_ix (room1 hr) (se_var 2) se_int) (se_var 0)))) sa_nil))))⟩)
theorem sc_are_wants : FnScope ["tree", "thing", "row"] ["tree", "thing"] (defScope s_are_wants) := ⟨rfl, rfl, rfl, by decide +kernel, rfl, by decide +kernel, by decide +kernel⟩
theorem ok_are_wants (E : Ev K mg) : FnOk P w K mg base CX0 3 E.a_are_wants E.d_are_wants ["tree", "thing"] (spOf K fs_are_wants) :=
  fn_ok (k := 2) (A := Aof [true, true]) (m := m_are_wants) E.F_are_wants sc_are_wants rfl rfl (Aof_ok _)
      (fun cdv A2 outer s H X0 hr => ⟨_, (ss_one (ss_ret (se_andT (se_call ((ok_are_pairs E).mono (by decide)) hr (by rfl) E.g_are_pairs E.F_are_pairs.kp E.b_are_pairs (sa_cons (se_var 1) sa_nil)) (se_one (se_call ((ok__are_all_of E).mono (by decide)) hr (by rfl) E.g__are_all_of E.F__are_all_of.kp E.b__are_all_of (sa_cons (se_frz (se_lcA (own := [("row", 2)]) s H rfl sc_are_wants.nd (blkOk_by (by kernel_rfl)) (si_seq (se_var 0)) (sg_name sc_are_wants.nd rfl (.inl rfl) rfl) (se_ix (room1 hr) (se_var 2) se_int) (fun _ _ _ _ _ => (sg_name sc_are_wants.nd rfl (.inl rfl) rfl)) (fun _ _ _ _ _ => (se_ix (room1 hr) (se_var 2) se_int)))) (sa_cons (se_var 1) sa_nil)))))))⟩)
theorem sc_is_plan : FnScope ["tree", "thing", "free", "row", "pair"] ["tree", "thing"] (defScope s_is_plan) := ⟨rfl, rfl, rfl, by decide +kernel, rfl, by decide +kernel, by decide +kernel⟩
theorem ok_is_plan (E : Ev K mg) : FnOk P w K mg base CX0 3 E.a_is_plan E.d_is_plan ["tree", "thing"] (spOf K fs_is_plan) :=
  fn_ok (k := 2) (A := Aof [true, true]) (m := m_is_plan) E.F_is_plan sc_is_plan rfl rfl (Aof_ok _)
      (fun cdv A2 outer s H X0 hr => ⟨_, (ss_cons (ss_setLcIfA (own := [("row", 3)]) s H rfl sc_is_plan.nd rfl rfl rfl (sw_true rfl rfl rfl rfl) (blkOk_by (by kernel_rfl)) (si_seq (se_var 0)) (sg_name sc_is_plan.nd rfl (.inl rfl) rfl) (st_not (st_tr (se_ix (room1 hr) (se_var 3) se_int))) (se_ix (room1 hr) (se_var 3) se_int) (fun _ _ _ _ _ => (sg_name sc_is_plan.nd rfl (.inl rfl) rfl)) (fun _ _ _ _ _ => (st_not (st_tr (se_ix (room1 hr) (se_var 3) se_int)))) (fun _ _ _ _ _ => (se_ix (room1 hr) (se_var 3) se_int)))
      (ss_one (ss_ret (se_andT (se_call ((ok_are_pairs E).mono (by decide)) hr (by rfl) E.g_are_pairs E.F_are_pairs.kp E.b_are_pairs (sa_cons (se_var 1) sa_nil)) (se_andT (se_call ((ok__are_all_of E).mono (by decide)) hr (by rfl) E.g__are_all_of E.F__are_all_of.kp E.b__are_all_of (sa_cons (se_var 2) (sa_cons (se_var 1) sa_nil))) (se_one (se_in (room65 hr) (se_ix (room1 hr) (se_ix (room1 hr) (se_var 0) se_int) se_int) (se_lcA (own := [("pair", 4)]) s H rfl sc_is_plan.nd (blkOk_by (by kernel_rfl)) (si_seq (se_var 1)) (sg_name sc_is_plan.nd rfl (.inl rfl) rfl) (se_ix (room1 hr) (se_var 4) se_int) (fun _ _ _ _ _ => (sg_name sc_is_plan.nd rfl (.inl rfl) rfl)) (fun _ _ _ _ _ => (se_ix (room1 hr) (se_var 4) se_int))))))))))⟩)
theorem sc__law_same : FnScope ["_law_found", "_law_due_here", "_law_mine", "_law_its"] ["_law_found", "_law_due_here"] (defScope s__law_same) := ⟨rfl, rfl, rfl, by decide +kernel, rfl, by decide +kernel, by decide +kernel⟩
theorem ok__law_same (E : Ev K mg) : ∀ d : Nat, FnOk P w K mg base CX0 (0 + d) E.a__law_same E.d__law_same ["_law_found", "_law_due_here"] (spOf K (fs__law_same d))
  | 0 => fn_none
  | d + 1 => have ih := ok__law_same E d
    fn_ok (k := 0 + d) (A := Aof [true, true]) (m := m__law_same (fs__law_same d)) E.F__law_same sc__law_same rfl rfl (Aof_ok _)
      (fun cdv A2 outer s H X0 hr => ⟨_, (ss_cons (ss_if (st_tr (se_isi2 (T := "list") (U := "tuple") (by decide) (by decide) (by decide +kernel) (by decide) (by decide) (by decide +kernel) (by decide) (by decide) (by rfl) E.z_isinstance (by rfl) E.z_list (by rfl) E.z_tuple (se_var 1))) (ss_cons (ss_if (sw_or (st_ne hr.units (se_isi (T := "list") (by decide) (by decide +kernel) (by decide) (by decide) (by rfl) E.z_isinstance (by rfl) E.z_list (se_var 0)) (se_isi (T := "list") (by decide) (by decide +kernel) (by decide) (by decide) (by rfl) E.z_isinstance (by rfl) E.z_list (se_var 1))) (sw_or1 (st_ne hr.units (se_isi (T := "tuple") (by decide) (by decide +kernel) (by decide) (by decide) (by rfl) E.z_isinstance (by rfl) E.z_tuple (se_var 0)) (se_isi (T := "tuple") (by decide) (by decide +kernel) (by decide) (by decide) (by rfl) E.z_isinstance (by rfl) E.z_tuple (se_var 1))))).st (ss_one (ss_ret se_bl)) ss_nil)
      (ss_one (ss_ret (se_andT (se_eq hr.units (se_len (by rfl) E.z_len (sa_cons (se_var 0) sa_nil)) (se_len (by rfl) E.z_len (sa_cons (se_var 1) sa_nil))) (se_one (se_all rfl (by rfl) E.z_all (sa_cons (se_lcA (own := [("_law_mine", 2), ("_law_its", 3)]) s H rfl sc__law_same.nd (blkOk_by (by kernel_rfl)) (si_zip (by rfl) E.z_zip (sa_cons (se_frz (se_var 0)) (sa_cons (se_frz (se_var 1)) sa_nil))) (sg_tup rfl (sgs_cons (sg_name sc__law_same.nd rfl (.inl rfl) rfl) (sgs_cons (sg_name sc__law_same.nd rfl (.inl rfl) rfl) sgs_nil))) (se_call (ih.mono (Nat.le_refl _)) hr (by rfl) E.g__law_same E.F__law_same.kp E.b__law_same (sa_cons (se_var 2) (sa_cons (se_var 3) sa_nil))) (fun _ _ _ _ _ => (sg_tup rfl (sgs_cons (sg_name sc__law_same.nd rfl (.inl rfl) rfl) (sgs_cons (sg_name sc__law_same.nd rfl (.inl rfl) rfl) sgs_nil)))) (fun _ _ _ _ _ => (se_call (ih.mono (Nat.le_refl _)) hr (by rfl) E.g__law_same E.F__law_same.kp E.b__law_same (sa_cons (se_var 2) (sa_cons (se_var 3) sa_nil))))) sa_nil))))))) ss_nil)
      (ss_cons (ss_if (sw_or (st_is (se_var 1) se_non) (sw_or1 (st_tr (se_isi2 (T := "bool") (U := "str") (by decide) (by decide) (by decide +kernel) (by decide) (by decide) (by decide +kernel) (by decide) (by decide) (by rfl) E.z_isinstance (by rfl) E.z_bool (by rfl) E.z_str (se_var 1))))).st (ss_one (ss_ret (se_andT (se_eq hr.units (se_var 0) (se_var 1)) (se_andT (se_eq hr.units (se_isi (T := "bool") (by decide) (by decide +kernel) (by decide) (by decide) (by rfl) E.z_isinstance (by rfl) E.z_bool (se_var 0)) (se_isi (T := "bool") (by decide) (by decide +kernel) (by decide) (by decide) (by rfl) E.z_isinstance (by rfl) E.z_bool (se_var 1))) (se_one (se_eq hr.units (se_is (se_var 0) se_non) (se_is (se_var 1) se_non))))))) ss_nil)
      (ss_one (ss_ret (se_andT (se_isi (T := "int") (by decide) (by decide +kernel) (by decide) (by decide) (by rfl) E.z_isinstance (by rfl) E.z_int (se_var 0)) (se_andT (se_notT (se_isi (T := "bool") (by decide) (by decide +kernel) (by decide) (by decide) (by rfl) E.z_isinstance (by rfl) E.z_bool (se_var 0))) (se_one (se_eq hr.units (se_var 0) (se_var 1)))))))))⟩)
theorem sc__law_right : FnScope ["_law_box_here", "_law_turn", "_law_tree_so", "_law_some", "_law_again", "_law_part", "_law_lap", "_law_soft", "_law_was", "_law_due_here", "_law_told"] ["_law_box_here"] (defScope s__law_right) := ⟨rfl, rfl, rfl, by decide +kernel, rfl, by decide +kernel, by decide +kernel⟩
theorem ok__law_right (E : Ev K mg) : FnG P w K mg base 23 E.a__law_right E.d__law_right ["_law_box_here"] (spOf K fs__law_right) :=
  fn_okG (k := 22) (A := Aof [true]) (m := m__law_right) E.F__law_right sc__law_right rfl rfl (Aof_ok _)
      (fun cdv A2 outer s H X0 hG hr => ⟨_, (ss_cons (ss_for PassesOwn.never rfl (si_rng1 (by rfl) E.z_range (sa_cons se_int sa_nil)) (sg_name sc__law_right.nd rfl (.inl rfl) rfl) (ss_cons (ss_set sc__law_right.nd rfl (.inl rfl) rfl (se_call ((ok__law_grown E).mono (by decide)) hr (by rfl) E.g__law_grown E.F__law_grown.kp E.b__law_grown (sa_cons (se_var 0) (sa_cons (se_frz (se_add se_int (se_call ((ok__law_take E).mono (by decide)) hr (by rfl) E.g__law_take E.F__law_take.kp E.b__law_take (sa_cons (se_var 0) (sa_cons se_int sa_nil))))) (sa_cons se_int sa_nil)))))
      (ss_cons (ss_set sc__law_right.nd rfl (.inl rfl) rfl (se_call ((ok__law_by_hand E).mono (by decide)) hr (by rfl) E.g__law_by_hand E.F__law_by_hand.kp E.b__law_by_hand (sa_cons (se_var 2) sa_nil)))
      (ss_cons (ss_for PassesOwn.never rfl (si_rng1 (by rfl) E.z_range (sa_cons se_int sa_nil)) (sg_name sc__law_right.nd rfl (.inl rfl) rfl) (ss_cons (ss_set sc__law_right.nd rfl (.inl rfl) rfl (se_call ((ok__law_wished E).mono (by decide)) hr (by rfl) E.g__law_wished E.F__law_wished.kp E.b__law_wished (sa_cons (se_var 0) (sa_cons (se_var 2) (sa_cons se_int (sa_cons (se_frz (se_lst (sa_cons se_str (sa_cons se_str sa_nil)))) sa_nil))))))
      (ss_cons (ss_if (st_lt (se_var 4) se_int) (ss_one (ss_set sc__law_right.nd rfl (.inl rfl) rfl (se_call ((ok__law_planned E).mono (by decide)) hr (by rfl) E.g__law_planned E.F__law_planned.kp E.b__law_planned (sa_cons (se_var 0) (sa_cons (se_var 2) (sa_cons (se_frz (se_lst (sa_cons se_str (sa_cons se_str (sa_cons se_str sa_nil))))) sa_nil)))))) ss_nil)
      (ss_cons (ss_set sc__law_right.nd rfl (.inl rfl) rfl (se_addT (se_var 3) (se_lst (sa_cons (se_frz (se_var 5)) (sa_cons (se_frz (se_call ((ok__law_lists E 20).mono (by decide)) hr (by rfl) E.g__law_lists E.F__law_lists.kp E.b__law_lists (sa_cons (se_var 5) sa_nil))) (sa_cons (se_frz (se_sl (se_var 5) (sp_some se_int) sp_none)) (sa_cons (se_frz (se_revE (se_var 5))) sa_nil)))))))
      (ss_one (ss_for PassesOwn.never rfl (si_rng1 (by rfl) E.z_range (sa_cons se_int sa_nil)) (sg_name sc__law_right.nd rfl (.inl rfl) rfl) (ss_cons (ss_set sc__law_right.nd rfl (.inl rfl) rfl (se_call ((ok__law_bent E 20).mono (by decide)) hr (by rfl) E.g__law_bent E.F__law_bent.kp E.b__law_bent (sa_cons (se_var 0) (sa_cons (se_var 5) (sa_cons (se_frz (se_lst (sa_cons (se_frz (se_tup (sa_cons (se_frz (se_ix (room1 hr) (se_ix (room1 hr) (se_var 2) (se_neg se_int)) se_int)) (sa_cons se_str sa_nil)))) (sa_cons (se_frz (se_ix (room1 hr) (se_ix (room1 hr) (se_var 2) se_int) se_int)) sa_nil)))) sa_nil)))))
      (ss_one (ss_expr (se_app (se_var 3) (sa_cons (se_frz (se_var 5)) sa_nil)))))))))))
      (ss_cons (ss_set sc__law_right.nd rfl (.inl rfl) rfl (se_call ((ok__law_lists E 20).mono (by decide)) hr (by rfl) E.g__law_lists E.F__law_lists.kp E.b__law_lists (sa_cons (se_var 2) sa_nil)))
      (ss_one (ss_for PassesOwn.never rfl (si_seq (se_var 3)) (sg_name sc__law_right.nd rfl (.inl rfl) rfl) (ss_cons (ss_par rfl sc__law_right.nd rfl rfl (by decide) rfl rfl rfl rfl (se_repr hG (room100 hr) (by rfl) E.z_repr (sa_cons (se_var 5) sa_nil)) (se_call ((ok__law_due E).mono (by decide)) hr (by rfl) E.g__law_due E.F__law_due.kp E.b__law_due (sa_cons (se_var 2) (sa_cons (se_var 5) sa_nil))) rfl)
      (ss_cons (ss_set sc__law_right.nd rfl (.inl rfl) rfl (se_lst (sa_cons (se_frz (se_call ((ok_are_wants E).mono (by decide)) hr (by rfl) E.g_are_wants E.F_are_wants.kp E.b_are_wants (sa_cons (se_var 2) (sa_cons (se_var 5) sa_nil)))) (sa_cons (se_frz (se_call ((ok_is_plan E).mono (by decide)) hr (by rfl) E.g_is_plan E.F_is_plan.kp E.b_is_plan (sa_cons (se_var 2) (sa_cons (se_var 5) sa_nil)))) sa_nil))))
      (ss_cons (ss_set sc__law_right.nd rfl (.inl rfl) rfl (se_addT (se_var 10) (se_lst (sa_cons (se_frz (se_callK ((ok_are_wants E).mono (by decide)) hr (by rfl) E.g_are_wants E.F_are_wants.kp (kb_are_wants_1_0 E) (sk_cons (se_var 5) (sk_cons (se_var 7) sk_nil)))) (sa_cons (se_frz (se_callK ((ok_is_plan E).mono (by decide)) hr (by rfl) E.g_is_plan E.F_is_plan.kp (kb_is_plan_1_0 E) (sk_cons (se_var 5) (sk_cons (se_var 7) sk_nil)))) sa_nil)))))
      (ss_one (ss_if (sw_or (st_not (st_tr (se_call ((ok__law_same E 20).mono (by decide)) hr (by rfl) E.g__law_same E.F__law_same.kp E.b__law_same (sa_cons (se_var 10) (sa_cons (se_frz (se_add (se_var 9) (se_var 9))) sa_nil))))) (sw_or (st_ne hr.units (se_repr hG (room100 hr) (by rfl) E.z_repr (sa_cons (se_var 5) sa_nil)) (se_var 8)) (sw_or1 (st_ne hr.units (se_var 7) (se_call ((ok__law_lists E 20).mono (by decide)) hr (by rfl) E.g__law_lists E.F__law_lists.kp E.b__law_lists (sa_cons (se_var 2) sa_nil)))))).st (ss_one (ss_ret se_bl)) ss_nil))))))))))))
      (ss_one (ss_ret se_bl)))⟩)
theorem sc__law_box : FnScope ["_law_script", "_law_k", "_law_cell"] ["_law_script", "_law_k"] (defScope s__law_box) := ⟨rfl, rfl, rfl, by decide +kernel, rfl, by decide +kernel, by decide +kernel⟩
theorem ok__law_box (E : Ev K mg) : FnOk P w K mg base CX0 1 E.a__law_box E.d__law_box ["_law_script", "_law_k"] (spOf K fs__law_box) :=
  fn_ok (k := 0) (A := Aof [true, true]) (m := m__law_box) E.F__law_box sc__law_box rfl rfl (Aof_ok _)
      (fun cdv A2 outer s H X0 hr => ⟨_, (ss_cons (ss_set sc__law_box.nd rfl (.inl rfl) rfl (se_if (st_lt (se_var 1) (se_len (by rfl) E.z_len (sa_cons (se_var 0) sa_nil))) (se_ix (room1 hr) (se_var 0) (se_var 1)) se_int))
      (ss_one (ss_ret (se_lst (sa_cons (se_frz (se_mul (se_abs (by rfl) E.z_abs (sa_cons (se_var 2) sa_nil)) (se_intF (by rfl) E.z_int (sa_cons (se_ge (se_abs (by rfl) E.z_abs (sa_cons (se_var 2) sa_nil)) (se_pow se_int se_int)) sa_nil)))) (sa_cons (se_frz (se_add (se_add (se_mod (se_intF (by rfl) E.z_int (sa_cons (se_var 2) sa_nil)) se_int) (se_mul se_int (se_var 1))) se_int)) (sa_cons se_int sa_nil)))))))⟩)
theorem sc_law : FnScope ["_law_script", "_law_cells_here", "_law_k"] ["_law_script"] (defScope s_law) := ⟨rfl, rfl, rfl, by decide +kernel, rfl, by decide +kernel, by decide +kernel⟩
theorem ok_law (E : Ev K mg) : FnG P w K mg base 24 E.a_law E.d_law ["_law_script"] (spOf K fs_law) :=
  fn_okG (k := 23) (A := Aof [true]) (m := m_law) E.F_law sc_law rfl rfl (Aof_ok _)
      (fun cdv A2 outer s H X0 hG hr => ⟨_, (ss_cons (ss_set sc_law.nd rfl (.inr rfl) rfl (se_call ((ok__law_cells E).mono (by decide)) hr (by rfl) E.g__law_cells E.F__law_cells.kp E.b__law_cells (sa_cons (se_var 0) (sa_cons se_int sa_nil))))
      (ss_one (ss_ret (se_all rfl (by rfl) E.z_all (sa_cons (se_lcA (own := [("_law_k", 2)]) s H rfl sc_law.nd (blkOk_by (by kernel_rfl)) (si_rng1 (by rfl) E.z_range (sa_cons (se_len (by rfl) E.z_len (sa_cons (se_var 1) sa_nil)) sa_nil)) (sg_name sc_law.nd rfl (.inl rfl) rfl) (se_callNG ((ok__law_right E).mono (by decide)) hG hr (by rfl) E.g__law_right E.F__law_right.kp E.b__law_right (sa_cons (se_call ((ok__law_box E).mono (by decide)) hr (by rfl) E.g__law_box E.F__law_box.kp E.b__law_box (sa_cons (se_var 1) (sa_cons (se_var 2) sa_nil))) sa_nil)) (fun _ _ _ _ _ => (sg_name sc_law.nd rfl (.inl rfl) rfl)) (fun _ _ _ _ _ => (se_callNG ((ok__law_right E).mono (by decide)) hG hr (by rfl) E.g__law_right E.F__law_right.kp E.b__law_right (sa_cons (se_call ((ok__law_box E).mono (by decide)) hr (by rfl) E.g__law_box E.F__law_box.kp E.b__law_box (sa_cons (se_var 1) (sa_cons (se_var 2) sa_nil))) sa_nil)))) sa_nil)))))⟩)
end
theorem all_mk {l : PySem.W.OpenLaw} {w : World} {K : PySem.W.Frag} {h : Heap} {mg : Str → Option Value} {fa : Addr} (X : K.In h) (G : h.Ns mainGlobals mg) (hfa : mg "law" = some (.ref fa))
    {f0 : Addr} {od0 an0 : Option Addr} {sl0 : Array (Option Value)} {oc0 kV0 dc0 pm0 cd0 ct0 : Value}
    {f1 : Addr} {od1 an1 : Option Addr} {sl1 : Array (Option Value)} {oc1 kV1 dc1 pm1 cd1 ct1 : Value}
    {f2 : Addr} {od2 an2 : Option Addr} {sl2 : Array (Option Value)} {oc2 kV2 dc2 pm2 cd2 ct2 : Value}
    {f3 : Addr} {od3 an3 : Option Addr} {sl3 : Array (Option Value)} {oc3 kV3 dc3 pm3 cd3 ct3 : Value}
    {f4 : Addr} {od4 an4 : Option Addr} {sl4 : Array (Option Value)} {oc4 kV4 dc4 pm4 cd4 ct4 : Value}
    {f5 : Addr} {od5 an5 : Option Addr} {sl5 : Array (Option Value)} {oc5 kV5 dc5 pm5 cd5 ct5 : Value}
    {f6 : Addr} {od6 an6 : Option Addr} {sl6 : Array (Option Value)} {oc6 kV6 dc6 pm6 cd6 ct6 : Value}
    {f7 : Addr} {od7 an7 : Option Addr} {sl7 : Array (Option Value)} {oc7 kV7 dc7 pm7 cd7 ct7 : Value}
    {f8 : Addr} {od8 an8 : Option Addr} {sl8 : Array (Option Value)} {oc8 kV8 dc8 pm8 cd8 ct8 : Value}
    {f9 : Addr} {od9 an9 : Option Addr} {sl9 : Array (Option Value)} {oc9 kV9 dc9 pm9 cd9 ct9 : Value}
    {f10 : Addr} {od10 an10 : Option Addr} {sl10 : Array (Option Value)} {oc10 kV10 dc10 pm10 cd10 ct10 : Value}
    {f11 : Addr} {od11 an11 : Option Addr} {sl11 : Array (Option Value)} {oc11 kV11 dc11 pm11 cd11 ct11 : Value}
    {f12 : Addr} {od12 an12 : Option Addr} {sl12 : Array (Option Value)} {oc12 kV12 dc12 pm12 cd12 ct12 : Value}
    {f13 : Addr} {od13 an13 : Option Addr} {sl13 : Array (Option Value)} {oc13 kV13 dc13 pm13 cd13 ct13 : Value}
    {f14 : Addr} {od14 an14 : Option Addr} {sl14 : Array (Option Value)} {oc14 kV14 dc14 pm14 cd14 ct14 : Value}
    {f15 : Addr} {od15 an15 : Option Addr} {sl15 : Array (Option Value)} {oc15 kV15 dc15 pm15 cd15 ct15 : Value}
    {f16 : Addr} {od16 an16 : Option Addr} {sl16 : Array (Option Value)} {oc16 kV16 dc16 pm16 cd16 ct16 : Value}
    {f17 : Addr} {od17 an17 : Option Addr} {sl17 : Array (Option Value)} {oc17 kV17 dc17 pm17 cd17 ct17 : Value}
    {f18 : Addr} {od18 an18 : Option Addr} {sl18 : Array (Option Value)} {oc18 kV18 dc18 pm18 cd18 ct18 : Value}
    {f19 : Addr} {od19 an19 : Option Addr} {sl19 : Array (Option Value)} {oc19 kV19 dc19 pm19 cd19 ct19 : Value}
    {f20 : Addr} {od20 an20 : Option Addr} {sl20 : Array (Option Value)} {oc20 kV20 dc20 pm20 cd20 ct20 : Value}
    (a0 : PySem.W.nsIn K mainGlobals "_law_cells" = some (some (.ref f0))) (l0 : K.lookup f0 = some ⟨oc0, od0, .func (PySem.W.fnOf "_law_cells" "_law_cells" (defArgs s__law_cells) (defBody s__law_cells) (defScope s__law_cells) .none kV0 dc0 pm0 an0 cd0 ct0), sl0⟩) (c0 : PySem.W.codeIn K cd0 "_law_cells" = true) (k0 : PySem.W.keepIn K (.ref f0) = true)
    (a1 : PySem.W.nsIn K mainGlobals "_law_take" = some (some (.ref f1))) (l1 : K.lookup f1 = some ⟨oc1, od1, .func (PySem.W.fnOf "_law_take" "_law_take" (defArgs s__law_take) (defBody s__law_take) (defScope s__law_take) .none kV1 dc1 pm1 an1 cd1 ct1), sl1⟩) (c1 : PySem.W.codeIn K cd1 "_law_take" = true) (k1 : PySem.W.keepIn K (.ref f1) = true)
    (a2 : PySem.W.nsIn K mainGlobals "_law_of" = some (some (.ref f2))) (l2 : K.lookup f2 = some ⟨oc2, od2, .func (PySem.W.fnOf "_law_of" "_law_of" (defArgs s__law_of) (defBody s__law_of) (defScope s__law_of) .none kV2 dc2 pm2 an2 cd2 ct2), sl2⟩) (c2 : PySem.W.codeIn K cd2 "_law_of" = true) (k2 : PySem.W.keepIn K (.ref f2) = true)
    (a3 : PySem.W.nsIn K mainGlobals "_law_grown" = some (some (.ref f3))) (l3 : K.lookup f3 = some ⟨oc3, od3, .func (PySem.W.fnOf "_law_grown" "_law_grown" (defArgs s__law_grown) (defBody s__law_grown) (defScope s__law_grown) .none kV3 dc3 pm3 an3 cd3 ct3), sl3⟩) (c3 : PySem.W.codeIn K cd3 "_law_grown" = true) (k3 : PySem.W.keepIn K (.ref f3) = true)
    (a4 : PySem.W.nsIn K mainGlobals "_law_by_hand" = some (some (.ref f4))) (l4 : K.lookup f4 = some ⟨oc4, od4, .func (PySem.W.fnOf "_law_by_hand" "_law_by_hand" (defArgs s__law_by_hand) (defBody s__law_by_hand) (defScope s__law_by_hand) .none kV4 dc4 pm4 an4 cd4 ct4), sl4⟩) (c4 : PySem.W.codeIn K cd4 "_law_by_hand" = true) (k4 : PySem.W.keepIn K (.ref f4) = true)
    (a5 : PySem.W.nsIn K mainGlobals "_law_lists" = some (some (.ref f5))) (l5 : K.lookup f5 = some ⟨oc5, od5, .func (PySem.W.fnOf "_law_lists" "_law_lists" (defArgs s__law_lists) (defBody s__law_lists) (defScope s__law_lists) .none kV5 dc5 pm5 an5 cd5 ct5), sl5⟩) (c5 : PySem.W.codeIn K cd5 "_law_lists" = true) (k5 : PySem.W.keepIn K (.ref f5) = true)
    (a6 : PySem.W.nsIn K mainGlobals "_law_wished" = some (some (.ref f6))) (l6 : K.lookup f6 = some ⟨oc6, od6, .func (PySem.W.fnOf "_law_wished" "_law_wished" (defArgs s__law_wished) (defBody s__law_wished) (defScope s__law_wished) .none kV6 dc6 pm6 an6 cd6 ct6), sl6⟩) (c6 : PySem.W.codeIn K cd6 "_law_wished" = true) (k6 : PySem.W.keepIn K (.ref f6) = true)
    (a7 : PySem.W.nsIn K mainGlobals "_law_planned" = some (some (.ref f7))) (l7 : K.lookup f7 = some ⟨oc7, od7, .func (PySem.W.fnOf "_law_planned" "_law_planned" (defArgs s__law_planned) (defBody s__law_planned) (defScope s__law_planned) .none kV7 dc7 pm7 an7 cd7 ct7), sl7⟩) (c7 : PySem.W.codeIn K cd7 "_law_planned" = true) (k7 : PySem.W.keepIn K (.ref f7) = true)
    (a8 : PySem.W.nsIn K mainGlobals "_law_bent" = some (some (.ref f8))) (l8 : K.lookup f8 = some ⟨oc8, od8, .func (PySem.W.fnOf "_law_bent" "_law_bent" (defArgs s__law_bent) (defBody s__law_bent) (defScope s__law_bent) .none kV8 dc8 pm8 an8 cd8 ct8), sl8⟩) (c8 : PySem.W.codeIn K cd8 "_law_bent" = true) (k8 : PySem.W.keepIn K (.ref f8) = true)
    (a9 : PySem.W.nsIn K mainGlobals "_law_is_word" = some (some (.ref f9))) (l9 : K.lookup f9 = some ⟨oc9, od9, .func (PySem.W.fnOf "_law_is_word" "_law_is_word" (defArgs s__law_is_word) (defBody s__law_is_word) (defScope s__law_is_word) .none kV9 dc9 pm9 an9 cd9 ct9), sl9⟩) (c9 : PySem.W.codeIn K cd9 "_law_is_word" = true) (k9 : PySem.W.keepIn K (.ref f9) = true)
    (a10 : PySem.W.nsIn K mainGlobals "_law_are_pairs" = some (some (.ref f10))) (l10 : K.lookup f10 = some ⟨oc10, od10, .func (PySem.W.fnOf "_law_are_pairs" "_law_are_pairs" (defArgs s__law_are_pairs) (defBody s__law_are_pairs) (defScope s__law_are_pairs) .none kV10 dc10 pm10 an10 cd10 ct10), sl10⟩) (c10 : PySem.W.codeIn K cd10 "_law_are_pairs" = true) (k10 : PySem.W.keepIn K (.ref f10) = true)
    (a11 : PySem.W.nsIn K mainGlobals "_law_due" = some (some (.ref f11))) (l11 : K.lookup f11 = some ⟨oc11, od11, .func (PySem.W.fnOf "_law_due" "_law_due" (defArgs s__law_due) (defBody s__law_due) (defScope s__law_due) .none kV11 dc11 pm11 an11 cd11 ct11), sl11⟩) (c11 : PySem.W.codeIn K cd11 "_law_due" = true) (k11 : PySem.W.keepIn K (.ref f11) = true)
    (a12 : PySem.W.nsIn K mainGlobals "is_name" = some (some (.ref f12))) (l12 : K.lookup f12 = some ⟨oc12, od12, .func (PySem.W.fnOf "is_name" "is_name" (defArgs s_is_name) (defBody s_is_name) (defScope s_is_name) .none kV12 dc12 pm12 an12 cd12 ct12), sl12⟩) (c12 : PySem.W.codeIn K cd12 "is_name" = true) (k12 : PySem.W.keepIn K (.ref f12) = true)
    (a13 : PySem.W.nsIn K mainGlobals "are_pairs" = some (some (.ref f13))) (l13 : K.lookup f13 = some ⟨oc13, od13, .func (PySem.W.fnOf "are_pairs" "are_pairs" (defArgs s_are_pairs) (defBody s_are_pairs) (defScope s_are_pairs) .none kV13 dc13 pm13 an13 cd13 ct13), sl13⟩) (c13 : PySem.W.codeIn K cd13 "are_pairs" = true) (k13 : PySem.W.keepIn K (.ref f13) = true)
    (a14 : PySem.W.nsIn K mainGlobals "_are_all_of" = some (some (.ref f14))) (l14 : K.lookup f14 = some ⟨oc14, od14, .func (PySem.W.fnOf "_are_all_of" "_are_all_of" (defArgs s__are_all_of) (defBody s__are_all_of) (defScope s__are_all_of) .none kV14 dc14 pm14 an14 cd14 ct14), sl14⟩) (c14 : PySem.W.codeIn K cd14 "_are_all_of" = true) (k14 : PySem.W.keepIn K (.ref f14) = true)
    (a15 : PySem.W.nsIn K mainGlobals "are_wants" = some (some (.ref f15))) (l15 : K.lookup f15 = some ⟨oc15, od15, .func (PySem.W.fnOf "are_wants" "are_wants" (defArgs s_are_wants) (defBody s_are_wants) (defScope s_are_wants) .none kV15 dc15 pm15 an15 cd15 ct15), sl15⟩) (c15 : PySem.W.codeIn K cd15 "are_wants" = true) (k15 : PySem.W.keepIn K (.ref f15) = true)
    (a16 : PySem.W.nsIn K mainGlobals "is_plan" = some (some (.ref f16))) (l16 : K.lookup f16 = some ⟨oc16, od16, .func (PySem.W.fnOf "is_plan" "is_plan" (defArgs s_is_plan) (defBody s_is_plan) (defScope s_is_plan) .none kV16 dc16 pm16 an16 cd16 ct16), sl16⟩) (c16 : PySem.W.codeIn K cd16 "is_plan" = true) (k16 : PySem.W.keepIn K (.ref f16) = true)
    (a17 : PySem.W.nsIn K mainGlobals "_law_same" = some (some (.ref f17))) (l17 : K.lookup f17 = some ⟨oc17, od17, .func (PySem.W.fnOf "_law_same" "_law_same" (defArgs s__law_same) (defBody s__law_same) (defScope s__law_same) .none kV17 dc17 pm17 an17 cd17 ct17), sl17⟩) (c17 : PySem.W.codeIn K cd17 "_law_same" = true) (k17 : PySem.W.keepIn K (.ref f17) = true)
    (a18 : PySem.W.nsIn K mainGlobals "_law_right" = some (some (.ref f18))) (l18 : K.lookup f18 = some ⟨oc18, od18, .func (PySem.W.fnOf "_law_right" "_law_right" (defArgs s__law_right) (defBody s__law_right) (defScope s__law_right) .none kV18 dc18 pm18 an18 cd18 ct18), sl18⟩) (c18 : PySem.W.codeIn K cd18 "_law_right" = true) (k18 : PySem.W.keepIn K (.ref f18) = true)
    (a19 : PySem.W.nsIn K mainGlobals "_law_box" = some (some (.ref f19))) (l19 : K.lookup f19 = some ⟨oc19, od19, .func (PySem.W.fnOf "_law_box" "_law_box" (defArgs s__law_box) (defBody s__law_box) (defScope s__law_box) .none kV19 dc19 pm19 an19 cd19 ct19), sl19⟩) (c19 : PySem.W.codeIn K cd19 "_law_box" = true) (k19 : PySem.W.keepIn K (.ref f19) = true)
    (a20 : PySem.W.nsIn K mainGlobals "law" = some (some (.ref f20))) (l20 : K.lookup f20 = some ⟨oc20, od20, .func (PySem.W.fnOf "law" "law" (defArgs s_law) (defBody s_law) (defScope s_law) .none kV20 dc20 pm20 an20 cd20 ct20), sl20⟩) (c20 : PySem.W.codeIn K cd20 "law" = true) (k20 : PySem.W.keepIn K (.ref f20) = true)
    (z_list : PySem.W.nsIn K mainGlobals "list" = some none)
    (z_enumerate : PySem.W.nsIn K mainGlobals "enumerate" = some none)
    (z_int : PySem.W.nsIn K mainGlobals "int" = some none)
    (z_len : PySem.W.nsIn K mainGlobals "len" = some none)
    (z_range : PySem.W.nsIn K mainGlobals "range" = some none)
    (z_tuple : PySem.W.nsIn K mainGlobals "tuple" = some none)
    (z_sorted : PySem.W.nsIn K mainGlobals "sorted" = some none)
    (z_isinstance : PySem.W.nsIn K mainGlobals "isinstance" = some none)
    (z_str : PySem.W.nsIn K mainGlobals "str" = some none)
    (z_all : PySem.W.nsIn K mainGlobals "all" = some none)
    (z_set : PySem.W.nsIn K mainGlobals "set" = some none)
    (z_zip : PySem.W.nsIn K mainGlobals "zip" = some none)
    (z_bool : PySem.W.nsIn K mainGlobals "bool" = some none)
    (z_repr : PySem.W.nsIn K mainGlobals "repr" = some none)
    (z_abs : PySem.W.nsIn K mainGlobals "abs" = some none)
    {t_LONGEST_NAME : Tok} (z_LONGEST_NAME : PySem.W.nsIn K mainGlobals "LONGEST_NAME" = some (some (.int 8 t_LONGEST_NAME)))
    : ∃ fd : FuncData, (∀ (s : Shared) (v : Value), BindsTo s fd ⟨[v], []⟩ [("_law_script", v)]) ∧ ∀ base : Heap, K.In base → base.Ns mainGlobals mg → FnG l.prog w K mg base 24 fa fd ["_law_script"] (spOf K fs_law) := by
  have e := hfa.symm.trans (PySem.W.mg_of X G a20)
  cases e
  have F0 := fun_mk (st := s__law_cells) l0 c0 k0
  have F1 := fun_mk (st := s__law_take) l1 c1 k1
  have F2 := fun_mk (st := s__law_of) l2 c2 k2
  have F3 := fun_mk (st := s__law_grown) l3 c3 k3
  have F4 := fun_mk (st := s__law_by_hand) l4 c4 k4
  have F5 := fun_mk (st := s__law_lists) l5 c5 k5
  have F6 := fun_mk (st := s__law_wished) l6 c6 k6
  have F7 := fun_mk (st := s__law_planned) l7 c7 k7
  have F8 := fun_mk (st := s__law_bent) l8 c8 k8
  have F9 := fun_mk (st := s__law_is_word) l9 c9 k9
  have F10 := fun_mk (st := s__law_are_pairs) l10 c10 k10
  have F11 := fun_mk (st := s__law_due) l11 c11 k11
  have F12 := fun_mk (st := s_is_name) l12 c12 k12
  have F13 := fun_mk (st := s_are_pairs) l13 c13 k13
  have F14 := fun_mk (st := s__are_all_of) l14 c14 k14
  have F15 := fun_mk (st := s_are_wants) l15 c15 k15
  have F16 := fun_mk (st := s_is_plan) l16 c16 k16
  have F17 := fun_mk (st := s__law_same) l17 c17 k17
  have F18 := fun_mk (st := s__law_right) l18 c18 k18
  have F19 := fun_mk (st := s__law_box) l19 c19 k19
  have F20 := fun_mk (st := s_law) l20 c20 k20
  have b0 := F0.binds (ps := ["_law_script", "_law_most"]) fun _ _ _ _ _ _ us hl => match us, hl with | [_, _], _ => rfl
  have b1 := F1.binds (ps := ["_law_box_here", "_law_below"]) fun _ _ _ _ _ _ us hl => match us, hl with | [_, _], _ => rfl
  have b2 := F2.binds (ps := ["_law_box_here", "_law_some"]) fun _ _ _ _ _ _ us hl => match us, hl with | [_, _], _ => rfl
  have b3 := F3.binds (ps := ["_law_box_here", "_law_many", "_law_locked"]) fun _ _ _ _ _ _ us hl => match us, hl with | [_, _, _], _ => rfl
  have b4 := F4.binds (ps := ["_law_tree_so"]) fun _ _ _ _ _ _ us hl => match us, hl with | [_], _ => rfl
  have b5 := F5.binds (ps := ["_law_matter"]) fun _ _ _ _ _ _ us hl => match us, hl with | [_], _ => rfl
  have b6 := F6.binds (ps := ["_law_box_here", "_law_tree_so", "_law_many", "_law_values"]) fun _ _ _ _ _ _ us hl => match us, hl with | [_, _, _, _], _ => rfl
  have b7 := F7.binds (ps := ["_law_box_here", "_law_tree_so", "_law_values"]) fun _ _ _ _ _ _ us hl => match us, hl with | [_, _, _], _ => rfl
  have b8 := F8.binds (ps := ["_law_box_here", "_law_part", "_law_more"]) fun _ _ _ _ _ _ us hl => match us, hl with | [_, _, _], _ => rfl
  have b9 := F9.binds (ps := ["_law_matter"]) fun _ _ _ _ _ _ us hl => match us, hl with | [_], _ => rfl
  have b10 := F10.binds (ps := ["_law_matter", "_law_names"]) fun _ _ _ _ _ _ us hl => match us, hl with | [_, _], _ => rfl
  have b11 := F11.binds (ps := ["_law_tree_so", "_law_matter"]) fun _ _ _ _ _ _ us hl => match us, hl with | [_, _], _ => rfl
  have b12 := F12.binds (ps := ["thing"]) fun _ _ _ _ _ _ us hl => match us, hl with | [_], _ => rfl
  have b13 := F13.binds (ps := ["thing"]) fun _ _ _ _ _ _ us hl => match us, hl with | [_], _ => rfl
  have b14 := F14.binds (ps := ["folders", "pairs"]) fun _ _ _ _ _ _ us hl => match us, hl with | [_, _], _ => rfl
  have b15 := F15.binds (ps := ["tree", "thing"]) fun _ _ _ _ _ _ us hl => match us, hl with | [_, _], _ => rfl
  have b16 := F16.binds (ps := ["tree", "thing"]) fun _ _ _ _ _ _ us hl => match us, hl with | [_, _], _ => rfl
  have b17 := F17.binds (ps := ["_law_found", "_law_due_here"]) fun _ _ _ _ _ _ us hl => match us, hl with | [_, _], _ => rfl
  have b18 := F18.binds (ps := ["_law_box_here"]) fun _ _ _ _ _ _ us hl => match us, hl with | [_], _ => rfl
  have b19 := F19.binds (ps := ["_law_script", "_law_k"]) fun _ _ _ _ _ _ us hl => match us, hl with | [_, _], _ => rfl
  have b20 := F20.binds (ps := ["_law_script"]) fun _ _ _ _ _ _ us hl => match us, hl with | [_], _ => rfl
  let E : Ev K mg := {
    a__law_cells := f0, d__law_cells := _, F__law_cells := F0, g__law_cells := PySem.W.mg_of X G a0, b__law_cells := b0,
    a__law_take := f1, d__law_take := _, F__law_take := F1, g__law_take := PySem.W.mg_of X G a1, b__law_take := b1,
    a__law_of := f2, d__law_of := _, F__law_of := F2, g__law_of := PySem.W.mg_of X G a2, b__law_of := b2,
    a__law_grown := f3, d__law_grown := _, F__law_grown := F3, g__law_grown := PySem.W.mg_of X G a3, b__law_grown := b3,
    a__law_by_hand := f4, d__law_by_hand := _, F__law_by_hand := F4, g__law_by_hand := PySem.W.mg_of X G a4, b__law_by_hand := b4,
    a__law_lists := f5, d__law_lists := _, F__law_lists := F5, g__law_lists := PySem.W.mg_of X G a5, b__law_lists := b5,
    a__law_wished := f6, d__law_wished := _, F__law_wished := F6, g__law_wished := PySem.W.mg_of X G a6, b__law_wished := b6,
    a__law_planned := f7, d__law_planned := _, F__law_planned := F7, g__law_planned := PySem.W.mg_of X G a7, b__law_planned := b7,
    a__law_bent := f8, d__law_bent := _, F__law_bent := F8, g__law_bent := PySem.W.mg_of X G a8, b__law_bent := b8,
    a__law_is_word := f9, d__law_is_word := _, F__law_is_word := F9, g__law_is_word := PySem.W.mg_of X G a9, b__law_is_word := b9,
    a__law_are_pairs := f10, d__law_are_pairs := _, F__law_are_pairs := F10, g__law_are_pairs := PySem.W.mg_of X G a10, b__law_are_pairs := b10,
    a__law_due := f11, d__law_due := _, F__law_due := F11, g__law_due := PySem.W.mg_of X G a11, b__law_due := b11,
    a_is_name := f12, d_is_name := _, F_is_name := F12, g_is_name := PySem.W.mg_of X G a12, b_is_name := b12,
    a_are_pairs := f13, d_are_pairs := _, F_are_pairs := F13, g_are_pairs := PySem.W.mg_of X G a13, b_are_pairs := b13,
    a__are_all_of := f14, d__are_all_of := _, F__are_all_of := F14, g__are_all_of := PySem.W.mg_of X G a14, b__are_all_of := b14,
    a_are_wants := f15, d_are_wants := _, F_are_wants := F15, g_are_wants := PySem.W.mg_of X G a15, b_are_wants := b15,
    a_is_plan := f16, d_is_plan := _, F_is_plan := F16, g_is_plan := PySem.W.mg_of X G a16, b_is_plan := b16,
    a__law_same := f17, d__law_same := _, F__law_same := F17, g__law_same := PySem.W.mg_of X G a17, b__law_same := b17,
    a__law_right := f18, d__law_right := _, F__law_right := F18, g__law_right := PySem.W.mg_of X G a18, b__law_right := b18,
    a__law_box := f19, d__law_box := _, F__law_box := F19, g__law_box := PySem.W.mg_of X G a19, b__law_box := b19,
    a_law := fa, d_law := _, F_law := F20, g_law := PySem.W.mg_of X G a20, b_law := b20,
    z_list := PySem.W.mg_none_of X G z_list,
    z_enumerate := PySem.W.mg_none_of X G z_enumerate,
    z_int := PySem.W.mg_none_of X G z_int,
    z_len := PySem.W.mg_none_of X G z_len,
    z_range := PySem.W.mg_none_of X G z_range,
    z_tuple := PySem.W.mg_none_of X G z_tuple,
    z_sorted := PySem.W.mg_none_of X G z_sorted,
    z_isinstance := PySem.W.mg_none_of X G z_isinstance,
    z_str := PySem.W.mg_none_of X G z_str,
    z_all := PySem.W.mg_none_of X G z_all,
    z_set := PySem.W.mg_none_of X G z_set,
    z_zip := PySem.W.mg_none_of X G z_zip,
    z_bool := PySem.W.mg_none_of X G z_bool,
    z_repr := PySem.W.mg_none_of X G z_repr,
    z_abs := PySem.W.mg_none_of X G z_abs,
    c_LONGEST_NAME := ⟨_, PySem.W.mg_of X G z_LONGEST_NAME⟩ }
  exact ⟨PySem.W.fnOf "law" "law" (defArgs s_law) (defBody s_law) (defScope s_law) .none kV20 dc20 pm20 an20 cd20 ct20, fun s v => .of_eq rfl, fun base _ _ => ok_law E⟩
end L11

namespace L11
open PySem PySem.Spec L2 Sh
theorem law_true {K : PySem.W.Frag} {H : Hp} {a : Addr} {ns : List Int} (hl : ns.length ≤ 63) (hS : SqL K H a (ns.map V.int)) : spOf K fs_law [.ref a] H (fun v _ => v = .bl true) (fun _ _ _ => False) := by
  obtain ⟨as', e⟩ := pure_law ns hl
  refine ⟨[.fz (.list (ns.map .int))], H, _, as', ⟨rfl, fun i s v h1 h2 => ?_, fun i j s s' p h1 h2 m1 m2 h3 h4 => ?_, Same.refl _⟩, e, fun v G' H' _ _ q => ?_⟩
  · cases i with
    | zero =>
      cases h1
      cases h2
      exact ⟨_, rfl, .lst hS (dpa_ints ns)⟩
    | succ i => simp at h1
  · cases i with
    | zero => cases h1; cases m1
    | succ i => simp at h1
  · have q : Sh.Dp K G' v (.bool true) := q
    cases q
    rfl
end L11

open PySem PySem.W PyProof.Rows
set_option maxHeartbeats 0 in
theorem PySem.Challenge.cw_handeddown_k11_wants_and_plans_or_none_holds : PySem.Challenge.rw_handeddown_k11_wants_and_plans_or_none.Holds := by
  w_on; o_law; k_head; (case hw => w_witness2)
  k_fill
  refine Sh.walk_g (l := PySem.Challenge.rw_handeddown_k11_wants_and_plans_or_none) (n := 63) (k := 24) (x := "_law_script") (sp := fun w => Sh.spOf _ L11.fs_law) rfl (by decide) rfl ⟨rfl, by decide, by decide⟩ (fun w h Y => PySem.W.kIn_of Y) ?F (fun _ H a ns hl hO hS => L11.law_true hl hS)
  case F =>
    intro w mg fa h KX G hmg
    refine' L11.all_mk KX G hmg ?a0 ?l0 ?c0 ?k0 ?a1 ?l1 ?c1 ?k1 ?a2 ?l2 ?c2 ?k2 ?a3 ?l3 ?c3 ?k3 ?a4 ?l4 ?c4 ?k4 ?a5 ?l5 ?c5 ?k5 ?a6 ?l6 ?c6 ?k6 ?a7 ?l7 ?c7 ?k7 ?a8 ?l8 ?c8 ?k8 ?a9 ?l9 ?c9 ?k9 ?a10 ?l10 ?c10 ?k10 ?a11 ?l11 ?c11 ?k11 ?a12 ?l12 ?c12 ?k12 ?a13 ?l13 ?c13 ?k13 ?a14 ?l14 ?c14 ?k14 ?a15 ?l15 ?c15 ?k15 ?a16 ?l16 ?c16 ?k16 ?a17 ?l17 ?c17 ?k17 ?a18 ?l18 ?c18 ?k18 ?a19 ?l19 ?c19 ?k19 ?a20 ?l20 ?c20 ?k20 ?z_list ?z_enumerate ?z_int ?z_len ?z_range ?z_tuple ?z_sorted ?z_isinstance ?z_str ?z_all ?z_set ?z_zip ?z_bool ?z_repr ?z_abs ?z_LONGEST_NAME
    (case a0 => k_is); (case l0 => k_is); (case c0 => k_is); (case k0 => k_is); (case a1 => k_is); (case l1 => k_is); (case c1 => k_is); (case k1 => k_is); (case a2 => k_is); (case l2 => k_is); (case c2 => k_is); (case k2 => k_is); (case a3 => k_is); (case l3 => k_is); (case c3 => k_is); (case k3 => k_is); (case a4 => k_is); (case l4 => k_is); (case c4 => k_is); (case k4 => k_is); (case a5 => k_is); (case l5 => k_is); (case c5 => k_is); (case k5 => k_is); (case a6 => k_is); (case l6 => k_is); (case c6 => k_is); (case k6 => k_is); (case a7 => k_is); (case l7 => k_is); (case c7 => k_is); (case k7 => k_is); (case a8 => k_is); (case l8 => k_is); (case c8 => k_is); (case k8 => k_is); (case a9 => k_is); (case l9 => k_is); (case c9 => k_is); (case k9 => k_is); (case a10 => k_is); (case l10 => k_is); (case c10 => k_is); (case k10 => k_is); (case a11 => k_is); (case l11 => k_is); (case c11 => k_is); (case k11 => k_is); (case a12 => k_is); (case l12 => k_is); (case c12 => k_is); (case k12 => k_is); (case a13 => k_is); (case l13 => k_is); (case c13 => k_is); (case k13 => k_is); (case a14 => k_is); (case l14 => k_is); (case c14 => k_is); (case k14 => k_is); (case a15 => k_is); (case l15 => k_is); (case c15 => k_is); (case k15 => k_is); (case a16 => k_is); (case l16 => k_is); (case c16 => k_is); (case k16 => k_is); (case a17 => k_is); (case l17 => k_is); (case c17 => k_is); (case k17 => k_is); (case a18 => k_is); (case l18 => k_is); (case c18 => k_is); (case k18 => k_is); (case a19 => k_is); (case l19 => k_is); (case c19 => k_is); (case k19 => k_is); (case a20 => k_is); (case l20 => k_is); (case c20 => k_is); (case k20 => k_is); (case z_list => k_is); (case z_enumerate => k_is); (case z_int => k_is); (case z_len => k_is); (case z_range => k_is); (case z_tuple => k_is); (case z_sorted => k_is); (case z_isinstance => k_is); (case z_str => k_is); (case z_all => k_is); (case z_set => k_is); (case z_zip => k_is); (case z_bool => k_is); (case z_repr => k_is); (case z_abs => k_is); (case z_LONGEST_NAME => k_is)


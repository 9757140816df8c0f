import PyProof.Rows.All
import Wide.All
import OpenK.AllK
import Wide.FinOn
import HandS.ForMost
import HandS.IsInst
import HandS.TupAny
import HandS.RevRange
import HandS.Walk
import HandS.Zip
import HandS.SortInts
import KE.GoesNew
import KE.DataEq
import HandS.Style
import PyProof.Rows.IntBool
import HandS.Deep
import KE.DataMinKey
import HandS.SortKw
import HandS.SortOrd
import HandS.Conv
import HandS.DictTup
import HandS.TupSets
import KE.KDictDisplayH
import HandS.SetFor
import HandS.Codes
import HandS.Wide
import HandS.TupLen
import HandS.Iter
import PySem.Challenge.RW_pushshelf_k08_whole_fewest_of_all_rows
set_option Elab.async false
set_option linter.all false
set_option maxRecDepth 100000
set_option maxHeartbeats 8000000
namespace PS
open PySem PySem.Spec PyProof.Rows L2

/-! ### lists and tuples at once -/
def SqK (b : Bool) (K : PySem.W.Frag) (H : Hp) (a : Addr) (xs : List V) : Prop := match b with
  | true => SqL K H a xs
  | false => SqT K H a xs
def IsK (b : Bool) (h : Heap) (a : Addr) (its : Array Value) : Prop := match b with
  | true => h.IsList a its
  | false => h.IsTuple a its
def ItK (b : Bool) (h : Heap) (it a : Addr) (i : Nat) : Prop := match b with
  | true => h.IsListIter it a i
  | false => h.IsTupleIter it a i
def itO (b : Bool) (a : Addr) : Obj := match b with
  | true => { cls := .type "list_iterator", data := .fields #[.ref a, .int 0 0] }
  | false => { cls := .type "tuple_iterator", data := .fields #[.ref a, .int 0 0] }
theorem beginsK (b : Bool) (a : Addr) (its : Array Value) : Begins (.ref a) (itO b a) (fun h => IsK b h a its) := by
  cases b
  · exact begins_tuple a its
  · exact begins_list a its
theorem drawsK {prog : Program} {w : World} {A : Around} (b : Bool) (hh : A.handled = none) (it a : Addr) (hne : a ≠ it) (its : Array Value) :
    Draws prog w A it [it, a] its.size (fun i v => its[i]? = some v) (fun i h => ItK b h it a i ∧ IsK b h a its) := by
  cases b
  · exact Draws.tuple hh it a hne its
  · exact Draws.list hh it a hne its
theorem seqK {X : Cx} {pins : List (Addr × Obj)} {σ : L2.St} {H : Hp} {s : Shared} {b : Bool} {a : Addr} {xs : List V} (I : Inv X pins σ H s) (h : SqK b X.K H a xs) :
    ∃ its : List Value, Vals xs its ∧ IsK b s.heap a its.toArray ∧ a < s.heap.objs.size := by
  cases b
  · obtain ⟨its, r, p, _⟩ := I.tuple h
    exact ⟨its, r, p, p.lt⟩
  · obtain ⟨its, r, p, _⟩ := I.list h
    exact ⟨its, r, p.isList, p.lt⟩
theorem seqK_inj {X : Cx} {pins : List (Addr × Obj)} {σ : L2.St} {H : Hp} {s : Shared} {b : Bool} {a : Addr} {xs ys : List V} (I : Inv X pins σ H s) (h : SqK b X.K H a xs) (h' : SqK b X.K H a ys) : xs = ys := by
  cases b
  · exact I.tuple_inj h h'
  · exact I.list_inj h h'
theorem itK_obj {b : Bool} {h : Heap} {it a : Addr} {i : Nat} (x : ItK b h it a i) : ∃ o, h.get? it = some o ∧ ∀ v, o.data ≠ .cell v := by
  cases b
  · obtain ⟨o, e, _, d⟩ := x
    exact ⟨o, e, fun v q => by rw [d] at q; cases q⟩
  · obtain ⟨o, e, _, d⟩ := x
    exact ⟨o, e, fun v q => by rw [d] at q; cases q⟩
theorem itK_keep {b : Bool} {h h' : Heap} {it a : Addr} {i : Nat} (x : ItK b h it a i) (k : ∀ o, h.get? it = some o → h'.get? it = some o) : ItK b h' it a i := by
  cases b
  · obtain ⟨o, e, r⟩ := x
    exact ⟨o, k o e, r⟩
  · obtain ⟨o, e, r⟩ := x
    exact ⟨o, k o e, r⟩
theorem itK_new {b : Bool} {h : Heap} {it a : Addr} (e : h.get? it = some (itO b a)) : ItK b h it a 0 := by
  cases b
  · exact ⟨_, e, rfl, rfl⟩
  · exact ⟨_, e, rfl, rfl⟩

/-! ### one turn, by the library's walk of tuples -/
theorem item_of {X : Cx} {elts : List Expr} {kk : Nat} {tp : Pos} {it : Addr} {fp0 fp wr : List Addr} {n i : Nat} {Pt : Nat → Array Value → Prop} {S0 : Nat → Heap → Prop} {Mid : Nat → Addr → Heap → Prop}
    {pins : List (Addr × Obj)} {σ : L2.St} {H : Hp} {s : Shared} {E : Value → Shared → Prop} (G : WalksT X.prog X.w X.A it fp0 wr n Pt S0 Mid) (hw : ∀ b ∈ wr, b ∈ fp) (I : Inv X pins σ H s) (hf : ∀ b ∈ fp, FpOk X pins H b) (hi : i < n) (st : S0 i s.heap)
    (lt : ∀ b ∈ fp, b < s.heap.objs.size) {J : It} {tn : Nat → Heap → Prop} {xs : List V} (hP : ∀ vals, Pt i vals → Vals xs vals.toList) (hx : xs.length ≤ sizeLine)
    (hJ : ∀ T, H T = none → J.yld i H (.ref T) (upd H T (.tup xs))) (ht : ∀ h', S0 (i + 1) h' → tn (i + 1) h') :
    wpAny (model X.prog X.w) X.A (pyNext (.ref it)) (fun r s1 => ∃ u, r = some u ∧
      wpAny (model X.prog X.w) X.A (letOwnedTupleGo (.Tuple elts kk tp) (.ref it) u) (fun _ s2 => ∃ x H', Inv X pins σ H' s2 ∧ RelV x u ∧ J.yld i H x H' ∧ tn (i + 1) s2.heap ∧ ∀ b ∈ fp, H' b = none) E s1) E s := by
  refine (GoesN.ofWalksT (elts := elts) (k := kk) (pos := tp) G).goes i s _ E hi st fun v h' tk hY st' hk _ => ?_
  obtain ⟨T, vals, rfl, hT, hv, tup⟩ := hY
  have fT : H T = none := I.hok.fresh hT
  have hxs := hP vals hv
  have new : ObjOk X.prog X.w (upd H T (.tup xs)) h' T (.tup xs) := ⟨hx, vals.toList, hxs, by
    rw [show vals.toList.toArray = vals from by simp]
    exact tup⟩
  have I1 := I.turnedNew (t' := tk) (ch := fp) (fun b o hb q => hk b o (fun z => hb (hw b z)) q) hf hT new
  refine ⟨.ref T, upd H T (.tup xs), I1, rfl, hJ T fT, ht h' st', fun b hb => ?_⟩
  rw [upd_ne (Nat.ne_of_lt (Nat.lt_of_lt_of_le (lt b hb) hT))]
  exact (hf b hb).1
theorem done_of {X : Cx} {it : Addr} {fp0 fp wr : List Addr} {n : Nat} {Pt : Nat → Array Value → Prop} {S0 : Nat → Heap → Prop} {Mid : Nat → Addr → Heap → Prop}
    {pins : List (Addr × Obj)} {σ : L2.St} {H : Hp} {s : Shared} {E : Value → Shared → Prop} (G : WalksT X.prog X.w X.A it fp0 wr n Pt S0 Mid) (hw : ∀ b ∈ wr, b ∈ fp) (I : Inv X pins σ H s) (hf : ∀ b ∈ fp, FpOk X pins H b) (st : S0 n s.heap) :
    wpAny (model X.prog X.w) X.A (pyNext (.ref it)) (fun r s1 => r = none ∧ Inv X pins σ H s1) E s :=
  (GoesN.ofWalksT (elts := []) (k := 0) (pos := ⟨0, 0, 0, 0⟩) G).stops s (fun s1 => Inv X pins σ H s1) E st fun h' tk hk _ => I.turnedL (ch := fp) (fun b o hb q => hk b o (fun z => hb (hw b z)) q) hf

/-! ### zip of two, of three; enumerate: each of lists or tuples -/
def It2 (b1 b2 : Bool) (K : PySem.W.Frag) (a1 a2 : Addr) : It where
  go := fun i H => ∃ (xs ys : List V) (x y : V), SqK b1 K H a1 xs ∧ SqK b2 K H a2 ys ∧ xs[i]? = some x ∧ ys[i]? = some y
  yld := fun i H v H' => ∃ T x y, v = .ref T ∧ H T = none ∧ H' = upd H T (.tup [x, y]) ∧ (∀ xs, SqK b1 K H a1 xs → xs[i]? = some x) ∧ ∀ ys, SqK b2 K H a2 ys → ys[i]? = some y
  stop := fun i H => ∃ xs ys : List V, SqK b1 K H a1 xs ∧ SqK b2 K H a2 ys ∧ i = min xs.length ys.length
theorem mem5 {c z t o i j : Addr} (h : c ∈ [z, t, o, i, j]) : c = z ∨ c = t ∨ c = o ∨ c = i ∨ c = j := by simpa using h
theorem mem6 {c z t o i j k : Addr} (h : c ∈ [z, t, o, i, j, k]) : c = z ∨ c = t ∨ c = o ∨ c = i ∨ c = j ∨ c = k := by simpa using h
abbrev T2 (b1 b2 : Bool) (a1 a2 N : Addr) (i : Nat) (h : Heap) : Prop := IsZip h (N + 4) (N + 2) (N + 3) .none ∧ IsTupOf2 h (N + 2) (.ref N) (.ref (N + 1)) ∧ (∃ u v, IsTupOf2 h (N + 3) u v) ∧ ItK b1 h N a1 i ∧ ItK b2 h (N + 1) a2 i
theorem turn_2 {P : Program} {w : World} {K : PySem.W.Frag} {elts : List Expr} {kk : Nat} {tp : Pos} {b1 b2 : Bool} {a1 a2 N : Addr} (l1 : a1 < N) (l2 : a2 < N) :
    Turn P w K (.Tuple elts kk tp) (It2 b1 b2 K a1 a2) [N + 4, N + 2, N + 3, N, N + 1] (N + 4) (T2 b1 b2 a1 a2 N) where
  mem := by simp
  obj := fun i h st c hc => by
    obtain ⟨z1, z2, ⟨u, v, z3⟩, z4, z5⟩ := st
    rcases mem5 hc with q | q | q | q | q <;> rw [q]
    · exact ⟨_, z1, fun v q => nomatch q⟩
    · exact ⟨_, z2, fun v q => nomatch q⟩
    · exact ⟨_, z3, fun v q => nomatch q⟩
    · exact itK_obj z4
    · exact itK_obj z5
  keep := fun i h h' st k => by
    obtain ⟨z1, z2, ⟨u, v, z3⟩, z4, z5⟩ := st
    exact ⟨k _ (by simp) _ z1, k _ (by simp) _ z2, ⟨u, v, k _ (by simp) _ z3⟩, itK_keep z4 fun o e => k _ (by simp) o e, itK_keep z5 fun o e => k _ (by simp) o e⟩
  item := by
    intro X hP hw hK hc i pins s σ H E I hf st hg
    subst hP hw hK
    obtain ⟨xs, ys, x, y, q1, q2, e1, e2⟩ := hg
    obtain ⟨us, r1, p1, m1⟩ := seqK I q1
    obtain ⟨ws, r2, p2, m2⟩ := seqK I q2
    obtain ⟨u, g1, v1⟩ := r1.get e1
    obtain ⟨v, g2, v2⟩ := r2.get e2
    obtain ⟨z1, z2, z3, z4, z5⟩ := st
    have D1 := drawsK (prog := X.prog) (w := X.w) (A := X.A.in1) b1 (I.ok.hd hc) N a1 (Nat.ne_of_lt l1) us.toArray
    have D2 := drawsK (prog := X.prog) (w := X.w) (A := X.A.in1) b2 (I.ok.hd hc) (N + 1) a2 (Nat.ne_of_lt (Nat.lt_succ_of_lt l2)) ws.toArray
    have S := zip_sep2 (N := N) (fp1 := [a1]) (fp2 := [a2]) (by simpa using l1) (by simpa using l2)
    have n1 : i < us.length := (List.getElem?_eq_some_iff.mp g1).1
    have n2 : i < ws.length := (List.getElem?_eq_some_iff.mp g2).1
    have lt : ∀ c ∈ [N + 4, N + 2, N + 3, N, N + 1], c < s.heap.objs.size := fun c hc' => by
      obtain ⟨u', v', z3⟩ := z3
      rcases mem5 hc' with q | q | q | q | q <;> rw [q]
      · exact Heap.lt_size z1
      · exact Heap.lt_size z2
      · exact Heap.lt_size z3
      · obtain ⟨o, e, _⟩ := itK_obj z4; exact Heap.lt_size e
      · obtain ⟨o, e, _⟩ := itK_obj z5; exact Heap.lt_size e
    refine item_of (xs := [x, y]) (WalksT.zipD2 S D1 D2) (by simp) I hf (by simp; omega) ⟨z1, z2, z3, ⟨z4, p1⟩, ⟨z5, p2⟩⟩ lt (fun vals hv => ?_) (by show 2 ≤ sizeLine; decide) (fun T fT => ?_) (fun h' t => ?_)
    · obtain ⟨x', y', h1, h2, rfl⟩ := hv
      simp only [List.getElem?_toArray] at h1 h2
      rw [g1] at h1; rw [g2] at h2
      cases h1; cases h2
      exact .cons v1 (.cons v2 .nil)
    · exact ⟨T, x, y, rfl, fT, rfl, fun l hl => by rw [seqK_inj I hl q1]; exact e1, fun l hl => by rw [seqK_inj I hl q2]; exact e2⟩
    · exact ⟨t.1, t.2.1, t.2.2.1, t.2.2.2.1.1, t.2.2.2.2.1⟩
  done := by
    intro X hP hw hK hc i pins s σ H E I hf st hg
    subst hP hw hK
    obtain ⟨xs, ys, q1, q2, e⟩ := hg
    obtain ⟨us, r1, p1, m1⟩ := seqK I q1
    obtain ⟨ws, r2, p2, m2⟩ := seqK I q2
    obtain ⟨z1, z2, z3, z4, z5⟩ := st
    have D1 := drawsK (prog := X.prog) (w := X.w) (A := X.A.in1) b1 (I.ok.hd hc) N a1 (Nat.ne_of_lt l1) us.toArray
    have D2 := drawsK (prog := X.prog) (w := X.w) (A := X.A.in1) b2 (I.ok.hd hc) (N + 1) a2 (Nat.ne_of_lt (Nat.lt_succ_of_lt l2)) ws.toArray
    have S := zip_sep2 (N := N) (fp1 := [a1]) (fp2 := [a2]) (by simpa using l1) (by simpa using l2)
    have en : i = min us.toArray.size ws.toArray.size := by
      have := r1.length
      have := r2.length
      simp only [List.size_toArray]
      omega
    subst en
    exact done_of (WalksT.zipD2 S D1 D2) (by simp) I hf ⟨z1, z2, z3, ⟨z4, p1⟩, ⟨z5, p2⟩⟩
  self := fun A i s Q E st h => wpAny_pyIter_zip st.1 h

/-- what zip(e, e2) asks: the kinds of both -/
def iZip2 (b1 b2 : Bool) (K : PySem.W.Frag) (ta : TA) : TI := fun σ H R => ta σ H fun vs H1 => ∃ a1 a2 xs ys, vs = [.ref a1, .ref a2] ∧ SqK b1 K H1 a1 xs ∧ SqK b2 K H1 a2 ys ∧ R (It2 b1 b2 K a1 a2) H1
theorem fpNew {X : Cx} {pins : List (Addr × Obj)} {σ : L2.St} {H : Hp} {s : Shared} {c : Addr} (I : Inv X pins σ H s) (h : s.heap.objs.size ≤ c) : FpOk X pins H c := I.fpOk h (I.hok.fresh h)
theorem pi_zip2 {X : Cx} {e e2 : Expr} {ta : TA} {p pos tpos : Pos} {elts : List Expr} {kk : Nat} (b1 b2 : Bool) (hg : Gl X "zip") (hm : X.mg "zip" = none) (ha : PA X [e, e2] ta)
    (hs : starEach [e, e2] X.env = (false, eval e X.env) :: starEach [e2] X.env := by rfl) (hpl : (backTo pos (starEach [e2] X.env)).any (·.1) = false := by rfl) :
    PI X (.Tuple elts kk tpos) (.Call (.Name "zip" p) [e, e2] [] pos) (iZip2 b1 b2 X.K ta) := by
  constructor
  intro pins s σ H R I h
  refine Call_ ?_
  refine ld_blt I hg hm PyProof.Rows.boot_zip ?_
  refine PyProof.Rows.callWith_type1 (thn (ha.run pos pins s σ H _ I h) ?_) hs hpl
  rintro us s1 ⟨vs, H1, I1, r1, a1, a2, xs, ys, rfl, q1, q2, q⟩
  obtain ⟨u1, u2, rfl, e1, e2⟩ := vals2 r1
  cases e1; cases e2
  obtain ⟨us, w1, p1, m1⟩ := seqK I1 q1
  obtain ⟨ws, w2, p2, m2⟩ := seqK I1 q2
  refine zip_begins2 (beginsK b1 a1 us.toArray) (beginsK b2 a2 ws.toArray) p1 p2 fun h' c1 c2 c3 c4 c5 _ hk => wpAny_pyIter_zip c1 ?_
  refine ⟨_, _, _, _, H1, rfl, I1.kept (t' := s1.toks) hk, turn_2 (b1 := b1) (b2 := b2) m1 m2, ⟨c1, c2, ⟨_, _, c3⟩, itK_new c4, itK_new c5⟩, fun c hc => ?_, q⟩
  refine fpNew I1 ?_
  rcases mem5 hc with z | z | z | z | z <;> rw [z] <;> first | exact Nat.le_refl _ | exact Nat.le_add_right _ _

def It3 (b1 b2 b3 : Bool) (K : PySem.W.Frag) (a1 a2 a3 : Addr) : It where
  go := fun i H => ∃ (xs ys zs : List V) (x y z : V), SqK b1 K H a1 xs ∧ SqK b2 K H a2 ys ∧ SqK b3 K H a3 zs ∧ xs[i]? = some x ∧ ys[i]? = some y ∧ zs[i]? = some z
  yld := fun i H v H' => ∃ T x y z, v = .ref T ∧ H T = none ∧ H' = upd H T (.tup [x, y, z]) ∧ (∀ xs, SqK b1 K H a1 xs → xs[i]? = some x) ∧ (∀ ys, SqK b2 K H a2 ys → ys[i]? = some y) ∧ ∀ zs, SqK b3 K H a3 zs → zs[i]? = some z
  stop := fun i H => ∃ xs ys zs : List V, SqK b1 K H a1 xs ∧ SqK b2 K H a2 ys ∧ SqK b3 K H a3 zs ∧ i = min (min xs.length ys.length) zs.length
abbrev T3 (b1 b2 b3 : Bool) (a1 a2 a3 N : Addr) (i : Nat) (h : Heap) : Prop := IsZip h (N + 5) (N + 3) (N + 4) .none ∧ IsTupOf3 h (N + 3) (.ref N) (.ref (N + 1)) (.ref (N + 2)) ∧ (∃ u v z, IsTupOf3 h (N + 4) u v z) ∧ ItK b1 h N a1 i ∧ ItK b2 h (N + 1) a2 i ∧ ItK b3 h (N + 2) a3 i
theorem turn_3 {P : Program} {w : World} {K : PySem.W.Frag} {elts : List Expr} {kk : Nat} {tp : Pos} {b1 b2 b3 : Bool} {a1 a2 a3 N : Addr} (l1 : a1 < N) (l2 : a2 < N) (l3 : a3 < N) :
    Turn P w K (.Tuple elts kk tp) (It3 b1 b2 b3 K a1 a2 a3) [N + 5, N + 3, N + 4, N, N + 1, N + 2] (N + 5) (T3 b1 b2 b3 a1 a2 a3 N) where
  mem := by simp
  obj := fun i h st c hc => by
    obtain ⟨z1, z2, ⟨u, v, t, z3⟩, z4, z5, z6⟩ := st
    rcases mem6 hc with q | q | q | q | q | q <;> rw [q]
    · exact ⟨_, z1, fun v q => nomatch q⟩
    · exact ⟨_, z2, fun v q => nomatch q⟩
    · exact ⟨_, z3, fun v q => nomatch q⟩
    · exact itK_obj z4
    · exact itK_obj z5
    · exact itK_obj z6
  keep := fun i h h' st k => by
    obtain ⟨z1, z2, ⟨u, v, t, z3⟩, z4, z5, z6⟩ := st
    exact ⟨k _ (by simp) _ z1, k _ (by simp) _ z2, ⟨u, v, t, k _ (by simp) _ z3⟩, itK_keep z4 fun o e => k _ (by simp) o e, itK_keep z5 fun o e => k _ (by simp) o e, itK_keep z6 fun o e => k _ (by simp) o e⟩
  item := by
    intro X hP hw hK hc i pins s σ H E I hf st hg
    subst hP hw hK
    obtain ⟨xs, ys, zs, x, y, z, q1, q2, q3, e1, e2, e3⟩ := hg
    obtain ⟨us, r1, p1, m1⟩ := seqK I q1
    obtain ⟨ws, r2, p2, m2⟩ := seqK I q2
    obtain ⟨ts, r3, p3, m3⟩ := seqK I q3
    obtain ⟨u, g1, v1⟩ := r1.get e1
    obtain ⟨v, g2, v2⟩ := r2.get e2
    obtain ⟨t, g3, v3⟩ := r3.get e3
    obtain ⟨z1, z2, z3, z4, z5, z6⟩ := st
    have D1 := drawsK (prog := X.prog) (w := X.w) (A := X.A.in1) b1 (I.ok.hd hc) N a1 (Nat.ne_of_lt l1) us.toArray
    have D2 := drawsK (prog := X.prog) (w := X.w) (A := X.A.in1) b2 (I.ok.hd hc) (N + 1) a2 (Nat.ne_of_lt (Nat.lt_succ_of_lt l2)) ws.toArray
    have D3 := drawsK (prog := X.prog) (w := X.w) (A := X.A.in1) b3 (I.ok.hd hc) (N + 2) a3 (Nat.ne_of_lt (Nat.lt_succ_of_lt (Nat.lt_succ_of_lt l3))) ts.toArray
    have S := zip_sep3 (N := N) (fp1 := [a1]) (fp2 := [a2]) (fp3 := [a3]) (by simpa using l1) (by simpa using l2) (by simpa using l3)
    have n1 : i < us.length := (List.getElem?_eq_some_iff.mp g1).1
    have n2 : i < ws.length := (List.getElem?_eq_some_iff.mp g2).1
    have n3 : i < ts.length := (List.getElem?_eq_some_iff.mp g3).1
    have lt : ∀ c ∈ [N + 5, N + 3, N + 4, N, N + 1, N + 2], c < s.heap.objs.size := fun c hc' => by
      obtain ⟨u', v', t', z3⟩ := z3
      rcases mem6 hc' with q | q | q | q | q | q <;> rw [q]
      · exact Heap.lt_size z1
      · exact Heap.lt_size z2
      · exact Heap.lt_size z3
      · obtain ⟨o, e, _⟩ := itK_obj z4; exact Heap.lt_size e
      · obtain ⟨o, e, _⟩ := itK_obj z5; exact Heap.lt_size e
      · obtain ⟨o, e, _⟩ := itK_obj z6; exact Heap.lt_size e
    refine item_of (xs := [x, y, z]) (WalksT.zipD3 S D1 D2 D3) (by simp) I hf (by simp; omega) ⟨z1, z2, z3, ⟨z4, p1⟩, ⟨z5, p2⟩, ⟨z6, p3⟩⟩ lt (fun vals hv => ?_) (by show 3 ≤ sizeLine; decide) (fun T fT => ?_) (fun h' t => ?_)
    · obtain ⟨x', y', z', h1, h2, h3, rfl⟩ := hv
      simp only [List.getElem?_toArray] at h1 h2 h3
      rw [g1] at h1; rw [g2] at h2; rw [g3] at h3
      cases h1; cases h2; cases h3
      exact .cons v1 (.cons v2 (.cons v3 .nil))
    · exact ⟨T, x, y, z, rfl, fT, rfl, fun l hl => by rw [seqK_inj I hl q1]; exact e1, fun l hl => by rw [seqK_inj I hl q2]; exact e2, fun l hl => by rw [seqK_inj I hl q3]; exact e3⟩
    · exact ⟨t.1, t.2.1, t.2.2.1, t.2.2.2.1.1, t.2.2.2.2.1.1, t.2.2.2.2.2.1⟩
  done := by
    intro X hP hw hK hc i pins s σ H E I hf st hg
    subst hP hw hK
    obtain ⟨xs, ys, zs, q1, q2, q3, e⟩ := hg
    obtain ⟨us, r1, p1, m1⟩ := seqK I q1
    obtain ⟨ws, r2, p2, m2⟩ := seqK I q2
    obtain ⟨ts, r3, p3, m3⟩ := seqK I q3
    obtain ⟨z1, z2, z3, z4, z5, z6⟩ := st
    have D1 := drawsK (prog := X.prog) (w := X.w) (A := X.A.in1) b1 (I.ok.hd hc) N a1 (Nat.ne_of_lt l1) us.toArray
    have D2 := drawsK (prog := X.prog) (w := X.w) (A := X.A.in1) b2 (I.ok.hd hc) (N + 1) a2 (Nat.ne_of_lt (Nat.lt_succ_of_lt l2)) ws.toArray
    have D3 := drawsK (prog := X.prog) (w := X.w) (A := X.A.in1) b3 (I.ok.hd hc) (N + 2) a3 (Nat.ne_of_lt (Nat.lt_succ_of_lt (Nat.lt_succ_of_lt l3))) ts.toArray
    have S := zip_sep3 (N := N) (fp1 := [a1]) (fp2 := [a2]) (fp3 := [a3]) (by simpa using l1) (by simpa using l2) (by simpa using l3)
    have en : i = min (min us.toArray.size ws.toArray.size) ts.toArray.size := by
      have := r1.length
      have := r2.length
      have := r3.length
      simp only [List.size_toArray]
      omega
    subst en
    exact done_of (WalksT.zipD3 S D1 D2 D3) (by simp) I hf ⟨z1, z2, z3, ⟨z4, p1⟩, ⟨z5, p2⟩, ⟨z6, p3⟩⟩
  self := fun A i s Q E st h => wpAny_pyIter_zip st.1 h
def iZip3 (b1 b2 b3 : Bool) (K : PySem.W.Frag) (ta : TA) : TI := fun σ H R => ta σ H fun vs H1 => ∃ a1 a2 a3 xs ys zs, vs = [.ref a1, .ref a2, .ref a3] ∧ SqK b1 K H1 a1 xs ∧ SqK b2 K H1 a2 ys ∧ SqK b3 K H1 a3 zs ∧ R (It3 b1 b2 b3 K a1 a2 a3) H1
theorem vals3 {a b c : V} {us : List Value} (r : Vals [a, b, c] us) : ∃ x y z, us = [x, y, z] ∧ RelV a x ∧ RelV b y ∧ RelV c z := by
  cases r with
  | cons r1 rr =>
    obtain ⟨y, z, rfl, h1, h2⟩ := vals2 rr
    exact ⟨_, y, z, rfl, r1, h1, h2⟩
theorem pi_zip3 {X : Cx} {e e2 e3 : Expr} {ta : TA} {p pos tpos : Pos} {elts : List Expr} {kk : Nat} (b1 b2 b3 : Bool) (hg : Gl X "zip") (hm : X.mg "zip" = none) (ha : PA X [e, e2, e3] ta)
    (hs : starEach [e, e2, e3] X.env = (false, eval e X.env) :: starEach [e2, e3] X.env := by rfl) (hpl : (backTo pos (starEach [e2, e3] X.env)).any (·.1) = false := by rfl) :
    PI X (.Tuple elts kk tpos) (.Call (.Name "zip" p) [e, e2, e3] [] pos) (iZip3 b1 b2 b3 X.K ta) := by
  constructor
  intro pins s σ H R I h
  refine Call_ ?_
  refine ld_blt I hg hm PyProof.Rows.boot_zip ?_
  refine PyProof.Rows.callWith_type1 (thn (ha.run pos pins s σ H _ I h) ?_) hs hpl
  rintro us s1 ⟨vs, H1, I1, r1, a1, a2, a3, xs, ys, zs, rfl, q1, q2, q3, q⟩
  obtain ⟨u1, u2, u3, rfl, e1, e2, e3⟩ := vals3 r1
  cases e1; cases e2; cases e3
  obtain ⟨us, w1, p1, m1⟩ := seqK I1 q1
  obtain ⟨ws, w2, p2, m2⟩ := seqK I1 q2
  obtain ⟨ts, w3, p3, m3⟩ := seqK I1 q3
  refine zip_begins3 (beginsK b1 a1 us.toArray) (beginsK b2 a2 ws.toArray) (beginsK b3 a3 ts.toArray) p1 p2 p3 fun h' c1 c2 c3 c4 c5 c6 _ hk => wpAny_pyIter_zip c1 ?_
  refine ⟨_, _, _, _, H1, rfl, I1.kept (t' := s1.toks) hk, turn_3 (b1 := b1) (b2 := b2) (b3 := b3) m1 m2 m3, ⟨c1, c2, ⟨_, _, _, c3⟩, itK_new c4, itK_new c5, itK_new c6⟩, fun c hc => ?_, q⟩
  refine fpNew I1 ?_
  rcases mem6 hc with z | z | z | z | z | z <;> rw [z] <;> first | exact Nat.le_refl _ | exact Nat.le_add_right _ _

/-! ### enumerate of a list or a tuple -/
def It1 (b : Bool) (K : PySem.W.Frag) (a : Addr) : It where
  go := fun i H => ∃ (xs : List V) (x : V), SqK b K H a xs ∧ xs[i]? = some x
  yld := fun i H v H' => ∃ T x, v = .ref T ∧ H T = none ∧ H' = upd H T (.tup [.int (i : Nat), x]) ∧ ∀ xs, SqK b K H a xs → xs[i]? = some x
  stop := fun i H => ∃ xs : List V, SqK b K H a xs ∧ i = xs.length
abbrev T1 (b : Bool) (a N : Addr) (i : Nat) (h : Heap) : Prop := (∃ old, IsEnum h (N + 1) N (0 + (i : Int)) old) ∧ ItK b h N a i
theorem turn_1 {P : Program} {w : World} {K : PySem.W.Frag} {elts : List Expr} {kk : Nat} {tp : Pos} {b : Bool} {a N : Addr} (l1 : a < N) :
    Turn P w K (.Tuple elts kk tp) (It1 b K a) [N + 1, N] (N + 1) (T1 b a N) where
  mem := by simp
  obj := fun i h st c hc => by
    obtain ⟨⟨old, z1⟩, z2⟩ := st
    have hc' : c = N + 1 ∨ c = N := by simpa using hc
    rcases hc' with q | q <;> rw [q]
    · exact ⟨_, z1, fun v q => nomatch q⟩
    · exact itK_obj z2
  keep := fun i h h' st k => by
    obtain ⟨⟨old, z1⟩, z2⟩ := st
    exact ⟨⟨old, k _ (by simp) _ z1⟩, itK_keep z2 fun o e => k _ (by simp) o e⟩
  item := by
    intro X hP hw hK hc i pins s σ H E I hf st hg
    subst hP hw hK
    obtain ⟨xs, x, q1, e1⟩ := hg
    obtain ⟨us, r1, p1, m1⟩ := seqK I q1
    obtain ⟨u, g1, v1⟩ := r1.get e1
    obtain ⟨z1, z2⟩ := st
    have D1 := drawsK (prog := X.prog) (w := X.w) (A := X.A.in1) b (I.ok.hd hc) N a (Nat.ne_of_lt l1) us.toArray
    have n1 : i < us.length := (List.getElem?_eq_some_iff.mp g1).1
    have lt : ∀ c ∈ [N + 1, N], c < s.heap.objs.size := fun c hc' => by
      obtain ⟨old, z1⟩ := z1
      have hc' : c = N + 1 ∨ c = N := by simpa using hc'
      rcases hc' with q | q <;> rw [q]
      · exact Heap.lt_size z1
      · obtain ⟨o, e, _⟩ := itK_obj z2; exact Heap.lt_size e
    have W := WalksT.enumFrom 0 D1 (N + 1) (Nat.ne_of_gt (Nat.lt_succ_self N)) (by
      intro hm
      have hm' : N + 1 = N ∨ N + 1 = a := by simpa using hm
      rcases hm' with q | q
      · exact absurd q (Nat.ne_of_gt (Nat.lt_succ_self N))
      · exact absurd q.symm (Nat.ne_of_lt (Nat.lt_succ_of_lt l1))) (by simp)
    refine item_of (xs := [.int (i : Nat), x]) W (by simp) I hf (by simpa using n1) ⟨z1, ⟨z2, p1⟩⟩ lt (fun vals hv => ?_) (by show 2 ≤ sizeLine; decide) (fun T fT => ?_) (fun h' t => ?_)
    · obtain ⟨t, x', h1, rfl⟩ := hv
      simp only [List.getElem?_toArray] at h1
      rw [g1] at h1
      cases h1
      exact .cons ⟨t, by rw [Int.zero_add]⟩ (.cons v1 .nil)
    · exact ⟨T, x, rfl, fT, rfl, fun l hl => by rw [seqK_inj I hl q1]; exact e1⟩
    · exact ⟨t.1, t.2.1⟩
  done := by
    intro X hP hw hK hc i pins s σ H E I hf st hg
    subst hP hw hK
    obtain ⟨xs, q1, e⟩ := hg
    obtain ⟨us, r1, p1, m1⟩ := seqK I q1
    obtain ⟨z1, z2⟩ := st
    have D1 := drawsK (prog := X.prog) (w := X.w) (A := X.A.in1) b (I.ok.hd hc) N a (Nat.ne_of_lt l1) us.toArray
    have W := WalksT.enumFrom 0 D1 (N + 1) (Nat.ne_of_gt (Nat.lt_succ_self N)) (by
      intro hm
      have hm' : N + 1 = N ∨ N + 1 = a := by simpa using hm
      rcases hm' with q | q
      · exact absurd q (Nat.ne_of_gt (Nat.lt_succ_self N))
      · exact absurd q.symm (Nat.ne_of_lt (Nat.lt_succ_of_lt l1))) (by simp)
    have en : i = us.toArray.size := by
      have := r1.length
      simp only [List.size_toArray]
      omega
    subst en
    exact done_of W (by simp) I hf ⟨z1, ⟨z2, p1⟩⟩
  self := fun A i s Q E st h => by
    obtain ⟨⟨old, z1⟩, _⟩ := st
    exact wpAny_pyIter_enum z1 h
set_option maxHeartbeats 1000000 in
theorem meets_enum1 {v : Value} {o : Obj} {H : Heap → Prop} (B : Begins v o H) :
    Meets (Builtin.«enumerate.__new__» ⟨[.type "enumerate", v], []⟩) (fun _ R s => H s.heap ∧
      R (.ok (.ret (.ref (s.heap.push o).objs.size))) { s with heap := (s.heap.push o).push ⟨.type "enumerate", none, .fields #[.none, .bool false, .ref s.heap.objs.size, rawInt 0, .none, .none], #[]⟩ }) :=
  .of_wp fun prog w A R s h => by
    obtain ⟨hp, g, d, tk, os⟩ := s
    obtain ⟨h1, h⟩ := h
    have hsub := sub_enumerate
    have q1 : ∀ {A' : Around} {E : Value → Shared → Prop} {Q : Value → Shared → Prop}, Q (.ref hp.objs.size) ⟨hp.push o, g, d, tk, os⟩ → wpAny (model prog w) A' (pyIter v) Q E ⟨hp, g, d, tk, os⟩ := by
      intro A' E Q q
      exact B.iter prog w _ _ ⟨hp, g, d, tk, os⟩ _ h1 q
    wp_walk using q1
    apply wpAny_stack_any
    intro st
    apply wpAny_pure
    split
    · rename_i c _ _ _ _ _
      cases (c == Value.type "enumerate") <;> (wp_walk using q1; exact ⟨_, rfl, h⟩)
    · wp_walk using q1
      exact ⟨_, rfl, h⟩
theorem enum_begins1 {prog : Program} {w : World} {A : Around} {E : Value → Shared → Prop} {s : Shared} {v : Value} {o : Obj} {H : Heap → Prop} {Q : Value → Shared → Prop} (B : Begins v o H) (h1 : H s.heap)
    (h : ∀ h', IsEnum h' (s.heap.objs.size + 1) s.heap.objs.size 0 .none → h'.get? s.heap.objs.size = some o → (∀ b o, s.heap.get? b = some o → h'.get? b = some o) → Q (.ref (s.heap.objs.size + 1)) { s with heap := h' }) :
    wpAny (model prog w) A (call (.type "enumerate") [v]) Q E s := by
  refine callType_new F.called_enumerate (by decide) (F.typeCall_enumerate_1 _) (F.newCall_enumerate_1 _) (fun obj => F.args_object_init_2 obj _) F.entry_enumerate_new (meets_enum1 B) ⟨h1, ?_⟩
  have hz : (s.heap.push o).objs.size = s.heap.objs.size + 1 := Heap.size_push ..
  have he := Heap.get?_push_size (s.heap.push o) (o := ⟨.type "enumerate", none, .fields #[.none, .bool false, .ref s.heap.objs.size, rawInt 0, .none, .none], #[]⟩) rfl
  rw [hz] at he
  show _ ∧ _
  rw [hz]
  exact ⟨⟨_, he, rfl⟩, h _ he (Heap.get?_push_of_some _ (Heap.get?_push_size _ B.free)) fun b o x => Heap.get?_push_of_some _ (Heap.get?_push_of_some _ x)⟩
def iEnum1 (K : PySem.W.Frag) (ta : TA) : TI := fun σ H R => ta σ H fun vs H1 => ∃ b a xs, vs = [.ref a] ∧ SqK b K H1 a xs ∧ R (It1 b K a) H1
theorem pi_enum1 {X : Cx} {e : Expr} {ta : TA} {p pos tpos : Pos} {elts : List Expr} {kk : Nat} (hg : Gl X "enumerate") (hm : X.mg "enumerate" = none) (ha : PA X [e] ta)
    (hs : starEach [e] X.env = (false, eval e X.env) :: starEach [] X.env := by rfl) (hpl : (backTo pos (starEach [] X.env)).any (·.1) = false := by rfl) :
    PI X (.Tuple elts kk tpos) (.Call (.Name "enumerate" p) [e] [] pos) (iEnum1 X.K ta) := by
  constructor
  intro pins s σ H R I h
  refine Call_ ?_
  refine ld_blt I hg hm PyProof.Rows.boot_enumerate ?_
  refine PyProof.Rows.callWith_type1 (thn (ha.run pos pins s σ H _ I h) ?_) hs hpl
  rintro us s1 ⟨vs, H1, I1, r1, b, a, xs, rfl, q1, q⟩
  obtain ⟨u1, rfl, e1⟩ := vals1 r1
  cases e1
  obtain ⟨us, w1, p1, m1⟩ := seqK I1 q1
  refine enum_begins1 (beginsK b a us.toArray) p1 fun h' c1 c2 hk => wpAny_pyIter_enum c1 ?_
  refine ⟨_, _, _, _, H1, rfl, I1.kept (t' := s1.toks) hk, turn_1 (b := b) m1, ⟨⟨_, c1⟩, itK_new c2⟩, fun c hc => ?_, q⟩
  refine fpNew I1 ?_
  have hc' : c = s1.heap.objs.size + 1 ∨ c = s1.heap.objs.size := by simpa using hc
  rcases hc' with z | z <;> rw [z] <;> first | exact Nat.le_refl _ | exact Nat.le_add_right _ _

/-! ### list + list, both read -/
def rCatL (K : PySem.W.Frag) : R2 := fun x y H Q => ∃ l b xs zs, x = .ref l ∧ y = .ref b ∧ SqL K H l xs ∧ SqL K H b zs ∧ xs.length + zs.length ≤ sizeLine ∧ ∀ p, H p = none → Q (.ref p) (upd H p (.lst (xs ++ zs)))
theorem op_catL {X : Cx} : OpR X (binaryOp .Add) (rCatL X.K) := by
  intro pins s σ H x y v u Q I rx ry h
  obtain ⟨l, b, xs, zs, rfl, rfl, h1, h2, hz, q⟩ := h
  cases rx
  cases ry
  obtain ⟨i1, r1, p1, _⟩ := I.list h1
  obtain ⟨i2, r2, p2, _⟩ := I.list h2
  have l1 := r1.length
  have l2 := r2.length
  obtain ⟨⟨c1, d1, t1, w1⟩, n1, o1, k1, g1, e1⟩ := p1
  obtain ⟨⟨c2, d2, t2, w2⟩, n2, o2, k2, g2, e2⟩ := p2
  simp only at k1 g1 e1 k2 g2 e2
  subst k1 g1 e1 k2 g2 e2
  have ea : i1.toArray ++ i2.toArray = (i1 ++ i2).toArray := by simp
  refine concat_meets ⟨_, o1, rfl⟩ ⟨_, o2, rfl⟩ noFill_list_add seq_list_add PySem.F.slot_list_add PySem.F.entry_list_add (PySem.F.args_list_add_2 _ _) (list_addW l b i1.toArray i2.toArray n1 n2 none none w1 w2 (by simp; omega)) ⟨o1, o2, ?_⟩
  rw [ea]
  exact ⟨.ref _, _, I.lnew (t' := s.toks) (r1.append r2) (by rw [List.length_append]; omega), rfl, q _ I.fresh⟩
/-! ### sum of a tuple of ints -/
def rSumT (K : PySem.W.Frag) : List V → Hp → VK → Prop := fun vs H Q => ∃ (a : Addr) (ns : List Int), vs = [V.ref a] ∧ SqT K H a (ns.map V.int) ∧ Q (.int ns.sum) H
theorem preSum_list (ns : List Int) : ∀ k, k ≤ ns.length → preSum (fun i => ns.getD i 0) k = (ns.take k).sum
  | 0, _ => by simp [preSum]
  | k + 1, h => by
    have ih := preSum_list ns k (by omega)
    have e : ns[k]? = some ns[k] := List.getElem?_eq_getElem (by omega)
    rw [sum_take e, ← ih]
    show preSum (fun i => ns.getD i 0) k + ns.getD k 0 = _
    rw [List.getD_eq_getElem?_getD, e]
    rfl
theorem cr_sumT {X : Cx} (hc : X.calm = true) : CallR X (.builtin "sum") (rSumT X.K) := by
  intro pins s σ H vs us Q I r h
  obtain ⟨a, ns, rfl, hs, q⟩ := h
  obtain ⟨its, rv, p, _⟩ := I.tuple hs
  have hlt := p.lt
  have hlen := rv.length
  rw [Vals.ref1 r]
  refine call_sum_walkG (wpAny_pyIter_tuple p ?_)
  refine ⟨_, _, _, _, _, _, fun i => ns.getD i 0, rfl, Walks.tuple (A := X.A.in1) (I.ok.hd hc) _ a (Nat.ne_of_lt hlt) its.toArray, ⟨⟨_, Heap.get?_push_size _ rfl, rfl, rfl⟩, ?_⟩, fun b hb => ?_, fun i v hv => ?_, fun h' tk t' hk => ?_⟩
  · obtain ⟨o, e, r⟩ := id p
    exact ⟨o, Heap.get?_push_of_some _ e, r⟩
  · show b < (s.heap.push _).objs.size
    rw [Heap.size_push]
    have hb' : b = s.heap.objs.size ∨ b = a := by simpa using hb
    rcases hb' with z | z <;> rw [z]
    · exact Nat.lt_succ_self _
    · exact Nat.lt_succ_of_lt hlt
  · have hv' : its[i]? = some v := by simpa using hv
    have hi : i < its.length := (List.getElem?_eq_some_iff.mp hv').1
    rw [List.length_map] at hlen
    have hn : i < ns.length := by omega
    have e : (ns.map V.int)[i]? = some (.int (ns.getD i 0)) := by
      rw [List.getElem?_map, List.getElem?_eq_getElem hn, List.getD_eq_getElem?_getD, List.getElem?_eq_getElem hn]
      rfl
    obtain ⟨u, hu, t, ru⟩ := rv.get e
    rw [hv'] at hu
    cases hu
    exact ⟨t, ru⟩
  · rw [List.length_map] at hlen
    have hk' : ∀ b o, s.heap.get? b = some o → h'.get? b = some o := fun b o e => hk b o (by
      have := Heap.lt_size e
      simp
      exact Nat.ne_of_lt this) (Heap.get?_push_of_some _ e)
    refine ⟨.int _, H, I.kept hk', ⟨t', rfl⟩, ?_⟩
    rw [List.size_toArray, ← hlen, preSum_list ns _ (Nat.le_refl _), List.take_length]
    exact q
end PS

namespace PS
open PySem PySem.Spec PyProof.Rows L2
/-! ### data in the heap -/
section
variable {K : PySem.W.Frag} {H H' : Hp}
theorem seqT_mono {a : Addr} {xs : List V} (e : Same H H') (h : SqT K H a xs) : SqT K H' a xs := by
  rcases h with (h | ⟨o, h⟩) | h
  · exact .inl (.inl (e _ _ h))
  · exact .inl (.inr ⟨o, e _ _ h⟩)
  · exact .inr h
mutual
theorem dp_mono (e : Same H H') : ∀ (d : PyData) (v : V), Dp K H v d → Dp K H' v d
  | .none, _, h => by cases h; exact .non
  | .bool b, _, h => by cases h; exact .bl b
  | .int i, _, h => by cases h; exact .int i
  | .str x, _, h => by cases h; exact .str x
  | .list ds, _, h => by
    cases h with
    | lst s a => exact .lst (e.seq s) (dpAll_mono e ds _ a)
  | .tuple ds, _, h => by
    cases h with
    | tup s a => exact .tup (seqT_mono e s) (dpAll_mono e ds _ a)
  | .dict _, _, h => by cases h
theorem dpAll_mono (e : Same H H') : ∀ (ds : List PyData) (vs : List V), DpAll K H vs ds → DpAll K H' vs ds
  | [], _, h => by cases h; exact .nil
  | d :: ds, _, h => by
    cases h with
    | cons h1 h2 => exact .cons (dp_mono e d _ h1) (dpAll_mono e ds _ h2)
end
theorem Dpm {d : PyData} {v : V} (e : Same H H') (h : Dp K H v d) : Dp K H' v d := dp_mono e d v h
theorem dpAll_len : ∀ {ds : List PyData} {vs : List V}, DpAll K H vs ds → vs.length = ds.length
  | [], _, h => by cases h; rfl
  | d :: ds, _, h => by
    cases h with
    | cons h1 h2 => simp [dpAll_len h2]
theorem dpAll_get : ∀ {ds : List PyData} {vs : List V} {i : Nat} {v : V}, DpAll K H vs ds → vs[i]? = some v → ∃ d, ds[i]? = some d ∧ Dp K H v d
  | [], _, i, v, h, e => by cases h; simp at e
  | d :: ds, _, i, v, h, e => by
    cases h with
    | cons h1 h2 =>
      cases i with
      | zero => simp at e; subst e; exact ⟨d, rfl, h1⟩
      | succ i =>
        obtain ⟨d', e1, e2⟩ := dpAll_get (i := i) (v := v) h2 (by simpa using e)
        exact ⟨d', by simpa using e1, e2⟩
theorem dpAll_at : ∀ {ds : List PyData} {vs : List V} {i : Nat} {d : PyData}, DpAll K H vs ds → ds[i]? = some d → ∃ v, vs[i]? = some v ∧ Dp K H v d
  | [], _, i, v, h, e => by simp at e
  | d :: ds, _, i, v, h, e => by
    cases h with
    | cons h1 h2 =>
      cases i with
      | zero => simp at e; subst e; exact ⟨_, rfl, h1⟩
      | succ i =>
        obtain ⟨d', e1, e2⟩ := dpAll_at (i := i) (d := v) h2 (by simpa using e)
        exact ⟨d', by simpa using e1, e2⟩
theorem dpAll_app : ∀ {ds es : List PyData} {vs us : List V}, DpAll K H vs ds → DpAll K H us es → DpAll K H (vs ++ us) (ds ++ es)
  | [], _, _, _, h, g => by cases h; exact g
  | d :: ds, _, _, _, h, g => by
    cases h with
    | cons h1 h2 => exact .cons h1 (dpAll_app h2 g)
theorem dpAll_take : ∀ {ds : List PyData} {vs : List V} (n : Nat), DpAll K H vs ds → DpAll K H (vs.take n) (ds.take n)
  | ds, vs, 0, h => by simp; exact .nil
  | [], _, n + 1, h => by cases h; exact .nil
  | d :: ds, _, n + 1, h => by
    cases h with
    | cons h1 h2 => exact .cons h1 (dpAll_take n h2)
theorem dpAll_drop : ∀ {ds : List PyData} {vs : List V} (n : Nat), DpAll K H vs ds → DpAll K H (vs.drop n) (ds.drop n)
  | ds, vs, 0, h => by simpa using h
  | [], _, n + 1, h => by cases h; exact .nil
  | d :: ds, _, n + 1, h => by
    cases h with
    | cons h1 h2 => exact dpAll_drop n h2
theorem dp_tup {v : V} {ds : List PyData} (h : Dp K H v (.tuple ds)) : ∃ a xs, v = .ref a ∧ SqT K H a xs ∧ DpAll K H xs ds := by
  cases h with
  | tup s a => exact ⟨_, _, rfl, s, a⟩
theorem dp_lst {v : V} {ds : List PyData} (h : Dp K H v (.list ds)) : ∃ a xs, v = .ref a ∧ SqL K H a xs ∧ DpAll K H xs ds := by
  cases h with
  | lst s a => exact ⟨_, _, rfl, s, a⟩
/-- ints -/
abbrev iD (ns : List Int) : List PyData := ns.map PyData.int
abbrev iV (ns : List Int) : List V := ns.map V.int
theorem dpAll_ints : ∀ {ns : List Int} {vs : List V}, DpAll K H vs (iD ns) → vs = iV ns
  | [], _, h => by cases h; rfl
  | n :: ns, _, h => by
    cases h with
    | cons h1 h2 =>
      cases h1
      rw [dpAll_ints (ns := ns) h2]
      rfl
theorem ints_dpAll : ∀ (ns : List Int), DpAll K H (iV ns) (iD ns)
  | [] => .nil
  | n :: ns => .cons (.int n) (ints_dpAll ns)
abbrev tI (ns : List Int) : PyData := .tuple (iD ns)
theorem dp_tI {v : V} {ns : List Int} (h : Dp K H v (tI ns)) : ∃ a, v = .ref a ∧ SqT K H a (iV ns) := by
  obtain ⟨a, xs, rfl, s, t⟩ := dp_tup h
  rw [dpAll_ints t] at s
  exact ⟨a, rfl, s⟩
theorem tI_dp {a : Addr} {ns : List Int} (h : SqT K H a (iV ns)) : Dp K H (.ref a) (tI ns) := .tup h (ints_dpAll ns)
theorem dp_int {v : V} {i : Int} (h : Dp K H v (.int i)) : v = .int i := by cases h; rfl
theorem dp_str {v : V} {x : Str} (h : Dp K H v (.str x)) : v = .str x := by cases h; rfl
/-! ### kinds -/
def tyN : PyData → String
  | .none => "NoneType" | .bool _ => "bool" | .int _ => "int" | .str _ => "str" | .list _ => "list" | .tuple _ => "tuple" | .dict _ => "dict"
theorem dp_ty {v : V} {d : PyData} (h : Dp K H v d) : TyX K H v (.type (tyN d)) := by
  cases h with
  | non => exact .base .non
  | bl b => exact .base (.bl b)
  | int i => exact .base (.int i)
  | str x => exact .base (.str x)
  | lst s a =>
    rcases s with (s | ⟨o, s⟩) | ⟨o, its, n, e, c, _⟩
    · exact .base (.lst s)
    · exact .base (.frz s)
    · exact .kList e c
  | tup s a =>
    rcases s with (s | ⟨o, s⟩) | ⟨o, its, n, e, c, _⟩
    · exact .base (.tup s)
    · exact .fTuple s
    · exact .kTuple e c
end
/-- isinstance(x, n) of data -/
def isA (d : PyData) (n : String) : Bool := (kitB (tyN d) n).getD false
def rIsD (K : PySem.W.Frag) : List V → Hp → VK → Prop := fun xs H Q => ∃ (x : V) (n : String) (d : PyData), xs = [x, .ty n] ∧ Dp K H x d ∧ (kitB (tyN d) n).isSome = true ∧ Q (.bl (isA d n)) H
theorem call_isD {X : Cx} : CallR X (.builtin "isinstance") (rIsD X.K) := by
  intro pins s σ H xs us Q I r h
  obtain ⟨x, n, d, rfl, hd, hs, q⟩ := h
  refine call_isi pins s σ H _ us Q I r ⟨x, .ty n, _, _, isA d n, rfl, .ty n, dp_ty hd, ?_, q⟩
  apply kit_ty
  unfold isA
  cases e : kitB (tyN d) n with
  | none => rw [e] at hs; cases hs
  | some b => rfl
theorem kS (d : PyData) (n : String) (h : n = "int" ∨ n = "bool" ∨ n = "str" ∨ n = "list" ∨ n = "tuple") : (kitB (tyN d) n).isSome = true := by
  rcases h with rfl | rfl | rfl | rfl | rfl <;> cases d <;> simp only [tyN] <;> decide +kernel
theorem kInt (d : PyData) : (kitB (tyN d) "int").isSome = true := kS d _ (by simp)
theorem kBool (d : PyData) : (kitB (tyN d) "bool").isSome = true := kS d _ (by simp)
theorem kStr (d : PyData) : (kitB (tyN d) "str").isSome = true := kS d _ (by simp)
theorem kList (d : PyData) : (kitB (tyN d) "list").isSome = true := kS d _ (by simp)
theorem kTuple (d : PyData) : (kitB (tyN d) "tuple").isSome = true := kS d _ (by simp)
def isW : PyData → Bool | .int _ => true | _ => false
def isT : PyData → Bool | .tuple _ => true | _ => false
def isL : PyData → Bool | .list _ => true | _ => false
def isS : PyData → Bool | .str _ => true | _ => false
def isB : PyData → Bool | .bool _ => true | _ => false
def isIB : PyData → Bool | .bool _ => true | .int _ => true | _ => false
theorem isA_tuple (d : PyData) : isA d "tuple" = isT d := by cases d <;> simp only [isA, tyN, isT] <;> decide +kernel
theorem isA_list (d : PyData) : isA d "list" = isL d := by cases d <;> simp only [isA, tyN, isL] <;> decide +kernel
theorem isA_str (d : PyData) : isA d "str" = isS d := by cases d <;> simp only [isA, tyN, isS] <;> decide +kernel
theorem isA_bool (d : PyData) : isA d "bool" = isB d := by cases d <;> simp only [isA, tyN, isB] <;> decide +kernel
theorem isA_int (d : PyData) : isA d "int" = isIB d := by cases d <;> simp only [isA, tyN, isIB] <;> decide +kernel
/-! ### shapes -/
mutual
theorem dp_can {K : PySem.W.Frag} {H : Hp} : ∀ (d : PyData) (v : V), Dp K H v d → d.plain = true
  | .none, _, _ => rfl
  | .bool _, _, _ => rfl
  | .int _, _, _ => rfl
  | .str _, _, _ => rfl
  | .list ds, _, h => by
    cases h with
    | lst s a => simpa [PyData.plain] using dpAll_can ds _ a
  | .tuple ds, _, h => by
    cases h with
    | tup s a => simpa [PyData.plain] using dpAll_can ds _ a
  | .dict _, _, h => by cases h
theorem dpAll_can {K : PySem.W.Frag} {H : Hp} : ∀ (ds : List PyData) (vs : List V), DpAll K H vs ds → PyData.plainAll ds = true
  | [], _, _ => rfl
  | d :: ds, _, h => by
    cases h with
    | cons h1 h2 => simp [PyData.plainAll, dp_can d _ h1, dpAll_can ds _ h2]
end
/-- == and != of data, nested less than 65 deep on the left -/
def rEqP (K : PySem.W.Frag) : R2 := fun x y H Q => ∃ d e, Dp K H x d ∧ Dp K H y e ∧ d.depth ≤ 64 ∧ Q (.bl (PyData.eqv d e)) H
def rNeP (K : PySem.W.Frag) : R2 := fun x y H Q => ∃ d e, Dp K H x d ∧ Dp K H y e ∧ d.depth ≤ 64 ∧ Q (.bl (!PyData.eqv d e)) H
theorem op_eqP {X : Cx} (hu : X.A.units + 64 < cLine) : OpR X (compareOp .Eq) (rEqP X.K) := by
  intro pins s σ H x y v u Q I rx ry h
  obtain ⟨d, e, hd, he, hl, q⟩ := h
  obtain ⟨as, r1⟩ := Dp.reads I d x v hd rx
  obtain ⟨bs, r2⟩ := Dp.reads I e y u he ry
  exact SeqAt.eq_plain r1 r2 (dp_can d x hd) (dp_can e y he) (by omega) ⟨.bl _, H, I, rfl, q⟩
theorem op_neP {X : Cx} (hu : X.A.units + 64 < cLine) : OpR X (compareOp .NotEq) (rNeP X.K) := by
  intro pins s σ H x y v u Q I rx ry h
  obtain ⟨d, e, hd, he, hl, q⟩ := h
  obtain ⟨as, r1⟩ := Dp.reads I d x v hd rx
  obtain ⟨bs, r2⟩ := Dp.reads I e y u he ry
  exact SeqAt.ne_plain r1 r2 (dp_can d x hd) (dp_can e y he) (by omega) ⟨.bl _, H, I, rfl, q⟩
theorem eqv_self {K : PySem.W.Frag} {H : Hp} {d : PyData} {v : V} (h : Dp K H v d) : PyData.eqv d d = true := SeqAt.eqv_refl_plain d (dp_can d v h)
theorem depthAll_le {n : Nat} : ∀ (ds : List PyData), (∀ d ∈ ds, d.depth ≤ n) → PyData.depthAll ds ≤ n
  | [], _ => by simp [PyData.depthAll]
  | d :: ds, h => by
    rw [PyData.depthAll]
    exact Nat.max_le.mpr ⟨h d (by simp), depthAll_le ds fun x hx => h x (by simp [hx])⟩
theorem depth_of_all {n : Nat} : ∀ (ds : List PyData), PyData.depthAll ds ≤ n → ∀ d ∈ ds, d.depth ≤ n
  | [], _, d, h => by simp at h
  | x :: ds, h, d, hd => by
    rw [PyData.depthAll] at h
    obtain ⟨h1, h2⟩ := Nat.max_le.mp h
    rcases List.mem_cons.mp hd with rfl | hd
    · exact h1
    · exact depth_of_all ds h2 d hd
theorem depth_tI (ns : List Int) : (tI ns).depth ≤ 1 := by
  rw [PyData.depth]
  have : PyData.depthAll (iD ns) ≤ 0 := depthAll_le _ fun d hd => by
    obtain ⟨i, _, rfl⟩ := List.mem_map.mp hd
    simp [PyData.depth]
  omega
/-! ### the heap without one cell -/
def Off (k : Addr) (H : Hp) : Hp := fun b => if b = k then none else H b
theorem off_same (k : Addr) (H : Hp) : Same (Off k H) H := fun b o h => by
  unfold Off at h
  split at h
  · cases h
  · exact h
theorem off_mono {k : Addr} {H H' : Hp} (e : Same H H') : Same (Off k H) (Off k H') := fun b o h => by
  unfold Off at h ⊢
  split at h
  · cases h
  · rename_i n
    rw [if_neg n]
    exact e b o h
theorem off_of {k : Addr} {H H' : Hp} (e : ∀ b o, b ≠ k → H b = some o → H' b = some o) : Same (Off k H) (Off k H') := fun b o h => by
  unfold Off at h ⊢
  split at h
  · cases h
  · rename_i n
    rw [if_neg n]
    exact e b o n h
theorem off_back {k : Addr} {H H' : Hp} (e : Same (Off k H) (Off k H')) {b : Addr} {o : HO} (n : b ≠ k) (h : H b = some o) : H' b = some o := by
  have h1 : Off k H b = some o := by unfold Off; rw [if_neg n]; exact h
  have h2 := e b o h1
  unfold Off at h2
  rw [if_neg n] at h2
  exact h2
theorem off_at {k b : Addr} {H : Hp} {o : HO} (n : b ≠ k) (h : H b = some o) : Off k H b = some o := by
  unfold Off
  rw [if_neg n]
  exact h
theorem same_new {H : Hp} {p : Addr} {o : HO} (h : H p = none) : Same H (upd H p o) := fun b x e => by
  rw [upd_ne (ne_of_none e h)]
  exact e
/-! data without lists does not hold the cell of a list -/
mutual
def noL : PyData → Bool
  | .list _ => false
  | .tuple ds => noLs ds
  | .none | .bool _ | .int _ | .str _ | .dict _ => true
def noLs : List PyData → Bool
  | [] => true
  | d :: ds => noL d && noLs ds
end
theorem noLs_all : ∀ (ds : List PyData), (∀ d ∈ ds, noL d = true) → noLs ds = true
  | [], _ => rfl
  | d :: ds, h => by simp [noLs, h d (by simp), noLs_all ds fun x hx => h x (by simp [hx])]
theorem noL_tI (ns : List Int) : noL (tI ns) = true := by
  rw [noL]
  exact noLs_all _ fun d hd => by
    obtain ⟨i, _, rfl⟩ := List.mem_map.mp hd
    rfl
mutual
theorem dp_off {K : PySem.W.Frag} {H : Hp} {k : Addr} {l : List V} (hk : H k = some (.lst l)) : ∀ (d : PyData) (v : V), noL d = true → Dp K H v d → Dp K (Off k H) v d
  | .none, _, _, h => by cases h; exact .non
  | .bool b, _, _, h => by cases h; exact .bl b
  | .int i, _, _, h => by cases h; exact .int i
  | .str x, _, _, h => by cases h; exact .str x
  | .list ds, _, n, h => by simp [noL] at n
  | .tuple ds, _, n, h => by
    cases h with
    | @tup a xs _ s al =>
      refine .tup ?_ (dpAll_off hk ds _ (by simpa [noL] using n) al)
      rcases s with (s | ⟨o, s⟩) | s
      · exact .inl (.inl (off_at (ne_of s hk (by intro z; cases z)) s))
      · exact .inl (.inr ⟨o, off_at (ne_of s hk (by intro z; cases z)) s⟩)
      · exact .inr s
  | .dict _, _, _, h => by cases h
theorem dpAll_off {K : PySem.W.Frag} {H : Hp} {k : Addr} {l : List V} (hk : H k = some (.lst l)) : ∀ (ds : List PyData) (vs : List V), noLs ds = true → DpAll K H vs ds → DpAll K (Off k H) vs ds
  | [], _, _, h => by cases h; exact .nil
  | d :: ds, _, n, h => by
    cases h with
    | cons h1 h2 =>
      have n' : noL d = true ∧ noLs ds = true := by simpa [noLs] using n
      exact .cons (dp_off hk d _ n'.1 h1) (dpAll_off hk ds _ n'.2 h2)
end
/-! ### what a def gives back -/
abbrev RB (H : Hp) (Q : VK) (b : Bool) : Prop := ∀ H', Same H H' → Q (.bl b) H'
abbrev RI (H : Hp) (Q : VK) (n : Int) : Prop := ∀ H', Same H H' → Q (.int n) H'
abbrev RD (K : PySem.W.Frag) (H : Hp) (Q : VK) (d : PyData) : Prop := ∀ v H', Same H H' → Dp K H' v d → Q v H'
end PS

namespace PS
open PySem PySem.Spec PyProof.Rows L2
section
variable {X : Cx}
/-- an int or a truth as a number -/
def NumV (x : V) (i : Int) : Prop := x = .int i ∨ ∃ b : Bool, x = .bl b ∧ i = if b = true then 1 else 0
def rAddN : R2 := fun x y H Q => ∃ i j, NumV x i ∧ y = .int j ∧ Q (.int (i + j)) H
def rSubN : R2 := fun x y H Q => ∃ i j, NumV x i ∧ y = .int j ∧ Q (.int (i - j)) H
theorem op_addN : OpR X (binaryOp .Add) rAddN := by
  intro pins s σ H x y v u Q I rx ry h
  obtain ⟨i, j, n, rfl, q⟩ := h
  rcases n with rfl | ⟨b, rfl, rfl⟩
  · exact op_add pins s σ H _ _ v u Q I rx ry ⟨_, _, rfl, rfl, q⟩
  · cases rx
    obtain ⟨t, rfl⟩ := ry
    exact PySem.IntBool.add_bool_int ⟨.int _, H, I.tok _, ⟨_, rfl⟩, q⟩
theorem op_subN : OpR X (binaryOp .Sub) rSubN := by
  intro pins s σ H x y v u Q I rx ry h
  obtain ⟨i, j, n, rfl, q⟩ := h
  rcases n with rfl | ⟨b, rfl, rfl⟩
  · exact op_sub pins s σ H _ _ v u Q I rx ry ⟨_, _, rfl, rfl, q⟩
  · cases rx
    obtain ⟨t, rfl⟩ := ry
    exact PySem.IntBool.sub_bool_int ⟨.int _, H, I.tok _, ⟨_, rfl⟩, q⟩
theorem call_strN : CallR X (.type "str") (fun xs H Q => (∃ i : Int, xs = [.int i] ∧ i.natAbs.log2 < 1920 ∧ Q (.str (toString i)) H) ∨ ∃ b : Bool, xs = [.bl b] ∧ Q (.str (if b then "True" else "False")) H) := by
  intro pins s σ H xs us Q I r h
  rcases h with h | ⟨b, rfl, q⟩
  · exact call_str_int pins s σ H xs us Q I r h
  · obtain ⟨u, rfl, rx⟩ := vals1 r
    cases rx
    exact P.str_of_bool ⟨.str _, H, I.tok _, ⟨_, rfl⟩, q⟩
/-- two of one kind, one behind the other; a part of either -/
def rCatB (K : PySem.W.Frag) : R2 := fun x y H Q => rCatL K x y H Q ∨ rCatA K x y H Q ∨ rAddN x y H Q
theorem op_catB : OpR X (binaryOp .Add) (rCatB X.K) := by
  intro pins s σ H x y v u Q I rx ry h
  rcases h with h | h | h
  · exact op_catL pins s σ H x y v u Q I rx ry h
  · exact op_catA pins s σ H x y v u Q I rx ry h
  · exact op_addN pins s σ H x y v u Q I rx ry h
def rSlB (K : PySem.W.Frag) : V → Option Int → Option Int → Hp → VK → Prop := fun x lo hi H Q => rSlL K x lo hi H Q ∨ rSlA K x lo hi H Q
theorem sl_B : SlR X (rSlB X.K) := by
  intro pins s σ H x v vl vu lo hi sl Q I rx hs pl pu h
  rcases h with h | h
  · exact sl_list pins s σ H x v vl vu lo hi sl Q I rx hs pl pu h
  · exact sl_tupA pins s σ H x v vl vu lo hi sl Q I rx hs pl pu h
/-- isinstance(x, (tuple, list)), the classes' tuple laid just now -/
def isTL : PyData → Bool | .tuple _ => true | .list _ => true | _ => false
def rIsTL (K : PySem.W.Frag) : List V → Hp → VK → Prop := fun xs H Q => ∃ (x : V) (tp : Addr) (d : PyData), xs = [x, .ref tp] ∧ H tp = some (.tup [.ty "tuple", .ty "list"]) ∧ Dp K H x d ∧ Q (.bl (isTL d)) H
theorem call_isTL : CallR X (.builtin "isinstance") (rIsTL X.K) := by
  intro pins s σ H xs us Q I r h
  obtain ⟨x, tp, d, rfl, ht, hd, q⟩ := h
  refine call_isiT pins s σ H _ us Q I r ⟨x, tp, _, _, [.type "tuple", .type "list"], isTL d, rfl, ht, .cons (.ty _) (.cons (.ty _) .nil), dp_ty hd, ?_, q⟩
  have k1 : PySem.W.kitOne X.K (.type (tyN d)) (.type "tuple") = some (isT d) := by
    apply kit_ty
    cases d <;> simp only [tyN, isT] <;> decide +kernel
  have k2 : PySem.W.kitOne X.K (.type (tyN d)) (.type "list") = some (isL d) := by
    apply kit_ty
    cases d <;> simp only [tyN, isL] <;> decide +kernel
  refine kitAny_cons k1 (fun e => kitAny_cons k2 (fun e2 => ?_) (fun e2 => ?_)) (fun e => ?_)
  · rw [kitAny_nil]
    cases d <;> simp [isT, isL, isTL] at e e2 ⊢
  · cases d <;> simp [isL, isTL] at e2 ⊢
  · cases d <;> simp [isT, isTL] at e ⊢
end
/-! ### t[::-1] of a tuple -/
section
variable {prog : Program} {w : World} {A : Around} {E : Value → Shared → Prop} {s : Shared}
theorem rev_adjust (n : Nat) : Builtin.Slice.sliceAdjust none none (-1) (n : Int) = ((n : Int) - 1, -1) := by
  unfold Builtin.Slice.sliceAdjust
  simp
theorem rev_places (n : Nat) : Builtin.Slice.slicePlaces ((n : Int) - 1) (-1) (-1) = n := by
  unfold Builtin.Slice.slicePlaces
  simp
  by_cases h : n = 0
  · subst h; simp
  · rw [if_pos (by omega)]
    omega
theorem rev_applied {sl : Addr} {u : Tok} {n : Nat} {Q : Int × Int × Nat → Shared → Prop} (hs : s.heap.IsSliceOf sl .none .none (.int (-1) u)) (h : Q ((n : Int) - 1, -1, n) s) :
    wpAny (model prog w) A (Builtin.Slice.sliceApplied (.ref sl) (pure (n : Int))) Q E s := by
  obtain ⟨os, hos, hcs, hds⟩ := id hs
  unfold Builtin.Slice.sliceApplied Builtin.Slice.sliceFields
  refine wpAny_bind (wpAny_bind ?_)
  refine wpAny_field hos hds (x := .none) rfl (wpAny_bind ?_)
  refine wpAny_field hos hds (x := .none) rfl (wpAny_bind ?_)
  refine wpAny_field hos hds (x := .int (-1) u) rfl (wpAny_pure ?_)
  refine wpAny_bind (slicePart_int ?_)
  show wpAny _ _ (if ((-1 : Int) == 0) = true then _ else _) _ _ s
  rw [if_neg (by decide)]
  refine wpAny_bind (slicePart_none (wpAny_bind (slicePart_none (wpAny_bind (wpAny_pure ?_)))))
  show wpAny _ _ (match Builtin.Slice.sliceAdjust none none (-1) (n : Int) with | (lo, hi) => pure (lo, (-1 : Int), Builtin.Slice.slicePlaces lo hi (-1))) _ _ s
  rw [rev_adjust n]
  show wpAny _ _ (pure ((n : Int) - 1, (-1 : Int), Builtin.Slice.slicePlaces ((n : Int) - 1) (-1) (-1))) _ _ s
  rw [rev_places]
  exact wpAny_pure h
theorem rev_pick (xs : Array Value) : ((List.range xs.size).filterMap fun (m : Nat) => xs[((xs.size : Int) - 1 + (m : Int) * (-1)).toNat]?).toArray = xs.toList.reverse.toArray := by
  congr 1
  obtain ⟨l⟩ := xs
  simp only [List.size_toArray, List.getElem?_toArray]
  have e : (List.range l.length).filterMap (fun (m : Nat) => l[((l.length : Int) - 1 + (m : Int) * (-1)).toNat]?) = (List.range l.length).filterMap (fun m => l.reverse[m]?) := by
    have g : ∀ (ms : List Nat), (∀ m ∈ ms, m < l.length) → ms.filterMap (fun (m : Nat) => l[((l.length : Int) - 1 + (m : Int) * (-1)).toNat]?) = ms.filterMap (fun m => l.reverse[m]?) := by
      intro ms
      induction ms with
      | nil => intro _; rfl
      | cons m ms ih =>
        intro hm
        have hm' : m < l.length := hm m (by simp)
        rw [List.filterMap_cons, List.filterMap_cons, ih fun x hx => hm x (by simp [hx]), List.getElem?_reverse hm', show ((l.length : Int) - 1 + (m : Int) * (-1)).toNat = l.length - 1 - m from by omega]
    exact g _ fun m hm => List.mem_range.mp hm
  rw [e]
  have e2 : ∀ r : List Value, (List.range r.length).filterMap (fun m => r[m]?) = r := by
    intro r
    induction r with
    | nil => rfl
    | cons x r ih =>
      rw [List.length_cons, List.range_succ_eq_map, List.filterMap_cons]
      simp only [List.getElem?_cons_zero, List.filterMap_map]
      congr 1
  have := e2 l.reverse
  rw [List.length_reverse] at this
  exact this
theorem getItem_tuple_rev {t sl : Addr} {items : Array Value} {u : Tok} {Q : Value → Shared → Prop} (ht : IsTup s.heap t items) (hs : s.heap.IsSliceOf sl .none .none (.int (-1) u))
    (h : Q (.ref s.heap.objs.size) { s with heap := s.heap.push { cls := .type "tuple", data := .seq items.toList.reverse.toArray } }) (hsz : items.size ≤ sizeLine) : wpAny (model prog w) A (getItem (.ref t) (.ref sl)) Q E s := by
  have hr : sizeOk (.seq items.toList.reverse.toArray) := by
    show items.toList.reverse.toArray.size ≤ sizeLine
    simpa using hsz
  obtain ⟨os, hos, hcs, hds⟩ := id hs
  have hTs : s.TypeIs (.ref sl) "slice" := ⟨os, hos, hcs⟩
  unfold getItem
  try with_reducible refine wpAny_holding ?_
  first | skip | refine wpAny_bind (wpAny_pure ?_)
  refine wpAny_bind (wpAny_sequenceKey ht.typeIs (by decide) ?_)
  refine wpAny_bind (wpAny_callSpecial?_slot (name := Str.ofString "__getitem__") ht.typeIs PyProof.Rows.slot_tuple_getitem (wpAny_call_entry PyProof.Rows.slot_tuple_getitem ht.typeIs entry_tuple_getitem ?_ (args_tuple_getitem _ _)))
  show wpAny _ _ (Builtin.Tuple.tupleItemsOf (.ref t) >>= _) _ _ s
  refine wpAny_bind (tupleItemsOf_ ht ?_)
  refine wpAny_bind (wpAny_typeOf hTs ?_)
  rw [if_pos (by decide)]
  refine wpAny_bind (rev_applied hs ?_)
  show wpAny _ _ (if ((items.size : Int) - 1 == 0 && (-1 : Int) == 1 && items.size == items.size) = true then _ else _) _ _ s
  rw [if_neg (by simp), rev_pick]
  first
    | exact wpAny_bind (m := Builtin.Tuple.tupleExact _) (wpAny_newObj_type (wpAny_pure ⟨_, rfl, wpAny_pure h⟩) hr)
    | exact wpAny_bind (m := Builtin.Tuple.tupleExact _) (wpAny_newObj_type (wpAny_bind (wpAny_pure (wpAny_pure ⟨_, rfl, wpAny_pure h⟩))) hr)
    | exact wpAny_bind (wpAny_bind (m := Builtin.Tuple.tupleExact _) (wpAny_newObj_type (wpAny_pure (wpAny_pure ⟨_, rfl, wpAny_pure h⟩)) hr))
    | exact wpAny_bind (wpAny_bind (m := Builtin.Tuple.tupleExact _) (wpAny_newObj_type (wpAny_pure ⟨_, rfl, wpAny_pure h⟩) hr))
end
section
variable {X : Cx}
def tRevB (K : PySem.W.Frag) (te : TE) : TE := fun σ H Q => te σ H fun x H1 => (∃ a xs, x = .ref a ∧ SqL K H1 a xs ∧ ∀ p, H1 p = none → Q (.ref p) (upd H1 p (.lst xs.reverse))) ∨ ∃ a xs, x = .ref a ∧ SqT K H1 a xs ∧ ∀ p, H1 p = none → Q (.ref p) (upd H1 p (.tup xs.reverse))
theorem pe_revB {e : Expr} {te : TE} {k : Nat} {p1 p2 p3 pos : Pos} (he : PE X e te) : PE X (.Subscript e (.Slice none none (some (.UnaryOp .USub (.Constant (.int 1) k p1) p2)) p3) pos) (tRevB X.K te) := by
  constructor
  intro pins s σ H Q I h
  refine Subscript_ (thn (he.run pins s σ H _ I h) ?_)
  rintro v s1 ⟨x, H1, I1, r1, q1⟩
  have step : PO X (some (.UnaryOp .USub (.Constant (.int 1) k p1) p2)) (tPart (tUn (rU fun i => .int (-i)) (tC (.int 1)))) := po_some (pe_un un_neg pe_int)
  refine wpAny_Slice (thn (po_none.run pins s1 σ H1 (fun o H2 => o = none ∧ H2 = H1) I1 ⟨rfl, rfl⟩) ?_)
  rintro vl s2 ⟨l, H2, I2, pl, rfl, rfl⟩
  refine thn (po_none.run pins s2 σ H2 (fun o H3 => o = none ∧ H3 = H2) I2 ⟨rfl, rfl⟩) ?_
  rintro vu s3 ⟨u, H3, I3, pu, rfl, rfl⟩
  refine thn (step.run pins s3 σ H3 (fun o H4 => o = some (-1) ∧ H4 = H3) I3 ⟨1, rfl, -1, rfl, rfl, rfl⟩) ?_
  rintro vs s4 ⟨o, H4, I4, ps, rfl, rfl⟩
  have I5 := I4.kept (h' := s4.heap.push { cls := .type "slice", data := .fields #[vl, vu, vs] }) (t' := s4.toks) fun b ob q => Heap.get?_push_of_some _ q
  rcases q1 with ⟨a, xs, rfl, hx, q⟩ | ⟨a, xs, rfl, hx, q⟩
  · cases r1
    obtain ⟨its, r, ht, hz⟩ := I5.list hx
    have hlen := r.length
    refine tail_any (ops := [.ref a, .ref s4.heap.objs.size]) ht.isList.typeIs (PySem.slot_list_getitem.lookup) ?_ (by with_unfolding_all rfl)
    refine wpAny_getItem_list_slice ht.isList (Heap.IsSliceOf.new _ vl vu vs) pl pu ps (by decide) ?_ (by simp only [List.size_toArray]; omega)
    rw [PySem.W.krv_pick]
    have I6 := I5.laid (a := (s4.heap.push { cls := .type "slice", data := .fields #[vl, vu, vs] }).objs.size) (t' := s4.toks) (o := .lst xs.reverse) (fun b ob q => Heap.get?_push_of_some _ q) (Nat.le_refl _) ⟨by rw [List.length_reverse]; exact hz, _, 0, r.reverse, Heap.get?_push_size _ rfl⟩
    exact ⟨.ref _, _, I6, rfl, q _ (I5.hok.fresh (Nat.le_refl _))⟩
  · cases r1
    obtain ⟨its, r, ht, hz⟩ := I5.tuple hx
    have hlen := r.length
    cases pl
    cases pu
    cases ps
    rename_i tk
    refine tail_any (ops := [.ref a, .ref s4.heap.objs.size]) ht.typeIs (PyProof.Rows.slot_tuple_getitem.lookup) ?_ (by with_unfolding_all rfl)
    refine getItem_tuple_rev ht (Heap.IsSliceOf.new _ .none .none (.int (-1) tk)) ?_ (by simp only [List.size_toArray]; omega)
    have hg := Heap.get?_push_size (s4.heap.push { cls := .type "slice", data := .fields #[.none, .none, .int (-1) tk] }) (o := { cls := .type "tuple", data := .seq its.reverse.toArray }) rfl
    have I6 := I5.laid (a := (s4.heap.push { cls := .type "slice", data := .fields #[.none, .none, .int (-1) tk] }).objs.size) (t' := s4.toks) (o := .tup xs.reverse) (fun b ob q => Heap.get?_push_of_some _ q) (Nat.le_refl _) ⟨by rw [List.length_reverse]; exact hz, _, r.reverse, ⟨_, hg, rfl, _, rfl⟩⟩
    exact ⟨.ref _, _, I6, rfl, q _ (I5.hok.fresh (Nat.le_refl _))⟩
end
end PS

namespace PS
open PySem PySem.Spec PyProof.Rows L2
/-! ### l.count(x) of data -/
def rCountD (K : PySem.W.Frag) : V → List V → Hp → VK → Prop := fun x xs H Q => ∃ (a : Addr) (y : V) (d : PyData) (ds : List PyData), x = V.ref a ∧ xs = [y] ∧ Dp K H (V.ref a) (.list ds) ∧ Dp K H y d ∧
  SeqAt.shaped (.list ds) = true ∧ SeqAt.shaped d = true ∧ d.depth ≤ 60 ∧ Q (.int (ds.countP (fun z => PyData.eqv z d) : Nat)) H
theorem mt_lcountD {X : Cx} (hu : X.A.units + 64 < cLine) : MtR X "list.count" (rCountD X.K) := by
  intro pins s σ H x xs v us Q I rx rxs h
  obtain ⟨a, y, d, ds, rfl, rfl, hl, hy, sl, sd, d60, q⟩ := h
  cases rx
  cases rxs with
  | cons ry rt =>
    rename_i uy ut
    cases rt
    obtain ⟨bs, r1⟩ := Dp.reads I d y uy hy ry
    have hxs : PyData.canLayAll0 ds = true := SeqAt.canLay_of_shaped sl
    have hroom : X.A.units + 1 + min (PyData.depthAll ds) d.depth < cLine := by
      have := Nat.min_le_right (PyData.depthAll ds) d.depth
      omega
    cases hl with
    | lst hs ha =>
      obtain ⟨its, rv, ⟨⟨cls, dd, data, sls⟩, n, ho, hc, hdn, hdt⟩, hlen⟩ := I.list hs
      simp only at hc hdt
      subst hc hdt
      obtain ⟨as, h4⟩ := Dp.readsAll I ds _ its ha rv
      have hmap : its.map (SeqAt.readOf s.heap) = ds := SeqAt.readsAll_map ds its as hxs h4
      refine call_meets PySem.F.slot_list_count ⟨_, ho, rfl⟩ PySem.F.entry_list_count (PySem.F.args_list_count_2 _ _)
        (SeqAt.list_countAt a its.toArray n dd sls uy (fun u => PyData.eqv (SeqAt.readOf s.heap u) d)) ⟨ho, SeqAt.items_eqAt (vs := its.toArray) (show ReadsAll s.heap its.toArray.toList ds as from h4) r1 hxs (SeqAt.canLay_of_shaped sd) hroom, ?_⟩
      refine ⟨.int _, H, I.tok _, ⟨_, rfl⟩, ?_⟩
      rw [← hmap, List.countP_map] at q
      exact q
theorem canLay_iD : ∀ ns : List Int, PyData.canLayAll0 (iD ns) = true
  | [] => by simp [PyData.canLayAll0]
  | n :: ns => by
    show PyData.canLayAll0 (PyData.int n :: iD ns) = true
    simp [PyData.canLayAll0, PyData.canLay0]
    exact canLay_iD ns
theorem canLay_tI (ns : List Int) : (tI ns).canLay0 = true := by
  simp [PyData.canLay0]
  exact canLay_iD ns
theorem shaped_tI (ns : List Int) : SeqAt.shaped (tI ns) = true := by
  unfold SeqAt.shaped
  rw [canLay_tI, decide_eq_true (Nat.le_trans (depth_tI ns) (by decide))]
  rfl
theorem canLay_all : ∀ ds : List PyData, (∀ d ∈ ds, d.canLay0 = true) → PyData.canLayAll0 ds = true
  | [], _ => by simp [PyData.canLayAll0]
  | d :: ds, h => by
    simp only [PyData.canLayAll0, Bool.and_eq_true]
    exact ⟨h d (by simp), canLay_all ds fun x hx => h x (by simp [hx])⟩
theorem shaped_list {ds : List PyData} (h : ∀ d ∈ ds, d.canLay0 = true ∧ d.depth ≤ 63) : SeqAt.shaped (.list ds) = true := by
  unfold SeqAt.shaped
  have e1 : (PyData.list ds).canLay0 = true := by
    simp only [PyData.canLay0]
    exact canLay_all ds fun d hd => (h d hd).1
  have e2 : (PyData.list ds).depth ≤ 64 := by
    rw [PyData.depth]
    have := depthAll_le (n := 63) ds fun d hd => (h d hd).2
    omega
  rw [e1, decide_eq_true e2]
  rfl
end PS

namespace PS
open PySem PySem.Spec PyProof.Rows L2
/-! ### min(lists, key=len) -/
def tMinLen (K : PySem.W.Frag) (t : TA) : TE := fun σ H Q => t σ H fun vs H1 => ∃ (a : Addr) (xs : List V) (len : Nat → Nat), vs = [.ref a] ∧ SqL K H1 a xs ∧ 0 < xs.length ∧
  (∀ i v, xs[i]? = some v → ∃ c ys, v = .ref c ∧ SqL K H1 c ys ∧ ys.length = len i) ∧ ∀ i v, xs[i]? = some v → (∀ j, j < xs.length → len i ≤ len j) → Q v H1
theorem argBest_nat (num : Nat → Nat) : ∀ k, argBest (fun i j => decide ((num i : Int) < (num j : Int))) k ≤ k ∧ ∀ j, j ≤ k → num (argBest (fun i j => decide ((num i : Int) < (num j : Int))) k) ≤ num j
  | 0 => ⟨Nat.le_refl _, fun j hj => by
      have : j = 0 := by omega
      subst this; exact Nat.le_refl _⟩
  | k + 1 => by
    obtain ⟨h1, h2⟩ := argBest_nat num k
    simp only [argBest]
    by_cases hc : (num (k + 1) : Int) < (num (argBest (fun i j => decide ((num i : Int) < (num j : Int))) k) : Int)
    · rw [if_pos (decide_eq_true hc)]
      refine ⟨Nat.le_refl _, fun j hj => ?_⟩
      by_cases e : j = k + 1
      · subst e; exact Nat.le_refl _
      · have := h2 j (by omega)
        omega
    · rw [if_neg (by rw [decide_eq_false hc]; simp)]
      refine ⟨by omega, fun j hj => ?_⟩
      by_cases e : j = k + 1
      · subst e; omega
      · exact h2 j (by omega)
theorem call_minLen {X : Cx} (hc : X.calm = true) {pins : List (Addr × Obj)} {s : Shared} {σ : L2.St} {H : Hp} {Q : VK} (I : Inv X pins σ H s) {a : Addr} {xs : List V} {len : Nat → Nat} (hs : SqL X.K H a xs) (h0 : 0 < xs.length)
    (hl : ∀ i v, xs[i]? = some v → ∃ c ys, v = .ref c ∧ SqL X.K H c ys ∧ ys.length = len i) (q : ∀ i v, xs[i]? = some v → (∀ j, j < xs.length → len i ≤ len j) → Q v H) :
    wpAny (model X.prog X.w) X.A (call (.builtin "min") [.ref a] [(Str.ofString "key", .builtin "len")]) (EP X pins σ Q) X.xe s := by
  obtain ⟨its, rv, hil, _⟩ := I.list hs
  have hlen := rv.length
  refine call_min_walkKB (PySem.W.iter_listW (I.ok.hd hc) hil.isList fun s₂ e W st hfp hnew hold => ?_)
  refine ⟨_, _, _, _, _, _, _, fun s' => (∀ b o, s.heap.get? b = some o → s'.heap.get? b = some o) ∧ s'.gens = s.gens ∧ s'.drawn = s.drawn ∧ s'.os = s.os, fun i k _ => ∃ t, k = .int (len i : Nat) t, fun i j => decide ((len i : Int) < (len j : Int)), rfl, W, st, hfp, by simp; omega, ⟨?_, ?_, ?_, ?_⟩, ?_, ?_⟩
  · intro s1 s2 hJ hM
    refine ⟨fun b o hb => hM.heap b o (fun hm => ?_) (hJ.1 b o hb), ?_, hM.drawn.trans hJ.2.2.1, hM.os.trans hJ.2.2.2⟩
    · rcases List.mem_cons.mp hm with z | z
      · have hb' := Heap.lt_size (hold b o hb)
        rw [z] at hb'
        exact Nat.lt_irrefl _ hb'
      · exact hnew b o hb z
    · have := hM.gens
      exact this.trans hJ.2.1
  · intro i k s1 s2 hV _
    exact hV
  · intro i v s1 o Q1 E1 hi hP hJ hst hS hQ
    have hv : its[i]? = some v := by simpa using hP
    have hi' : i < its.length := (List.getElem?_eq_some_iff.mp hv).1
    have hx : xs[i]? = some xs[i] := List.getElem?_eq_getElem (by omega)
    obtain ⟨u, hu, ru⟩ := rv.get hx
    rw [hv] at hu
    cases Option.some.inj hu
    obtain ⟨c, ys, ec, hsc, hyl⟩ := hl i _ hx
    rw [ec] at ru
    cases ru
    obtain ⟨cits, cr, ⟨co, cn, ho, hcc, hcd, hcs⟩, hz⟩ := I.list hsc
    have hcl := cr.length
    have hil' : s1.heap.IsList c cits.toArray := ⟨co, hJ.1 _ _ ho, hcc, cn, hcs⟩
    have hn := line63
    have hsz := sizeLine_eq
    refine Calls.call_len_list hil' (by simp only [List.size_toArray]; omega) ?_
    refine hQ _ _ ⟨hJ.1, hJ.2.1, hJ.2.2.1, hJ.2.2.2⟩ ?_ hS ⟨s1.toks + 1, ?_⟩ (fun _ _ h => h)
    · exact W.frame (i + 1) s1 s1.heap _ hst (by omega) fun b _ o e => e
    · rw [List.size_toArray, ← hcl, hyl]
  · intro i j ki kj s1 Q1 E1 hJ hi hj hq
    obtain ⟨t, rfl⟩ := hi
    obtain ⟨u, rfl⟩ := hj
    exact richCompare_gives (op := .Lt) (typeIs_int s1 _ t) (typeIs_int s1 _ u) F.slot_int_lt F.entry_int_lt (F.args_int_lt_2 _ _) (gives_int_lt _ _ t u) (fun x => nomatch x) hq
  · subst e
    exact ⟨hold, rfl, rfl, rfl⟩
  · intro v s' hP hJ
    have hb := argBest_nat len (its.toArray.size - 1)
    have hits : its.toArray.size = its.length := by simp
    have hP' : its[argBest (fun i j => decide ((len i : Int) < (len j : Int))) (its.toArray.size - 1)]? = some v := by simpa using hP
    have hidx : argBest (fun i j => decide ((len i : Int) < (len j : Int))) (its.toArray.size - 1) < xs.length := by
      have := (List.getElem?_eq_some_iff.mp hP').1
      omega
    have hx := List.getElem?_eq_getElem hidx
    obtain ⟨u, hu, ru⟩ := rv.get hx
    rw [hP'] at hu
    cases Option.some.inj hu
    have hs' : s' = { s with heap := s'.heap, toks := s'.toks } := by
      obtain ⟨h1, h2, h3, h4⟩ := hJ
      cases s'
      cases s
      simp only at h2 h3 h4
      subst h2 h3 h4
      rfl
    rw [hs']
    exact ⟨_, H, I.kept hJ.1, ru, q _ _ hx fun j hj => hb.2 j (by omega)⟩
theorem pe_minLen {X : Cx} {e : Expr} {t : TA} {p p2 kp pos : Pos} (hc : X.calm = true) (hg : Gl X "min") (hm : X.mg "min" = none) (hgl : Gl X "len") (hml : X.mg "len" = none) (ha : PA X [e] t)
    (he : backTo pos (starEach [e] X.env) = (false, eval e X.env) :: backTo pos (starEach [] X.env) := by rfl) (hpl : (backTo pos (starEach [e] X.env)).any (·.1) = false := by rfl) :
    PE X (.Call (.Name "min" p) [e] [⟨some "key", .Name "len" p2, kp⟩] pos) (tMinLen X.K t) := by
  refine ⟨fun pins s σ H Q I h => ?_⟩
  refine wpAny_Call_Name_kw (ld_blt I hg hm PyProof.Rows.boot_min ?_)
  refine PyProof.Rows.callWith_kw (thn (ha.run pos pins s σ H _ I h) ?_) he hpl rfl rfl
  rintro us s1 ⟨vs, H1, I1, r1, a, xs, len, rfl, hs, h0, hl, q⟩
  rw [Vals.ref1 r1]
  show wpAny _ _ (evalAll [do let v ← eval (.Name "len" p2) X.env; standAt pos; pure v]) _ _ s1
  refine wpAny_evalAll_cons (wpAny_bind (ld_blt I1 hgl hml PySem.boot_len (wpAny_bind (wpAny_standAt (wpAny_pure ?_)))))
  exact wpAny_evalAll_nil (call_minLen hc I1 hs h0 hl q)
end PS

namespace PS
/-! ### sorted(d), d a dict whose keys are tuples of ints, any number of them -/
section
open PySem PySem.W PySem.Calls PyProof.Rows PyProof.V PySem.Spec
variable {prog : Program} {w : World} {A : Around} {E : Value → Shared → Prop} {s : Shared} {T : String} {r d : Addr} {n : Nat} {P : Nat → Value → Prop} {OK : Heap → Prop}
theorem collectK {R : List Value → Shared → Prop} (K : KdlSrc prog w T r d n P OK) (hh : A.handled = none) (hok : OK s.heap) (hn : n ≤ sizeLine)
    (h : ∀ (h' : Heap) (tk : Nat) (acc : Array Value), (∀ b o, s.heap.get? b = some o → h'.get? b = some o) → s.heap.objs.size < h'.objs.size → ItemsOf P acc n → R acc.toList { s with heap := h', toks := tk }) :
    wpAny (model prog w) A (collect (.ref r)) R E s := by
  have hlt := K.there _ hok
  unfold collect
  refine wpAny_bind (wpAny_runValue (codeAny_builtin entry_proto_collect' ?_))
  rw [Around.under_plainId PySem.F.plain_proto_collect _]
  refine wpAny_bind (wpAny_newObj_type (wpAny_pure ⟨plainId_quiet PySem.F.plain_list_iadd _, codeAny_builtin entry_list_iadd' ?_⟩))
  rw [Around.under_plainId PySem.F.plain_list_iadd _]
  have hS : (s.heap.push { cls := .type "list", data := .seq ([] : List Value).toArray }).get? s.heap.objs.size = some { cls := .type "list", data := .seq #[] } := Heap.get?_push_size _ rfl
  have key := kdl_extend (A := A) (s := { s with heap := s.heap.push { cls := .type "list", data := .seq ([] : List Value).toArray } })
    (R := fun (q : Result) (s' : Shared) => ∃ (h' : Heap) (tk : Nat) (acc : Array Value) (c : Nat), q = .ok (.ret (.ref s.heap.objs.size)) ∧ s' = { s with heap := h', toks := tk } ∧ (∀ b o, s.heap.get? b = some o → h'.get? b = some o) ∧ h'.get? s.heap.objs.size = some { cls := .type "list", dict := none, data := .seq acc c, slots := #[] } ∧ ItemsOf P acc n)
    K hh (K.keep _ _ hok fun b _ o e => Heap.get?_push_of_some _ e) s.heap.objs.size (Nat.ne_of_gt hlt.1) (Nat.ne_of_gt hlt.2) (.ref s.heap.objs.size) 0 hS
    (fun h' tk acc c hk hS' hi => ⟨h', tk, acc, c, rfl, rfl, fun b o e => hk b o (Nat.ne_of_lt (Heap.lt_size e)) (Heap.get?_push_of_some _ e), hS', hi⟩) hn
  refine wpAny_mono key (fun fin s' x => ?_) fun e s' x => ?_
  · cases fin with
    | done f =>
      obtain ⟨h', tk, acc, c, e, rfl, hk, hS', hi⟩ := x
      cases e
      exact wpAny_bind (wpAny_load hS' (wpAny_pure (h h' tk acc hk (Heap.lt_size hS') hi)))
    | again c₁ =>
      refine ⟨x.1, codeAny_mono x.2 fun q s₂ y => ?_⟩
      obtain ⟨h', tk, acc, c, rfl, rfl, hk, hS', hi⟩ := y
      exact wpAny_bind (wpAny_load hS' (wpAny_pure (h h' tk acc hk (Heap.lt_size hS') hi)))
  · obtain ⟨_, _, _, _, e', _⟩ := x
    cases e'
theorem swo_by (f : Value → Int) : SrtO.Swo fun v u => decide (f v < f u) := by
  refine ⟨fun x y h => ?_, fun x y z h1 h2 => ?_⟩
  · have := of_decide_eq_true h
    exact decide_eq_false (by omega)
  · have a := of_decide_eq_false h1
    have b := of_decide_eq_false h2
    exact decide_eq_false (by omega)
theorem tups_sortable {a : Addr} {vs : List Value} {dd : Nat} {B : Int} {f : Value → Int} (hd : 1 ≤ dd) (h0 : 0 < vs.length) (x : ∀ v ∈ vs, ∃ ns, TS.TupInts s.heap v ns ∧ ns.length = dd ∧ TS.Bd B ns ∧ f v = TS.code B ns) (ha : ∀ o, s.heap.get? a = some o → o.cls ≠ .type "tuple") :
    SrtO.SortableO prog w A s a vs fun v u => decide (f v < f u) := by
  intro h' keep
  have x' : ∀ v ∈ vs, ∃ ns, TS.TupInts h' v ns ∧ ns.length = dd ∧ TS.Bd B ns ∧ f v = TS.code B ns := fun v hv => by
    obtain ⟨ns, t, r⟩ := x v hv
    exact ⟨ns, t.keeps fun b o e c => keep b o (fun z => by subst z; exact ha o e c) e, r⟩
  obtain ⟨fs, k, hl, hi⟩ := TS.firsts_of (d := dd) (B := B) hd vs fun v hv => by
    obtain ⟨ns, t, l, b, _⟩ := x' v hv
    exact ⟨ns, t, l, b⟩
  refine ⟨tuples' true, fun Q E hq => ?_, fun p q hp hq => ?_⟩
  · refine kat_kind (T := .type "int") k (by omega) (fun f hm => ?_) (by rfl) ?_
    · obtain ⟨x, t, rfl⟩ := hi f hm
      exact Looks.of_pure rfl
    · have e : (Value.type "int" != Value.type "tuple") = true := by first | decide +kernel | rfl | decide
      rw [e]
      exact hq
  · obtain ⟨ns, ⟨a1, xs, e1, ⟨o, ho, hc, m, hdt⟩, i⟩, lp, bp, ep⟩ := x' _ hp
    obtain ⟨ms, ⟨a2, ys, e2, ⟨o', ho', hc', m', hdt'⟩, i'⟩, lq, bq, eq⟩ := x' _ hq
    show wpAny (model prog w) A (keyLt' (tuples' true) p.1 q.1) (fun r s' => s' = _ ∧ r = decide (f p.1 < f q.1)) _ _
    rw [ep, eq, e1, e2]
    refine kat_lt ho hdt ho' hdt' ?_
    have sz : decide (xs.size < ys.size) = false := by
      have l1 := i.length
      have l2 := i'.length
      rw [Array.length_toList] at l1 l2
      exact decide_eq_false (by omega)
    rw [sz]
    exact TS.lex_ints 0 i i' (by omega) bp bq ⟨rfl, rfl⟩
end
section
open PySem PySem.Spec PyProof.Rows L2
variable {X : Cx}
def rSortD : List V → Hp → VK → Prop := fun vs H Q => ∃ (a : Addr) (kvs : List (List Key × V)) (d : Nat) (B : Int), vs = [.ref a] ∧ 1 ≤ d ∧ Rd H a (.dT kvs) ∧ (∀ p ∈ kvs, ∃ ns : List Int, p.1 = ns.map Sum.inl ∧ ns.length = d ∧ TS.Bd B ns) ∧
  ∀ (p : Addr) (bs cs : List Addr), H p = none → IsKeys H kvs bs → cs.Perm bs → Q (.ref p) (upd H p (.lst (cs.map V.ref)))
theorem refs_perm : ∀ {out : List Value} {bs : List Addr}, out.Perm (bs.map Value.ref) → ∃ cs : List Addr, out = cs.map Value.ref ∧ cs.Perm bs := fun {out bs} h => by
  obtain ⟨zs, pz, ez⟩ := perm_lift Value.ref h bs rfl
  exact ⟨zs, ez.symm, pz⟩
theorem cr_sortD (hc : X.calm = true) : CallR X (.builtin "sorted") rSortD := by
  intro pins s σ H xs us Q I r h
  obtain ⟨a, kvs, d, B, rfl, hd, ha, hk, q⟩ := h
  obtain ⟨u, rfl, rx⟩ := r.one
  cases rx
  obtain ⟨z, hs, ks, pr, o, es, ep, ho, hx, hdt, he, hn⟩ := (show ObjOk X.prog X.w H s.heap a (.dT kvs) from ha.ok I.hok)
  have l1 : es.size = ks.length := size_of_entries he
  have l2 : kvs.length = ks.length := Paired.length pr
  have hh := I.ok.hd hc
  refine PySem.Calls.call_function_entry kind_sorted plain_sorted entry_sorted (args_sorted1 _) ?_
  unfold Builtin.«sorted»
  refine wpAny_bind (m := checkCount "sorted" 1 1 _) (wpAny_pure ?_)
  refine wpAny_bind (collectK (A := X.A.in1) (kdl_raw hs hx hdt) hh ho (by omega) fun h' tk acc kp hlt it => ?_)
  have el : acc.toList.length = ks.length := by rw [Array.length_toList, it.1]; exact l1
  have ea : acc.toList = (ks.map fun x => x.2.1).map Value.ref := by
    apply List.ext_getElem?
    intro j
    rw [List.map_map, List.getElem?_map]
    cases hj : acc.toList[j]? with
    | none =>
      have h1 := List.getElem?_eq_none_iff.mp hj
      rw [List.getElem?_eq_none (by omega)]
      rfl
    | some v =>
      obtain ⟨en, hen, hv⟩ := it.2 j v (by rw [← Array.getElem?_toList]; exact hj)
      have qe := entry_at he j
      rw [hen] at qe
      cases hb : ks[j]? with
      | none =>
        rw [hb] at qe
        exact nomatch (show some en = none from qe)
      | some b =>
        rw [hb] at qe
        have e2 : en = entryOfKey (tupleKind (mixKind X.prog X.w)) b := Option.some.inj qe
        rw [hv, e2]
        rfl
  have hz : acc.toList.length ≤ sizeLine := by omega
  refine wpAny_bind (wpAny_newList ?_ hz)
  generalize hvs : acc.toList = vs at *
  have ik := isKeys_of pr
  have hb : ∀ v ∈ vs, ∃ ns, TS.TupInts s.heap v ns ∧ ns.length = d ∧ TS.Bd B ns := fun v hv => by
    rw [ea] at hv
    obtain ⟨b, hb, rfl⟩ := List.mem_map.mp hv
    obtain ⟨j, hj⟩ := List.mem_iff_getElem?.mp hb
    obtain ⟨p, hp, hpb⟩ := DX.pget ik hj
    obtain ⟨ns, e, l, bd⟩ := hk p (List.mem_of_getElem? hp)
    rw [e, List.map_map] at hpb
    exact ⟨ns, tupI_raw I (.inl (.inl hpb)), l, bd⟩
  have hf : ∀ b : Addr, s.heap.get? b ≠ none → b ≠ h'.objs.size := fun b e z => by
    cases e2 : s.heap.get? b with
    | none => exact e e2
    | some o2 => exact Nat.lt_irrefl b (by have q := Heap.lt_size (kp b o2 e2); rw [← z] at q; exact q)
  have hoL : (h'.push (seqObj "list" vs.toArray 0)).get? h'.objs.size = some (seqObj "list" vs.toArray 0) := Heap.get?_push_size _ rfl
  have kb : ∀ b o2, s.heap.get? b = some o2 → (h'.push (seqObj "list" vs.toArray 0)).get? b = some o2 := fun b o2 e => Heap.get?_push_of_some _ (kp b o2 e)
  refine wpAny_bind (wpAny_holding (wpAny_call_entry slot_list_sort ⟨_, hoL, rfl⟩ entry_list_sort (SrtO.list_sort_ord (s := { s with heap := h'.push (seqObj "list" vs.toArray 0), toks := tk }) (swo_by fun v => TS.code B (TS.intsOf s.heap v)) hoL hz (fun h2 => tups_sortable (dd := d) (B := B) hd (by omega) (fun v hv => ?_) fun o2 e => ?_) fun out h1 h2 => ⟨_, rfl, ?_⟩) (args_list_sort _)))
  · obtain ⟨ns, t, l, bd⟩ := hb v hv
    exact ⟨ns, t.keeps fun b o2 e _ => kb b o2 e, l, bd, by rw [t.ints]⟩
  · have e' : some o2 = some (seqObj "list" vs.toArray 0) := e.symm.trans hoL
    cases e'
    intro c
    exact absurd (Value.type.inj c) (by decide)
  · refine wpAny_pure ⟨_, rfl, ?_⟩
    obtain ⟨cs, eo, pc⟩ := refs_perm (out := out) (bs := ks.map fun x => x.2.1) (ea ▸ h2.perm)
    obtain ⟨eF, heF⟩ := sortedHeap_at (vs := vs) (out := out.toArray) hoL
    have kS : ∀ b o2, s.heap.get? b = some o2 → (sortedHeap (h'.push (seqObj "list" vs.toArray 0)) h'.objs.size vs out.toArray).get? b = some o2 := fun b o2 e =>
      (sortedHeap_old (hf b (by rw [e]; exact fun z => nomatch z)) (Heap.lt_size (kb b o2 e))).trans (kb b o2 e)
    have hlen : (cs.map V.ref).length ≤ sizeLine := by
      rw [List.length_map, pc.length_eq, List.length_map]
      omega
    have rv : Vals (cs.map V.ref) out := by
      rw [eo]
      exact vals_refs cs
    exact ⟨.ref h'.objs.size, upd H h'.objs.size (.lst (cs.map V.ref)), I.laid (t' := tk) kS (Nat.le_of_lt hlt) ⟨hlen, out, eF, rv, heF⟩, rfl, q _ _ cs (I.hok.fresh (Nat.le_of_lt hlt)) ik pc⟩
/-! ### {k: v}, k a tuple -/
def tDisp1T (tk tv : TE) : TE := fun σ H Q => ∀ p, H p = none → tk σ (upd H p (.dT [])) fun y H1 => tv σ H1 fun z H2 => ∃ (ks : List Key) (b : Addr), y = .ref b ∧ H2 b = some (.tup (ks.map kV)) ∧ H2 p = some (.dT []) ∧ Q (.ref p) (upd H2 p (.dT [(ks, z)]))
theorem pe_disp1T {pos : Pos} {k v : Expr} {tk tv : TE} (hu : X.A.units + 1 < cLine) (hk : PE X k tk) (hv : PE X v tv) : PE X (.Dict [some k] [v] pos) (tDisp1T tk tv) := by
  refine ⟨fun pins s σ H Q I q => ?_⟩
  have hn := I.hok.fresh (Nat.le_refl s.heap.objs.size)
  have I1 := I.laid (a := s.heap.objs.size) (o := .dT []) (h' := s.heap.push { cls := .type "dict", data := .dict #[] }) (t' := s.toks) (fun _ _ q => Heap.get?_push_of_some _ q) (Nat.le_refl _) (dt_empty s.heap I.big)
  have hl := pairTrees_length [some k] [v] X.env pos rfl rfl
  have h0 : pairTrees [some k] [v] X.env pos ≠ [] := fun z => by rw [z] at hl; cases hl
  have h1 : (pairTrees [some k] [v] X.env pos).length ≤ 15 := by rw [hl]; show 1 ≤ 15; decide
  rw [arm_eval_Dict, zip_pairTrees [some k] [v] X.env pos rfl rfl, dictDisplay_pairs _ h0 (by omega)]
  refine wpAny_bind (wpAny_standAt (wpAny_bind (wpAny_subDictH (knd := tupleKind (mixKind X.prog X.w)) (by show X.A.units < cLine; omega) h1 ?_)))
  refine pairTrees_cons_walk (thn (hk.run pins _ σ _ _ I1 (q _ hn)) fun kv s2 ⟨y, H1, I2, ry, q1⟩ => thn (hv.run pins s2 σ H1 _ I2 q1) fun vv s3 ⟨z, H2, I3, rz, ks, b, ey, eb, ep, q2⟩ => pairTrees_nil_walk ?_)
  subst ey
  obtain rfl : kv = Value.ref b := ry
  obtain ⟨_, hd, xs, rel, dd⟩ := dt_of I3.hok ep
  cases rel
  refine ⟨[(ks, b, vv)], ⟨rfl, rfl, key_of I3.hok eb, trivial⟩, dd, fun h' tk dd' hs => wpAny_pure ⟨.ref s.heap.objs.size, _, ?_, rfl, q2⟩⟩
  obtain ⟨q, es, en, hq, h2, h3, h4, _, h5⟩ := dd'
  refine d_write I3 (by rw [ep]; exact True.intro) hs ⟨q, hq⟩ ⟨by show 1 ≤ sizeLine; decide, hd, [(ks, b, vv)], ?_, q, es, en, hq, h2, h3, h4, h5⟩
  refine Paired.cons ⟨rfl, ?_, rz⟩ Paired.nil
  rw [upd_ne (ne_of eb ep (fun z => nomatch z))]
  exact eb
end
end PS

namespace PS
open PySem PySem.Spec PyProof.Rows L2
/-! ### what the defs tell, over data -/
def within (d : PyData) (lo hi : Int) : Bool := match d with
  | .int i => if lo ≤ i then decide (i ≤ hi) else false
  | _ => false
def tupOf (d : PyData) (n : Int) : Bool := match d with
  | .tuple ds => decide ((ds.length : Int) = n)
  | _ => false
def areBlocks (d : PyData) : Bool := match d with
  | .tuple ds => if 1 ≤ (ds.length : Int) ∧ (ds.length : Int) ≤ 8 then ds.all (fun x => within x 1 50) else false
  | _ => false
def intOf : PyData → Int
  | .int i => i
  | _ => 0
def isShelf (d : PyData) : Bool := match d with
  | .tuple [r, .tuple bs] => if areBlocks (.tuple bs) = true then within r (bs.map intOf).sum ((bs.map intOf).sum + 400) else false
  | _ => false
theorem within_ints : ∀ {ds : List PyData} {lo hi : Int}, ds.all (fun x => within x lo hi) = true → ∃ ns : List Int, ds = iD ns ∧ ∀ n ∈ ns, lo ≤ n ∧ n ≤ hi
  | [], _, _, _ => ⟨[], rfl, by simp⟩
  | d :: ds, lo, hi, h => by
    rw [List.all_cons, Bool.and_eq_true] at h
    obtain ⟨ns, e, q⟩ := within_ints h.2
    cases d with
    | int i =>
      have h1 := h.1
      unfold within at h1
      simp only at h1
      by_cases hl : lo ≤ i
      · rw [if_pos hl] at h1
        have h2 := of_decide_eq_true h1
        exact ⟨i :: ns, by rw [e]; rfl, fun n hn => by
          rcases List.mem_cons.mp hn with rfl | hn
          · exact ⟨hl, h2⟩
          · exact q n hn⟩
      · rw [if_neg hl] at h1; cases h1
    | _ => simp [within] at h
theorem intOf_iD : ∀ ns : List Int, (iD ns).map intOf = ns
  | [] => rfl
  | n :: ns => by
    show n :: (iD ns).map intOf = n :: ns
    rw [intOf_iD ns]
/-- a shelf -/
abbrev shD (room : Int) (ls : List Int) : PyData := .tuple [.int room, tI ls]
structure ShOk (room : Int) (ls : List Int) : Prop where
  n1 : 1 ≤ ls.length
  n8 : ls.length ≤ 8
  l1 : ∀ l ∈ ls, 1 ≤ l ∧ l ≤ 50
  lo : ls.sum ≤ room
  hi : room ≤ ls.sum + 400
theorem areBlocks_ints {ds : List PyData} (h : areBlocks (.tuple ds) = true) : ∃ ls : List Int, ds = iD ls ∧ 1 ≤ ls.length ∧ ls.length ≤ 8 ∧ ∀ l ∈ ls, 1 ≤ l ∧ l ≤ 50 := by
  unfold areBlocks at h
  simp only at h
  split at h
  · rename_i hc
    obtain ⟨ls, rfl, q⟩ := within_ints h
    rw [List.length_map] at hc
    exact ⟨ls, rfl, by omega, by omega, q⟩
  · cases h
theorem all_within {ls : List Int} {lo hi : Int} (h : ∀ l ∈ ls, lo ≤ l ∧ l ≤ hi) : (iD ls).all (fun x => within x lo hi) = true := by
  rw [List.all_eq_true]
  intro x hx
  obtain ⟨l, hl, rfl⟩ := List.mem_map.mp hx
  unfold within
  simp only
  rw [if_pos (h l hl).1]
  exact decide_eq_true (h l hl).2
theorem areBlocks_ok {ls : List Int} (h1 : 1 ≤ ls.length) (h8 : ls.length ≤ 8) (h : ∀ l ∈ ls, 1 ≤ l ∧ l ≤ 50) : areBlocks (tI ls) = true := by
  unfold areBlocks
  simp only
  rw [if_pos ⟨by rw [List.length_map]; omega, by rw [List.length_map]; omega⟩]
  exact all_within h
theorem isShelf_ok {room : Int} {ls : List Int} (h : ShOk room ls) : isShelf (shD room ls) = true := by
  unfold isShelf
  simp only
  rw [if_pos (areBlocks_ok h.n1 h.n8 h.l1), intOf_iD]
  unfold within
  simp only
  rw [if_pos h.lo]
  exact decide_eq_true h.hi
end PS

namespace PS
open PySem PySem.Spec PyProof.Rows L2
/-! ### slices, walks -/
theorem cut_to (xs : List V) (k : Nat) : cutV xs none (some (k : Int)) = xs.take k := by
  unfold cutV
  rw [HT.sIx_none, HT.sIx_nat, List.drop_zero, Nat.sub_zero]
  by_cases h : k ≤ xs.length
  · rw [Nat.min_eq_left h]
  · rw [Nat.min_eq_right (by omega), List.take_length, List.take_of_length_le (by omega)]
theorem cut_from (xs : List V) (k : Nat) : cutV xs (some (k : Int)) none = xs.drop k := by
  unfold cutV
  rw [HT.sIx_none, HT.sIx_nat]
  by_cases h : k ≤ xs.length
  · rw [Nat.min_eq_left h, List.take_of_length_le (by rw [List.length_drop]; omega)]
  · rw [Nat.min_eq_right (by omega), Nat.sub_self, List.take_zero, List.drop_of_length_le (by omega)]
/-- t[:k] of a tuple, whatever it is -/
theorem slT_to {K : PySem.W.Frag} {H : Hp} {Q : VK} {a : Addr} {xs : List V} {k : Nat} (s : SqT K H a xs) (q : ∀ p H', Same H H' → SqT K H' p (xs.take k) → Q (.ref p) H') : rSlA K (.ref a) none (some (k : Int)) H Q := by
  refine ⟨a, xs, rfl, s, fun h => ?_, fun h p np => ?_⟩
  · have e : xs.take k = xs := List.take_of_length_le (by
      have := h.2
      rw [HT.sIx_nat] at this
      omega)
    exact q a H (Same.refl H) (by rw [e]; exact s)
  · rw [cut_to]
    exact q p _ (same_new np) (.inl (.inl upd_same))
theorem slT_from {K : PySem.W.Frag} {H : Hp} {Q : VK} {a : Addr} {xs : List V} {k : Nat} (s : SqT K H a xs) (q : ∀ p H', Same H H' → SqT K H' p (xs.drop k) → Q (.ref p) H') : rSlA K (.ref a) (some (k : Int)) none H Q := by
  refine ⟨a, xs, rfl, s, fun h => ?_, fun h p np => ?_⟩
  · have e : xs.drop k = xs := by
      have := h.1
      rw [HT.sIx_nat] at this
      by_cases hk : k = 0
      · subst hk; rfl
      · have : xs.length = 0 := by omega
        rw [List.length_eq_zero_iff.mp this]; simp
    exact q a H (Same.refl H) (by rw [e]; exact s)
  · rw [cut_from]
    exact q p _ (same_new np) (.inl (.inl upd_same))
theorem walk_2 {b1 b2 : Bool} {K : PySem.W.Frag} {a1 a2 : Addr} {xs ys : List V} {n : Nat} (hn : n = min xs.length ys.length) :
    Walk (It2 b1 b2 K a1 a2) n (fun H => SqK b1 K H a1 xs ∧ SqK b2 K H a2 ys) (fun i H v H' => ∃ T x y, v = .ref T ∧ H T = none ∧ H' = upd H T (.tup [x, y]) ∧ xs[i]? = some x ∧ ys[i]? = some y) where
  goes := fun i H hi g => ⟨xs, ys, xs[i], ys[i], g.1, g.2, List.getElem?_eq_getElem (by omega), List.getElem?_eq_getElem (by omega)⟩
  stops := fun H g => ⟨xs, ys, g.1, g.2, hn⟩
  yields := fun i H x H' hi g y => by
    obtain ⟨T, x, y, rfl, nT, rfl, f1, f2⟩ := y
    exact ⟨T, x, y, rfl, nT, rfl, f1 xs g.1, f2 ys g.2⟩
theorem walk_3 {b1 b2 b3 : Bool} {K : PySem.W.Frag} {a1 a2 a3 : Addr} {xs ys zs : List V} {n : Nat} (hn : n = min (min xs.length ys.length) zs.length) :
    Walk (It3 b1 b2 b3 K a1 a2 a3) n (fun H => SqK b1 K H a1 xs ∧ SqK b2 K H a2 ys ∧ SqK b3 K H a3 zs) (fun i H v H' => ∃ T x y z, v = .ref T ∧ H T = none ∧ H' = upd H T (.tup [x, y, z]) ∧ xs[i]? = some x ∧ ys[i]? = some y ∧ zs[i]? = some z) where
  goes := fun i H hi g => ⟨xs, ys, zs, xs[i], ys[i], zs[i], g.1, g.2.1, g.2.2, List.getElem?_eq_getElem (by omega), List.getElem?_eq_getElem (by omega), List.getElem?_eq_getElem (by omega)⟩
  stops := fun H g => ⟨xs, ys, zs, g.1, g.2.1, g.2.2, hn⟩
  yields := fun i H x H' hi g y => by
    obtain ⟨T, x, y, z, rfl, nT, rfl, f1, f2, f3⟩ := y
    exact ⟨T, x, y, z, rfl, nT, rfl, f1 xs g.1, f2 ys g.2.1, f3 zs g.2.2⟩
theorem walk_1 {b : Bool} {K : PySem.W.Frag} {a : Addr} {xs : List V} {n : Nat} (hn : n = xs.length) :
    Walk (It1 b K a) n (fun H => SqK b K H a xs) (fun i H v H' => ∃ T x, v = .ref T ∧ H T = none ∧ H' = upd H T (.tup [.int (i : Nat), x]) ∧ xs[i]? = some x) where
  goes := fun i H hi g => ⟨xs, xs[i], g, List.getElem?_eq_getElem (by omega)⟩
  stops := fun H g => ⟨xs, g, hn⟩
  yields := fun i H x H' hi g y => by
    obtain ⟨T, x, rfl, nT, rfl, f⟩ := y
    exact ⟨T, x, rfl, nT, rfl, f xs g⟩
theorem ixN_at {n j : Nat} {z : Int} (e : z = (j : Int)) (h : j < n) : ixN n z = some j := by
  subst e
  unfold ixN
  rw [if_pos (by omega), if_pos (by omega)]
  simp
theorem iV_get {ns : List Int} {j : Nat} {v : Int} (h : ns[j]? = some v) : (iV ns)[j]? = some (.int v) := by
  rw [List.getElem?_map, h]
  rfl
theorem iV_set (ns : List Int) (j : Nat) (v : Int) : (iV ns).set j (.int v) = iV (ns.set j v) := List.map_set.symm
theorem iV_len (ns : List Int) : (iV ns).length = ns.length := List.length_map ..
/-! ### stands by their places -/
def pre (ls : List Int) (j : Nat) : Int := (ls.take j).sum
def stL (ls : List Int) (y : Nat → Int) : List Int := (List.range ls.length).map fun j => y j + pre ls j
structure Rise (n : Nat) (pl : Int) (y : Nat → Int) : Prop where
  lo : ∀ j, j < n → 0 ≤ y j
  hi : ∀ j, j < n → y j ≤ pl
  up : ∀ j, j + 1 < n → y j ≤ y (j + 1)
theorem pre_zero (ls : List Int) : pre ls 0 = 0 := by simp [pre]
theorem pre_succ {ls : List Int} {j : Nat} (h : j < ls.length) : pre ls (j + 1) = pre ls j + ls[j] := by
  unfold pre
  exact L2.sum_take (List.getElem?_eq_getElem h)
theorem pre_all (ls : List Int) {j : Nat} (h : ls.length ≤ j) : pre ls j = ls.sum := by
  unfold pre
  rw [List.take_of_length_le h]
theorem stL_len (ls : List Int) (y : Nat → Int) : (stL ls y).length = ls.length := by simp [stL]
theorem stL_get {ls : List Int} {y : Nat → Int} {j : Nat} (h : j < ls.length) : (stL ls y)[j]? = some (y j + pre ls j) := by
  simp [stL, h]
theorem stL_congr {ls : List Int} {y z : Nat → Int} (h : ∀ j, j < ls.length → y j = z j) : stL ls y = stL ls z := by
  apply List.ext_getElem?
  intro j
  by_cases hj : j < ls.length
  · rw [stL_get hj, stL_get hj, h j hj]
  · rw [List.getElem?_eq_none (by rw [stL_len]; omega), List.getElem?_eq_none (by rw [stL_len]; omega)]
theorem stL_inj {ls : List Int} {y z : Nat → Int} (h : stL ls y = stL ls z) : ∀ j, j < ls.length → y j = z j := fun j hj => by
  have e := congrArg (fun l : List Int => l[j]?) h
  simp only [stL_get hj] at e
  have := Option.some.inj e
  omega
theorem stL_set {ls : List Int} {y : Nat → Int} {k : Nat} {v : Int} (h : k < ls.length) : (stL ls y).set k v = stL ls (fun j => if j = k then v - pre ls k else y j) := by
  apply List.ext_getElem?
  intro j
  by_cases hj : j < ls.length
  · rw [stL_get hj, List.getElem?_set, stL_len]
    by_cases e : k = j
    · subst e
      rw [if_pos rfl, if_pos h, if_pos rfl]
      congr 1
      omega
    · rw [if_neg e, stL_get hj, if_neg (Ne.symm e)]
  · rw [List.getElem?_eq_none (by rw [List.length_set, stL_len]; omega), List.getElem?_eq_none (by rw [stL_len]; omega)]
def pR (g : Nat) (b : Int) (y : Nat → Int) : Nat → Int := fun j => if g ≤ j then max (y j) b else y j
def pL (g : Nat) (b : Int) (y : Nat → Int) : Nat → Int := fun j => if j < g then min (y j) b else y j
theorem pR_rise {n g : Nat} {pl b : Int} {y : Nat → Int} (h : Rise n pl y) (b0 : 0 ≤ b) (b1 : b ≤ pl) : Rise n pl (pR g b y) where
  lo := fun j hj => by
    have := h.lo j hj
    unfold pR; split <;> omega
  hi := fun j hj => by
    have := h.hi j hj
    unfold pR; split <;> omega
  up := fun j hj => by
    have := h.up j hj
    unfold pR; split <;> split <;> omega
theorem pL_rise {n g : Nat} {pl b : Int} {y : Nat → Int} (h : Rise n pl y) (b0 : 0 ≤ b) (b1 : b ≤ pl) : Rise n pl (pL g b y) where
  lo := fun j hj => by
    have := h.lo j hj
    unfold pL; split <;> omega
  hi := fun j hj => by
    have := h.hi j hj
    unfold pL; split <;> omega
  up := fun j hj => by
    have := h.up j hj
    unfold pL; split <;> split <;> omega
/-! ### is it a stand -/
def standG (room : Int) : Int → List PyData → List Int → Bool
  | e, d :: ds, l :: ls => match d with
    | .int i => if i < e then false else standG room (i + l) ds ls
    | _ => false
  | e, _, _ => decide (e ≤ room)
def isStand (room : Int) (ls : List Int) (d : PyData) : Bool := match d with
  | .tuple ds => if (ds.length : Int) = ls.length then standG room 0 ds ls else false
  | _ => false
theorem standG_ok {room : Int} {ls : List Int} {y : Nat → Int} (h : Rise ls.length (room - ls.sum) y) : ∀ (m k : Nat) (e : Int), m + k = ls.length → (k < ls.length → e ≤ y k + pre ls k) → (k = ls.length → e ≤ room) → standG room e ((iD (stL ls y)).drop k) (ls.drop k) = true
  | 0, k, e, hk, _, h2 => by
    rw [List.drop_of_length_le (by rw [List.length_map, stL_len]; omega), List.drop_of_length_le (by omega)]
    exact decide_eq_true (h2 (by omega))
  | m + 1, k, e, hk, h1, h2 => by
    have hlt : k < ls.length := by omega
    have e1 : (iD (stL ls y))[k]? = some (.int (y k + pre ls k)) := by
      rw [List.getElem?_map, stL_get hlt]
      rfl
    have hl : k < (iD (stL ls y)).length := by rw [List.length_map, stL_len]; exact hlt
    rw [List.drop_eq_getElem_cons hl, List.drop_eq_getElem_cons hlt]
    rw [List.getElem?_eq_getElem hl] at e1
    rw [Option.some.inj e1]
    unfold standG
    simp only
    rw [if_neg (by have := h1 hlt; omega)]
    have hp := pre_succ hlt
    refine standG_ok h m (k + 1) _ (by omega) (fun hq => ?_) (fun hq => ?_)
    · have := h.up k hq
      omega
    · have := h.hi k hlt
      have := pre_all ls (j := k + 1) (by omega)
      omega
theorem isStand_ok {room : Int} {ls : List Int} {y : Nat → Int} (h : Rise ls.length (room - ls.sum) y) (h0 : ls.sum ≤ room) : isStand room ls (tI (stL ls y)) = true := by
  unfold isStand
  simp only
  rw [if_pos (by rw [List.length_map, stL_len])]
  have := standG_ok h ls.length 0 0 (by omega) (fun hq => by
    have := h.lo 0 hq
    rw [pre_zero]
    omega) (fun hq => by
      have : ls = [] := List.length_eq_zero_iff.mp hq.symm
      subst this
      simpa using h0)
  simpa using this
/-! ### pushes, rows -/
/-- right or left, the gap, the place less the gap's length -/
abbrev Push := Bool × Nat × Int
def sideS (r : Bool) : Str := if r = true then "right" else "left"
def puD (ls : List Int) (p : Push) : PyData := .tuple [.str (sideS p.1), .int p.2.1, .int (p.2.2 + pre ls p.2.1)]
def roD (ls : List Int) (r : List Push) : PyData := .list (r.map (puD ls))
structure PuOk (n : Nat) (pl : Int) (p : Push) : Prop where
  g0 : p.1 = true → p.2.1 < n
  g1 : p.1 = false → 1 ≤ p.2.1 ∧ p.2.1 ≤ n
  b0 : 0 ≤ p.2.2
  b1 : p.2.2 ≤ pl
def doP (y : Nat → Int) (p : Push) : Nat → Int := if p.1 = true then pR p.2.1 p.2.2 y else pL p.2.1 p.2.2 y
def doR (y : Nat → Int) (r : List Push) : Nat → Int := r.foldl doP y
theorem doP_rise {n : Nat} {pl : Int} {y : Nat → Int} {p : Push} (h : Rise n pl y) (k : PuOk n pl p) : Rise n pl (doP y p) := by
  unfold doP
  split
  · exact pR_rise h k.b0 k.b1
  · exact pL_rise h k.b0 k.b1
theorem doR_rise {n : Nat} {pl : Int} : ∀ {r : List Push} {y : Nat → Int}, Rise n pl y → (∀ p ∈ r, PuOk n pl p) → Rise n pl (doR y r)
  | [], y, h, _ => h
  | p :: r, y, h, k => doR_rise (r := r) (doP_rise h (k p (by simp))) fun q hq => k q (by simp [hq])
theorem doR_app (y : Nat → Int) (r s : List Push) : doR y (r ++ s) = doR (doR y r) s := by simp [doR, List.foldl_append]
def isGap (n : Int) (s g : PyData) : Bool := if PyData.eqv s (.str "right") = true then within g 0 (n - 1) else if PyData.eqv s (.str "left") = true then within g 1 n else false
def isPush (room : Int) (ls : List Int) (d : PyData) : Bool := match d with
  | .tuple [s, g, p] => if isGap ls.length s g = true then within p (pre ls (intOf g).toNat) (pre ls (intOf g).toNat + (room - ls.sum)) else false
  | _ => false
def isRow (room : Int) (ls : List Int) (d : PyData) : Bool := match d with
  | .list ds => if (ds.length : Int) > 200 then false else ds.all (isPush room ls)
  | _ => false
theorem within_ok {i lo hi : Int} (h1 : lo ≤ i) (h2 : i ≤ hi) : within (.int i) lo hi = true := by
  unfold within
  simp only
  rw [if_pos h1]
  exact decide_eq_true h2
theorem isPush_ok {room : Int} {ls : List Int} {p : Push} (h : PuOk ls.length (room - ls.sum) p) : isPush room ls (puD ls p) = true := by
  obtain ⟨r, g, b⟩ := p
  obtain ⟨g0, g1, b0, b1⟩ := h
  simp only at g0 g1 b0 b1
  unfold isPush puD
  simp only
  have hg : isGap ls.length (.str (sideS r)) (.int (g : Int)) = true := by
    unfold isGap
    cases r with
    | true =>
      have := g0 rfl
      rw [if_pos (by decide +kernel)]
      exact within_ok (by omega) (by omega)
    | false =>
      have := g1 rfl
      rw [if_neg (by decide +kernel), if_pos (by decide +kernel)]
      exact within_ok (by omega) (by omega)
  rw [if_pos hg]
  exact within_ok (by simp [intOf]; omega) (by simp [intOf]; omega)
theorem isRow_ok {room : Int} {ls : List Int} {r : List Push} (hl : r.length ≤ 200) (h : ∀ p ∈ r, PuOk ls.length (room - ls.sum) p) : isRow room ls (roD ls r) = true := by
  unfold isRow roD
  simp only
  rw [if_neg (by rw [List.length_map]; omega), List.all_eq_true]
  intro d hd
  obtain ⟨p, hp, rfl⟩ := List.mem_map.mp hd
  exact isPush_ok (h p hp)
theorem puD_depth (ls : List Int) (p : Push) : (puD ls p).depth ≤ 1 := by
  unfold puD
  simp [PyData.depth, PyData.depthAll]
theorem noL_puD (ls : List Int) (p : Push) : noL (puD ls p) = true := rfl
end PS

namespace PS
open PySem PySem.Spec PyProof.Rows L2
/-! ### what a row does to one block -/
def clamp (l h x : Int) : Int := min (max x l) h
/-- one push at the j-th block -/
def act (j : Nat) (x : Int) (p : Push) : Int := if p.1 = true then (if p.2.1 ≤ j then max x p.2.2 else x) else (if j < p.2.1 then min x p.2.2 else x)
theorem doP_at (y : Nat → Int) (p : Push) (j : Nat) : doP y p j = act j (y j) p := by
  unfold doP act
  split <;> rfl
theorem doR_at : ∀ (r : List Push) (y : Nat → Int) (j : Nat), doR y r j = r.foldl (act j) (y j)
  | [], y, j => rfl
  | p :: r, y, j => by
    show doR (doP y p) r j = r.foldl (act j) (act j (y j) p)
    rw [doR_at r, doP_at]
theorem act_mono {j : Nat} {x z : Int} (h : x ≤ z) (p : Push) : act j x p ≤ act j z p := by
  unfold act
  split <;> split <;> omega
theorem fold_mono {j : Nat} : ∀ (r : List Push) {x z : Int}, x ≤ z → r.foldl (act j) x ≤ r.foldl (act j) z
  | [], x, z, h => h
  | p :: r, x, z, h => fold_mono r (act_mono h p)
theorem act_in {j : Nat} {x pl : Int} {p : Push} (b0 : 0 ≤ p.2.2) (b1 : p.2.2 ≤ pl) (h0 : 0 ≤ x) (h1 : x ≤ pl) : 0 ≤ act j x p ∧ act j x p ≤ pl := by
  unfold act
  split <;> split <;> omega
theorem fold_clamp {j : Nat} {pl : Int} (hp : 0 ≤ pl) : ∀ (r : List Push), (∀ p ∈ r, 0 ≤ p.2.2 ∧ p.2.2 ≤ pl) → ∀ x, 0 ≤ x → x ≤ pl → r.foldl (act j) x = clamp (r.foldl (act j) 0) (r.foldl (act j) pl) x
  | [], _, x, h0, h1 => by
    show x = min (max x 0) pl
    omega
  | p :: r, hb, x, h0, h1 => by
    have hp1 := hb p (by simp)
    have ih := fold_clamp (j := j) hp r fun q hq => hb q (by simp [hq])
    have m := fold_mono (j := j) r hp
    have a1 := act_in (j := j) hp1.1 hp1.2 h0 h1
    have a2 := act_in (j := j) hp1.1 hp1.2 (Int.le_refl 0) hp
    have a3 := act_in (j := j) hp1.1 hp1.2 hp (Int.le_refl pl)
    show r.foldl (act j) (act j x p) = clamp (r.foldl (act j) (act j 0 p)) (r.foldl (act j) (act j pl p)) x
    rw [ih _ a1.1 a1.2, ih _ a2.1 a2.2, ih _ a3.1 a3.2]
    generalize r.foldl (act j) 0 = l at m ⊢
    generalize r.foldl (act j) pl = h at m ⊢
    unfold clamp act
    split <;> split <;> omega
def loR (r : List Push) : Nat → Int := doR (fun _ => 0) r
def hiR (pl : Int) (r : List Push) : Nat → Int := doR (fun _ => pl) r
theorem rise_const {n : Nat} {pl c : Int} (h0 : 0 ≤ c) (h1 : c ≤ pl) : Rise n pl (fun _ => c) := ⟨fun _ _ => h0, fun _ _ => h1, fun _ _ => Int.le_refl c⟩
theorem lo_le_hi {pl : Int} (hp : 0 ≤ pl) (r : List Push) (j : Nat) : loR r j ≤ hiR pl r j := by
  unfold loR hiR
  rw [doR_at, doR_at]
  exact fold_mono r hp
theorem doR_clamp {n : Nat} {pl : Int} {y : Nat → Int} {r : List Push} (hp : 0 ≤ pl) (hy : Rise n pl y) (hr : ∀ p ∈ r, PuOk n pl p) {j : Nat} (hj : j < n) : doR y r j = clamp (loR r j) (hiR pl r j) (y j) := by
  unfold loR hiR
  rw [doR_at, doR_at, doR_at]
  exact fold_clamp hp r (fun p h => ⟨(hr p h).b0, (hr p h).b1⟩) _ (hy.lo j hj) (hy.hi j hj)
theorem clamp_twice {l h x : Int} (e : l ≤ h) : clamp l h (clamp l h x) = clamp l h x := by
  unfold clamp
  omega
theorem doR_twice {n : Nat} {pl : Int} {y : Nat → Int} {r : List Push} (hp : 0 ≤ pl) (hy : Rise n pl y) (hr : ∀ p ∈ r, PuOk n pl p) {j : Nat} (hj : j < n) : doR (doR y r) r j = doR y r j := by
  rw [doR_clamp hp (doR_rise hy hr) hr hj, doR_clamp hp hy hr hj, clamp_twice (lo_le_hi hp r j)]
/-- a doing done by places -/
def ledF (lo hi y : Nat → Int) : Nat → Int := fun j => clamp (lo j) (hi j) (y j)
theorem led_rise {n : Nat} {pl : Int} {lo hi y : Nat → Int} (h1 : Rise n pl lo) (h2 : Rise n pl hi) (h3 : Rise n pl y) : Rise n pl (ledF lo hi y) where
  lo := fun j hj => by
    have := h1.lo j hj; have := h2.lo j hj; have := h3.lo j hj
    unfold ledF clamp; omega
  hi := fun j hj => by
    have := h1.hi j hj; have := h2.hi j hj; have := h3.hi j hj
    unfold ledF clamp; omega
  up := fun j hj => by
    have := h1.up j hj; have := h2.up j hj; have := h3.up j hj
    unfold ledF clamp; omega
/-- a doing -/
abbrev dgD (ls : List Int) (lo hi : Nat → Int) : PyData := .tuple [tI (stL ls lo), tI (stL ls hi)]
structure DoOk (n : Nat) (pl : Int) (lo hi : Nat → Int) : Prop where
  l : Rise n pl lo
  h : Rise n pl hi
  le : ∀ j, j < n → lo j ≤ hi j
theorem row_doOk {n : Nat} {pl : Int} {r : List Push} (hp : 0 ≤ pl) (hr : ∀ p ∈ r, PuOk n pl p) : DoOk n pl (loR r) (hiR pl r) :=
  ⟨doR_rise (rise_const (Int.le_refl 0) hp) hr, doR_rise (rise_const hp (Int.le_refl pl)) hr, fun j _ => lo_le_hi hp r j⟩
/-! ### is it a doing -/
def allLe : List PyData → List PyData → Bool
  | .int a :: ds, .int b :: es => if a ≤ b then allLe ds es else false
  | _, _ => true
def isDoing (room : Int) (ls : List Int) (d : PyData) : Bool := match d with
  | .tuple [.tuple a, .tuple b] => if isStand room ls (.tuple a) = true then (if isStand room ls (.tuple b) = true then allLe a b else false) else false
  | _ => false
theorem standG_ints {room : Int} : ∀ {ds : List PyData} {ls : List Int} {e : Int}, ds.length = ls.length → standG room e ds ls = true → ∃ ns : List Int, ds = iD ns
  | [], [], e, _, _ => ⟨[], rfl⟩
  | [], l :: ls, e, h, _ => by simp at h
  | d :: ds, [], e, h, _ => by simp at h
  | d :: ds, l :: ls, e, h, hg => by
    cases d with
    | int i =>
      have hg : (if i < e then false else standG room (i + l) ds ls) = true := hg
      split at hg
      · cases hg
      · obtain ⟨ns, rfl⟩ := standG_ints (by simpa using h) hg
        exact ⟨i :: ns, rfl⟩
    | _ => cases hg
theorem isStand_ints {room : Int} {ls : List Int} {d : PyData} (h : isStand room ls d = true) : ∃ ns : List Int, d = tI ns ∧ ns.length = ls.length := by
  cases d with
  | tuple ds =>
    have h : (if (ds.length : Int) = ls.length then standG room 0 ds ls else false) = true := h
    split at h
    · rename_i e
      obtain ⟨ns, rfl⟩ := standG_ints (by omega) h
      exact ⟨ns, rfl, by rw [List.length_map] at e; omega⟩
    · cases h
  | _ => cases h
theorem allLe_ints : ∀ (ns ms : List Int), allLe (iD ns) (iD ms) = (List.zipWith (fun a b => decide (a ≤ b)) ns ms).all id
  | [], _ => by cases ‹List Int› <;> rfl
  | _ :: _, [] => rfl
  | n :: ns, m :: ms => by
    show (if n ≤ m then allLe (iD ns) (iD ms) else false) = (decide (n ≤ m) && (List.zipWith (fun a b => decide (a ≤ b)) ns ms).all id)
    rw [allLe_ints ns ms]
    by_cases h : n ≤ m
    · rw [if_pos h, decide_eq_true h]; simp
    · rw [if_neg h, decide_eq_false h]; simp
theorem allLe_stL {ls : List Int} {lo hi : Nat → Int} (h : ∀ j, j < ls.length → lo j ≤ hi j) : allLe (iD (stL ls lo)) (iD (stL ls hi)) = true := by
  rw [allLe_ints, List.all_eq_true]
  intro b hb
  obtain ⟨i, hi', e⟩ := List.mem_iff_getElem.mp hb
  have hi2 : i < ls.length := by simpa [stL_len] using hi'
  have e1 := stL_get (y := lo) hi2
  have e2 := stL_get (y := hi) hi2
  have g1 : i < (stL ls lo).length := by rw [stL_len]; exact hi2
  have g2 : i < (stL ls hi).length := by rw [stL_len]; exact hi2
  rw [List.getElem?_eq_getElem g1] at e1
  rw [List.getElem?_eq_getElem g2] at e2
  rw [List.getElem_zipWith, Option.some.inj e1, Option.some.inj e2] at e
  rw [← e]
  have := h i hi2
  simp only [id]
  exact decide_eq_true (by omega)
theorem isDoing_ok {room : Int} {ls : List Int} {lo hi : Nat → Int} (sh : ls.sum ≤ room) (h : DoOk ls.length (room - ls.sum) lo hi) : isDoing room ls (dgD ls lo hi) = true := by
  show (if isStand room ls (tI (stL ls lo)) = true then (if isStand room ls (tI (stL ls hi)) = true then allLe (iD (stL ls lo)) (iD (stL ls hi)) else false) else false) = true
  rw [if_pos (isStand_ok h.l sh), if_pos (isStand_ok h.h sh)]
  exact allLe_stL h.le
end PS

namespace PS
open PySem PySem.Spec PyProof.Rows L2
/-! ### a row for a doing -/
def rowF (lo hi : Nat → Int) : Nat → List Push
  | 0 => []
  | k + 1 => rowF lo hi k ++ [(true, k, lo k), (false, k + 1, hi k)]
theorem rowF_len (lo hi : Nat → Int) : ∀ k, (rowF lo hi k).length = 2 * k
  | 0 => rfl
  | k + 1 => by
    rw [rowF, List.length_append, rowF_len lo hi k]
    simp
    omega
theorem rowF_ok {n : Nat} {pl : Int} {lo hi : Nat → Int} (h : DoOk n pl lo hi) : ∀ k, k ≤ n → ∀ p ∈ rowF lo hi k, PuOk n pl p
  | 0, _, p, hp => by simp [rowF] at hp
  | k + 1, hk, p, hp => by
    rw [rowF] at hp
    rcases List.mem_append.mp hp with z | z
    · exact rowF_ok h k (by omega) p z
    · have : p = (true, k, lo k) ∨ p = (false, k + 1, hi k) := by simpa using z
      rcases this with rfl | rfl
      · exact ⟨fun _ => (show k < n by omega), fun z => (nomatch z), h.l.lo k (by omega), h.l.hi k (by omega)⟩
      · exact ⟨fun z => (nomatch z), fun _ => (show 1 ≤ k + 1 ∧ k + 1 ≤ n by omega), h.h.lo k (by omega), h.h.hi k (by omega)⟩
theorem rise_le {n : Nat} {pl : Int} {y : Nat → Int} (h : Rise n pl y) : ∀ (d i : Nat), i + d < n → y i ≤ y (i + d)
  | 0, i, _ => Int.le_refl _
  | d + 1, i, hd => by
    have h1 := rise_le h d i (by omega)
    have h2 := h.up (i + d) (by omega)
    rw [show i + d + 1 = i + (d + 1) from by omega] at h2
    omega
theorem rise_le' {n : Nat} {pl : Int} {y : Nat → Int} (h : Rise n pl y) {i j : Nat} (hij : i ≤ j) (hj : j < n) : y i ≤ y j := by
  have := rise_le h (j - i) i (by omega)
  rw [show i + (j - i) = j from by omega] at this
  exact this
theorem rowF_fold {n : Nat} {pl : Int} {lo hi : Nat → Int} (h : DoOk n pl lo hi) {j : Nat} (hj : j < n) (x : Int) : ∀ k, k ≤ n → (rowF lo hi k).foldl (act j) x = if k = 0 then x else if k ≤ j then max x (lo (k - 1)) else clamp (lo j) (hi j) x
  | 0, _ => rfl
  | k + 1, hk => by
    rw [rowF, List.foldl_append, rowF_fold h hj x k (by omega)]
    show act j (act j _ (true, k, lo k)) (false, k + 1, hi k) = _
    rw [if_neg (show ¬ k + 1 = 0 by omega), show k + 1 - 1 = k from by omega]
    have hle := h.le j hj
    have u1 := rise_le' h.l (i := k - 1) (j := k) (by omega) (by omega)
    have u2 : j ≤ k → hi j ≤ hi k := fun e => rise_le' h.h e (by omega)
    unfold act clamp
    by_cases h2 : k = j
    · subst h2
      simp only [if_true, Bool.false_eq_true, if_false]
      repeat' split
      all_goals omega
    · simp only [if_true, Bool.false_eq_true, if_false]
      repeat' split
      all_goals omega
theorem rowF_lo {n : Nat} {pl : Int} {lo hi : Nat → Int} (h : DoOk n pl lo hi) {j : Nat} (hj : j < n) : loR (rowF lo hi n) j = lo j := by
  unfold loR
  rw [doR_at, rowF_fold h hj 0 n (Nat.le_refl n), if_neg (by omega), if_neg (by omega)]
  have := h.le j hj
  have := h.l.lo j hj
  unfold clamp
  omega
theorem rowF_hi {n : Nat} {pl : Int} {lo hi : Nat → Int} (h : DoOk n pl lo hi) {j : Nat} (hj : j < n) : hiR pl (rowF lo hi n) j = hi j := by
  unfold hiR
  rw [doR_at, rowF_fold h hj pl n (Nat.le_refl n), if_neg (by omega), if_neg (by omega)]
  have := h.le j hj
  have := h.l.hi j hj
  have := h.h.hi j hj
  unfold clamp
  omega
theorem eqv_ints : ∀ (ns ms : List Int), PyData.eqvAll (iD ns) (iD ms) = decide (ns = ms)
  | [], [] => rfl
  | [], m :: ms => rfl
  | n :: ns, [] => rfl
  | n :: ns, m :: ms => by
    show (PyData.eqv (.int n) (.int m) && PyData.eqvAll (iD ns) (iD ms)) = decide (n :: ns = m :: ms)
    rw [eqv_ints ns ms]
    have : PyData.eqv (.int n) (.int m) = (n == m) := by simp [PyData.eqv]
    rw [this]
    by_cases h : n = m
    · subst h
      simp
    · rw [beq_eq_false_iff_ne.mpr h]
      simp [h]
theorem eqv_tI (ns ms : List Int) : PyData.eqv (tI ns) (tI ms) = decide (ns = ms) := by
  rw [PyData.eqv]
  exact eqv_ints ns ms
theorem eqv_dgD {ls : List Int} {a b c d : Nat → Int} : PyData.eqv (dgD ls a b) (dgD ls c d) = decide (stL ls a = stL ls c ∧ stL ls b = stL ls d) := by
  have e : PyData.eqv (dgD ls a b) (dgD ls c d) = (PyData.eqv (tI (stL ls a)) (tI (stL ls c)) && (PyData.eqv (tI (stL ls b)) (tI (stL ls d)) && true)) := by
    rw [PyData.eqv, PyData.eqvAll, PyData.eqvAll, PyData.eqvAll]
  rw [e, eqv_tI, eqv_tI]
  by_cases h1 : stL ls a = stL ls c
  · by_cases h2 : stL ls b = stL ls d
    · simp [h1, h2]
    · simp [h1, h2]
  · simp [h1]
end PS

namespace PS
/-! ### bands, by what they want: up, down; the ways to part them -/
abbrev Fl := Bool × Bool
def bad (g : List Fl) : Nat := ((g.head?.map (·.1)).getD false && (g.getLast?.map (·.2)).getD false).toNat
def gc : List Fl → Nat
  | [] => 0
  | [b] => b.1.toNat + b.2.toNat
  | b :: c :: g => (b :: c :: g).length + bad (b :: c :: g)
theorem bad_le (g : List Fl) : bad g ≤ 1 := by
  unfold bad
  exact Bool.toNat_le _
theorem gc_two {g : List Fl} (h : 2 ≤ g.length) : gc g = g.length + bad g := by
  match g, h with
  | b :: c :: g, _ => rfl
theorem gc_one (b : Fl) : gc [b] = b.1.toNat + b.2.toNat := rfl
inductive Way : List Fl → Nat → Prop
  | nil : Way [] 0
  | grp {g bs : List Fl} {c : Nat} : g ≠ [] → Way bs c → Way (g ++ bs) (gc g + c)
theorem Way.app {a b : List Fl} {c d : Nat} (h : Way a c) (k : Way b d) : Way (a ++ b) (c + d) := by
  induction h with
  | nil => simpa using k
  | grp hg _ ih =>
    rw [List.append_assoc, Nat.add_assoc]
    exact .grp hg ih
theorem Way.single {g : List Fl} (h : g ≠ []) : Way g (gc g) := by
  have := Way.grp h .nil
  simpa using this
def mir (g : List Fl) : List Fl := (g.map Prod.swap).reverse
theorem mir_mir (g : List Fl) : mir (mir g) = g := by
  unfold mir
  rw [List.map_reverse, List.reverse_reverse, List.map_map]
  simp
theorem mir_app (a b : List Fl) : mir (a ++ b) = mir b ++ mir a := by
  unfold mir
  rw [List.map_append, List.reverse_append]
theorem mir_len (a : List Fl) : (mir a).length = a.length := by simp [mir]
theorem bad_mir (g : List Fl) : bad (mir g) = bad g := by
  unfold bad mir
  rw [List.head?_reverse, List.getLast?_reverse, List.getLast?_map, List.head?_map, Option.map_map, Option.map_map, Bool.and_comm]
  rfl
theorem gc_mir (g : List Fl) : gc (mir g) = gc g := by
  match g with
  | [] => rfl
  | [b] =>
    show b.2.toNat + b.1.toNat = b.1.toNat + b.2.toNat
    omega
  | b :: c :: g =>
    rw [gc_two (by rw [mir_len]; simp), gc_two (by simp), bad_mir, mir_len]
theorem Way.mir {a : List Fl} {c : Nat} (h : Way a c) : Way (mir a) c := by
  induction h with
  | nil => exact .nil
  | @grp g bs c hg _ ih =>
    rw [mir_app, Nat.add_comm]
    refine Way.app ih ?_
    rw [← gc_mir]
    refine Way.single (fun z => hg ?_)
    have := congrArg List.length z
    rw [mir_len] at this
    exact List.length_eq_zero_iff.mp (by simpa using this)
theorem gc_ge {g : List Fl} (h : ∀ x ∈ g, x.2 = true) : g.length ≤ gc g := by
  match g, h with
  | [], _ => simp
  | [b], h =>
    have := h b (by simp)
    rw [gc_one, this]
    simp
  | b :: c :: g, _ =>
    rw [gc_two (by simp)]
    omega
theorem way_mid {L : List Fl} {c : Nat} (h : Way L c) : ∀ (J : List Fl) (t : Fl) (B : List Fl), L = J ++ t :: B → (∀ x ∈ J, x.2 = true) →
    ∃ B0 B1 cB, B = B0 ++ B1 ∧ Way B1 cB ∧ (J.length + 1 + B0.length + cB ≤ c ∨ (B0 = [] ∧ t.2 = false ∧ J.length + cB ≤ c)) := by
  induction h with
  | nil => intro J t B e; simp at e
  | @grp g bs c hg hw ih =>
    intro J t B e hJ
    by_cases hl : g.length ≤ J.length
    · obtain ⟨J2, rfl⟩ : ∃ J2, J = g ++ J2 := by
        refine ⟨J.drop g.length, ?_⟩
        have := congrArg (List.take g.length) e
        rw [List.take_left, List.take_append_of_le_length hl] at this
        have h2 := List.take_append_drop g.length J
        rw [← this] at h2
        exact h2.symm
      rw [List.append_assoc] at e
      have e2 := List.append_cancel_left e
      obtain ⟨B0, B1, cB, h1, h2, h3⟩ := ih J2 t B e2 (fun x hx => hJ x (by simp [hx]))
      have hge := gc_ge (g := g) (fun x hx => hJ x (by simp [hx]))
      refine ⟨B0, B1, cB, h1, h2, ?_⟩
      rw [List.length_append]
      rcases h3 with h3 | ⟨h3, h4, h5⟩
      · exact .inl (by omega)
      · exact .inr ⟨h3, h4, by omega⟩
    · obtain ⟨B0, rfl⟩ : ∃ B0, g = J ++ t :: B0 := by
        refine ⟨g.drop (J.length + 1), ?_⟩
        have := congrArg (List.take (J.length + 1)) e
        rw [List.take_append_of_le_length (by omega), List.take_length_add_append] at this
        simp only [List.take_succ_cons, List.take_zero] at this
        have h2 := List.take_append_drop (J.length + 1) g
        rw [this] at h2
        rw [← h2]
        simp
      rw [List.append_assoc] at e
      have e2 := List.append_cancel_left e
      have e3 : B0 ++ bs = B := by simpa using e2
      refine ⟨B0, bs, c, e3.symm, hw, ?_⟩
      by_cases h2 : 2 ≤ (J ++ t :: B0).length
      · rw [gc_two h2]
        simp only [List.length_append, List.length_cons] at h2 ⊢
        exact .inl (by omega)
      · simp only [List.length_append, List.length_cons] at h2
        have hJ0 : J = [] := List.length_eq_zero_iff.mp (by omega)
        have hB0 : B0 = [] := List.length_eq_zero_iff.mp (by omega)
        subst hJ0 hB0
        rw [List.nil_append, gc_one]
        cases ht : t.2 with
        | true => exact .inl (by simp)
        | false => exact .inr ⟨rfl, rfl, by simp⟩
theorem gc_le {g : List Fl} (h : 2 ≤ g.length) : gc g ≤ g.length + 1 := by
  rw [gc_two h]
  have := bad_le g
  omega
theorem way_push {L : List Fl} {c : Nat} (h : Way L c) : ∀ (A I' : List Fl) (t' : Fl) (B : List Fl), L = A ++ (I' ++ t' :: B) → (∀ x ∈ I', x.2 = true) → ∀ (I : List Fl) (t : Fl), I.length = I'.length → (t'.2 = true ∨ t'.2 = t.2) →
    ∃ c2, Way (A ++ (I ++ t :: B)) c2 ∧ c2 ≤ c + 1 := by
  induction h with
  | nil => intro A I' t' B e; simp at e
  | @grp g bs c hg hw ih =>
    intro A I' t' B e hI I t hl ht
    by_cases hA : g.length ≤ A.length
    · obtain ⟨A2, rfl⟩ : ∃ A2, A = g ++ A2 := by
        refine ⟨A.drop g.length, ?_⟩
        have := congrArg (List.take g.length) e
        rw [List.take_left, List.take_append_of_le_length hA] at this
        have h2 := List.take_append_drop g.length A
        rw [← this] at h2
        exact h2.symm
      rw [List.append_assoc] at e
      obtain ⟨c2, w2, l2⟩ := ih A2 I' t' B (List.append_cancel_left e) hI I t hl ht
      refine ⟨gc g + c2, ?_, by omega⟩
      rw [List.append_assoc]
      exact .grp hg w2
    · obtain ⟨R, rfl⟩ : ∃ R, g = A ++ R := by
        refine ⟨g.drop A.length, ?_⟩
        have := congrArg (List.take A.length) e
        rw [List.take_left, List.take_append_of_le_length (by omega)] at this
        have h2 := List.take_append_drop A.length g
        rw [this] at h2
        exact h2.symm
      rw [List.append_assoc] at e
      have e2 := List.append_cancel_left e
      rw [List.length_append] at hA
      by_cases hR : R.length ≤ I'.length
      · obtain ⟨J, rfl⟩ : ∃ J, I' = R ++ J := by
          refine ⟨I'.drop R.length, ?_⟩
          have := congrArg (List.take R.length) e2
          rw [List.take_left, List.take_append_of_le_length hR] at this
          have h2 := List.take_append_drop R.length I'
          rw [← this] at h2
          exact h2.symm
        rw [List.append_assoc] at e2
        have e3 := List.append_cancel_left e2
        obtain ⟨B0, B1, cB, rfl, w1, h3⟩ := way_mid hw J t' B e3 (fun x hx => hI x (by simp [hx]))
        have hge : A.length + R.length ≤ gc (A ++ R) := by
          by_cases h2 : 2 ≤ (A ++ R).length
          · rw [gc_two h2, List.length_append]
            omega
          · have h4 : A = [] := List.length_eq_zero_iff.mp (by rw [List.length_append] at h2; omega)
            subst h4
            have := gc_ge (g := R) (fun x hx => hI x (by simp [hx]))
            simpa using this
        rw [List.length_append] at hl
        have hG : 2 ≤ (A ++ (I ++ t :: B0)).length := by
          simp only [List.length_append, List.length_cons]
          omega
        refine ⟨gc (A ++ (I ++ t :: B0)) + cB, ?_, ?_⟩
        · have := Way.grp (g := A ++ (I ++ t :: B0)) (by simp) w1
          simpa using this
        · rcases h3 with h3 | ⟨rfl, h4, h5⟩
          · have := gc_le hG
            simp only [List.length_append, List.length_cons] at this
            omega
          · have ht2 : t.2 = false := by
              rcases ht with z | z
              · rw [h4] at z; cases z
              · rw [← z]; exact h4
            have hb : bad (A ++ (I ++ [t])) = 0 := by
              unfold bad
              rw [← List.append_assoc, List.getLast?_append]
              simp [ht2]
            rw [gc_two hG, hb]
            simp only [List.length_append, List.length_cons, List.length_nil]
            omega
      · obtain ⟨B0, rfl⟩ : ∃ B0, R = I' ++ t' :: B0 := by
          refine ⟨R.drop (I'.length + 1), ?_⟩
          have := congrArg (List.take (I'.length + 1)) e2
          rw [List.take_append_of_le_length (by omega), List.take_length_add_append] at this
          simp only [List.take_succ_cons, List.take_zero] at this
          have h2 := List.take_append_drop (I'.length + 1) R
          rw [this] at h2
          rw [← h2]
          simp
        rw [List.append_assoc] at e2
        have e3 : B0 ++ bs = B := by simpa using List.append_cancel_left e2
        subst e3
        refine ⟨gc (A ++ (I ++ t :: B0)) + c, ?_, ?_⟩
        · have := Way.grp (g := A ++ (I ++ t :: B0)) (by simp) hw
          simpa using this
        · by_cases h2 : 2 ≤ (A ++ (I' ++ t' :: B0)).length
          · have hG : 2 ≤ (A ++ (I ++ t :: B0)).length := by
              simp only [List.length_append, List.length_cons] at h2 ⊢
              omega
            have := gc_le hG
            rw [gc_two h2]
            simp only [List.length_append, List.length_cons] at this ⊢
            omega
          · simp only [List.length_append, List.length_cons] at h2
            have h4 : A = [] := List.length_eq_zero_iff.mp (by omega)
            have h5 : I' = [] := List.length_eq_zero_iff.mp (by omega)
            have h6 : B0 = [] := List.length_eq_zero_iff.mp (by omega)
            have h7 : I = [] := List.length_eq_zero_iff.mp (by rw [hl, h5]; rfl)
            subst h4 h5 h6 h7
            simp only [List.nil_append, gc_one]
            have := Bool.toNat_le t.1
            rcases ht with z | z
            · have := Bool.toNat_le t.2
              rw [z]
              simp only [Bool.toNat_true]
              omega
            · rw [z]
              omega
/-! ### the least of all ways -/
def Least (bs : List Fl) (c : Nat) : Prop := Way bs c ∧ ∀ c', Way bs c' → c ≤ c'
theorem Least.uniq {bs : List Fl} {c d : Nat} (h : Least bs c) (k : Least bs d) : c = d := Nat.le_antisymm (h.2 _ k.1) (k.2 _ h.1)
theorem way_first {bs : List Fl} {c : Nat} (h : Way bs c) (hb : bs ≠ []) : ∃ m c', 1 ≤ m ∧ m ≤ bs.length ∧ Way (bs.drop m) c' ∧ c = gc (bs.take m) + c' := by
  cases h with
  | nil => exact absurd rfl hb
  | @grp g bs c hg hw =>
    refine ⟨g.length, c, ?_, ?_, ?_, ?_⟩
    · have := List.length_pos_iff.mpr hg
      omega
    · simp
    · simpa using hw
    · simp
theorem first_way {bs : List Fl} {m c : Nat} (h1 : 1 ≤ m) (h2 : m ≤ bs.length) (h : Way (bs.drop m) c) : Way bs (gc (bs.take m) + c) := by
  have := Way.grp (g := bs.take m) (fun z => by
    have := congrArg List.length z
    rw [List.length_take] at this
    simp at this
    rcases this with h | h
    · omega
    · subst h; simp at h2; omega) h
  rwa [List.take_append_drop] at this
theorem way_nil {bs : List Fl} {c : Nat} (h : Way bs c) (e : bs = []) : c = 0 := by
  cases h with
  | nil => rfl
  | grp hg _ => exact absurd (List.append_eq_nil_iff.mp e).1 hg
theorem way_last {bs : List Fl} {c : Nat} (h : Way bs c) : bs ≠ [] → ∃ a c', a < bs.length ∧ Way (bs.take a) c' ∧ c = c' + gc (bs.drop a) := by
  induction h with
  | nil => intro z; exact absurd rfl z
  | @grp g bs c hg hw ih =>
    intro _
    by_cases hb : bs = []
    · subst hb
      have hc := way_nil hw rfl
      subst hc
      refine ⟨0, 0, ?_, ?_, ?_⟩
      · simpa using List.length_pos_iff.mpr hg
      · simpa using Way.nil
      · simp
    · obtain ⟨a, c', h1, h2, h3⟩ := ih hb
      refine ⟨g.length + a, gc g + c', ?_, ?_, ?_⟩
      · rw [List.length_append]; omega
      · rw [List.take_length_add_append]
        exact .grp hg h2
      · rw [List.drop_length_add_append, h3]
        omega
theorem last_way {bs : List Fl} {a c : Nat} (h1 : a < bs.length) (h : Way (bs.take a) c) : Way bs (c + gc (bs.drop a)) := by
  have := h.app (Way.single (g := bs.drop a) (fun z => by
    have := congrArg List.length z
    rw [List.length_drop] at this
    simp at this
    omega))
  rwa [List.take_append_drop] at this
end PS

namespace PS
/-! ### runs of alike places -/
inductive Runs (w : Nat → Int) (n : Nat) : Nat → List (Nat × Nat) → Prop
  | nil : Runs w n n []
  | cons {f e : Nat} {rs : List (Nat × Nat)} : f < e → e ≤ n → (∀ j, f ≤ j → j < e → w j = w f) → (e < n → w f < w e) → Runs w n e rs → Runs w n f ((f, e) :: rs)
def fl (y w : Nat → Int) (r : Nat × Nat) : Fl := (decide (y r.1 < w r.1), decide (w r.1 < y (r.2 - 1)))
def fls (y w : Nat → Int) (rs : List (Nat × Nat)) : List Fl := rs.map (fl y w)
theorem fls_cons (y w : Nat → Int) (r : Nat × Nat) (rs : List (Nat × Nat)) : fls y w (r :: rs) = fl y w r :: fls y w rs := rfl
theorem fl_eq {y z w : Nat → Int} {r : Nat × Nat} (h1 : y r.1 < w r.1 ↔ z r.1 < w r.1) (h2 : w r.1 < y (r.2 - 1) ↔ w r.1 < z (r.2 - 1)) : fl y w r = fl z w r := by
  unfold fl
  rw [decide_eq_decide.mpr h1, decide_eq_decide.mpr h2]
theorem runs_head {w : Nat → Int} {n k : Nat} {rs : List (Nat × Nat)} (h : Runs w n k rs) (hk : rs ≠ []) : k < n := by
  cases h with
  | nil => exact absurd rfl hk
  | cons h1 h2 _ _ _ => omega
/-! a push to the right -/
theorem right_above {y w : Nat → Int} {n g : Nat} {b : Int} : ∀ {k : Nat} {rs : List (Nat × Nat)}, Runs w n k rs → (k < n → b < w k) → fls (pR g b y) w rs = fls y w rs
  | _, _, .nil, _ => rfl
  | k, _, .cons (e := e) (rs := rs) h1 h2 h3 h4 h5, hb => by
    have hb := hb (by omega)
    rw [fls_cons, fls_cons, right_above h5 (fun z => by have := h4 z; omega)]
    congr 1
    apply fl_eq
    · unfold pR
      simp only
      split <;> omega
    · unfold pR
      simp only
      split <;> omega
theorem right_from {y w : Nat → Int} {n g : Nat} {b : Int} : ∀ {k : Nat} {rs : List (Nat × Nat)}, Runs w n k rs → (∀ r ∈ rs, g < r.2) →
    fls (pR g b y) w rs = fls y w rs ∨ ∃ I I' t t' B, fls y w rs = I ++ t :: B ∧ fls (pR g b y) w rs = I' ++ t' :: B ∧ I.length = I'.length ∧ (∀ x ∈ I', x.2 = true) ∧ (t'.2 = true ∨ t'.2 = t.2)
  | _, _, .nil, _ => .inl rfl
  | k, _, .cons (e := e) (rs := rs) h1 h2 h3 h4 h5, hg => by
    have hge : g < e := hg (k, e) (by simp)
    by_cases c1 : b < w k
    · exact .inl (right_above (.cons h1 h2 h3 h4 h5) (fun _ => c1))
    by_cases c2 : w k = b
    · have hr := right_above (y := y) (g := g) (b := b) h5 (fun z => by have := h4 z; omega)
      refine .inr ⟨[], [], fl y w (k, e), fl (pR g b y) w (k, e), fls y w rs, rfl, ?_, rfl, by simp, .inr ?_⟩
      · rw [fls_cons, hr]
        rfl
      · unfold fl
        simp only
        apply decide_eq_decide.mpr
        unfold pR
        split <;> omega
    · have hd : (fl (pR g b y) w (k, e)).2 = true := by
        unfold fl
        simp only
        apply decide_eq_true
        unfold pR
        rw [if_pos (by omega)]
        omega
      rcases right_from (y := y) (b := b) h5 (fun r hr => hg r (by simp [hr])) with hs | ⟨I, I', t, t', B, e1, e2, e3, e4, e5⟩
      · refine .inr ⟨[], [], fl y w (k, e), fl (pR g b y) w (k, e), fls y w rs, rfl, ?_, rfl, by simp, .inl hd⟩
        rw [fls_cons, hs]
        rfl
      · refine .inr ⟨fl y w (k, e) :: I, fl (pR g b y) w (k, e) :: I', t, t', B, ?_, ?_, by simp [e3], ?_, e5⟩
        · rw [fls_cons, e1]; rfl
        · rw [fls_cons, e2]; rfl
        · intro x hx
          rcases List.mem_cons.mp hx with z | z
          · rw [z]; exact hd
          · exact e4 x z
theorem runs_ge {w : Nat → Int} {n : Nat} : ∀ {k : Nat} {rs : List (Nat × Nat)}, Runs w n k rs → ∀ r ∈ rs, k < r.2
  | _, _, .nil, r, h => by simp at h
  | k, _, .cons (e := e) (rs := rs) h1 h2 h3 h4 h5, r, h => by
    rcases List.mem_cons.mp h with z | z
    · rw [z]; exact h1
    · have := runs_ge h5 r z
      omega
theorem right_all {y w : Nat → Int} {n g : Nat} {b : Int} : ∀ {k : Nat} {rs : List (Nat × Nat)}, Runs w n k rs →
    fls (pR g b y) w rs = fls y w rs ∨ ∃ A I I' t t' B, fls y w rs = A ++ (I ++ t :: B) ∧ fls (pR g b y) w rs = A ++ (I' ++ t' :: B) ∧ I.length = I'.length ∧ (∀ x ∈ I', x.2 = true) ∧ (t'.2 = true ∨ t'.2 = t.2)
  | _, _, .nil => .inl rfl
  | k, _, .cons (e := e) (rs := rs) h1 h2 h3 h4 h5 => by
    by_cases c : e ≤ g
    · have hh : fl (pR g b y) w (k, e) = fl y w (k, e) := by
        apply fl_eq
        · unfold pR
          simp only
          rw [if_neg (by omega)]
        · unfold pR
          simp only
          rw [if_neg (by omega)]
      rcases right_all (y := y) (g := g) (b := b) h5 with hs | ⟨A, I, I', t, t', B, e1, e2, e3, e4, e5⟩
      · exact .inl (by rw [fls_cons, fls_cons, hs, hh])
      · exact .inr ⟨fl y w (k, e) :: A, I, I', t, t', B, by rw [fls_cons, e1]; rfl, by rw [fls_cons, e2, hh]; rfl, e3, e4, e5⟩
    · rcases right_from (y := y) (g := g) (b := b) (.cons h1 h2 h3 h4 h5) (fun r hr => by
        rcases List.mem_cons.mp hr with z | z
        · rw [z]; show g < e; omega
        · have := runs_ge h5 r z
          omega) with hs | ⟨I, I', t, t', B, e1, e2, e3, e4, e5⟩
      · exact .inl hs
      · exact .inr ⟨[], I, I', t, t', B, e1, e2, e3, e4, e5⟩
/-! a push to the left -/
theorem left_beyond {y w : Nat → Int} {n g : Nat} {b : Int} : ∀ {k : Nat} {rs : List (Nat × Nat)}, Runs w n k rs → g ≤ k → fls (pL g b y) w rs = fls y w rs
  | _, _, .nil, _ => rfl
  | k, _, .cons (e := e) (rs := rs) h1 h2 h3 h4 h5, hg => by
    rw [fls_cons, fls_cons, left_beyond h5 (by omega)]
    congr 1
    apply fl_eq
    · unfold pL
      simp only
      rw [if_neg (by omega)]
    · unfold pL
      simp only
      rw [if_neg (by omega)]
theorem left_above {y w : Nat → Int} {n g : Nat} {b : Int} : ∀ {k : Nat} {rs : List (Nat × Nat)}, Runs w n k rs → (k < n → b < w k) →
    ∃ I I' B, fls y w rs = I ++ B ∧ fls (pL g b y) w rs = I' ++ B ∧ I.length = I'.length ∧ (∀ x ∈ I', x.1 = true)
  | _, _, .nil, _ => ⟨[], [], [], rfl, rfl, rfl, by simp⟩
  | k, _, .cons (e := e) (rs := rs) h1 h2 h3 h4 h5, hb => by
    have hb := hb (by omega)
    by_cases c : g ≤ k
    · exact ⟨[], [], fls y w ((k, e) :: rs), rfl, left_beyond (.cons h1 h2 h3 h4 h5) c, rfl, by simp⟩
    · obtain ⟨I, I', B, e1, e2, e3, e4⟩ := left_above (y := y) (g := g) (b := b) h5 (fun z => by have := h4 z; omega)
      refine ⟨fl y w (k, e) :: I, fl (pL g b y) w (k, e) :: I', B, by rw [fls_cons, e1]; rfl, by rw [fls_cons, e2]; rfl, by simp [e3], fun x hx => ?_⟩
      rcases List.mem_cons.mp hx with z | z
      · rw [z]
        unfold fl
        simp only
        apply decide_eq_true
        unfold pL
        rw [if_pos (by omega)]
        omega
      · exact e4 x z
theorem left_all {y w : Nat → Int} {n g : Nat} {b : Int} : ∀ {k : Nat} {rs : List (Nat × Nat)}, Runs w n k rs →
    fls (pL g b y) w rs = fls y w rs ∨ ∃ A I I' t t' B, fls y w rs = A ++ (t :: I ++ B) ∧ fls (pL g b y) w rs = A ++ (t' :: I' ++ B) ∧ I.length = I'.length ∧ (∀ x ∈ I', x.1 = true) ∧ (t'.1 = true ∨ t'.1 = t.1)
  | _, _, .nil => .inl rfl
  | k, _, .cons (e := e) (rs := rs) h1 h2 h3 h4 h5 => by
    by_cases c1 : w k < b
    · have hh : fl (pL g b y) w (k, e) = fl y w (k, e) := by
        apply fl_eq
        · unfold pL
          simp only
          split <;> omega
        · unfold pL
          simp only
          split <;> omega
      rcases left_all (y := y) (g := g) (b := b) h5 with hs | ⟨A, I, I', t, t', B, e1, e2, e3, e4, e5⟩
      · exact .inl (by rw [fls_cons, fls_cons, hs, hh])
      · exact .inr ⟨fl y w (k, e) :: A, I, I', t, t', B, by rw [fls_cons, e1]; rfl, by rw [fls_cons, e2, hh]; rfl, e3, e4, e5⟩
    by_cases c2 : w k = b
    · obtain ⟨I, I', B, e1, e2, e3, e4⟩ := left_above (y := y) (g := g) (b := b) h5 (fun z => by have := h4 z; omega)
      refine .inr ⟨[], I, I', fl y w (k, e), fl (pL g b y) w (k, e), B, by rw [fls_cons, e1]; rfl, by rw [fls_cons, e2]; rfl, e3, e4, .inr ?_⟩
      unfold fl
      simp only
      apply decide_eq_decide.mpr
      unfold pL
      split <;> omega
    · obtain ⟨I, I', B, e1, e2, e3, e4⟩ := left_above (y := y) (g := g) (b := b) (.cons h1 h2 h3 h4 h5) (fun z => by omega)
      match I, I', e1, e2, e3, e4 with
      | [], [], e1, e2, _, _ => exact .inl (by rw [e1, e2])
      | t :: I, t' :: I', e1, e2, e3, e4 => exact .inr ⟨[], I, I', t, t', B, e1, e2, by simpa using e3, fun x hx => e4 x (by simp [hx]), .inl (e4 t' (by simp))⟩
/-! one push does no more than one -/
theorem low_one {y w : Nat → Int} {n : Nat} {rs : List (Nat × Nat)} (h : Runs w n 0 rs) (p : Push) {c : Nat} (hw : Way (fls (doP y p) w rs) c) : ∃ c2, Way (fls y w rs) c2 ∧ c2 ≤ c + 1 := by
  obtain ⟨r, g, b⟩ := p
  cases r with
  | true =>
    have hw : Way (fls (pR g b y) w rs) c := hw
    rcases right_all (y := y) (g := g) (b := b) h with hs | ⟨A, I, I', t, t', B, e1, e2, e3, e4, e5⟩
    · exact ⟨c, by rw [← hs]; exact hw, by omega⟩
    · rw [e1]
      exact way_push hw A I' t' B e2 e4 I t e3 e5
  | false =>
    have hw : Way (fls (pL g b y) w rs) c := hw
    rcases left_all (y := y) (g := g) (b := b) h with hs | ⟨A, I, I', t, t', B, e1, e2, e3, e4, e5⟩
    · exact ⟨c, by rw [← hs]; exact hw, by omega⟩
    · rw [e1]
      rw [e2] at hw
      have hm := hw.mir
      have split : ∀ (t : Fl) (I : List Fl), mir (A ++ (t :: I ++ B)) = mir B ++ (mir I ++ t.swap :: mir A) := fun t I => by
        rw [mir_app, mir_app, show t :: I = [t] ++ I from rfl, mir_app]
        simp [mir]
      rw [split] at hm
      obtain ⟨c2, w2, l2⟩ := way_push hm (mir B) (mir I') t'.swap (mir A) rfl (fun x hx => by
        obtain ⟨z, hz, rfl⟩ := List.mem_map.mp (List.mem_reverse.mp hx)
        exact e4 z hz) (mir I) t.swap (by rw [mir_len, mir_len, e3]) e5
      refine ⟨c2, ?_, l2⟩
      have := w2.mir
      rw [← split, mir_mir] at this
      exact this
theorem fls_end {y w : Nat → Int} {n : Nat} : ∀ {k : Nat} {rs : List (Nat × Nat)}, Runs w n k rs → (∀ j, k ≤ j → j < n → y j = w j) → Way (fls y w rs) 0
  | _, _, .nil, _ => .nil
  | k, _, .cons (e := e) (rs := rs) h1 h2 h3 h4 h5, hy => by
    have ih := fls_end h5 (fun j hj hn => hy j (by omega) hn)
    have e0 : fl y w (k, e) = (false, false) := by
      unfold fl
      simp only
      rw [hy k (by omega) (by omega), hy (e - 1) (by omega) (by omega), h3 (e - 1) (by omega) (by omega)]
      simp
    rw [fls_cons, e0]
    exact Way.grp (g := [(false, false)]) (by simp) ih
/-- no fewer pushes lead there -/
theorem low_row {w : Nat → Int} {n : Nat} {rs : List (Nat × Nat)} (h : Runs w n 0 rs) : ∀ (r : List Push) (y : Nat → Int), (∀ j, j < n → doR y r j = w j) → ∃ c, Way (fls y w rs) c ∧ c ≤ r.length
  | [], y, hy => ⟨0, fls_end h (fun j _ hj => hy j hj), Nat.le_refl _⟩
  | p :: r, y, hy => by
    obtain ⟨c, hc, hl⟩ := low_row h r (doP y p) hy
    obtain ⟨c2, h2, l2⟩ := low_one h p hc
    exact ⟨c2, h2, by simp; omega⟩
end PS

namespace PS
/-! ### the rows that the program tells: one group of bands -/
/-- runs from k to e -/
inductive RunsTo (w : Nat → Int) (n : Nat) : Nat → Nat → List (Nat × Nat) → Prop
  | nil {k : Nat} : RunsTo w n k k []
  | cons {f e m : Nat} {rs : List (Nat × Nat)} : f < e → e ≤ n → (∀ j, f ≤ j → j < e → w j = w f) → (e < n → w f < w e) → RunsTo w n e m rs → RunsTo w n f m ((f, e) :: rs)
theorem RunsTo.le {w : Nat → Int} {n : Nat} : ∀ {k m : Nat} {rs : List (Nat × Nat)}, RunsTo w n k m rs → k ≤ m
  | _, _, _, .nil => Nat.le_refl _
  | _, _, _, .cons h1 _ _ _ h5 => by have := h5.le; omega
theorem RunsTo.lt {w : Nat → Int} {n k m : Nat} {rs : List (Nat × Nat)} (h : RunsTo w n k m rs) (hn : rs ≠ []) : k < m := by
  cases h with
  | nil => exact absurd rfl hn
  | cons h1 _ _ _ h5 => have := h5.le; omega
theorem RunsTo.len {w : Nat → Int} {n : Nat} : ∀ {k m : Nat} {rs : List (Nat × Nat)}, RunsTo w n k m rs → k + rs.length ≤ m
  | _, _, _, .nil => by simp
  | _, _, _, .cons h1 _ _ _ h5 => by
    have := h5.len
    simp
    omega
theorem RunsTo.le_n {w : Nat → Int} {n : Nat} : ∀ {k m : Nat} {rs : List (Nat × Nat)}, RunsTo w n k m rs → rs ≠ [] → m ≤ n
  | _, _, _, .nil, h => absurd rfl h
  | _, m, _, .cons (rs := rs) h1 h2 _ _ h5, _ => by
    cases rs with
    | nil => cases h5; exact h2
    | cons r rs => exact h5.le_n (by simp)
theorem RunsTo.app {w : Nat → Int} {n : Nat} : ∀ {k m l : Nat} {rs qs : List (Nat × Nat)}, RunsTo w n k m rs → RunsTo w n m l qs → RunsTo w n k l (rs ++ qs)
  | _, _, _, _, _, .nil, h => h
  | _, _, _, _, _, .cons h1 h2 h3 h4 h5, h => .cons h1 h2 h3 h4 (h5.app h)
theorem RunsTo.split {w : Nat → Int} {n : Nat} : ∀ {rs qs : List (Nat × Nat)} {k l : Nat}, RunsTo w n k l (rs ++ qs) → ∃ m, RunsTo w n k m rs ∧ RunsTo w n m l qs
  | [], qs, k, l, h => ⟨k, .nil, h⟩
  | r :: rs, qs, k, l, h => by
    cases h with
    | cons h1 h2 h3 h4 h5 =>
      obtain ⟨m, a, b⟩ := RunsTo.split h5
      exact ⟨m, .cons h1 h2 h3 h4 a, b⟩
theorem RunsTo.runs {w : Nat → Int} {n : Nat} : ∀ {k : Nat} {rs : List (Nat × Nat)}, RunsTo w n k n rs → Runs w n k rs
  | _, _, .nil => .nil
  | _, _, .cons h1 h2 h3 h4 h5 => .cons h1 h2 h3 h4 h5.runs
/-- rising -/
def Up (n : Nat) (w : Nat → Int) : Prop := ∀ i j, i ≤ j → j < n → w i ≤ w j
theorem Rise.mono {n : Nat} {pl : Int} {y : Nat → Int} (h : Rise n pl y) : Up n y := by
  intro i j hij
  induction j with
  | zero =>
    intro _
    have : i = 0 := by omega
    subst this
    exact Int.le_refl _
  | succ j ih =>
    intro hj
    by_cases e : i = j + 1
    · subst e; exact Int.le_refl _
    · have := ih (by omega) (by omega)
      have := h.up j hj
      omega
/-- the last run -/
theorem RunsTo.last {w : Nat → Int} {n : Nat} : ∀ {k m : Nat} {rs : List (Nat × Nat)} {r : Nat × Nat}, RunsTo w n k m (rs ++ [r]) → r.2 = m ∧ r.1 < m ∧ m ≤ n ∧ (∀ j, r.1 ≤ j → j < m → w j = w r.1) ∧ (m < n → w r.1 < w m) ∧ RunsTo w n k r.1 rs := by
  intro k m rs r h
  obtain ⟨l, a, b⟩ := h.split
  cases b with
  | cons h1 h2 h3 h4 h5 =>
    cases h5
    exact ⟨rfl, h1, h2, h3, h4, a⟩
/-! what a push leaves as it is -/
def Sim (n : Nat) (w : Nat → Int) (k : Nat) (z y : Nat → Int) : Prop := ∀ j, k ≤ j → j < n → (z j < w j ↔ y j < w j) ∧ (w j < z j ↔ w j < y j)
theorem Sim.refl {n : Nat} {w : Nat → Int} {k : Nat} {y : Nat → Int} : Sim n w k y y := fun _ _ _ => ⟨Iff.rfl, Iff.rfl⟩
theorem Sim.trans {n : Nat} {w : Nat → Int} {k : Nat} {x y z : Nat → Int} (h : Sim n w k x y) (g : Sim n w k y z) : Sim n w k x z := fun j h1 h2 => ⟨(h j h1 h2).1.trans (g j h1 h2).1, (h j h1 h2).2.trans (g j h1 h2).2⟩
theorem Sim.le {n : Nat} {w : Nat → Int} {k m : Nat} {x y : Nat → Int} (h : Sim n w k x y) (e : k ≤ m) : Sim n w m x y := fun j h1 h2 => h j (by omega) h2
theorem sim_pR {n : Nat} {w z : Nat → Int} {k g : Nat} {b : Int} (h : ∀ j, k ≤ j → j < n → b < w j) : Sim n w k (pR g b z) z := fun j h1 h2 => by
  have := h j h1 h2
  unfold pR
  split <;> omega
theorem sim_pL {n : Nat} {w z : Nat → Int} {k g : Nat} {b : Int} (h : g ≤ k) : Sim n w k (pL g b z) z := fun j h1 h2 => by
  unfold pL
  rw [if_neg (by omega)]
  exact ⟨Iff.rfl, Iff.rfl⟩
theorem above {n : Nat} {w : Nat → Int} {r m : Nat} (up : Up n w) (h : m < n → w r < w m) : ∀ j, m ≤ j → j < n → w r < w j := fun j h1 h2 => by
  have := up m j h1 h2
  have := h (by omega)
  omega
/-! all from the left, down to their places -/
theorem low_all {n : Nat} {w : Nat → Int} (up : Up n w) : ∀ {k m : Nat} {rs : List (Nat × Nat)}, RunsTo w n k m rs → ∀ (z : Nat → Int) (P : Int), (∀ j, j < k → z j = w j) → (∀ j, k ≤ j → j < m → z j = P) → (∀ j, k ≤ j → j < m → w j ≤ P) →
    (∀ j, j < m → doR z (rs.map fun r => (false, r.2, w r.1)) j = w j) ∧ ∀ j, m ≤ j → doR z (rs.map fun r => (false, r.2, w r.1)) j = z j
  | k, _, _, .nil, z, P, h1, h2, h3 => ⟨h1, fun _ _ => rfl⟩
  | k, m, _, .cons (e := e) (rs := rs) c1 c2 c3 c4 c5, z, P, h1, h2, h3 => by
    have hle := c5.le
    have ih := low_all up c5 (pL e (w k) z) P (fun j hj => by
      unfold pL
      rw [if_pos hj]
      by_cases hk : j < k
      · rw [h1 j hk]
        have := up j k (by omega) (by omega)
        omega
      · rw [h2 j (by omega) (by omega), c3 j (by omega) hj]
        have := h3 k (by omega) (by omega)
        omega) (fun j a b => by
        unfold pL
        rw [if_neg (by omega)]
        exact h2 j (by omega) b) (fun j a b => h3 j (by omega) b)
    refine ⟨ih.1, fun j hj => ?_⟩
    have := ih.2 j hj
    show doR (pL e (w k) z) (rs.map fun r => (false, r.2, w r.1)) j = z j
    rw [this]
    unfold pL
    rw [if_neg (by omega)]
/-! all from the left, up to their places -/
theorem raise_all {n : Nat} {w : Nat → Int} (up : Up n w) : ∀ {k m : Nat} {rs : List (Nat × Nat)}, RunsTo w n k m rs → ∀ (z : Nat → Int) (P : Int), (∀ j, j < k → z j = w j) → (∀ j, k ≤ j → j < m → z j = P) → (∀ j, k ≤ j → j < m → P ≤ w j) →
    (∀ j, j < m → doR z (rs.map fun r => (true, r.1, w r.1)) j = w j) ∧ Sim n w m (doR z (rs.map fun r => (true, r.1, w r.1))) z
  | k, _, _, .nil, z, P, h1, h2, h3 => ⟨h1, Sim.refl⟩
  | k, m, _, .cons (e := e) (rs := rs) c1 c2 c3 c4 c5, z, P, h1, h2, h3 => by
    have hle := c5.le
    have ih := raise_all up c5 (pR k (w k) z) (w k) (fun j hj => by
      unfold pR
      by_cases hk : j < k
      · rw [if_neg (by omega)]
        exact h1 j hk
      · rw [if_pos (by omega), h2 j (by omega) (by omega), c3 j (by omega) hj]
        have := h3 k (by omega) (by omega)
        omega) (fun j a b => by
        unfold pR
        rw [if_pos (by omega), h2 j (by omega) b]
        have := h3 k (by omega) (by omega)
        omega) (fun j a b => by
          by_cases hmn : j < n
          · exact up k j (by omega) hmn
          · exfalso
            cases rs with
            | nil => cases c5; omega
            | cons r rs =>
              have := c5.le_n (by simp)
              omega)
    refine ⟨ih.1, ih.2.trans (sim_pR fun j a b => ?_)⟩
    exact above up c4 j (by omega) b
def rowAlone (y w : Nat → Int) (r : Nat × Nat) : List Push := (if y r.1 < w r.1 then [(true, r.1, w r.1)] else []) ++ (if w r.1 < y (r.2 - 1) then [(false, r.2, w r.1)] else [])
def rowLast (w : Nat → Int) (G : List (Nat × Nat)) (f l : Nat × Nat) : List Push := (true, f.1, w l.1) :: G.dropLast.map fun r => (false, r.2, w r.1)
def rowFirst (y w : Nat → Int) (G : List (Nat × Nat)) (f l : Nat × Nat) : List Push := (false, l.2, w f.1) :: ((if y f.1 < w f.1 then [(true, f.1, w f.1)] else []) ++ G.tail.map fun r => (true, r.1, w r.1))
def rowT (y w : Nat → Int) (G : List (Nat × Nat)) : List Push :=
  if G.length = 1 then rowAlone y w (G.headD (0, 0)) else
  if ¬ w (G.getLastD (0, 0)).1 < y ((G.getLastD (0, 0)).2 - 1) then rowLast w G (G.headD (0, 0)) (G.getLastD (0, 0)) else rowFirst y w G (G.headD (0, 0)) (G.getLastD (0, 0))
/-- where the row of a group leads -/
theorem alone_ok {n : Nat} {w y z : Nat → Int} (up : Up n w) (uz : Up n z) {k e : Nat} (h1 : k < e) (h2 : e ≤ n) (h3 : ∀ j, k ≤ j → j < e → w j = w k) (h4 : e < n → w k < w e) (hz : ∀ j, j < k → z j = w j) (sm : Sim n w k z y) :
    (∀ j, j < e → doR z (rowAlone y w (k, e)) j = w j) ∧ Sim n w e (doR z (rowAlone y w (k, e))) z := by
  have ab := above up h4
  have s1 := (sm k (by omega) (by omega)).1
  have s2 := (sm (e - 1) (by omega) (by omega)).2
  rw [h3 (e - 1) (by omega) (by omega)] at s2
  have below : ∀ j, j < k → w j ≤ w k := fun j hj => up j k (by omega) (by omega)
  have zlo : ∀ j, k ≤ j → j < e → z k ≤ z j := fun j a b => uz k j a (by omega)
  have zhi : ∀ j, k ≤ j → j < e → z j ≤ z (e - 1) := fun j a b => uz j (e - 1) (by omega) (by omega)
  unfold rowAlone
  by_cases u : y k < w k
  · by_cases d : w k < y (e - 1)
    · rw [if_pos u, if_pos d]
      show (∀ j, j < e → pL e (w k) (pR k (w k) z) j = w j) ∧ Sim n w e (pL e (w k) (pR k (w k) z)) z
      refine ⟨fun j hj => ?_, (sim_pL (Nat.le_refl _)).trans (sim_pR fun j a b => ab j (by omega) b)⟩
      unfold pL pR
      rw [if_pos hj]
      by_cases hk : j < k
      · rw [if_neg (by omega), hz j hk]
        have := below j hk
        omega
      · rw [if_pos (by omega), h3 j (by omega) hj]
        omega
    · rw [if_pos u, if_neg d]
      show (∀ j, j < e → pR k (w k) z j = w j) ∧ Sim n w e (pR k (w k) z) z
      refine ⟨fun j hj => ?_, sim_pR fun j a b => ab j (by omega) b⟩
      unfold pR
      by_cases hk : j < k
      · rw [if_neg (by omega), hz j hk]
      · rw [if_pos (by omega), h3 j (by omega) hj]
        have := zhi j (by omega) hj
        omega
  · by_cases d : w k < y (e - 1)
    · rw [if_neg u, if_pos d]
      show (∀ j, j < e → pL e (w k) z j = w j) ∧ Sim n w e (pL e (w k) z) z
      refine ⟨fun j hj => ?_, sim_pL (Nat.le_refl _)⟩
      unfold pL
      rw [if_pos hj]
      by_cases hk : j < k
      · rw [hz j hk]
        have := below j hk
        omega
      · rw [h3 j (by omega) hj]
        have := zlo j (by omega) hj
        omega
    · rw [if_neg u, if_neg d]
      show (∀ j, j < e → z j = w j) ∧ Sim n w e z z
      refine ⟨fun j hj => ?_, Sim.refl⟩
      by_cases hk : j < k
      · exact hz j hk
      · rw [h3 j (by omega) hj]
        have := zlo j (by omega) hj
        have := zhi j (by omega) hj
        omega
theorem last_ok {n : Nat} {w y z : Nat → Int} (up : Up n w) (uz : Up n z) {k e : Nat} {G : List (Nat × Nat)} {f l : Nat × Nat} (h : RunsTo w n k e (G ++ [l])) (hf : f.1 = k) (hd : ¬ w l.1 < y (l.2 - 1)) (hz : ∀ j, j < k → z j = w j) (sm : Sim n w k z y) :
    (∀ j, j < e → doR z (rowLast w (G ++ [l]) f l) j = w j) ∧ Sim n w e (doR z (rowLast w (G ++ [l]) f l)) z := by
  obtain ⟨e1, e2, e3, e4, e5, e6⟩ := h.last
  have hk : k ≤ l.1 := e6.le
  have s2 := (sm (e - 1) (by omega) (by omega)).2
  rw [e4 (e - 1) (by omega) (by omega)] at s2
  rw [e1] at hd
  have zP : ∀ j, k ≤ j → j < e → z j ≤ w l.1 := fun j a b => by
    have := uz j (e - 1) (by omega) (by omega)
    omega
  unfold rowLast
  rw [List.dropLast_concat]
  show (∀ j, j < e → doR (pR f.1 (w l.1) z) (G.map fun r => (false, r.2, w r.1)) j = w j) ∧ Sim n w e (doR (pR f.1 (w l.1) z) (G.map fun r => (false, r.2, w r.1))) z
  rw [hf]
  have la := low_all up e6 (pR k (w l.1) z) (w l.1) (fun j hj => by
    unfold pR
    rw [if_neg (by omega)]
    exact hz j hj) (fun j a b => by
      unfold pR
      rw [if_pos a]
      have := zP j a (by omega)
      omega) (fun j a b => up j l.1 (by omega) (by omega))
  refine ⟨fun j hj => ?_, fun j a b => ?_⟩
  · by_cases c : j < l.1
    · exact la.1 j c
    · rw [la.2 j (by omega)]
      unfold pR
      rw [if_pos (by omega), e4 j (by omega) hj]
      have := zP j (by omega) hj
      omega
  · have e8 := la.2 j (by omega)
    rw [e8]
    exact sim_pR (z := z) (g := k) (b := w l.1) (fun i a' b' => above up e5 i a' b') j a b
theorem first_ok {n : Nat} {w y z : Nat → Int} (up : Up n w) (uz : Up n z) {k e : Nat} {G : List (Nat × Nat)} {f l : Nat × Nat} (h : RunsTo w n k e (f :: G)) (hl : l.2 = e) (hz : ∀ j, j < k → z j = w j) (sm : Sim n w k z y) :
    (∀ j, j < e → doR z (rowFirst y w (f :: G) f l) j = w j) ∧ Sim n w e (doR z (rowFirst y w (f :: G) f l)) z := by
  have hen := h.le_n (by simp)
  cases h with
  | @cons _ e1 _ _ h1 h2 h3 h4 h5 =>
    have hle := h5.le
    have s1 := (sm k (by omega) (by omega)).1
    have zlo : ∀ j, k ≤ j → j < e → z k ≤ z j := fun j a b => uz k j a (by omega)
    unfold rowFirst
    simp only [List.tail_cons, hl]
    have fin : ∀ x : Nat → Int, (∀ j, j < k → x j = w j) → (∀ j, k ≤ j → j < e → x j = w k) → Sim n w e x z → (∀ j, j < e → doR x (G.map fun r => (true, r.1, w r.1)) j = w j) ∧ Sim n w e (doR x (G.map fun r => (true, r.1, w r.1))) z := fun x a b s => by
      have ra := raise_all up h5 x (w k) (fun j hj => by
        by_cases c : j < k
        · exact a j c
        · rw [b j (by omega) (by omega), h3 j (by omega) hj]) (fun j p q => b j (by omega) q) (fun j p q => up k j (by omega) (by omega))
      exact ⟨ra.1, ra.2.trans s⟩
    have lo : ∀ j, j < k → pL e (w k) z j = w j := fun j hj => by
      unfold pL
      rw [if_pos (by omega), hz j hj]
      have := up j k (by omega) (by omega)
      omega
    by_cases u : y k < w k
    · rw [if_pos u]
      show (∀ j, j < e → doR (pR k (w k) (pL e (w k) z)) (G.map fun r => (true, r.1, w r.1)) j = w j) ∧ Sim n w e (doR (pR k (w k) (pL e (w k) z)) (G.map fun r => (true, r.1, w r.1))) z
      apply fin
      · intro j hj
        unfold pR
        rw [if_neg (by omega)]
        exact lo j hj
      · intro j a b
        unfold pR pL
        rw [if_pos a, if_pos b]
        omega
      · exact (sim_pR fun j a b => above up h4 j (by omega) b).trans (sim_pL (Nat.le_refl _))
    · rw [if_neg u]
      show (∀ j, j < e → doR (pL e (w k) z) (G.map fun r => (true, r.1, w r.1)) j = w j) ∧ Sim n w e (doR (pL e (w k) z) (G.map fun r => (true, r.1, w r.1))) z
      apply fin
      · exact lo
      · intro j a b
        unfold pL
        rw [if_pos b]
        have := zlo j a b
        omega
      · exact sim_pL (Nat.le_refl _)
theorem lastD_ne {α : Type} {l : List α} {d : α} (h : l ≠ []) : l.getLastD d = l.getLast h := by
  cases l with
  | nil => exact absurd rfl h
  | cons a l => rw [List.getLastD_cons, List.getLast_eq_getLastD]
theorem rowT_ok {n : Nat} {w y z : Nat → Int} (up : Up n w) (uz : Up n z) {k e : Nat} {G : List (Nat × Nat)} (h : RunsTo w n k e G) (hG : G ≠ []) (hz : ∀ j, j < k → z j = w j) (sm : Sim n w k z y) :
    (∀ j, j < e → doR z (rowT y w G) j = w j) ∧ Sim n w e (doR z (rowT y w G)) z := by
  unfold rowT
  match G, hG with
  | [r], _ =>
    rw [if_pos (show [r].length = 1 from rfl)]
    cases h with
    | cons h1 h2 h3 h4 h5 =>
      cases h5
      exact alone_ok up uz h1 h2 h3 h4 hz sm
  | r :: q :: G, _ =>
    rw [if_neg (by simp)]
    have hr : r.1 = k := by cases h; rfl
    have hs : r :: q :: G = (r :: q :: G).dropLast ++ [(r :: q :: G).getLastD (0, 0)] := by
      rw [lastD_ne (by simp)]
      exact (List.dropLast_concat_getLast (by simp)).symm
    split
    · rename_i hd
      generalize hll : (r :: q :: G).getLastD (0, 0) = l at *
      rw [hs] at h ⊢
      exact last_ok up uz h hr hd hz sm
    · refine first_ok up uz h ?_ hz sm
      rw [hs] at h
      exact h.last.1
/-! the length -/
theorem rowT_len {w y : Nat → Int} {G : List (Nat × Nat)} (hG : G ≠ []) : (rowT y w G).length = gc (fls y w G) := by
  unfold rowT
  match G, hG with
  | [r], _ =>
    rw [if_pos (show [r].length = 1 from rfl)]
    show (rowAlone y w r).length = (decide (y r.1 < w r.1)).toNat + (decide (w r.1 < y (r.2 - 1))).toNat
    unfold rowAlone
    rw [List.length_append]
    congr 1
    · by_cases c : y r.1 < w r.1
      · rw [if_pos c, decide_eq_true c]; rfl
      · rw [if_neg c, decide_eq_false c]; rfl
    · by_cases c : w r.1 < y (r.2 - 1)
      · rw [if_pos c, decide_eq_true c]; rfl
      · rw [if_neg c, decide_eq_false c]; rfl
  | r :: q :: G, _ =>
    rw [if_neg (by simp), gc_two (by simp [fls])]
    have hlen : (fls y w (r :: q :: G)).length = G.length + 2 := by simp [fls]
    have hl : (fls y w (r :: q :: G)).getLast? = some (fl y w ((r :: q :: G).getLastD (0, 0))) := by
      unfold fls
      rw [List.getLast?_map, List.getLast?_eq_some_getLast (by simp), lastD_ne (by simp)]
      rfl
    have hb : bad (fls y w (r :: q :: G)) = (decide (y r.1 < w r.1) && decide (w ((r :: q :: G).getLastD (0, 0)).1 < y (((r :: q :: G).getLastD (0, 0)).2 - 1))).toNat := by
      unfold bad
      rw [hl]
      rfl
    rw [hlen, hb]
    generalize (r :: q :: G).getLastD (0, 0) = l
    split
    · rename_i hd
      rw [decide_eq_false hd]
      unfold rowLast
      simp
    · rename_i hd
      rw [decide_eq_true (Decidable.not_not.mp hd)]
      unfold rowFirst
      simp only [List.headD_cons, List.length_cons, List.length_append, List.length_map, List.tail_cons, Bool.and_true]
      by_cases u : y r.1 < w r.1
      · simp [u]; omega
      · simp [u]
/-! the pushes are good ones -/
theorem rowT_pu {n : Nat} {pl : Int} {w y : Nat → Int} (ri : Rise n pl w) {k e : Nat} {G : List (Nat × Nat)} (h : RunsTo w n k e G) (hG : G ≠ []) : ∀ p ∈ rowT y w G, PuOk n pl p := by
  have hr : ∀ {k e : Nat} {G : List (Nat × Nat)}, RunsTo w n k e G → ∀ r ∈ G, r.1 < r.2 ∧ r.2 ≤ n := by
    intro k e G h
    induction h with
    | nil => intro r hr; simp at hr
    | cons h1 h2 _ _ _ ih =>
      intro r hr
      rcases List.mem_cons.mp hr with z | z
      · rw [z]; exact ⟨h1, h2⟩
      · exact ih r z
  have hr := hr h
  have R : ∀ r ∈ G, ∀ q ∈ G, PuOk n pl (true, r.1, w q.1) := fun r a q b => by
    have := hr r a
    have := hr q b
    exact ⟨fun _ => by simp only; omega, fun z => by simp at z, ri.lo q.1 (by omega), ri.hi q.1 (by omega)⟩
  have L : ∀ r ∈ G, ∀ q ∈ G, PuOk n pl (false, r.2, w q.1) := fun r a q b => by
    have := hr r a
    have := hr q b
    exact ⟨fun z => by simp at z, fun _ => by simp only; omega, ri.lo q.1 (by omega), ri.hi q.1 (by omega)⟩
  have hf : G.headD (0, 0) ∈ G := by
    cases G with
    | nil => exact absurd rfl hG
    | cons r G => simp
  have hl : G.getLastD (0, 0) ∈ G := by
    cases G with
    | nil => exact absurd rfl hG
    | cons r G =>
      rw [lastD_ne (by simp)]
      exact List.getLast_mem _
  intro p hp
  unfold rowT at hp
  split at hp
  · unfold rowAlone at hp
    rcases List.mem_append.mp hp with z | z
    · split at z
      · rw [List.mem_singleton.mp z]; exact R _ hf _ hf
      · simp at z
    · split at z
      · rw [List.mem_singleton.mp z]; exact L _ hf _ hf
      · simp at z
  · split at hp
    · unfold rowLast at hp
      rcases List.mem_cons.mp hp with z | z
      · rw [z]; exact R _ hf _ hl
      · obtain ⟨r, hr, rfl⟩ := List.mem_map.mp z
        exact L _ (List.dropLast_subset _ hr) _ (List.dropLast_subset _ hr)
    · unfold rowFirst at hp
      rcases List.mem_cons.mp hp with z | z
      · rw [z]; exact L _ hl _ hf
      · rcases List.mem_append.mp z with z | z
        · split at z
          · rw [List.mem_singleton.mp z]; exact R _ hf _ hf
          · simp at z
        · obtain ⟨r, hr, rfl⟩ := List.mem_map.mp z
          exact R _ (List.mem_of_mem_tail hr) _ (List.mem_of_mem_tail hr)
/-! ### one group behind the other: what the program has for the first m bands -/
structure Told (n : Nat) (pl : Int) (y w : Nat → Int) (rs : List (Nat × Nat)) (m : Nat) (r : List Push) : Prop where
  ok : ∀ p ∈ r, PuOk n pl p
  least : Least (fls y w (rs.take m)) r.length
  lead : ∀ k, RunsTo w n 0 k (rs.take m) → (∀ j, j < k → doR y r j = w j) ∧ Sim n w k (doR y r) y
theorem told_nil {n : Nat} {pl : Int} {y w : Nat → Int} {rs : List (Nat × Nat)} : Told n pl y w rs 0 [] where
  ok := by simp
  least := by
    simp only [List.take_zero]
    exact ⟨.nil, fun c _ => Nat.zero_le _⟩
  lead := fun k h => by
    simp only [List.take_zero] at h
    cases h
    exact ⟨fun j hj => by omega, Sim.refl⟩
theorem told_next {n : Nat} {pl : Int} {y w : Nat → Int} {rs : List (Nat × Nat)} {m : Nat} (rw' : Rise n pl w) (ry : Rise n pl y) (h : RunsTo w n 0 n rs) (hm : m < rs.length) (f : Nat → List Push) (hf : ∀ a, a ≤ m → Told n pl y w rs a (f a))
    {a : Nat} (ha : a ≤ m) (r : List Push) (hr : r = f a ++ rowT y w ((rs.take (m + 1)).drop a)) (hmin : ∀ b, b ≤ m → r.length ≤ (f b ++ rowT y w ((rs.take (m + 1)).drop b)).length) : Told n pl y w rs (m + 1) r := by
  have hne : ∀ b, b ≤ m → (rs.take (m + 1)).drop b ≠ [] := fun b hb z => by
    have := congrArg List.length z
    rw [List.length_drop, List.length_take] at this
    simp at this
    omega
  have tk : ∀ b, b ≤ m → (rs.take (m + 1)).take b = rs.take b := fun b hb => by rw [List.take_take, Nat.min_eq_left (by omega)]
  have sp : ∀ b, b ≤ m → ∀ k, RunsTo w n 0 k (rs.take (m + 1)) → ∃ l, RunsTo w n 0 l (rs.take b) ∧ RunsTo w n l k ((rs.take (m + 1)).drop b) := fun b hb k hk => by
    rw [← List.take_append_drop b (rs.take (m + 1)), tk b hb] at hk
    exact hk.split
  obtain ⟨K, hK, _⟩ : ∃ K, RunsTo w n 0 K (rs.take (m + 1)) ∧ RunsTo w n K n (rs.drop (m + 1)) := by
    rw [← List.take_append_drop (m + 1) rs] at h
    exact h.split
  have flt : ∀ b, b ≤ m → (fls y w (rs.take (m + 1))).take b = fls y w (rs.take b) := fun b hb => by
    unfold fls
    rw [← List.map_take, tk b hb]
  have fld : ∀ b, (fls y w (rs.take (m + 1))).drop b = fls y w ((rs.take (m + 1)).drop b) := fun b => by
    unfold fls
    rw [List.map_drop]
  have fll : (fls y w (rs.take (m + 1))).length = m + 1 := by
    unfold fls
    rw [List.length_map, List.length_take]
    omega
  refine ⟨fun p hp => ?_, ⟨?_, fun c hc => ?_⟩, fun k hk => ?_⟩
  · rw [hr] at hp
    rcases List.mem_append.mp hp with z | z
    · exact (hf a ha).ok p z
    · obtain ⟨l, _, h2⟩ := sp a ha K hK
      exact rowT_pu rw' h2 (hne a ha) p z
  · rw [hr, List.length_append, rowT_len (hne a ha), ← fld]
    refine last_way (by omega) ?_
    rw [flt a ha]
    exact (hf a ha).least.1
  · obtain ⟨b, c', h1, h2, h3⟩ := way_last hc (fun z => by rw [z] at fll; simp at fll)
    rw [fll] at h1
    rw [flt b (by omega)] at h2
    have h4 := (hf b (by omega)).least.2 c' h2
    have h5 := hmin b (by omega)
    rw [List.length_append, rowT_len (hne b (by omega)), ← fld] at h5
    omega
  · obtain ⟨l, h1, h2⟩ := sp a ha k hk
    obtain ⟨l1, l2⟩ := (hf a ha).lead l h1
    have uz : Up n (doR y (f a)) := (doR_rise ry (hf a ha).ok).mono
    have := rowT_ok (y := y) rw'.mono uz h2 (hne a ha) l1 l2
    rw [hr, doR_app]
    exact ⟨this.1, this.2.trans (l2.le (by have := h2.le; omega))⟩
/-- all bands -/
theorem told_all {n : Nat} {pl : Int} {y w : Nat → Int} {rs : List (Nat × Nat)} {r : List Push} (h : RunsTo w n 0 n rs) (t : Told n pl y w rs rs.length r) : Least (fls y w rs) r.length ∧ (∀ p ∈ r, PuOk n pl p) ∧ (∀ j, j < n → doR y r j = w j) ∧ ∀ q : List Push, (∀ j, j < n → doR y q j = w j) → r.length ≤ q.length := by
  have hl := t.least
  rw [List.take_length] at hl
  refine ⟨hl, t.ok, (t.lead n (by rw [List.take_length]; exact h)).1, fun q hq => ?_⟩
  obtain ⟨c, hc, hle⟩ := low_row h.runs q y hq
  exact Nat.le_trans (hl.2 c hc) hle
end PS

namespace PS
/-! ### how long a run is, counted -/
theorem sorted_run : ∀ (l : List Int) (a : Int), (a :: l).Pairwise (· ≤ ·) → ∀ j, j < l.length + 1 → ((a :: l).getD j 0 = a ↔ j < (a :: l).count a)
  | [], a, _, j, hj => by
    have : j = 0 := by simpa using hj
    subst this
    simp
  | b :: l, a, h, j, hj => by
    have hab : a ≤ b := (List.pairwise_cons.mp h).1 b (by simp)
    by_cases e : b = a
    · subst e
      rw [List.count_cons_self]
      cases j with
      | zero => simp
      | succ j =>
        have ih := sorted_run l b (List.pairwise_cons.mp h).2 j (by simpa using hj)
        rw [List.getD_cons_succ]
        omega
    · have hgt : ∀ x ∈ b :: l, a < x := fun x hx => by
        have h2 := (List.pairwise_cons.mp h).2
        rcases List.mem_cons.mp hx with z | z
        · omega
        · have := (List.pairwise_cons.mp h2).1 x z
          omega
      have hc : (a :: b :: l).count a = 1 := by
        rw [List.count_cons_self, List.count_eq_zero.mpr]
        intro hm
        have := hgt a hm
        omega
      rw [hc]
      cases j with
      | zero => simp
      | succ j =>
        rw [List.getD_cons_succ]
        have hj' : j < (b :: l).length := by simpa using hj
        have : (b :: l).getD j 0 = (b :: l)[j] := by
          rw [List.getD_eq_getElem?_getD, List.getElem?_eq_getElem hj']
          rfl
        rw [this]
        have := hgt _ (List.getElem_mem hj')
        omega
theorem run_count {n : Nat} {w : Nat → Int} {f : Nat} (up : Up n w) (hf : f < n) (hb : f = 0 ∨ w (f - 1) < w f) :
    1 ≤ ((List.range n).map w).count (w f) ∧ f + ((List.range n).map w).count (w f) ≤ n ∧ (∀ j, f ≤ j → j < f + ((List.range n).map w).count (w f) → w j = w f) ∧ (f + ((List.range n).map w).count (w f) < n → w f < w (f + ((List.range n).map w).count (w f))) := by
  have h0 : (((List.range n).map w).take f).count (w f) = 0 := by
    rw [List.count_eq_zero]
    intro hm
    rw [← List.map_take, List.take_range] at hm
    obtain ⟨j, hj, e⟩ := List.mem_map.mp hm
    rw [List.mem_range] at hj
    rcases hb with z | z
    · omega
    · have := up j (f - 1) (by omega) (by omega)
      omega
  have hlen : ((List.range n).map w).length = n := by simp
  have hsplit : ((List.range n).map w).count (w f) = (((List.range n).map w).drop f).count (w f) := by
    have := List.take_append_drop f ((List.range n).map w)
    rw [← this, List.count_append, h0, Nat.zero_add, this]
  have hd : ((List.range n).map w).drop f = w f :: ((List.range n).map w).drop (f + 1) := by
    rw [List.drop_eq_getElem_cons (by omega)]
    simp
  have hget : ∀ j, j < n - f → (((List.range n).map w).drop f).getD j 0 = w (f + j) := fun j hj => by
    rw [List.getD_eq_getElem?_getD, List.getElem?_drop, List.getElem?_map, List.getElem?_range (by omega)]
    rfl
  have hs : (((List.range n).map w).drop f).Pairwise (· ≤ ·) := by
    apply List.Pairwise.drop
    rw [List.pairwise_iff_getElem]
    intro i j hi hj hij
    simp only [List.getElem_map, List.getElem_range]
    simp at hi hj
    exact up i j (by omega) hj
  rw [hsplit]
  have hl2 : (((List.range n).map w).drop f).length = n - f := by rw [List.length_drop, hlen]
  have key : ∀ j, j < n - f → (w (f + j) = w f ↔ j < (((List.range n).map w).drop f).count (w f)) := fun j hj => by
    have := sorted_run (((List.range n).map w).drop (f + 1)) (w f) (by rw [← hd]; exact hs) j (by rw [hd] at hl2; simp at hl2 ⊢; omega)
    rw [← hd, hget j hj] at this
    exact this
  have hle : (((List.range n).map w).drop f).count (w f) ≤ n - f := by
    rw [← hl2]
    exact List.count_le_length
  refine ⟨?_, by omega, fun j h1 h2 => ?_, fun h => ?_⟩
  · have := (key 0 (by omega)).mp rfl
    omega
  · have := (key (j - f) (by omega)).mpr (by omega)
    rw [show f + (j - f) = j from by omega] at this
    exact this
  · have h1 := mt (key _ (show (((List.range n).map w).drop f).count (w f) < n - f by omega)).mp (Nat.lt_irrefl _)
    have h2 := up f (f + (((List.range n).map w).drop f).count (w f)) (by omega) h
    omega
/-- the end of the last run so far, and what is next -/
theorem RunsTo.front {w : Nat → Int} {n : Nat} : ∀ {k m : Nat} {rs : List (Nat × Nat)}, RunsTo w n k m rs → rs ≠ [] → m < n → w (m - 1) < w m
  | _, _, _, .nil, h, _ => absurd rfl h
  | k, m, _, .cons (e := e) (rs := rs) h1 h2 h3 h4 h5, _, hm => by
    cases rs with
    | nil =>
      cases h5
      have := h4 hm
      rw [h3 (m - 1) (by omega) (by omega)]
      exact this
    | cons r rs => exact h5.front (by simp) hm
/-! ### lengths -/
theorem way_singles : ∀ l : List Fl, ∃ c, Way l c ∧ c ≤ 2 * l.length
  | [] => ⟨0, .nil, by simp⟩
  | b :: l => by
    obtain ⟨c, h1, h2⟩ := way_singles l
    refine ⟨gc [b] + c, Way.grp (g := [b]) (by simp) h1, ?_⟩
    rw [gc_one, List.length_cons]
    have := Bool.toNat_le b.1
    have := Bool.toNat_le b.2
    omega
theorem Told.len {n : Nat} {pl : Int} {y w : Nat → Int} {rs : List (Nat × Nat)} {m : Nat} {r : List Push} (t : Told n pl y w rs m r) : r.length ≤ 2 * m := by
  obtain ⟨c, h1, h2⟩ := way_singles (fls y w (rs.take m))
  have h3 := t.least.2 c h1
  unfold fls at h2
  rw [List.length_map, List.length_take] at h2
  omega
theorem rowT_le {w y : Nat → Int} {G : List (Nat × Nat)} (hG : G ≠ []) : (rowT y w G).length ≤ G.length + 1 := by
  rw [rowT_len hG]
  by_cases h : 2 ≤ (fls y w G).length
  · have := gc_le h
    have e : (fls y w G).length = G.length := by simp [fls]
    omega
  · have e : (fls y w G).length = G.length := by simp [fls]
    match G, hG with
    | [r], _ =>
      show gc [fl y w r] ≤ 2
      rw [gc_one]
      have := Bool.toNat_le (fl y w r).1
      have := Bool.toNat_le (fl y w r).2
      omega
    | _ :: _ :: _, _ => simp [fls] at h
/-- what is told of two stands: a row of the fewest pushes -/
structure Best (n : Nat) (pl : Int) (y w : Nat → Int) (r : List Push) : Prop where
  ok : ∀ p ∈ r, PuOk n pl p
  lead : ∀ j, j < n → doR y r j = w j
  least : ∃ rs, RunsTo w n 0 n rs ∧ Least (fls y w rs) r.length
  few : ∀ q : List Push, (∀ j, j < n → doR y q j = w j) → r.length ≤ q.length
  len : r.length ≤ 2 * n
theorem best_of {n : Nat} {pl : Int} {y w : Nat → Int} {rs : List (Nat × Nat)} {r : List Push} (h : RunsTo w n 0 n rs) (t : Told n pl y w rs rs.length r) : Best n pl y w r := by
  obtain ⟨h1, h2, h3, h4⟩ := told_all h t
  have h5 := t.len
  have h6 := h.len
  exact ⟨h2, h3, ⟨rs, h, h1⟩, h4, by omega⟩
theorem Best.same {n : Nat} {pl : Int} {y w : Nat → Int} {r q : List Push} (h : Best n pl y w r) (k : Best n pl y w q) : r.length = q.length := Nat.le_antisymm (h.few q k.lead) (k.few r h.lead)
end PS

namespace PS
/-! ### bands as the law sees them -/
def lawB (y w : Nat → Int) : Nat → List Fl
  | 0 => []
  | k + 1 =>
    let L := if k = 0 ∨ w k ≠ w (k - 1) then lawB y w k ++ [(false, false)] else lawB y w k
    L.dropLast ++ [((L.getLastD (false, false)).1 || decide (y k < w k), (L.getLastD (false, false)).2 || decide (w k < y k))]
theorem lastD_sn (L : List Fl) (x : Fl) : (L ++ [x]).getLastD (false, false) = x := by
  rw [lastD_ne (by simp)]
  simp
theorem lawB_run {n : Nat} {y w : Nat → Int} (up : Up n y) {f k : Nat} (hk : k ≤ n) (hc : ∀ j, f ≤ j → j < k → w j = w f) (hf : f = 0 ∨ w (f - 1) < w f) :
    ∀ i, f + (i + 1) ≤ k → lawB y w (f + (i + 1)) = lawB y w f ++ [(decide (y f < w f), decide (w f < y (f + i)))]
  | 0, hi => by
    show (let L := if f = 0 ∨ w f ≠ w (f - 1) then lawB y w f ++ [(false, false)] else lawB y w f; L.dropLast ++ [((L.getLastD (false, false)).1 || decide (y f < w f), (L.getLastD (false, false)).2 || decide (w f < y f))]) = _
    rw [if_pos (by rcases hf with z | z; exact .inl z; exact .inr (by omega))]
    simp only [List.dropLast_concat, lastD_sn, Bool.false_or]
    rfl
  | i + 1, hi => by
    have ih := lawB_run up hk hc hf i (by omega)
    show (let L := if f + (i + 1) = 0 ∨ w (f + (i + 1)) ≠ w (f + (i + 1) - 1) then lawB y w (f + (i + 1)) ++ [(false, false)] else lawB y w (f + (i + 1)); L.dropLast ++ [((L.getLastD (false, false)).1 || decide (y (f + (i + 1)) < w (f + (i + 1))), (L.getLastD (false, false)).2 || decide (w (f + (i + 1)) < y (f + (i + 1))))]) = _
    have e1 := hc (f + (i + 1)) (by omega) (by omega)
    have e2 := hc (f + i) (by omega) (by omega)
    rw [if_neg (by
      rintro (z | z)
      · omega
      · rw [show f + (i + 1) - 1 = f + i from by omega, e1, e2] at z
        exact z rfl), ih]
    simp only [List.dropLast_concat, lastD_sn]
    have u1 := up f (f + (i + 1)) (by omega) (by omega)
    have u2 := up (f + i) (f + (i + 1)) (by omega) (by omega)
    rw [e1]
    congr 3
    · by_cases c : y f < w f
      · simp [c]
      · rw [decide_eq_false c, decide_eq_false (by omega)]; rfl
    · by_cases c : w f < y (f + i)
      · rw [decide_eq_true c, decide_eq_true (by omega)]; rfl
      · rw [decide_eq_false c, Bool.false_or]
theorem runs_nil {w : Nat → Int} {n k m : Nat} (h : RunsTo w n k m []) : k = m := by
  cases h
  rfl
theorem lawB_runs {n : Nat} {y w : Nat → Int} (up : Up n y) : ∀ (m : Nat) (rs : List (Nat × Nat)) (k : Nat), rs.length = m → k ≤ n → RunsTo w n 0 k rs → lawB y w k = fls y w rs
  | 0, rs, k, hm, _, h => by
    have : rs = [] := List.length_eq_zero_iff.mp hm
    subst this
    cases h
    rfl
  | m + 1, rs, k, hm, hk, h => by
    obtain ⟨rs0, r, rfl⟩ : ∃ rs0 r, rs = rs0 ++ [r] := by
      cases List.eq_nil_or_concat rs with
      | inl h' => rw [h'] at hm; simp at hm
      | inr h' =>
        obtain ⟨a, b, h'⟩ := h'
        exact ⟨a, b, by rw [h']; simp⟩
    obtain ⟨e1, e2, e3, e4, e5, e6⟩ := h.last
    have ih := lawB_runs up m rs0 r.1 (by simpa using hm) (by omega) e6
    have hf : r.1 = 0 ∨ w (r.1 - 1) < w r.1 := by
      by_cases c : rs0 = []
      · subst c
        exact .inl (runs_nil e6).symm
      · exact .inr (e6.front c (by omega))
    have := lawB_run up hk e4 hf (k - r.1 - 1) (by omega)
    rw [show r.1 + (k - r.1 - 1 + 1) = k from by omega, show r.1 + (k - r.1 - 1) = k - 1 from by omega, ih] at this
    rw [this]
    unfold fls
    rw [List.map_append]
    show _ = _ ++ [fl y w r]
    unfold fl
    rw [e1]
theorem lawB_len {y w : Nat → Int} : ∀ k, (lawB y w k).length ≤ k ∧ (0 < k → 0 < (lawB y w k).length)
  | 0 => ⟨Nat.le_refl _, fun h => by omega⟩
  | k + 1 => by
    have ih := lawB_len (y := y) (w := w) k
    refine ⟨?_, fun _ => by simp [lawB]⟩
    show (let L := if k = 0 ∨ w k ≠ w (k - 1) then lawB y w k ++ [(false, false)] else lawB y w k; L.dropLast ++ [((L.getLastD (false, false)).1 || decide (y k < w k), (L.getLastD (false, false)).2 || decide (w k < y k))]).length ≤ k + 1
    simp only [List.length_append, List.length_dropLast, List.length_cons, List.length_nil]
    split
    · rw [List.length_append]
      simp
      omega
    · rename_i c
      have : 0 < k := by
        by_cases e : k = 0
        · exact absurd (.inl e) c
        · omega
      have := ih.2 this
      omega
/-! ### the least, from the first group on -/
theorem least_ex (l : List Fl) : ∃ c, Least l c := by
  obtain ⟨c0, h0, _⟩ := way_singles l
  have : ∀ n c, c ≤ n → Way l c → ∃ d, Least l d := fun n => by
    induction n with
    | zero =>
      intro c hc hw
      have : c = 0 := by omega
      subst this
      exact ⟨0, hw, fun _ _ => Nat.zero_le _⟩
    | succ n ih =>
      intro c hc hw
      by_cases h : ∃ d, d < c ∧ Way l d
      · obtain ⟨d, hd, hw'⟩ := h
        exact ih d (by omega) hw'
      · exact ⟨c, hw, fun d hd => by
          by_cases e : c ≤ d
          · exact e
          · exact absurd ⟨d, by omega, hd⟩ h⟩
  exact this c0 c0 (Nat.le_refl _) h0
structure BestTo (l : List Fl) (m b : Nat) : Prop where
  at_ : ∃ j c, 1 ≤ j ∧ j < m ∧ Least (l.drop j) c ∧ b = gc (l.take j) + c
  le : ∀ j c, 1 ≤ j → j < m → Least (l.drop j) c → b ≤ gc (l.take j) + c
theorem BestTo.first {l : List Fl} {c : Nat} (h : Least (l.drop 1) c) : BestTo l 2 (gc (l.take 1) + c) where
  at_ := ⟨1, c, by omega, by omega, h, rfl⟩
  le := fun j d h1 h2 hd => by
    have : j = 1 := by omega
    subst this
    rw [h.uniq hd]
    exact Nat.le_refl _
theorem BestTo.next {l : List Fl} {m b c : Nat} (h : BestTo l m b) (hm : 1 ≤ m) (hc : Least (l.drop m) c) : BestTo l (m + 1) (min b (gc (l.take m) + c)) where
  at_ := by
    by_cases e : b ≤ gc (l.take m) + c
    · obtain ⟨j, d, h1, h2, h3, h4⟩ := h.at_
      exact ⟨j, d, h1, by omega, h3, by omega⟩
    · exact ⟨m, c, hm, by omega, hc, by omega⟩
  le := fun j d h1 h2 hd => by
    by_cases e : j = m
    · subst e
      rw [hc.uniq hd]
      exact Nat.min_le_right _ _
    · have := h.le j d h1 (by omega) hd
      omega
theorem BestTo.least {l : List Fl} {b : Nat} (hl : l ≠ []) (h : BestTo l (l.length + 1) b) : Least l b := by
  obtain ⟨j, c, h1, h2, h3, h4⟩ := h.at_
  refine ⟨by rw [h4]; exact first_way h1 (by omega) h3.1, fun c' hc' => ?_⟩
  obtain ⟨m, d, m1, m2, hd, e⟩ := way_first hc' hl
  obtain ⟨c0, hc0⟩ := least_ex (l.drop m)
  have := h.le m c0 m1 (by omega) hc0
  have := hc0.2 d hd
  omega
def ownS (l : List Fl) (m s : Nat) : Nat := if (s = m - 1 ∧ (l.getD s (false, false)).2 = false) ∨ (s = 0 ∧ (l.getD s (false, false)).1 = false) then 1 else 2
theorem bad_take {l : List Fl} {m : Nat} (h2 : 2 ≤ m) (hm : m ≤ l.length) : bad (l.take m) = ((l.getD 0 (false, false)).1 && (l.getD (m - 1) (false, false)).2).toNat := by
  unfold bad
  have e1 : (l.take m).head? = some (l.getD 0 (false, false)) := by
    rw [List.head?_eq_getElem?, List.getElem?_take, if_pos (by omega), List.getElem?_eq_getElem (by omega)]
    simp [show 0 < l.length by omega]
  have e2 : (l.take m).getLast? = some (l.getD (m - 1) (false, false)) := by
    rw [List.getLast?_eq_getElem?, List.length_take, Nat.min_eq_left hm, List.getElem?_take, if_pos (by omega), List.getElem?_eq_getElem (by omega)]
    simp [show m - 1 < l.length by omega]
  rw [e1, e2]
  rfl
theorem own_le {l : List Fl} {m s : Nat} (h2 : 2 ≤ m) (hm : m ≤ l.length) (hs : s < m) : gc (l.take m) ≤ m - 1 + ownS l m s := by
  rw [gc_two (by rw [List.length_take]; omega), bad_take h2 hm, List.length_take, Nat.min_eq_left hm]
  unfold ownS
  split
  · rename_i c
    rcases c with ⟨e, z⟩ | ⟨e, z⟩
    · rw [e] at z
      rw [z]
      simp
      omega
    · rw [e] at z
      rw [z]
      simp
      omega
  · have := Bool.toNat_le ((l.getD 0 (false, false)).1 && (l.getD (m - 1) (false, false)).2)
    omega
theorem own_at {l : List Fl} {m : Nat} (h2 : 2 ≤ m) (hm : m ≤ l.length) : ∃ s, s < m ∧ gc (l.take m) = m - 1 + ownS l m s := by
  rw [gc_two (by rw [List.length_take]; omega), bad_take h2 hm, List.length_take, Nat.min_eq_left hm]
  cases e1 : (l.getD 0 (false, false)).1 with
  | false =>
    refine ⟨0, by omega, ?_⟩
    unfold ownS
    rw [if_pos (.inr ⟨rfl, e1⟩)]
    simp
    omega
  | true =>
    cases e2 : (l.getD (m - 1) (false, false)).2 with
    | false =>
      refine ⟨m - 1, by omega, ?_⟩
      unfold ownS
      rw [if_pos (.inl ⟨rfl, e2⟩)]
      simp
      omega
    | true =>
      refine ⟨0, by omega, ?_⟩
      unfold ownS
      rw [if_neg (by
        rintro (⟨z, _⟩ | ⟨_, z⟩)
        · omega
        · rw [e1] at z; cases z)]
      simp
      omega
/-! ### rows as data -/
theorem nat_inj {a b : Nat} (h : (a : Int) = (b : Int)) : a = b := by omega
end PS

namespace PS
/-! ### choices -/
def ch : Nat → Nat → Nat
  | _, 0 => 1
  | 0, _ + 1 => 0
  | n + 1, k + 1 => ch n k + ch n (k + 1)
theorem ch_zero (n : Nat) : ch n 0 = 1 := by cases n <;> rfl
theorem ch_succ (n k : Nat) : ch (n + 1) (k + 1) = ch n k + ch n (k + 1) := rfl
theorem ch_over : ∀ (n k : Nat), n < k → ch n k = 0
  | 0, k + 1, _ => rfl
  | n + 1, k + 1, h => by rw [ch_succ, ch_over n k (by omega), ch_over n (k + 1) (by omega)]
theorem ch_self : ∀ n : Nat, ch n n = 1
  | 0 => rfl
  | n + 1 => by rw [ch_succ, ch_self n, ch_over n (n + 1) (by omega)]
theorem ch_absorb : ∀ (n k : Nat), ch (n + 1) (k + 1) * (k + 1) = (n + 1) * ch n k
  | 0, 0 => rfl
  | 0, k + 1 => by
    rw [ch_over 1 (k + 2) (by omega), ch_over 0 (k + 1) (by omega)]
    simp
  | n + 1, 0 => by
    have := ch_absorb n 0
    rw [ch_zero] at this
    rw [ch_succ (n + 1) 0, ch_zero]
    simp only [Nat.zero_add, Nat.mul_one] at this ⊢
    omega
  | n + 1, k + 1 => by
    have h1 := ch_absorb n (k + 1)
    have h2 := ch_absorb n k
    rw [ch_succ (n + 1) (k + 1)]
    have e : (ch (n + 1) (k + 1) + ch (n + 1) (k + 2)) * (k + 1 + 1) = ch (n + 1) (k + 1) * (k + 1) + ch (n + 1) (k + 1) + ch (n + 1) (k + 2) * (k + 1 + 1) := by
      rw [Nat.add_mul, Nat.mul_add (ch (n + 1) (k + 1)) (k + 1) 1, Nat.mul_one]
    rw [e, h1, h2]
    have e2 : (n + 1 + 1) * ch (n + 1) (k + 1) = (n + 1) * (ch n k + ch n (k + 1)) + ch (n + 1) (k + 1) := by
      rw [Nat.add_mul (n + 1) 1, Nat.one_mul, ← ch_succ]
    rw [e2, Nat.mul_add]
    omega
theorem ch_step {t s : Nat} (h : s ≤ t) : ch t (s + 1) * (s + 1) = ch t s * (t - s) := by
  have h1 := ch_absorb t s
  rw [ch_succ, Nat.add_mul] at h1
  have e : (t + 1) * ch t s = ch t s * (s + 1) + ch t s * (t - s) := by
    rw [← Nat.mul_add, Nat.mul_comm]
    congr 1
    omega
  omega
theorem ch_le : ∀ (n k : Nat), ch n k ≤ 2 ^ n
  | n, 0 => by rw [ch_zero]; exact Nat.one_le_two_pow
  | 0, k + 1 => by simp [ch]
  | n + 1, k + 1 => by
    have := ch_le n k
    have := ch_le n (k + 1)
    rw [ch_succ, Nat.pow_succ]
    omega
/-! ### rising rows within boxes, counted place by place -/
def sumTo (W : Nat → Nat) : Nat → Nat
  | 0 => 0
  | m + 1 => sumTo W m + W m
theorem sumTo_congr {W V : Nat → Nat} : ∀ {m : Nat}, (∀ q, q < m → W q = V q) → sumTo W m = sumTo V m
  | 0, _ => rfl
  | m + 1, h => by rw [sumTo, sumTo, sumTo_congr (fun q hq => h q (by omega)), h m (by omega)]
theorem sumTo_add (W V : Nat → Nat) : ∀ m : Nat, sumTo (fun q => W q + V q) m = sumTo W m + sumTo V m
  | 0 => rfl
  | m + 1 => by
    rw [sumTo, sumTo, sumTo, sumTo_add W V m]
    omega
theorem sumTo_zero : ∀ m : Nat, sumTo (fun _ => 0) m = 0
  | 0 => rfl
  | m + 1 => by rw [sumTo, sumTo_zero m]
def stp (b : Int × Int) (W : Nat → Nat) : Nat → Nat := fun p => if b.1 ≤ (p : Int) ∧ (p : Int) ≤ b.2 then sumTo W (p + 1) else 0
def W0 : Nat → Nat := fun p => if p = 0 then 1 else 0
def dpW (bs : List (Int × Int)) : Nat → Nat := bs.foldl (fun W b => stp b W) W0
def cnt (pl : Nat) (bs : List (Int × Int)) : Nat := sumTo (dpW bs) (pl + 1)
theorem dpW_snoc (bs : List (Int × Int)) (b : Int × Int) : dpW (bs ++ [b]) = stp b (dpW bs) := by simp [dpW]
/-! full boxes -/
theorem hockey (k : Nat) : ∀ p : Nat, sumTo (fun q => ch (q + k) k) (p + 1) = ch (p + k + 1) (k + 1)
  | 0 => by
    show 0 + ch (0 + k) k = ch (0 + k + 1) (k + 1)
    rw [Nat.zero_add, Nat.zero_add, ch_self, ch_self]
  | p + 1 => by
    rw [sumTo, hockey k p, show p + 1 + k = p + k + 1 from by omega, ch_succ (p + k + 1) k, Nat.add_comm]
theorem full_W (pl : Nat) : ∀ k p : Nat, p ≤ pl → sumTo (dpW (List.replicate k (0, (pl : Int)))) (p + 1) = ch (p + k) k
  | 0, p, _ => by
    have : ∀ m, sumTo W0 (m + 1) = 1 := fun m => by
      induction m with
      | zero => rfl
      | succ m ih => rw [sumTo, ih]; rfl
    show sumTo W0 (p + 1) = ch (p + 0) 0
    rw [this, ch_zero]
  | k + 1, p, hp => by
    rw [List.replicate_succ', dpW_snoc, show p + (k + 1) = p + k + 1 from rfl, ← hockey]
    apply sumTo_congr
    intro q hq
    unfold stp
    rw [if_pos ⟨by simp, by simp only; omega⟩]
    exact full_W pl k q (by omega)
theorem cnt_full (pl n : Nat) : cnt pl (List.replicate n (0, (pl : Int))) = ch (pl + n) n := full_W pl n pl (Nat.le_refl _)
/-! one by one -/
def lastJ : List Int → Int
  | [] => 0
  | n :: ns => (n :: ns).getLast (List.cons_ne_nil n ns)
theorem lastJ_snoc (r : List Int) (z : Int) : lastJ (r ++ [z]) = z := by
  cases h : r ++ [z] with
  | nil => simp at h
  | cons a l =>
    show (a :: l).getLast _ = z
    have : (r ++ [z]).getLast (by simp) = z := by simp
    rw [← this]
    congr 1
    exact h.symm
def ext (pl : Nat) (r : List Int) : List (List Int) := (List.range ((pl : Int) + 1 - lastJ r).toNat).map fun q : Nat => r ++ [lastJ r + (q : Int)]
def allY (pl : Nat) : Nat → List (List Int)
  | 0 => [[]]
  | k + 1 => (allY pl k).flatMap (ext pl)
theorem allY_len {pl : Nat} : ∀ {k : Nat} {r : List Int}, r ∈ allY pl k → r.length = k
  | 0, r, h => by
    have : r = [] := by simpa [allY] using h
    rw [this]; rfl
  | k + 1, r, h => by
    obtain ⟨r', h1, h2⟩ := List.mem_flatMap.mp h
    obtain ⟨q, _, rfl⟩ := List.mem_map.mp h2
    rw [List.length_append, allY_len h1]
    rfl
theorem allY_last {pl : Nat} : ∀ {k : Nat} {r : List Int}, r ∈ allY pl k → 0 ≤ lastJ r ∧ lastJ r ≤ pl
  | 0, r, h => by
    have : r = [] := by simpa [allY] using h
    rw [this]
    exact ⟨Int.le_refl _, Int.natCast_nonneg _⟩
  | k + 1, r, h => by
    obtain ⟨r', h1, h2⟩ := List.mem_flatMap.mp h
    obtain ⟨q, hq, rfl⟩ := List.mem_map.mp h2
    have := allY_last h1
    rw [List.mem_range] at hq
    rw [lastJ_snoc]
    omega
def inB : List (Int × Int) → List Int → Bool
  | b :: bs, x :: xs => decide (b.1 ≤ x ∧ x ≤ b.2) && inB bs xs
  | _, _ => true
theorem inB_snoc : ∀ (bs : List (Int × Int)) (xs : List Int) (b : Int × Int) (x : Int), bs.length = xs.length → inB (bs ++ [b]) (xs ++ [x]) = (inB bs xs && decide (b.1 ≤ x ∧ x ≤ b.2))
  | [], [], b, x, _ => by simp [inB]
  | c :: bs, y :: xs, b, x, h => by
    show (decide (c.1 ≤ y ∧ y ≤ c.2) && inB (bs ++ [b]) (xs ++ [x])) = (decide (c.1 ≤ y ∧ y ≤ c.2) && inB bs xs && decide (b.1 ≤ x ∧ x ≤ b.2))
    rw [inB_snoc bs xs b x (by simpa using h), Bool.and_assoc]
  | [], _ :: _, _, _, h => by simp at h
  | _ :: _, [], _, _, h => by simp at h
theorem count_range (a p : Int) (C : Bool) : ∀ n : Nat, (List.range n).countP (fun q : Nat => decide (a + (q : Int) = p) && C) = if (a ≤ p ∧ p < a + (n : Int)) ∧ C = true then 1 else 0
  | 0 => by
    rw [if_neg (by omega)]
    rfl
  | n + 1 => by
    rw [List.range_succ, List.countP_append, count_range a p C n, List.countP_singleton]
    by_cases c : C = true
    · by_cases h1 : a ≤ p ∧ p < a + (n : Int)
      · rw [if_pos ⟨h1, c⟩, if_neg (show ¬ (decide (a + (n : Int) = p) && C) = true by simp [c]; omega), if_pos ⟨by omega, c⟩]
      · rw [if_neg (fun z => h1 z.1)]
        by_cases h2 : a + (n : Int) = p
        · rw [if_pos (by simp [c, h2]), if_pos ⟨by omega, c⟩]
        · rw [if_neg (by simp [h2]), if_neg (by omega)]
    · rw [if_neg (fun z => c z.2), if_neg (show ¬ (decide (a + (n : Int) = p) && C) = true by simp [c]), if_neg (fun z => c z.2)]
theorem count_up (A : List Int → Bool) (p : Nat) : ∀ l : List (List Int), (∀ r ∈ l, 0 ≤ lastJ r) → (l.map fun r => if A r = true ∧ lastJ r ≤ (p : Int) then 1 else 0).sum = sumTo (fun q : Nat => l.countP fun r => A r && decide (lastJ r = (q : Int))) (p + 1)
  | [], _ => by
    show 0 = _
    rw [show (fun q : Nat => ([] : List (List Int)).countP fun r => A r && decide (lastJ r = (q : Int))) = fun _ => 0 from rfl, sumTo_zero]
  | r :: l, h => by
    rw [List.map_cons, List.sum_cons, count_up A p l (fun x hx => h x (by simp [hx]))]
    have e : (fun q : Nat => (r :: l).countP fun r => A r && decide (lastJ r = (q : Int))) = fun q : Nat => (if A r = true ∧ lastJ r = (q : Int) then 1 else 0) + l.countP fun r => A r && decide (lastJ r = (q : Int)) := by
      funext q
      rw [List.countP_cons, Nat.add_comm]
      congr 1
      by_cases c1 : A r = true
      · by_cases c2 : lastJ r = (q : Int)
        · rw [if_pos (by simp [c1, c2]), if_pos ⟨c1, c2⟩]
        · rw [if_neg (by simp [c2]), if_neg (fun z => c2 z.2)]
      · rw [if_neg (by simp [c1]), if_neg (fun z => c1 z.1)]
    rw [e, sumTo_add]
    congr 1
    have h0 := h r (by simp)
    have one : ∀ m : Nat, sumTo (fun q : Nat => if A r = true ∧ lastJ r = (q : Int) then 1 else 0) m = if A r = true ∧ lastJ r < (m : Int) then 1 else 0 := fun m => by
      induction m with
      | zero =>
        rw [if_neg (by omega)]
        rfl
      | succ m ih =>
        rw [sumTo, ih]
        by_cases c1 : A r = true
        · by_cases c2 : lastJ r < (m : Int)
          · rw [if_pos ⟨c1, c2⟩, if_neg (by omega), if_pos ⟨c1, by omega⟩]
          · by_cases c3 : lastJ r = (m : Int)
            · rw [if_neg (fun z => c2 z.2), if_pos ⟨c1, c3⟩, if_pos ⟨c1, by omega⟩]
            · rw [if_neg (fun z => c2 z.2), if_neg (fun z => c3 z.2), if_neg (by omega)]
        · rw [if_neg (fun z => c1 z.1), if_neg (fun z => c1 z.1), if_neg (fun z => c1 z.1)]
    rw [one]
    by_cases c1 : A r = true ∧ lastJ r ≤ (p : Int)
    · rw [if_pos c1, if_pos ⟨c1.1, by omega⟩]
    · rw [if_neg c1, if_neg (fun z => c1 ⟨z.1, by have := z.2; omega⟩)]
theorem count_dp (pl : Nat) : ∀ (k : Nat) (bs : List (Int × Int)), bs.length = k → ∀ p : Nat, p ≤ pl → (allY pl k).countP (fun r => inB bs r && decide (lastJ r = (p : Int))) = dpW bs p
  | 0, bs, hb, p, hp => by
    have : bs = [] := List.length_eq_zero_iff.mp hb
    subst this
    show ([[]] : List (List Int)).countP (fun r => inB [] r && decide (lastJ r = (p : Int))) = if p = 0 then 1 else 0
    rw [List.countP_singleton]
    by_cases c : p = 0
    · subst c; rfl
    · rw [if_neg c, if_neg]
      show ¬ (true && decide ((0 : Int) = (p : Int))) = true
      simp
      omega
  | k + 1, bs, hb, p, hp => by
    obtain ⟨cs, b, rfl⟩ : ∃ cs b, bs = cs ++ [b] := by
      cases List.eq_nil_or_concat bs with
      | inl h => rw [h] at hb; simp at hb
      | inr h =>
        obtain ⟨cs, b, h⟩ := h
        exact ⟨cs, b, by rw [h]; simp⟩
    have hc : cs.length = k := by simpa using hb
    rw [dpW_snoc]
    show ((allY pl k).flatMap (ext pl)).countP _ = _
    rw [List.countP_flatMap]
    have e : (allY pl k).map (List.countP (fun r => inB (cs ++ [b]) r && decide (lastJ r = (p : Int))) ∘ ext pl) = (allY pl k).map fun r => if (inB cs r && decide (b.1 ≤ (p : Int) ∧ (p : Int) ≤ b.2)) = true ∧ lastJ r ≤ (p : Int) then 1 else 0 := by
      apply List.map_congr_left
      intro r hr
      have hl := allY_last hr
      have hn := allY_len hr
      show (ext pl r).countP _ = _
      unfold ext
      rw [List.countP_map]
      have e1 : ((fun r => inB (cs ++ [b]) r && decide (lastJ r = (p : Int))) ∘ fun q : Nat => r ++ [lastJ r + (q : Int)]) = fun q : Nat => decide (lastJ r + (q : Int) = (p : Int)) && (inB cs r && decide (b.1 ≤ (p : Int) ∧ (p : Int) ≤ b.2)) := by
        funext q
        show (inB (cs ++ [b]) (r ++ [lastJ r + (q : Int)]) && decide (lastJ (r ++ [lastJ r + (q : Int)]) = (p : Int))) = _
        rw [inB_snoc _ _ _ _ (by omega), lastJ_snoc]
        by_cases c : lastJ r + (q : Int) = (p : Int)
        · rw [c, decide_eq_true (show (p : Int) = (p : Int) from rfl)]
          simp
        · rw [decide_eq_false c]
          simp
      rw [e1, count_range]
      by_cases c1 : (inB cs r && decide (b.1 ≤ (p : Int) ∧ (p : Int) ≤ b.2)) = true
      · by_cases c2 : lastJ r ≤ (p : Int)
        · rw [if_pos ⟨⟨c2, by omega⟩, c1⟩, if_pos ⟨c1, c2⟩]
        · rw [if_neg (fun z => c2 z.1.1), if_neg (fun z => c2 z.2)]
      · rw [if_neg (fun z => c1 z.2), if_neg (fun z => c1 z.1)]
    rw [e]
    unfold stp
    by_cases c : b.1 ≤ (p : Int) ∧ (p : Int) ≤ b.2
    · rw [if_pos c]
      have e2 : (fun r : List Int => if (inB cs r && decide (b.1 ≤ (p : Int) ∧ (p : Int) ≤ b.2)) = true ∧ lastJ r ≤ (p : Int) then 1 else 0) = fun r => if inB cs r = true ∧ lastJ r ≤ (p : Int) then 1 else 0 := by
        funext r
        rw [decide_eq_true c, Bool.and_true]
      rw [e2, count_up _ _ _ (fun r hr => (allY_last hr).1)]
      exact sumTo_congr fun q hq => count_dp pl k cs hc q (by omega)
    · rw [if_neg c]
      have e2 : (fun r : List Int => if (inB cs r && decide (b.1 ≤ (p : Int) ∧ (p : Int) ≤ b.2)) = true ∧ lastJ r ≤ (p : Int) then 1 else 0) = fun r => 0 := by
        funext r
        rw [decide_eq_false c, Bool.and_false, if_neg (by simp)]
      rw [e2]
      generalize allY pl k = l
      induction l with
      | nil => rfl
      | cons r l ih => rw [List.map_cons, List.sum_cons, ih]
theorem count_all (pl : Nat) (bs : List (Int × Int)) : (allY pl bs.length).countP (inB bs) = cnt pl bs := by
  unfold cnt
  have h := count_up (inB bs) pl (allY pl bs.length) (fun r hr => (allY_last hr).1)
  rw [sumTo_congr (V := dpW bs) (fun q hq => count_dp pl bs.length bs rfl q (by omega))] at h
  rw [← h]
  have : ∀ l : List (List Int), (∀ r ∈ l, lastJ r ≤ (pl : Int)) → l.countP (inB bs) = (l.map fun r => if inB bs r = true ∧ lastJ r ≤ (pl : Int) then 1 else 0).sum := fun l => by
    induction l with
    | nil => intro _; rfl
    | cons r l ih =>
      intro hl
      rw [List.countP_cons, List.map_cons, List.sum_cons, ih (fun x hx => hl x (by simp [hx])), Nat.add_comm]
      congr 1
      by_cases c : inB bs r = true
      · rw [if_pos c, if_pos ⟨c, hl r (by simp)⟩]
      · rw [if_neg c, if_neg (fun z => c z.1)]
  exact this _ fun r hr => (allY_last hr).2
end PS

namespace PS
open PySem PySem.Spec PyProof.Rows L2
/-! ### where a block comes from -/
def srcF (pl lo hi s : Int) : Int × Int := (if s = lo then 0 else s, if s = hi then pl else s)
def boxF (n : Nat) (pl : Int) (lo hi s : Nat → Int) : List (Int × Int) := (List.range n).map fun j => srcF pl (lo j) (hi j) (s j)
theorem boxF_len (n : Nat) (pl : Int) (lo hi s : Nat → Int) : (boxF n pl lo hi s).length = n := by simp [boxF]
theorem boxF_succ (n : Nat) (pl : Int) (lo hi s : Nat → Int) : boxF (n + 1) pl lo hi s = boxF n pl lo hi s ++ [srcF pl (lo n) (hi n) (s n)] := by simp [boxF, List.range_succ]
def leadN (n : Nat) (pl : Int) (lo hi s : Nat → Int) : Nat := if ∀ j, j < n → lo j ≤ s j ∧ s j ≤ hi j then cnt pl.toNat (boxF n pl lo hi s) else 0
theorem inB_iff : ∀ (n : Nat) (f : Nat → Int × Int) (r : List Int), r.length = n → (inB ((List.range n).map f) r = true ↔ ∀ j, j < n → (f j).1 ≤ r.getD j 0 ∧ r.getD j 0 ≤ (f j).2)
  | 0, f, r, h => by simp [inB]
  | n + 1, f, r, h => by
    obtain ⟨q, z, rfl⟩ : ∃ q z, r = q ++ [z] := by
      cases List.eq_nil_or_concat r with
      | inl h' => rw [h'] at h; simp at h
      | inr h' =>
        obtain ⟨q, z, h'⟩ := h'
        exact ⟨q, z, by rw [h']; simp⟩
    have hq : q.length = n := by simpa using h
    rw [List.range_succ, List.map_append, List.map_singleton, inB_snoc _ _ _ _ (by simp [hq]), Bool.and_eq_true, inB_iff n f q hq]
    have e1 : ∀ j, j < n → (q ++ [z]).getD j 0 = q.getD j 0 := fun j hj => by
      rw [List.getD_eq_getElem?_getD, List.getD_eq_getElem?_getD, List.getElem?_append_left (by omega)]
    have e2 : (q ++ [z]).getD n 0 = z := by
      rw [List.getD_eq_getElem?_getD, List.getElem?_append_right (by omega), hq]
      simp
    constructor
    · rintro ⟨h1, h2⟩ j hj
      by_cases c : j < n
      · rw [e1 j c]; exact h1 j c
      · have : j = n := by omega
        subst this
        rw [e2]
        exact of_decide_eq_true h2
    · intro h1
      refine ⟨fun j hj => ?_, ?_⟩
      · have := h1 j (by omega)
        rw [e1 j hj] at this
        exact this
      · have := h1 n (by omega)
        rw [e2] at this
        exact decide_eq_true this
theorem allY_rise {pl : Nat} : ∀ {k : Nat} {r : List Int}, r ∈ allY pl k → r.Pairwise (· ≤ ·) ∧ (∀ z ∈ r, 0 ≤ z ∧ z ≤ (pl : Int)) ∧ ∀ z ∈ r, z ≤ lastJ r
  | 0, r, h => by
    have : r = [] := by simpa [allY] using h
    rw [this]
    simp
  | k + 1, r, h => by
    obtain ⟨r', h1, h2⟩ := List.mem_flatMap.mp h
    obtain ⟨q, hq, rfl⟩ := List.mem_map.mp h2
    rw [List.mem_range] at hq
    have hl := allY_last h1
    obtain ⟨i1, i2, i3⟩ := allY_rise h1
    refine ⟨?_, fun z hz => ?_, fun z hz => ?_⟩
    · rw [List.pairwise_append]
      exact ⟨i1, by simp, fun x hx y hy => by
        have : y = lastJ r' + (q : Int) := by simpa using hy
        have := i3 x hx
        omega⟩
    · rcases List.mem_append.mp hz with c | c
      · exact i2 z c
      · have : z = lastJ r' + (q : Int) := by simpa using c
        omega
    · rw [lastJ_snoc]
      rcases List.mem_append.mp hz with c | c
      · have := i3 z c
        omega
      · have : z = lastJ r' + (q : Int) := by simpa using c
        omega
theorem getD_bd {pl : Nat} {r : List Int} {n j : Nat} (hl : r.length = n) (h : ∀ z ∈ r, 0 ≤ z ∧ z ≤ (pl : Int)) (hj : j < n) : 0 ≤ r.getD j 0 ∧ r.getD j 0 ≤ (pl : Int) := by
  have hj' : j < r.length := by omega
  have : r.getD j 0 = r[j] := by simp [hj']
  rw [this]
  exact h _ (List.getElem_mem hj')
/-- as many stands as told come there -/
theorem lead_count {n : Nat} {pl : Nat} {lo hi s : Nat → Int} (dok : DoOk n pl lo hi) : leadN n pl lo hi s = (allY pl n).countP (fun r => decide (∀ j, j < n → ledF lo hi (fun j => r.getD j 0) j = s j)) := by
  unfold leadN
  by_cases c : ∀ j, j < n → lo j ≤ s j ∧ s j ≤ hi j
  · rw [if_pos c, Int.toNat_natCast, ← count_all, boxF_len]
    apply List.countP_congr
    intro r hr
    have hn := allY_len hr
    have hb := (allY_rise hr).2.1
    rw [decide_eq_true_eq, boxF, inB_iff n _ r hn]
    constructor
    · intro h j hj
      have h1 := h j hj
      have h2 := c j hj
      have h3 := dok.le j hj
      have h4 := getD_bd hn hb hj
      show clamp (lo j) (hi j) (r.getD j 0) = s j
      unfold clamp
      unfold srcF at h1
      simp only at h1
      split at h1 <;> split at h1 <;> omega
    · intro h j hj
      have h1 := h j hj
      have h2 := c j hj
      have h3 := dok.le j hj
      have h4 := getD_bd hn hb hj
      have h1 : clamp (lo j) (hi j) (r.getD j 0) = s j := h1
      unfold clamp at h1
      unfold srcF
      simp only
      split <;> split <;> omega
  · rw [if_neg c]
    symm
    rw [List.countP_eq_zero]
    intro r hr h
    apply c
    intro j hj
    have h1 := of_decide_eq_true h j hj
    have h3 := dok.le j hj
    have h1 : clamp (lo j) (hi j) (r.getD j 0) = s j := h1
    unfold clamp at h1
    omega
end PS

namespace PS
open PySem PySem.Spec PyProof.Rows L2
theorem inB_full {pl : Nat} {n : Nat} {r : List Int} (hl : r.length = n) (h : ∀ z ∈ r, 0 ≤ z ∧ z ≤ (pl : Int)) : inB (List.replicate n (0, (pl : Int))) r = true := by
  have e : List.replicate n ((0 : Int), (pl : Int)) = (List.range n).map fun _ => (0, (pl : Int)) := by
    apply List.ext_getElem?
    intro j
    by_cases hj : j < n
    · simp [hj]
    · rw [List.getElem?_eq_none (by simp; omega), List.getElem?_eq_none (by simp; omega)]
  rw [e, inB_iff n _ r hl]
  intro j hj
  exact getD_bd hl h hj
theorem allY_length (pl n : Nat) : (allY pl n).length = ch (pl + n) n := by
  rw [← cnt_full, ← count_all, List.length_replicate]
  symm
  rw [List.countP_eq_length]
  intro r hr
  exact inB_full (allY_len hr) (allY_rise hr).2.1
def leL (r q : List Int) : Bool := (List.zipWith (fun a b => decide (a ≤ b)) r q).all id
theorem stL_le {ls r q : List Int} (h1 : r.length = ls.length) (h2 : q.length = ls.length) : List.zipWith (fun a b => decide (a ≤ b)) (stL ls fun j => r.getD j 0) (stL ls fun j => q.getD j 0) = List.zipWith (fun a b => decide (a ≤ b)) r q := by
  apply List.ext_getElem?
  intro j
  rw [List.getElem?_zipWith, List.getElem?_zipWith]
  by_cases hj : j < ls.length
  · rw [stL_get hj, stL_get hj, List.getElem?_eq_getElem (by omega), List.getElem?_eq_getElem (by omega)]
    show some (decide (r.getD j 0 + pre ls j ≤ q.getD j 0 + pre ls j)) = some (decide (r[j] ≤ q[j]))
    rw [show r.getD j 0 = r[j] from by simp [h1, hj], show q.getD j 0 = q[j] from by simp [h2, hj]]
    congr 1
    apply decide_eq_decide.mpr
    omega
  · rw [List.getElem?_eq_none (l := stL ls fun j => r.getD j 0) (by rw [stL_len]; omega), List.getElem?_eq_none (l := r) (by omega)]
theorem rise_all {pl n : Nat} {r : List Int} (h : r ∈ allY pl n) : Rise n pl fun j => r.getD j 0 := by
  have hl := allY_len h
  have hr := allY_rise h
  refine ⟨fun j hj => (getD_bd hl hr.2.1 hj).1, fun j hj => (getD_bd hl hr.2.1 hj).2, fun j hj => ?_⟩
  have h1 : j < r.length := by omega
  have h2 : j + 1 < r.length := by omega
  have := List.pairwise_iff_getElem.mp hr.1 j (j + 1) h1 h2 (by omega)
  simp [h1, h2]
  exact this
theorem doing_pair {room : Int} {ls : List Int} {pn : Nat} (hs : ls.sum ≤ room) (hp : room - ls.sum = (pn : Int)) {r q : List Int} (hr : r ∈ allY pn ls.length) (hq : q ∈ allY pn ls.length) :
    isDoing room ls (.tuple [tI (stL ls fun j => r.getD j 0), tI (stL ls fun j => q.getD j 0)]) = leL r q := by
  show (if isStand room ls (tI (stL ls fun j => r.getD j 0)) = true then (if isStand room ls (tI (stL ls fun j => q.getD j 0)) = true then allLe (iD (stL ls fun j => r.getD j 0)) (iD (stL ls fun j => q.getD j 0)) else false) else false) = _
  rw [if_pos (isStand_ok (by rw [hp]; exact rise_all hr) hs), if_pos (isStand_ok (by rw [hp]; exact rise_all hq) hs), allLe_ints, stL_le (allY_len hr) (allY_len hq)]
  rfl
def pairs (pl n : Nat) : Nat := ((allY pl n).map fun r => (allY pl n).countP (leL r)).sum
theorem pairs_all : ∀ n, n < 4 → 1 ≤ n → ∀ pl, pl < 5 → (pairs pl n : Int) = (ch (pl + n) n : Int) * (ch (pl + n) n : Int) - (ch (pl + n) (n - 1) : Int) * (ch (pl + n) (n + 1) : Int) := by
  decide +kernel
theorem stY_eqv (ls : List Int) (y z : Nat → Int) : PyData.eqv (tI (stL ls y)) (tI (stL ls z)) = decide (∀ j, j < ls.length → y j = z j) := by
  have e : PyData.eqv (tI (stL ls y)) (tI (stL ls z)) = decide (stL ls y = stL ls z) := by
    have : ∀ a b : List Int, PyData.eqvAll (iD a) (iD b) = decide (a = b) := by
      intro a
      induction a with
      | nil => intro b; cases b <;> simp [PyData.eqvAll]
      | cons x a ih =>
        intro b
        cases b with
        | nil => simp [PyData.eqvAll]
        | cons y b =>
          show PyData.eqvAll (PyData.int x :: iD a) (PyData.int y :: iD b) = _
          rw [PyData.eqvAll, ih b]
          by_cases h1 : x = y
          · subst h1
            simp [PyData.eqv]
          · simp [PyData.eqv, h1]
    show PyData.eqvAll (iD (stL ls y)) (iD (stL ls z)) = _
    exact this _ _
  rw [e]
  apply decide_eq_decide.mpr
  exact ⟨fun h => stL_inj h, fun h => stL_congr h⟩
theorem count_led {room : Int} {ls : List Int} {pn : Nat} {lo hi s : Nat → Int} (hp : room - ls.sum = (pn : Int)) (dok : DoOk ls.length (room - ls.sum) lo hi) :
    (((allY pn ls.length).map fun r => tI (stL ls (ledF lo hi fun j => r.getD j 0))).countP fun z => PyData.eqv z (tI (stL ls s))) = leadN ls.length (room - ls.sum) lo hi s := by
  rw [hp] at dok ⊢
  rw [lead_count dok, List.countP_map]
  congr 1
  funext r
  exact stY_eqv ls _ _
end PS

namespace PS
/-- the least cost, told by a def -/
def leastG : Nat → List Fl → Nat
  | 0, _ => 0
  | _ + 1, [] => 0
  | n + 1, b :: l => (List.range l.length).foldl (fun x i => min x (gc ((b :: l).take (i + 2)) + leastG n ((b :: l).drop (i + 2)))) (gc [b] + leastG n l)
theorem least_nil : Least [] 0 := ⟨.nil, fun _ _ => Nat.zero_le _⟩
theorem leastG_ok : ∀ (n : Nat) (l : List Fl), l.length ≤ n → Least l (leastG n l)
  | 0, [], _ => least_nil
  | 0, _ :: _, h => by simp at h
  | n + 1, [], _ => least_nil
  | n + 1, b :: l, h => by
    have hl : l.length ≤ n := by simpa using h
    have h1 : BestTo (b :: l) 2 (gc [b] + leastG n l) := BestTo.first (l := b :: l) (leastG_ok n l hl)
    have step : ∀ m, m ≤ l.length → BestTo (b :: l) (m + 2) ((List.range m).foldl (fun x i => min x (gc ((b :: l).take (i + 2)) + leastG n ((b :: l).drop (i + 2)))) (gc [b] + leastG n l)) := by
      intro m
      induction m with
      | zero => intro _; exact h1
      | succ m ih =>
        intro hm
        rw [List.range_succ, List.foldl_append]
        exact (ih (by omega)).next (by omega) (leastG_ok n _ (by simp; omega))
    exact BestTo.least (by simp) (step l.length (Nat.le_refl _))
theorem best_is {n : Nat} {pl : Int} {y w : Nat → Int} {r : List Push} (up : Up n y) (b : Best n pl y w r) : r.length = leastG n (lawB y w n) := by
  obtain ⟨rs, h1, h2⟩ := b.least
  rw [← lawB_runs up rs.length rs n rfl (Nat.le_refl _) h1] at h2
  exact h2.uniq (leastG_ok n _ (lawB_len n).1)
/-- places by a list -/
def gF (zs : List Int) : Nat → Int := fun j => zs.getD j 0
theorem gF_list (zs : List Int) : (List.range zs.length).map (gF zs) = zs := by
  apply List.ext_getElem?
  intro i
  by_cases h : i < zs.length
  · simp [gF, h]
  · rw [List.getElem?_eq_none (by simp; omega), List.getElem?_eq_none (by omega)]
def riseB (n : Nat) (pl : Int) (y : Nat → Int) : Bool := (List.range n).all fun j => decide (0 ≤ y j) && decide (y j ≤ pl) && (decide (n ≤ j + 1) || decide (y j ≤ y (j + 1)))
theorem rise_by {n : Nat} {pl : Int} {y : Nat → Int} (h : riseB n pl y = true) : Rise n pl y := by
  have h1 : ∀ j, j < n → 0 ≤ y j ∧ y j ≤ pl ∧ (n ≤ j + 1 ∨ y j ≤ y (j + 1)) := fun j hj => by
    have := List.all_eq_true.mp h j (List.mem_range.mpr hj)
    simp only [Bool.and_eq_true, Bool.or_eq_true, decide_eq_true_eq] at this
    exact ⟨this.1.1, this.1.2, this.2⟩
  exact ⟨fun j hj => (h1 j hj).1, fun j hj => (h1 j hj).2.1, fun j hj => (h1 j (by omega)).2.2.resolve_left (by omega)⟩
abbrev zA : List Int := [0, 3, 3, 6, 6, 9]
abbrev zB : List Int := [2, 2, 5, 5, 8, 8]
abbrev zC : List Int := [2, 2, 3, 3, 8, 8]
abbrev zD : List Int := [0, 3, 5, 5, 6, 9]
abbrev zK (c : Int) : List Int := [c, c, c, c, c, c]
theorem fw1 : leastG 6 (lawB (gF zA) (gF zB) 6) = 4 := by decide
theorem fw2 : leastG 6 (lawB (gF zB) (gF zA) 6) = 4 := by decide
theorem fw3 : leastG 6 (lawB (gF zA) (gF (zK 1)) 6) = 2 := by decide
theorem fw4 : leastG 6 (lawB (gF zA) (gF zA) 6) = 0 := by decide
theorem fw5 : leastG 6 (lawB (gF (zK 0)) (gF zB) 6) = 3 := by decide
theorem fw6 : leastG 6 (lawB (gF (zK 9)) (gF zB) 6) = 3 := by decide
theorem fw7 : leastG 6 (lawB (gF zA) (gF zC) 6) = 4 := by decide
theorem fw8 : leastG 6 (lawB (gF zD) (gF zB) 6) = 4 := by decide
theorem fw9 : leastG 1 (lawB (gF [4]) (gF [2]) 1) = 1 := by decide
theorem fw10 : leastG 1 (lawB (doP (gF [4]) (false, 1, 2)) (gF [2]) 1) = 0 := by decide
theorem ri_z : Rise 6 9 (gF zA) ∧ Rise 6 9 (gF zB) ∧ Rise 6 9 (gF zC) ∧ Rise 6 9 (gF zD) ∧ Rise 6 9 (gF (zK 0)) ∧ Rise 6 9 (gF (zK 1)) ∧ Rise 6 9 (gF (zK 9)) :=
  ⟨rise_by (by decide), rise_by (by decide), rise_by (by decide), rise_by (by decide), rise_by (by decide), rise_by (by decide), rise_by (by decide)⟩
theorem stL1 (b : Int) (y : Nat → Int) : stL [b] y = [y 0] := by
  show [y 0 + pre [b] 0] = _
  rw [pre_zero, Int.add_zero]
theorem pre1 (b : Int) : pre [b] 1 = b := by
  rw [pre_succ (by simp), pre_zero]
  simp
theorem ld0 : leadN 1 4 (gF [1]) (gF [3]) (gF [0]) = 0 := by decide
theorem ld1 : leadN 1 4 (gF [1]) (gF [3]) (gF [1]) = 2 := by decide
theorem ld2 : leadN 1 4 (gF [1]) (gF [3]) (gF [2]) = 1 := by decide
theorem ld3 : leadN 1 4 (gF [1]) (gF [3]) (gF [3]) = 2 := by decide
theorem ld4 : leadN 1 4 (gF [1]) (gF [3]) (gF [4]) = 0 := by decide
theorem lo_a : loR [(true, 0, 3), (false, 1, 1)] 0 = 1 := by decide
theorem hi_a : hiR 4 [(true, 0, 3), (false, 1, 1)] 0 = 1 := by decide
theorem lo_b : loR [(false, 1, 3), (true, 0, 1)] 0 = 1 := by decide
theorem hi_b : hiR 4 [(false, 1, 3), (true, 0, 1)] 0 = 3 := by decide
theorem lo_c : loR [(true, 0, 2)] 0 = loR [(true, 0, 1), (true, 0, 2)] 0 := by decide
theorem hi_c : hiR 4 [(true, 0, 2)] 0 = hiR 4 [(true, 0, 1), (true, 0, 2)] 0 := by decide
theorem do_n : doP (gF [4]) (false, 1, 2) 0 = 2 := by decide
theorem do_l : doP (fun _ => 0) (false, 1, 2) 0 = 0 := by decide
theorem do_h : doP (fun _ => 4) (false, 1, 2) 0 = 2 := by decide
theorem chs : (ch (4 + 1) 1 : Int) * (ch (4 + 1) 1 : Int) - (ch (4 + 1) 0 : Int) * (ch (4 + 1) 2 : Int) = 15 := by decide
end PS

namespace PS
/-! ### what can be had in so many steps -/
section
variable {α : Type} (nb : α → List α) (s0 : α)
def Rc : Nat → α → Prop
  | 0, x => x = s0
  | d + 1, x => ∃ y, Rc d y ∧ x ∈ nb y
def Ds (d : Nat) (x : α) : Prop := Rc nb s0 d x ∧ ∀ e, e < d → ¬ Rc nb s0 e x
theorem ds_uniq {d e : Nat} {x : α} (h : Ds nb s0 d x) (k : Ds nb s0 e x) : d = e := by
  rcases Nat.lt_trichotomy d e with h1 | h1 | h1
  · exact absurd h.1 (k.2 d h1)
  · exact h1
  · exact absurd k.1 (h.2 e h1)
theorem ds_least : ∀ {d : Nat} {x : α}, Rc nb s0 d x → ∃ e, e ≤ d ∧ Ds nb s0 e x := fun {d} => by
  induction d using Nat.strongRecOn with
  | ind d ih =>
    intro x h
    by_cases c : ∃ e, e < d ∧ Rc nb s0 e x
    · obtain ⟨e, h1, h2⟩ := c
      obtain ⟨f, h3, h4⟩ := ih e h1 h2
      exact ⟨f, by omega, h4⟩
    · exact ⟨d, Nat.le_refl _, h, fun e he hr => c ⟨e, he, hr⟩⟩
theorem ds_back {d : Nat} {x : α} (h : Ds nb s0 (d + 1) x) : ∃ y, Ds nb s0 d y ∧ x ∈ nb y := by
  obtain ⟨y, h1, h2⟩ := h.1
  exact ⟨y, ⟨h1, fun e he hr => h.2 (e + 1) (by omega) ⟨y, hr, h2⟩⟩, h2⟩
theorem ds_down : ∀ (k : Nat) {d : Nat} {x : α}, Ds nb s0 (d + k) x → ∃ y, Ds nb s0 d y
  | 0, d, x, h => ⟨x, h⟩
  | k + 1, d, x, h => by
    obtain ⟨y, hy, _⟩ := ds_back nb s0 (d := d + k) h
    exact ds_down k hy
/-- found so far, the outermost ring -/
structure Fnd (d : Nat) (F : List (α × Nat)) (ring : List α) : Prop where
  nd : (F.map (·.1)).Nodup
  at_ : ∀ x e, (x, e) ∈ F ↔ Ds nb s0 e x ∧ e ≤ d
  rg : ∀ x, x ∈ ring ↔ Ds nb s0 d x
theorem Fnd.start : Fnd nb s0 0 [(s0, 0)] [s0] where
  nd := by simp
  at_ := fun x e => by
    constructor
    · intro h
      have : x = s0 ∧ e = 0 := by simpa using h
      obtain ⟨rfl, rfl⟩ := this
      exact ⟨⟨rfl, fun e he => by omega⟩, Nat.le_refl _⟩
    · rintro ⟨h, he⟩
      have : e = 0 := by omega
      subst this
      have : x = s0 := h.1
      subst this
      simp
  rg := fun x => by
    constructor
    · intro h
      have : x = s0 := by simpa using h
      subst this
      exact ⟨rfl, fun e he => by omega⟩
    · intro h
      have : x = s0 := h.1
      simp [this]
/-- one ring: L the new ones, S what was seen -/
structure Rng (d : Nat) (F : List (α × Nat)) (ring : List α) (S : α → Prop) (L : List α) : Prop where
  nd : L.Nodup
  new : ∀ x ∈ L, x ∉ F.map (·.1)
  from_ : ∀ x ∈ L, ∃ y ∈ ring, x ∈ nb y
  seen : ∀ x, S x → x ∈ F.map (·.1) ∨ x ∈ L
theorem Rng.start (d : Nat) (F : List (α × Nat)) (ring : List α) : Rng nb d F ring (fun _ => False) [] := ⟨by simp, by simp, by simp, fun _ h => h.elim⟩
theorem Rng.old {d : Nat} {F : List (α × Nat)} {ring : List α} {S : α → Prop} {L : List α} {x : α} (h : Rng nb d F ring S L) (hx : x ∈ F.map (·.1) ∨ x ∈ L) : Rng nb d F ring (fun z => S z ∨ z = x) L :=
  ⟨h.nd, h.new, h.from_, fun z hz => hz.elim (h.seen z) (fun e => e ▸ hx)⟩
theorem Rng.put {d : Nat} {F : List (α × Nat)} {ring : List α} {S : α → Prop} {L : List α} {x : α} (h : Rng nb d F ring S L) (h1 : x ∉ F.map (·.1)) (h2 : x ∉ L) (h3 : ∃ y ∈ ring, x ∈ nb y) : Rng nb d F ring (fun z => S z ∨ z = x) (L ++ [x]) where
  nd := by
    rw [List.nodup_append]
    refine ⟨h.nd, by simp, fun a ha b hb => ?_⟩
    have : b = x := by simpa using hb
    subst this
    intro e
    subst e
    exact h2 ha
  new := fun z hz => by
    rcases List.mem_append.mp hz with hz | hz
    · exact h.new z hz
    · have : z = x := by simpa using hz
      rw [this]
      exact h1
  from_ := fun z hz => by
    rcases List.mem_append.mp hz with hz | hz
    · exact h.from_ z hz
    · have : z = x := by simpa using hz
      rw [this]
      exact h3
  seen := fun z hz => by
    rcases hz with hz | rfl
    · rcases h.seen z hz with h' | h'
      · exact .inl h'
      · exact .inr (List.mem_append_left _ h')
    · exact .inr (by simp)
theorem Fnd.next {d : Nat} {F : List (α × Nat)} {ring : List α} {S : α → Prop} {L : List α} (f : Fnd nb s0 d F ring) (r : Rng nb d F ring S L) (hs : ∀ y ∈ ring, ∀ x ∈ nb y, S x) : Fnd nb s0 (d + 1) (F ++ L.map fun x => (x, d + 1)) L := by
  have inF : ∀ x, x ∈ F.map (·.1) ↔ ∃ e, e ≤ d ∧ Rc nb s0 e x := fun x => by
    constructor
    · intro h
      obtain ⟨⟨a, e⟩, h1, h2⟩ := List.mem_map.mp h
      have : a = x := h2
      subst this
      have := (f.at_ a e).mp h1
      exact ⟨e, this.2, this.1.1⟩
    · rintro ⟨e, he, hr⟩
      obtain ⟨e', h1, h2⟩ := ds_least nb s0 hr
      exact List.mem_map.mpr ⟨(x, e'), (f.at_ x e').mpr ⟨h2, by omega⟩, rfl⟩
  have inL : ∀ x, x ∈ L ↔ Ds nb s0 (d + 1) x := fun x => by
    constructor
    · intro h
      obtain ⟨y, h1, h2⟩ := r.from_ x h
      refine ⟨⟨y, ((f.rg y).mp h1).1, h2⟩, fun e he hr => r.new x h ((inF x).mpr ⟨e, by omega, hr⟩)⟩
    · intro h
      obtain ⟨y, h1, h2⟩ := ds_back nb s0 h
      rcases r.seen x (hs y ((f.rg y).mpr h1) x h2) with h' | h'
      · obtain ⟨e, he, hr⟩ := (inF x).mp h'
        exact absurd hr (h.2 e (by omega))
      · exact h'
  refine ⟨?_, fun x e => ?_, inL⟩
  · rw [List.map_append, List.map_map]
    have e1 : L.map ((fun p : α × Nat => p.1) ∘ fun x => (x, d + 1)) = L := by
      conv => rhs; rw [← List.map_id L]
      rfl
    rw [e1, List.nodup_append]
    exact ⟨f.nd, r.nd, fun a ha b hb e => r.new b hb (e ▸ ha)⟩
  · constructor
    · intro h
      rcases List.mem_append.mp h with h | h
      · have := (f.at_ x e).mp h
        exact ⟨this.1, by omega⟩
      · obtain ⟨z, h1, h2⟩ := List.mem_map.mp h
        cases h2
        exact ⟨(inL x).mp h1, Nat.le_refl _⟩
    · rintro ⟨h, he⟩
      by_cases c : e = d + 1
      · subst c
        exact List.mem_append_right _ (List.mem_map.mpr ⟨x, (inL x).mpr h, rfl⟩)
      · exact List.mem_append_left _ ((f.at_ x e).mpr ⟨h, by omega⟩)
theorem Fnd.all {d : Nat} {F : List (α × Nat)} (f : Fnd nb s0 d F []) {x : α} {e : Nat} (h : Rc nb s0 e x) : ∃ k, (x, k) ∈ F := by
  obtain ⟨e', _, h2⟩ := ds_least nb s0 h
  by_cases c : e' ≤ d
  · exact ⟨e', (f.at_ x e').mpr ⟨h2, c⟩⟩
  · obtain ⟨y, hy⟩ := ds_down nb s0 (e' - d) (d := d) (by rw [show d + (e' - d) = e' from by omega]; exact h2)
    exact absurd ((f.rg y).mpr hy) (by simp)
end
theorem nodup_len {α : Type} [DecidableEq α] : ∀ {l m : List α}, l.Nodup → (∀ x ∈ l, x ∈ m) → l.length ≤ m.length
  | [], _, _, _ => Nat.zero_le _
  | a :: l, m, h, k => by
    have h' := List.nodup_cons.mp h
    have ha := k a (by simp)
    have := nodup_len (m := m.erase a) h'.2 fun x hx => (List.mem_erase_of_ne (fun (e : x = a) => h'.1 (e ▸ hx))).mpr (k x (by simp [hx]))
    rw [List.length_erase_of_mem ha] at this
    have : 0 < m.length := List.length_pos_of_mem ha
    simp
    omega
end PS

namespace PS
/-! ### all pushes, all stands -/
def pusG (n pn g : Nat) : List Push := (if g < n then (List.range (pn + 1)).map (fun b : Nat => ((true, g, (b : Int)) : Push)) else []) ++ (if 0 < g then (List.range (pn + 1)).map (fun b : Nat => ((false, g, (b : Int)) : Push)) else [])
def pusA (n pn : Nat) : Nat → List Push
  | 0 => []
  | g + 1 => pusA n pn g ++ pusG n pn g
theorem pusG_iff {n pn g : Nat} (gn : g ≤ n) {p : Push} : p ∈ pusG n pn g ↔ PuOk n pn p ∧ p.2.1 = g := by
  obtain ⟨s, g', b⟩ := p
  unfold pusG
  rw [List.mem_append]
  constructor
  · rintro (h | h)
    · split at h
      · rename_i hg
        obtain ⟨c, hc, e⟩ := List.mem_map.mp h
        cases e
        rw [List.mem_range] at hc
        exact ⟨⟨fun _ => hg, fun z => (nomatch z), by show (0 : Int) ≤ (c : Int); omega, by show (c : Int) ≤ (pn : Int); omega⟩, rfl⟩
      · simp at h
    · split at h
      · rename_i hg
        obtain ⟨c, hc, e⟩ := List.mem_map.mp h
        cases e
        rw [List.mem_range] at hc
        exact ⟨⟨fun z => (nomatch z), fun _ => ⟨hg, gn⟩, by show (0 : Int) ≤ (c : Int); omega, by show (c : Int) ≤ (pn : Int); omega⟩, rfl⟩
      · simp at h
  · rintro ⟨h, e⟩
    have e : g' = g := e
    subst e
    have b0 : 0 ≤ b := h.b0
    have b1 : b ≤ (pn : Int) := h.b1
    have eb : ((b.toNat : Nat) : Int) = b := by omega
    cases s with
    | true =>
      left
      rw [if_pos (show g' < n from h.g0 rfl)]
      exact List.mem_map.mpr ⟨b.toNat, by rw [List.mem_range]; omega, by rw [eb]⟩
    | false =>
      right
      rw [if_pos (show 0 < g' from (h.g1 rfl).1)]
      exact List.mem_map.mpr ⟨b.toNat, by rw [List.mem_range]; omega, by rw [eb]⟩
theorem pusA_iff {n pn : Nat} {p : Push} : ∀ m, m ≤ n + 1 → (p ∈ pusA n pn m ↔ PuOk n pn p ∧ p.2.1 < m)
  | 0, _ => by simp [pusA]
  | m + 1, h => by
    rw [pusA, List.mem_append, pusA_iff m (by omega), pusG_iff (by omega)]
    constructor
    · rintro (⟨h1, h2⟩ | ⟨h1, h2⟩)
      · exact ⟨h1, by omega⟩
      · exact ⟨h1, by omega⟩
    · rintro ⟨h1, h2⟩
      by_cases c : p.2.1 = m
      · exact .inr ⟨h1, c⟩
      · exact .inl ⟨h1, by omega⟩
theorem pus_all {n pn : Nat} {p : Push} : p ∈ pusA n pn (n + 1) ↔ PuOk n pn p := by
  rw [pusA_iff _ (Nat.le_refl _)]
  refine ⟨fun h => h.1, fun h => ⟨h, ?_⟩⟩
  obtain ⟨s, g, b⟩ := p
  cases s with
  | true => have : g < n := h.g0 rfl; show g < n + 1; omega
  | false => have : 1 ≤ g ∧ g ≤ n := h.g1 rfl; show g < n + 1; omega
/-- places as a list -/
def pc (n : Nat) (y : Nat → Int) : List Int := (List.range n).map y
theorem pc_len (n : Nat) (y : Nat → Int) : (pc n y).length = n := by simp [pc]
theorem pc_congr {n : Nat} {y z : Nat → Int} (h : ∀ j, j < n → y j = z j) : pc n y = pc n z := by
  unfold pc
  exact List.map_congr_left fun j hj => h j (List.mem_range.mp hj)
theorem pc_at {n : Nat} {y : Nat → Int} {j : Nat} (h : j < n) : gF (pc n y) j = y j := by simp [gF, pc, h]
theorem pc_inj {n : Nat} {y z : Nat → Int} (h : pc n y = pc n z) : ∀ j, j < n → y j = z j := fun j hj => by
  rw [← pc_at (y := y) hj, ← pc_at (y := z) hj, h]
theorem pc_gF {n : Nat} {x : List Int} (h : x.length = n) : pc n (gF x) = x := by
  subst h
  exact gF_list x
def nbP (n pn : Nat) (x : List Int) : List (List Int) := (pusA n pn (n + 1)).map fun p => pc n (doP (gF x) p)
theorem nb_step {n pn : Nat} {y : Nat → Int} {p : Push} : pc n (doP (gF (pc n y)) p) = pc n (doP y p) := pc_congr fun j hj => by rw [doP_at, doP_at, pc_at hj]
theorem rc_row {n pn : Nat} {y0 : Nat → Int} : ∀ (e : Nat) (x : List Int), Rc (nbP n pn) (pc n y0) e x ↔ ∃ r : List Push, r.length = e ∧ (∀ p ∈ r, PuOk n pn p) ∧ x = pc n (doR y0 r)
  | 0, x => by
    constructor
    · intro h
      exact ⟨[], rfl, by simp, h⟩
    · rintro ⟨r, h1, _, h3⟩
      have : r = [] := List.length_eq_zero_iff.mp h1
      subst this
      exact h3
  | e + 1, x => by
    constructor
    · rintro ⟨y, h1, h2⟩
      obtain ⟨r, rl, rk, rfl⟩ := (rc_row e y).mp h1
      obtain ⟨p, hp, rfl⟩ := List.mem_map.mp h2
      refine ⟨r ++ [p], by simp [rl], fun q hq => ?_, ?_⟩
      · rcases List.mem_append.mp hq with hq | hq
        · exact rk q hq
        · have : q = p := by simpa using hq
          subst this
          exact pus_all.mp hp
      · rw [nb_step (pn := pn), doR_app]
        rfl
    · rintro ⟨r, rl, rk, rfl⟩
      obtain ⟨q, p, rfl⟩ : ∃ q p, r = q ++ [p] := by
        rcases List.eq_nil_or_concat r with h | ⟨q, p, h⟩
        · rw [h] at rl; simp at rl
        · exact ⟨q, p, by simpa using h⟩
      refine ⟨pc n (doR y0 q), (rc_row e _).mpr ⟨q, by simpa using rl, fun z hz => rk z (by simp [hz]), rfl⟩, List.mem_map.mpr ⟨p, pus_all.mpr (rk p (by simp)), ?_⟩⟩
      show pc n (doP (gF (pc n (doR y0 q))) p) = _
      rw [nb_step (pn := pn), doR_app]
      rfl
theorem rc_best {n pn : Nat} {y0 w : Nat → Int} {r : List Push} (b : Best n pn y0 w r) : Ds (nbP n pn) (pc n y0) r.length (pc n w) := by
  refine ⟨(rc_row _ _).mpr ⟨r, rfl, b.ok, (pc_congr b.lead).symm⟩, fun e he h => ?_⟩
  obtain ⟨q, ql, _, hq⟩ := (rc_row e _).mp h
  have := b.few q fun j hj => (pc_inj hq j hj).symm
  omega
theorem rc_rise {n pn : Nat} {y0 : Nat → Int} (ri : Rise n pn y0) {e : Nat} {x : List Int} (h : Rc (nbP n pn) (pc n y0) e x) : ∃ z, Rise n pn z ∧ x = pc n z := by
  obtain ⟨r, _, rk, rfl⟩ := (rc_row e x).mp h
  exact ⟨_, doR_rise ri rk, rfl⟩
theorem rc_any {n pn : Nat} {y0 z : Nat → Int} (ri : Rise n pn y0) (rz : Rise n pn z) : Rc (nbP n pn) (pc n y0) (2 * n) (pc n z) := by
  have dk : DoOk n pn z z := ⟨rz, rz, fun _ _ => Int.le_refl _⟩
  refine (rc_row _ _).mpr ⟨rowF z z n, rowF_len _ _ _, rowF_ok dk n (Nat.le_refl _), pc_congr fun j hj => ?_⟩
  rw [doR_clamp (by omega) ri (rowF_ok dk n (Nat.le_refl _)) hj, rowF_lo dk hj, rowF_hi dk hj]
  unfold clamp
  omega
theorem ds_le {n pn : Nat} {y0 : Nat → Int} (ri : Rise n pn y0) {d : Nat} {x : List Int} (h : Ds (nbP n pn) (pc n y0) d x) : d ≤ 2 * n := by
  obtain ⟨z, rz, rfl⟩ := rc_rise ri h.1
  rcases Nat.lt_or_ge (2 * n) d with c | c
  · exact absurd (rc_any ri rz) (h.2 _ c)
  · exact c
/-! how many -/
theorem lastJ_ge : ∀ {r : List Int}, r.Pairwise (· ≤ ·) → ∀ z, (∀ x ∈ r, x ≤ z) → 0 ≤ z → lastJ r ≤ z
  | [], _, z, _, h => h
  | a :: l, _, z, h, _ => h _ (List.getLast_mem _)
theorem allY_mem {pl : Nat} : ∀ {k : Nat} {r : List Int}, r.length = k → r.Pairwise (· ≤ ·) → (∀ z ∈ r, 0 ≤ z ∧ z ≤ (pl : Int)) → r ∈ allY pl k
  | 0, r, h, _, _ => by
    have : r = [] := List.length_eq_zero_iff.mp h
    subst this
    simp [allY]
  | k + 1, r, h, h1, h2 => by
    obtain ⟨q, z, rfl⟩ : ∃ q z, r = q ++ [z] := by
      rcases List.eq_nil_or_concat r with h' | ⟨q, p, h'⟩
      · rw [h'] at h; simp at h
      · exact ⟨q, p, by simpa using h'⟩
    rw [List.pairwise_append] at h1
    have hz := h2 z (by simp)
    have hq : q ∈ allY pl k := allY_mem (by simpa using h) h1.1 fun x hx => h2 x (by simp [hx])
    have hl := lastJ_ge h1.1 z (fun x hx => h1.2.2 x hx z (by simp)) hz.1
    refine List.mem_flatMap.mpr ⟨q, hq, List.mem_map.mpr ⟨(z - lastJ q).toNat, ?_, ?_⟩⟩
    · rw [List.mem_range]
      omega
    · congr 2
      omega
theorem allY_nodup {pl : Nat} : ∀ k : Nat, (allY pl k).Nodup
  | 0 => by simp [allY]
  | k + 1 => by
    show ((allY pl k).flatMap (ext pl)).Nodup
    have ih := allY_nodup (pl := pl) k
    generalize allY pl k = A at ih
    induction A with
    | nil => simp
    | cons a A ih' =>
      rw [List.flatMap_cons, List.nodup_append]
      have h' := List.nodup_cons.mp ih
      refine ⟨?_, ih' h'.2, fun x hx y hy e => ?_⟩
      · unfold ext
        refine List.Pairwise.map _ (fun q q' hq e => ?_) (List.nodup_range)
        have := (List.append_cancel_left e)
        have := List.cons.inj this
        exact hq (by have := this.1; omega)
      · subst e
        obtain ⟨b, hb, hxb⟩ := List.mem_flatMap.mp hy
        obtain ⟨q, _, rfl⟩ := List.mem_map.mp hx
        obtain ⟨q', _, e⟩ := List.mem_map.mp hxb
        have := (List.append_inj' e rfl).1
        subst this
        exact h'.1 hb
theorem riseS {ns : List Int} {pl : Int} (hs : ns.Pairwise (· ≤ ·)) (hb : ∀ x ∈ ns, 0 ≤ x ∧ x ≤ pl) : Rise ns.length pl (fun j => ns.getD j 0) where
  lo := fun j hj => by
    have := hb ns[j] (List.getElem_mem hj)
    simp [hj]; omega
  hi := fun j hj => by
    have := hb ns[j] (List.getElem_mem hj)
    simp [hj]; omega
  up := fun j hj => by
    have h1 : j < ns.length := by omega
    have := List.pairwise_iff_getElem.mp hs j (j + 1) h1 hj (by omega)
    simp [h1, hj]
    exact this
theorem fnd_count {n pn : Nat} {y0 : Nat → Int} (ri : Rise n pn y0) {d : Nat} {F : List (List Int × Nat)} (f : Fnd (nbP n pn) (pc n y0) d F []) : F.length = ch (pn + n) n := by
  rw [← allY_length, ← List.length_map (f := (·.1)) (as := F)]
  refine Nat.le_antisymm (nodup_len f.nd fun x hx => ?_) (nodup_len (allY_nodup n) fun x hx => ?_)
  · obtain ⟨⟨x', e⟩, h1, rfl⟩ := List.mem_map.mp hx
    obtain ⟨z, rz, e1⟩ := rc_rise ri ((f.at_ x' e).mp h1).1.1
    show x' ∈ _
    rw [e1]
    refine allY_mem (pc_len _ _) ?_ fun v hv => ?_
    · unfold pc
      rw [List.pairwise_map]
      refine List.Pairwise.imp_of_mem (fun {a b} ha hb hab => ?_) (List.pairwise_lt_range (n := n))
      exact rz.mono a b (Nat.le_of_lt hab) (List.mem_range.mp hb)
    · obtain ⟨j, hj, rfl⟩ := List.mem_map.mp hv
      exact ⟨rz.lo j (List.mem_range.mp hj), rz.hi j (List.mem_range.mp hj)⟩
  · obtain ⟨h1, h2, _⟩ := allY_rise hx
    have hl := allY_len hx
    have rz : Rise n pn (gF x) := by
      have := riseS h1 h2
      rw [hl] at this
      exact this
    have := rc_any ri rz
    rw [pc_gF hl] at this
    obtain ⟨k, hk⟩ := Fnd.all _ _ f this
    exact List.mem_map.mpr ⟨(x, k), hk, rfl⟩
end PS

namespace PS
open PySem PySem.Spec PyProof.Rows L2
/-! ### stands as keys -/
def kX (ls : List Int) (x : List Int) : List Key := (stL ls (gF x)).map Sum.inl
def kvsF (ls : List Int) (F : List (List Int × Nat)) : List (List Key × V) := F.map fun p => (kX ls p.1, V.int (p.2 : Int))
theorem kX_V (ls x : List Int) : (kX ls x).map kV = iV (stL ls (gF x)) := by
  unfold kX
  rw [List.map_map]
  rfl
theorem kX_inj {ls x x' : List Int} (hx : x.length = ls.length) (hx' : x'.length = ls.length) (h : kX ls x = kX ls x') : x = x' := by
  have h1 : stL ls (gF x) = stL ls (gF x') := by
    have : ∀ a b : List Int, a.map (Sum.inl : Int → Key) = b.map Sum.inl → a = b := fun a => by
      induction a with
      | nil => intro b h; cases b with
        | nil => rfl
        | cons c b => simp at h
      | cons a as ih => intro b h; cases b with
        | nil => simp at h
        | cons c b =>
          have h' := List.cons.inj h
          have e1 : a = c := Sum.inl.inj h'.1
          rw [e1, ih b h'.2]
    exact this _ _ h
  rw [← pc_gF hx, ← pc_gF hx']
  exact pc_congr (stL_inj h1)
theorem kX_pc (ls : List Int) (y : Nat → Int) : stL ls (gF (pc ls.length y)) = stL ls y := stL_congr fun j hj => pc_at hj
theorem kvsF_app (ls : List Int) (F G : List (List Int × Nat)) : kvsF ls (F ++ G) = kvsF ls F ++ kvsF ls G := List.map_append
theorem kvsF_none {ls x : List Int} : ∀ {F : List (List Int × Nat)}, (∀ p ∈ F, p.1.length = ls.length) → x.length = ls.length → x ∉ F.map (·.1) → valV (kvsF ls F) (kX ls x) = none
  | [], _, _, _ => rfl
  | p :: F, hF, hx, h => by
    have h1 : p.1 ≠ x := fun e => h (by simp [e])
    show valV ((kX ls p.1, V.int (p.2 : Int)) :: kvsF ls F) _ = none
    rw [valV_neg (fun e => h1 (kX_inj (hF p (by simp)) hx e))]
    exact kvsF_none (fun q hq => hF q (by simp [hq])) hx fun hm => h (by simp at hm ⊢; exact .inr hm)
theorem kvsF_some {ls x : List Int} {e : Nat} : ∀ {F : List (List Int × Nat)}, (∀ p ∈ F, p.1.length = ls.length) → (F.map (·.1)).Nodup → (x, e) ∈ F → valV (kvsF ls F) (kX ls x) = some (.int (e : Int))
  | [], _, _, h => by simp at h
  | p :: F, hF, nd, h => by
    show valV ((kX ls p.1, V.int (p.2 : Int)) :: kvsF ls F) _ = _
    have nd' := List.nodup_cons.mp nd
    rcases List.mem_cons.mp h with h' | h'
    · subst h'
      exact valV_pos rfl
    · have h1 : p.1 ≠ x := fun z => nd'.1 (by show p.1 ∈ _; rw [z]; exact List.mem_map.mpr ⟨(x, e), h', rfl⟩)
      rw [valV_neg (fun z => h1 (kX_inj (hF p (by simp)) (hF _ h) z))]
      exact kvsF_some (fun q hq => hF q (by simp [hq])) nd'.2 h'
/-- tuples of stands -/
inductive Tups (H : Hp) (ls : List Int) : List V → List (List Int) → Prop
  | nil : Tups H ls [] []
  | cons {t : Addr} {x : List Int} {vs : List V} {X : List (List Int)} : H t = some (.tup (iV (stL ls (gF x)))) → Tups H ls vs X → Tups H ls (.ref t :: vs) (x :: X)
theorem Tups.len {H : Hp} {ls : List Int} : ∀ {vs : List V} {X : List (List Int)}, Tups H ls vs X → vs.length = X.length
  | _, _, .nil => rfl
  | _, _, .cons _ h => by simp [h.len]
theorem Tups.keep {H H' : Hp} {ls : List Int} (k : ∀ t ys, H t = some (.tup ys) → H' t = some (.tup ys)) : ∀ {vs : List V} {X : List (List Int)}, Tups H ls vs X → Tups H' ls vs X
  | _, _, .nil => .nil
  | _, _, .cons h hs => .cons (k _ _ h) (hs.keep k)
theorem Tups.app {H : Hp} {ls : List Int} : ∀ {vs us : List V} {X Y : List (List Int)}, Tups H ls vs X → Tups H ls us Y → Tups H ls (vs ++ us) (X ++ Y)
  | _, _, _, _, .nil, h => h
  | _, _, _, _, .cons a h, k => .cons a (h.app k)
theorem Tups.get {H : Hp} {ls : List Int} : ∀ {vs : List V} {X : List (List Int)} {i : Nat} {v : V}, Tups H ls vs X → vs[i]? = some v → ∃ t x, v = .ref t ∧ X[i]? = some x ∧ H t = some (.tup (iV (stL ls (gF x))))
  | _, _, i, v, .nil, e => by simp at e
  | _, _, 0, v, .cons (t := t) (x := x) a h, e => by
    simp at e
    exact ⟨t, x, e.symm, rfl, a⟩
  | _, _, i + 1, v, .cons a h, e => by
    obtain ⟨t, x, h1, h2, h3⟩ := h.get (i := i) (v := v) (by simpa using e)
    exact ⟨t, x, h1, by simpa using h2, h3⟩
theorem Tups.dp {K : PySem.W.Frag} {H : Hp} {ls : List Int} : ∀ {vs : List V} {X : List (List Int)}, Tups H ls vs X → DpAll K H vs (X.map fun x => tI (stL ls (gF x)))
  | _, _, .nil => .nil
  | _, _, .cons a h => .cons (tI_dp (.inl (.inl a))) h.dp
/-! ### a dict's cell holds no data -/
mutual
theorem dp_offD {K : PySem.W.Frag} {H : Hp} {k : Addr} {kvs : List (List Key × V)} (hk : H k = some (.dT kvs)) : ∀ (d : PyData) (v : V), Dp K H v d → Dp K (Off k H) v d
  | .none, _, h => by cases h; exact .non
  | .bool b, _, h => by cases h; exact .bl b
  | .int i, _, h => by cases h; exact .int i
  | .str x, _, h => by cases h; exact .str x
  | .list ds, _, h => by
    cases h with
    | lst s al =>
      refine .lst ?_ (dpAll_offD hk ds _ al)
      rcases s with (s | ⟨o, s⟩) | s
      · exact .inl (.inl (off_at (ne_of s hk (by intro z; cases z)) s))
      · exact .inl (.inr ⟨o, off_at (ne_of s hk (by intro z; cases z)) s⟩)
      · exact .inr s
  | .tuple ds, _, h => by
    cases h with
    | tup s al =>
      refine .tup ?_ (dpAll_offD hk ds _ al)
      rcases s with (s | ⟨o, s⟩) | s
      · exact .inl (.inl (off_at (ne_of s hk (by intro z; cases z)) s))
      · exact .inl (.inr ⟨o, off_at (ne_of s hk (by intro z; cases z)) s⟩)
      · exact .inr s
  | .dict _, _, h => by cases h
theorem dpAll_offD {K : PySem.W.Frag} {H : Hp} {k : Addr} {kvs : List (List Key × V)} (hk : H k = some (.dT kvs)) : ∀ (ds : List PyData) (vs : List V), DpAll K H vs ds → DpAll K (Off k H) vs ds
  | [], _, h => by cases h; exact .nil
  | d :: ds, _, h => by
    cases h with
    | cons h1 h2 => exact .cons (dp_offD hk d _ h1) (dpAll_offD hk ds _ h2)
end
end PS

namespace PS
open PySem PySem.Spec PyProof.Rows L2
theorem rise_pc {n : Nat} {pl : Int} {z : Nat → Int} (h : Rise n pl z) : Rise n pl (gF (pc n z)) where
  lo := fun j hj => by rw [pc_at hj]; exact h.lo j hj
  hi := fun j hj => by rw [pc_at hj]; exact h.hi j hj
  up := fun j hj => by rw [pc_at hj, pc_at (by omega)]; exact h.up j hj
theorem rc_gF {n pn : Nat} {y0 : Nat → Int} (ri : Rise n pn y0) {e : Nat} {x : List Int} (h : Rc (nbP n pn) (pc n y0) e x) : x.length = n ∧ Rise n pn (gF x) := by
  obtain ⟨z, rz, rfl⟩ := rc_rise ri h
  exact ⟨pc_len _ _, rise_pc rz⟩
theorem rise_allY {n pn : Nat} {z : Nat → Int} (rz : Rise n pn z) : pc n z ∈ allY pn n := by
  refine allY_mem (pc_len _ _) ?_ fun v hv => ?_
  · unfold pc
    rw [List.pairwise_map]
    refine List.Pairwise.imp_of_mem (fun {a b} ha hb hab => ?_) (List.pairwise_lt_range (n := n))
    exact rz.mono a b (Nat.le_of_lt hab) (List.mem_range.mp hb)
  · obtain ⟨j, hj, rfl⟩ := List.mem_map.mp hv
    exact ⟨rz.lo j (List.mem_range.mp hj), rz.hi j (List.mem_range.mp hj)⟩
theorem ch_pow : ∀ n k : Nat, ch n k ≤ 2 ^ n
  | 0, 0 => by decide
  | 0, k + 1 => by simp [ch]
  | n + 1, 0 => by rw [ch_zero]; exact Nat.one_le_two_pow
  | n + 1, k + 1 => by
    have h1 := ch_pow n k
    have h2 := ch_pow n (k + 1)
    rw [ch_succ, Nat.pow_succ]
    omega
theorem keys_few {n pn : Nat} {X : List (List Int)} (n8 : n ≤ 8) (p4 : pn ≤ 4) (nd : X.Nodup) (h : ∀ x ∈ X, ∃ z, Rise n pn z ∧ x = pc n z) : X.length ≤ 4096 := by
  refine Nat.le_trans (nodup_len (m := allY pn n) nd fun x hx => ?_) ?_
  · obtain ⟨z, rz, rfl⟩ := h x hx
    exact rise_allY rz
  · rw [allY_length]
    refine Nat.le_trans (ch_pow _ _) ?_
    exact Nat.le_trans (Nat.pow_le_pow_right (by decide) (show pn + n ≤ 12 by omega)) (by decide)
theorem small4096 {n : Nat} (h : n ≤ 5000) : n < sizeLine := by
  rw [sizeLine_eq]
  omega
/-- in the midst of a ring -/
theorem mid_few {n pn : Nat} {y0 : Nat → Int} (ri : Rise n pn y0) (n8 : n ≤ 8) (p4 : pn ≤ 4) {d : Nat} {F : List (List Int × Nat)} {X L : List (List Int)} {S : List Int → Prop} (f : Fnd (nbP n pn) (pc n y0) d F X) (r : Rng (nbP n pn) d F X S L) :
    (F ++ L.map fun x => (x, d + 1)).length ≤ 4096 ∧ (∀ p ∈ F ++ L.map (fun x => (x, d + 1)), p.1.length = n) := by
  have hF : ∀ p ∈ F, ∃ z, Rise n pn z ∧ p.1 = pc n z := fun p hp => rc_rise ri ((f.at_ p.1 p.2).mp hp).1.1
  have hL : ∀ x ∈ L, ∃ z, Rise n pn z ∧ x = pc n z := fun x hx => by
    obtain ⟨y, hy, h⟩ := r.from_ x hx
    exact rc_rise ri (show Rc _ _ (d + 1) x from ⟨y, ((f.rg y).mp hy).1, h⟩)
  constructor
  · have e : (F.map (·.1) ++ L).length ≤ 4096 := by
      refine keys_few n8 p4 ?_ fun x hx => ?_
      · rw [List.nodup_append]
        exact ⟨f.nd, r.nd, fun a ha b hb e => r.new b hb (e ▸ ha)⟩
      · rcases List.mem_append.mp hx with h | h
        · obtain ⟨p, hp, rfl⟩ := List.mem_map.mp h
          exact hF p hp
        · exact hL x h
    simpa using e
  · intro p hp
    rcases List.mem_append.mp hp with h | h
    · obtain ⟨z, _, e⟩ := hF p h
      rw [e]
      exact pc_len _ _
    · obtain ⟨x, hx, rfl⟩ := List.mem_map.mp h
      obtain ⟨z, _, e⟩ := hL x hx
      show x.length = n
      rw [e]
      exact pc_len _ _
theorem mid_keys {d : Nat} {F : List (List Int × Nat)} {L : List (List Int)} (x : List Int) : x ∈ (F ++ L.map fun x => (x, d + 1)).map (·.1) ↔ x ∈ F.map (·.1) ∨ x ∈ L := by
  rw [List.map_append, List.mem_append, List.map_map]
  have : L.map ((fun p : List Int × Nat => p.1) ∘ fun x => (x, d + 1)) = L := by
    conv => rhs; rw [← List.map_id L]
    rfl
  rw [this]
theorem mid_nodup {n pn : Nat} {y0 : Nat → Int} {d : Nat} {F : List (List Int × Nat)} {X L : List (List Int)} {S : List Int → Prop} (f : Fnd (nbP n pn) (pc n y0) d F X) (r : Rng (nbP n pn) d F X S L) : ((F ++ L.map fun x => (x, d + 1)).map (·.1)).Nodup := by
  rw [List.map_append, List.map_map]
  have : L.map ((fun p : List Int × Nat => p.1) ∘ fun x => (x, d + 1)) = L := by
    conv => rhs; rw [← List.map_id L]
    rfl
  rw [this, List.nodup_append]
  exact ⟨f.nd, r.nd, fun a ha b hb e => r.new b hb (e ▸ ha)⟩
theorem depthAll_le1 : ∀ (ds : List PyData) (n : Nat), (∀ d ∈ ds, d.depth ≤ n) → PyData.depthAll ds ≤ n + 1
  | [], n, _ => by simp [PyData.depthAll]
  | d :: ds, n, h => by
    have h1 := h d (by simp)
    have h2 := depthAll_le1 ds n fun x hx => h x (by simp [hx])
    simp only [PyData.depthAll]
    omega
theorem depth_ring (ls : List Int) (X : List (List Int)) : (PyData.list (X.map fun x => tI (stL ls (gF x)))).depth ≤ 64 := by
  have := depthAll_le1 (X.map fun x => tI (stL ls (gF x))) 1 fun d hd => by
    obtain ⟨x, _, rfl⟩ := List.mem_map.mp hd
    exact depth_tI _
  simp only [PyData.depth]
  omega
theorem eqv_ring (ls : List Int) (X : List (List Int)) : PyData.eqv (.list (X.map fun x => tI (stL ls (gF x)))) (.list []) = decide (X = []) := by
  cases X with
  | nil => simp [PyData.eqv, PyData.eqvAll]
  | cons x X => simp [PyData.eqv, PyData.eqvAll]
end PS

namespace PS
open PySem PySem.Spec PyProof.Rows L2
def topS (i : Nat) : Stmt := PySem.Challenge.pw_pushshelf_k08_whole_fewest_of_all_rows.main.body.getD i (.Pass ⟨0, 0, 0, 0⟩)
abbrev s_is_whole : Stmt := topS 8
theorem sc_is_whole : FnScope ["thing"] ["thing"] (defScope s_is_whole) := ⟨rfl, rfl, rfl, by decide +kernel, rfl, by decide +kernel, by decide +kernel⟩
abbrev s_is_within : Stmt := topS 9
theorem sc_is_within : FnScope ["thing", "low", "high"] ["thing", "low", "high"] (defScope s_is_within) := ⟨rfl, rfl, rfl, by decide +kernel, rfl, by decide +kernel, by decide +kernel⟩
abbrev s_is_tuple_of : Stmt := topS 10
theorem sc_is_tuple_of : FnScope ["thing", "many"] ["thing", "many"] (defScope s_is_tuple_of) := ⟨rfl, rfl, rfl, by decide +kernel, rfl, by decide +kernel, by decide +kernel⟩
abbrev s_are_blocks : Stmt := topS 11
theorem sc_are_blocks : FnScope ["thing", "length"] ["thing"] (defScope s_are_blocks) := ⟨rfl, rfl, rfl, by decide +kernel, rfl, by decide +kernel, by decide +kernel⟩
abbrev s_is_shelf : Stmt := topS 12
theorem sc_is_shelf : FnScope ["thing", "room", "blocks", "total"] ["thing"] (defScope s_is_shelf) := ⟨rfl, rfl, rfl, by decide +kernel, rfl, by decide +kernel, by decide +kernel⟩
abbrev s_need_shelf : Stmt := topS 13
theorem sc_need_shelf : FnScope ["thing"] ["thing"] (defScope s_need_shelf) := ⟨rfl, rfl, rfl, by decide +kernel, rfl, by decide +kernel, by decide +kernel⟩
abbrev s_play_of : Stmt := topS 14
theorem sc_play_of : FnScope ["shelf", "room", "blocks"] ["shelf"] (defScope s_play_of) := ⟨rfl, rfl, rfl, by decide +kernel, rfl, by decide +kernel, by decide +kernel⟩
abbrev s_gap_length : Stmt := topS 15
theorem sc_gap_length : FnScope ["shelf", "gap"] ["shelf", "gap"] (defScope s_gap_length) := ⟨rfl, rfl, rfl, by decide +kernel, rfl, by decide +kernel, by decide +kernel⟩
abbrev s_places_of : Stmt := topS 16
theorem sc_places_of : FnScope ["shelf", "stand", "at", "left"] ["shelf", "stand"] (defScope s_places_of) := ⟨rfl, rfl, rfl, by decide +kernel, rfl, by decide +kernel, by decide +kernel⟩
abbrev s_is_stand : Stmt := topS 17
theorem sc_is_stand : FnScope ["shelf", "thing", "room", "blocks", "edge", "left", "length"] ["shelf", "thing"] (defScope s_is_stand) := ⟨rfl, rfl, rfl, by decide +kernel, rfl, by decide +kernel, by decide +kernel⟩
abbrev s_need_stand : Stmt := topS 18
theorem sc_need_stand : FnScope ["shelf", "thing"] ["shelf", "thing"] (defScope s_need_stand) := ⟨rfl, rfl, rfl, by decide +kernel, rfl, by decide +kernel, by decide +kernel⟩
abbrev s_Band_init : Stmt := inClass (topS 20) 0
theorem sc_Band_init : FnScope ["self", "first", "beyond", "place", "up", "down"] ["self", "first", "beyond", "place", "up", "down"] (defScope s_Band_init) := ⟨rfl, rfl, rfl, by decide +kernel, rfl, by decide +kernel, by decide +kernel⟩
abbrev s_band_from : Stmt := topS 21
theorem sc_band_from : FnScope ["now", "wished", "first", "place", "beyond"] ["now", "wished", "first"] (defScope s_band_from) := ⟨rfl, rfl, rfl, by decide +kernel, rfl, by decide +kernel, by decide +kernel⟩
abbrev s_bands_of : Stmt := topS 22
theorem sc_bands_of : FnScope ["shelf", "stand", "wish", "now", "wished", "bands", "first", "band"] ["shelf", "stand", "wish"] (defScope s_bands_of) := ⟨rfl, rfl, rfl, by decide +kernel, rfl, by decide +kernel, by decide +kernel⟩
abbrev s_raised : Stmt := topS 23
theorem sc_raised : FnScope ["shelf", "gap", "place"] ["shelf", "gap", "place"] (defScope s_raised) := ⟨rfl, rfl, rfl, by decide +kernel, rfl, by decide +kernel, by decide +kernel⟩
abbrev s_lowered : Stmt := topS 24
theorem sc_lowered : FnScope ["shelf", "gap", "place"] ["shelf", "gap", "place"] (defScope s_lowered) := ⟨rfl, rfl, rfl, by decide +kernel, rfl, by decide +kernel, by decide +kernel⟩
abbrev s_row_alone : Stmt := topS 25
theorem sc_row_alone : FnScope ["shelf", "band", "row"] ["shelf", "band"] (defScope s_row_alone) := ⟨rfl, rfl, rfl, by decide +kernel, rfl, by decide +kernel, by decide +kernel⟩
abbrev s_row_served_by_last : Stmt := topS 26
theorem sc_row_served_by_last : FnScope ["shelf", "bands", "row", "band"] ["shelf", "bands"] (defScope s_row_served_by_last) := ⟨rfl, rfl, rfl, by decide +kernel, rfl, by decide +kernel, by decide +kernel⟩
abbrev s_row_served_by_first : Stmt := topS 27
theorem sc_row_served_by_first : FnScope ["shelf", "bands", "server", "row", "band"] ["shelf", "bands"] (defScope s_row_served_by_first) := ⟨rfl, rfl, rfl, by decide +kernel, rfl, by decide +kernel, by decide +kernel⟩
abbrev s_row_together : Stmt := topS 28
theorem sc_row_together : FnScope ["shelf", "bands"] ["shelf", "bands"] (defScope s_row_together) := ⟨rfl, rfl, rfl, by decide +kernel, rfl, by decide +kernel, by decide +kernel⟩
abbrev s_shortest_row : Stmt := topS 29
theorem sc_shortest_row : FnScope ["shelf", "stand", "wish", "bands", "rows", "many", "ways", "ahead"] ["shelf", "stand", "wish"] (defScope s_shortest_row) := ⟨rfl, rfl, rfl, by decide +kernel, rfl, by decide +kernel, by decide +kernel⟩
abbrev s_need_both : Stmt := topS 30
theorem sc_need_both : FnScope ["shelf", "stand", "wish"] ["shelf", "stand", "wish"] (defScope s_need_both) := ⟨rfl, rfl, rfl, by decide +kernel, rfl, by decide +kernel, by decide +kernel⟩
abbrev s_fewest : Stmt := topS 31
theorem sc_fewest : FnScope ["shelf", "stand", "wish"] ["shelf", "stand", "wish"] (defScope s_fewest) := ⟨rfl, rfl, rfl, by decide +kernel, rfl, by decide +kernel, by decide +kernel⟩
abbrev s_pushes_to : Stmt := topS 32
theorem sc_pushes_to : FnScope ["shelf", "stand", "wish"] ["shelf", "stand", "wish"] (defScope s_pushes_to) := ⟨rfl, rfl, rfl, by decide +kernel, rfl, by decide +kernel, by decide +kernel⟩
abbrev s_choices : Stmt := topS 34
theorem sc_choices : FnScope ["total", "many", "ways", "step"] ["total", "many"] (defScope s_choices) := ⟨rfl, rfl, rfl, by decide +kernel, rfl, by decide +kernel, by decide +kernel⟩
abbrev s_stands : Stmt := topS 35
theorem sc_stands : FnScope ["shelf", "many"] ["shelf"] (defScope s_stands) := ⟨rfl, rfl, rfl, by decide +kernel, rfl, by decide +kernel, by decide +kernel⟩
abbrev s_law_deck : Stmt := topS 37
theorem sc_law_deck : FnScope ["cell", "turn"] ["cell", "turn"] (defScope s_law_deck) := ⟨rfl, rfl, rfl, by decide +kernel, rfl, by decide +kernel, by decide +kernel⟩
abbrev s_law_pick : Stmt := topS 38
theorem sc_law_pick : FnScope ["deck", "size", "found", "number"] ["deck", "size"] (defScope s_law_pick) := ⟨rfl, rfl, rfl, by decide +kernel, rfl, by decide +kernel, by decide +kernel⟩
abbrev s_law_one : Stmt := topS 39
theorem sc_law_one : FnScope ["deck", "some"] ["deck", "some"] (defScope s_law_one) := ⟨rfl, rfl, rfl, by decide +kernel, rfl, by decide +kernel, by decide +kernel⟩
abbrev s_law_sort : Stmt := topS 40
theorem sc_law_sort : FnScope ["thing"] ["thing"] (defScope s_law_sort) := ⟨rfl, rfl, rfl, by decide +kernel, rfl, by decide +kernel, by decide +kernel⟩
abbrev s_law_same : Stmt := topS 41
theorem sc_law_same : FnScope ["told", "due", "k", "part"] ["told", "due"] (defScope s_law_same) := ⟨rfl, rfl, rfl, by decide +kernel, rfl, by decide +kernel, by decide +kernel⟩
abbrev s_law_shelf : Stmt := topS 42
theorem sc_law_shelf : FnScope ["deck", "at_most", "play", "blocks", "k"] ["deck", "at_most", "play"] (defScope s_law_shelf) := ⟨rfl, rfl, rfl, by decide +kernel, rfl, by decide +kernel, by decide +kernel⟩
abbrev s_law_play : Stmt := topS 43
theorem sc_law_play : FnScope ["shelf"] ["shelf"] (defScope s_law_play) := ⟨rfl, rfl, rfl, by decide +kernel, rfl, by decide +kernel, by decide +kernel⟩
abbrev s_law_stand_of : Stmt := topS 44
theorem sc_law_stand_of : FnScope ["shelf", "places", "found", "ahead", "place", "long"] ["shelf", "places"] (defScope s_law_stand_of) := ⟨rfl, rfl, rfl, by decide +kernel, rfl, by decide +kernel, by decide +kernel⟩
abbrev s_law_stand : Stmt := topS 45
theorem sc_law_stand : FnScope ["deck", "shelf", "places", "long"] ["deck", "shelf"] (defScope s_law_stand) := ⟨rfl, rfl, rfl, by decide +kernel, rfl, by decide +kernel, by decide +kernel⟩
abbrev s_law_pushed : Stmt := topS 46
theorem sc_law_pushed : FnScope ["shelf", "stand", "push", "side", "gap", "bound", "found", "at"] ["shelf", "stand", "push"] (defScope s_law_pushed) := ⟨rfl, rfl, rfl, by decide +kernel, rfl, by decide +kernel, by decide +kernel⟩
abbrev s_law_done : Stmt := topS 47
theorem sc_law_done : FnScope ["shelf", "stand", "row", "push"] ["shelf", "stand", "row"] (defScope s_law_done) := ⟨rfl, rfl, rfl, by decide +kernel, rfl, by decide +kernel, by decide +kernel⟩
abbrev s_law_pushes : Stmt := topS 48
theorem sc_law_pushes : FnScope ["shelf", "found", "gap", "here", "some", "place"] ["shelf"] (defScope s_law_pushes) := ⟨rfl, rfl, rfl, by decide +kernel, rfl, by decide +kernel, by decide +kernel⟩
abbrev s_law_reached : Stmt := topS 49
theorem sc_law_reached : FnScope ["shelf", "stand", "found", "ring", "steps", "every", "later", "here", "push", "there"] ["shelf", "stand"] (defScope s_law_reached) := ⟨rfl, rfl, rfl, by decide +kernel, rfl, by decide +kernel, by decide +kernel⟩
abbrev s_law : Stmt := topS 50
theorem sc_law : FnScope ["script", "cell", "deck", "six", "shelf", "stand", "found", "wish", "told", "k"] ["script"] (defScope s_law) := ⟨rfl, rfl, rfl, by decide +kernel, rfl, by decide +kernel, by decide +kernel⟩
/-- what the top has left -/
structure Tx (K : PySem.W.Frag) (mg : Str → Option Value) where
  {f_is_whole : Addr}
  {fd_is_whole : FuncData}
  F_is_whole : Fun K "is_whole" "is_whole" s_is_whole f_is_whole fd_is_whole
  g_is_whole : mg "is_whole" = some (.ref f_is_whole)
  {f_is_within : Addr}
  {fd_is_within : FuncData}
  F_is_within : Fun K "is_within" "is_within" s_is_within f_is_within fd_is_within
  g_is_within : mg "is_within" = some (.ref f_is_within)
  {f_is_tuple_of : Addr}
  {fd_is_tuple_of : FuncData}
  F_is_tuple_of : Fun K "is_tuple_of" "is_tuple_of" s_is_tuple_of f_is_tuple_of fd_is_tuple_of
  g_is_tuple_of : mg "is_tuple_of" = some (.ref f_is_tuple_of)
  {f_are_blocks : Addr}
  {fd_are_blocks : FuncData}
  F_are_blocks : Fun K "are_blocks" "are_blocks" s_are_blocks f_are_blocks fd_are_blocks
  g_are_blocks : mg "are_blocks" = some (.ref f_are_blocks)
  {f_is_shelf : Addr}
  {fd_is_shelf : FuncData}
  F_is_shelf : Fun K "is_shelf" "is_shelf" s_is_shelf f_is_shelf fd_is_shelf
  g_is_shelf : mg "is_shelf" = some (.ref f_is_shelf)
  {f_need_shelf : Addr}
  {fd_need_shelf : FuncData}
  F_need_shelf : Fun K "need_shelf" "need_shelf" s_need_shelf f_need_shelf fd_need_shelf
  g_need_shelf : mg "need_shelf" = some (.ref f_need_shelf)
  {f_play_of : Addr}
  {fd_play_of : FuncData}
  F_play_of : Fun K "play_of" "play_of" s_play_of f_play_of fd_play_of
  g_play_of : mg "play_of" = some (.ref f_play_of)
  {f_gap_length : Addr}
  {fd_gap_length : FuncData}
  F_gap_length : Fun K "gap_length" "gap_length" s_gap_length f_gap_length fd_gap_length
  g_gap_length : mg "gap_length" = some (.ref f_gap_length)
  {f_places_of : Addr}
  {fd_places_of : FuncData}
  F_places_of : Fun K "places_of" "places_of" s_places_of f_places_of fd_places_of
  g_places_of : mg "places_of" = some (.ref f_places_of)
  {f_is_stand : Addr}
  {fd_is_stand : FuncData}
  F_is_stand : Fun K "is_stand" "is_stand" s_is_stand f_is_stand fd_is_stand
  g_is_stand : mg "is_stand" = some (.ref f_is_stand)
  {f_need_stand : Addr}
  {fd_need_stand : FuncData}
  F_need_stand : Fun K "need_stand" "need_stand" s_need_stand f_need_stand fd_need_stand
  g_need_stand : mg "need_stand" = some (.ref f_need_stand)
  {f_Band_init : Addr}
  {fd_Band_init : FuncData}
  F_Band_init : Fun K "__init__" "Band.__init__" s_Band_init f_Band_init fd_Band_init
  {f_band_from : Addr}
  {fd_band_from : FuncData}
  F_band_from : Fun K "band_from" "band_from" s_band_from f_band_from fd_band_from
  g_band_from : mg "band_from" = some (.ref f_band_from)
  {f_bands_of : Addr}
  {fd_bands_of : FuncData}
  F_bands_of : Fun K "bands_of" "bands_of" s_bands_of f_bands_of fd_bands_of
  g_bands_of : mg "bands_of" = some (.ref f_bands_of)
  {f_raised : Addr}
  {fd_raised : FuncData}
  F_raised : Fun K "raised" "raised" s_raised f_raised fd_raised
  g_raised : mg "raised" = some (.ref f_raised)
  {f_lowered : Addr}
  {fd_lowered : FuncData}
  F_lowered : Fun K "lowered" "lowered" s_lowered f_lowered fd_lowered
  g_lowered : mg "lowered" = some (.ref f_lowered)
  {f_row_alone : Addr}
  {fd_row_alone : FuncData}
  F_row_alone : Fun K "row_alone" "row_alone" s_row_alone f_row_alone fd_row_alone
  g_row_alone : mg "row_alone" = some (.ref f_row_alone)
  {f_row_served_by_last : Addr}
  {fd_row_served_by_last : FuncData}
  F_row_served_by_last : Fun K "row_served_by_last" "row_served_by_last" s_row_served_by_last f_row_served_by_last fd_row_served_by_last
  g_row_served_by_last : mg "row_served_by_last" = some (.ref f_row_served_by_last)
  {f_row_served_by_first : Addr}
  {fd_row_served_by_first : FuncData}
  F_row_served_by_first : Fun K "row_served_by_first" "row_served_by_first" s_row_served_by_first f_row_served_by_first fd_row_served_by_first
  g_row_served_by_first : mg "row_served_by_first" = some (.ref f_row_served_by_first)
  {f_row_together : Addr}
  {fd_row_together : FuncData}
  F_row_together : Fun K "row_together" "row_together" s_row_together f_row_together fd_row_together
  g_row_together : mg "row_together" = some (.ref f_row_together)
  {f_shortest_row : Addr}
  {fd_shortest_row : FuncData}
  F_shortest_row : Fun K "shortest_row" "shortest_row" s_shortest_row f_shortest_row fd_shortest_row
  g_shortest_row : mg "shortest_row" = some (.ref f_shortest_row)
  {f_need_both : Addr}
  {fd_need_both : FuncData}
  F_need_both : Fun K "need_both" "need_both" s_need_both f_need_both fd_need_both
  g_need_both : mg "need_both" = some (.ref f_need_both)
  {f_fewest : Addr}
  {fd_fewest : FuncData}
  F_fewest : Fun K "fewest" "fewest" s_fewest f_fewest fd_fewest
  g_fewest : mg "fewest" = some (.ref f_fewest)
  {f_pushes_to : Addr}
  {fd_pushes_to : FuncData}
  F_pushes_to : Fun K "pushes_to" "pushes_to" s_pushes_to f_pushes_to fd_pushes_to
  g_pushes_to : mg "pushes_to" = some (.ref f_pushes_to)
  {f_choices : Addr}
  {fd_choices : FuncData}
  F_choices : Fun K "choices" "choices" s_choices f_choices fd_choices
  g_choices : mg "choices" = some (.ref f_choices)
  {f_stands : Addr}
  {fd_stands : FuncData}
  F_stands : Fun K "stands" "stands" s_stands f_stands fd_stands
  g_stands : mg "stands" = some (.ref f_stands)
  {f_law_deck : Addr}
  {fd_law_deck : FuncData}
  F_law_deck : Fun K "_law_deck" "_law_deck" s_law_deck f_law_deck fd_law_deck
  g_law_deck : mg "_law_deck" = some (.ref f_law_deck)
  {f_law_pick : Addr}
  {fd_law_pick : FuncData}
  F_law_pick : Fun K "_law_pick" "_law_pick" s_law_pick f_law_pick fd_law_pick
  g_law_pick : mg "_law_pick" = some (.ref f_law_pick)
  {f_law_one : Addr}
  {fd_law_one : FuncData}
  F_law_one : Fun K "_law_one" "_law_one" s_law_one f_law_one fd_law_one
  g_law_one : mg "_law_one" = some (.ref f_law_one)
  {f_law_sort : Addr}
  {fd_law_sort : FuncData}
  F_law_sort : Fun K "_law_sort" "_law_sort" s_law_sort f_law_sort fd_law_sort
  g_law_sort : mg "_law_sort" = some (.ref f_law_sort)
  {f_law_same : Addr}
  {fd_law_same : FuncData}
  F_law_same : Fun K "_law_same" "_law_same" s_law_same f_law_same fd_law_same
  g_law_same : mg "_law_same" = some (.ref f_law_same)
  {f_law_shelf : Addr}
  {fd_law_shelf : FuncData}
  F_law_shelf : Fun K "_law_shelf" "_law_shelf" s_law_shelf f_law_shelf fd_law_shelf
  g_law_shelf : mg "_law_shelf" = some (.ref f_law_shelf)
  {f_law_play : Addr}
  {fd_law_play : FuncData}
  F_law_play : Fun K "_law_play" "_law_play" s_law_play f_law_play fd_law_play
  g_law_play : mg "_law_play" = some (.ref f_law_play)
  {f_law_stand_of : Addr}
  {fd_law_stand_of : FuncData}
  F_law_stand_of : Fun K "_law_stand_of" "_law_stand_of" s_law_stand_of f_law_stand_of fd_law_stand_of
  g_law_stand_of : mg "_law_stand_of" = some (.ref f_law_stand_of)
  {f_law_stand : Addr}
  {fd_law_stand : FuncData}
  F_law_stand : Fun K "_law_stand" "_law_stand" s_law_stand f_law_stand fd_law_stand
  g_law_stand : mg "_law_stand" = some (.ref f_law_stand)
  {f_law_pushed : Addr}
  {fd_law_pushed : FuncData}
  F_law_pushed : Fun K "_law_pushed" "_law_pushed" s_law_pushed f_law_pushed fd_law_pushed
  g_law_pushed : mg "_law_pushed" = some (.ref f_law_pushed)
  {f_law_done : Addr}
  {fd_law_done : FuncData}
  F_law_done : Fun K "_law_done" "_law_done" s_law_done f_law_done fd_law_done
  g_law_done : mg "_law_done" = some (.ref f_law_done)
  {f_law_pushes : Addr}
  {fd_law_pushes : FuncData}
  F_law_pushes : Fun K "_law_pushes" "_law_pushes" s_law_pushes f_law_pushes fd_law_pushes
  g_law_pushes : mg "_law_pushes" = some (.ref f_law_pushes)
  {f_law_reached : Addr}
  {fd_law_reached : FuncData}
  F_law_reached : Fun K "_law_reached" "_law_reached" s_law_reached f_law_reached fd_law_reached
  g_law_reached : mg "_law_reached" = some (.ref f_law_reached)
  {C_Band : Addr}
  cl_Band : Cls K C_Band
  g_Band : mg "Band" = some (.ref C_Band)
  mk_Band : Mk K C_Band f_Band_init
  na_Band_first : NoAttr K C_Band "first"
  na_Band_beyond : NoAttr K C_Band "beyond"
  na_Band_place : NoAttr K C_Band "place"
  na_Band_up : NoAttr K C_Band "up"
  na_Band_down : NoAttr K C_Band "down"
  n_all : mg "all" = none
  n_bool : mg "bool" = none
  n_enumerate : mg "enumerate" = none
  n_int : mg "int" = none
  n_isinstance : mg "isinstance" = none
  n_len : mg "len" = none
  n_list : mg "list" = none
  n_max : mg "max" = none
  n_min : mg "min" = none
  n_range : mg "range" = none
  n_sorted : mg "sorted" = none
  n_str : mg "str" = none
  n_sum : mg "sum" = none
  n_tuple : mg "tuple" = none
  n_zip : mg "zip" = none
  {cu_MOST_BLOCKS : Value}
  c_MOST_BLOCKS : RelV (.int 8) cu_MOST_BLOCKS ∧ mg "MOST_BLOCKS" = some cu_MOST_BLOCKS
  {cu_MOST_LENGTH : Value}
  c_MOST_LENGTH : RelV (.int 50) cu_MOST_LENGTH ∧ mg "MOST_LENGTH" = some cu_MOST_LENGTH
  {cu_MOST_PLAY : Value}
  c_MOST_PLAY : RelV (.int 400) cu_MOST_PLAY ∧ mg "MOST_PLAY" = some cu_MOST_PLAY
variable {P : Program} {w : World} {K : PySem.W.Frag} {mg : Str → Option Value} {base : Heap}
theorem Tx.b_is_whole (T : Tx K mg) : Binds K T.fd_is_whole ["thing"] [] := T.F_is_whole.binds fun _ _ _ _ _ _ us hl => match us, hl with | [_], _ => rfl
theorem Tx.b_is_within (T : Tx K mg) : Binds K T.fd_is_within ["thing", "low", "high"] [] := T.F_is_within.binds fun _ _ _ _ _ _ us hl => match us, hl with | [_, _, _], _ => rfl
theorem Tx.b_is_tuple_of (T : Tx K mg) : Binds K T.fd_is_tuple_of ["thing", "many"] [] := T.F_is_tuple_of.binds fun _ _ _ _ _ _ us hl => match us, hl with | [_, _], _ => rfl
theorem Tx.b_are_blocks (T : Tx K mg) : Binds K T.fd_are_blocks ["thing"] [] := T.F_are_blocks.binds fun _ _ _ _ _ _ us hl => match us, hl with | [_], _ => rfl
theorem Tx.b_is_shelf (T : Tx K mg) : Binds K T.fd_is_shelf ["thing"] [] := T.F_is_shelf.binds fun _ _ _ _ _ _ us hl => match us, hl with | [_], _ => rfl
theorem Tx.b_need_shelf (T : Tx K mg) : Binds K T.fd_need_shelf ["thing"] [] := T.F_need_shelf.binds fun _ _ _ _ _ _ us hl => match us, hl with | [_], _ => rfl
theorem Tx.b_play_of (T : Tx K mg) : Binds K T.fd_play_of ["shelf"] [] := T.F_play_of.binds fun _ _ _ _ _ _ us hl => match us, hl with | [_], _ => rfl
theorem Tx.b_gap_length (T : Tx K mg) : Binds K T.fd_gap_length ["shelf", "gap"] [] := T.F_gap_length.binds fun _ _ _ _ _ _ us hl => match us, hl with | [_, _], _ => rfl
theorem Tx.b_places_of (T : Tx K mg) : Binds K T.fd_places_of ["shelf", "stand"] [] := T.F_places_of.binds fun _ _ _ _ _ _ us hl => match us, hl with | [_, _], _ => rfl
theorem Tx.b_is_stand (T : Tx K mg) : Binds K T.fd_is_stand ["shelf", "thing"] [] := T.F_is_stand.binds fun _ _ _ _ _ _ us hl => match us, hl with | [_, _], _ => rfl
theorem Tx.b_need_stand (T : Tx K mg) : Binds K T.fd_need_stand ["shelf", "thing"] [] := T.F_need_stand.binds fun _ _ _ _ _ _ us hl => match us, hl with | [_, _], _ => rfl
theorem Tx.b_Band_init (T : Tx K mg) : Binds K T.fd_Band_init ["self", "first", "beyond", "place", "up", "down"] [] := T.F_Band_init.binds fun _ _ _ _ _ _ us hl => match us, hl with | [_, _, _, _, _, _], _ => rfl
theorem Tx.b_band_from (T : Tx K mg) : Binds K T.fd_band_from ["now", "wished", "first"] [] := T.F_band_from.binds fun _ _ _ _ _ _ us hl => match us, hl with | [_, _, _], _ => rfl
theorem Tx.b_bands_of (T : Tx K mg) : Binds K T.fd_bands_of ["shelf", "stand", "wish"] [] := T.F_bands_of.binds fun _ _ _ _ _ _ us hl => match us, hl with | [_, _, _], _ => rfl
theorem Tx.b_raised (T : Tx K mg) : Binds K T.fd_raised ["shelf", "gap", "place"] [] := T.F_raised.binds fun _ _ _ _ _ _ us hl => match us, hl with | [_, _, _], _ => rfl
theorem Tx.b_lowered (T : Tx K mg) : Binds K T.fd_lowered ["shelf", "gap", "place"] [] := T.F_lowered.binds fun _ _ _ _ _ _ us hl => match us, hl with | [_, _, _], _ => rfl
theorem Tx.b_row_alone (T : Tx K mg) : Binds K T.fd_row_alone ["shelf", "band"] [] := T.F_row_alone.binds fun _ _ _ _ _ _ us hl => match us, hl with | [_, _], _ => rfl
theorem Tx.b_row_served_by_last (T : Tx K mg) : Binds K T.fd_row_served_by_last ["shelf", "bands"] [] := T.F_row_served_by_last.binds fun _ _ _ _ _ _ us hl => match us, hl with | [_, _], _ => rfl
theorem Tx.b_row_served_by_first (T : Tx K mg) : Binds K T.fd_row_served_by_first ["shelf", "bands"] [] := T.F_row_served_by_first.binds fun _ _ _ _ _ _ us hl => match us, hl with | [_, _], _ => rfl
theorem Tx.b_row_together (T : Tx K mg) : Binds K T.fd_row_together ["shelf", "bands"] [] := T.F_row_together.binds fun _ _ _ _ _ _ us hl => match us, hl with | [_, _], _ => rfl
theorem Tx.b_shortest_row (T : Tx K mg) : Binds K T.fd_shortest_row ["shelf", "stand", "wish"] [] := T.F_shortest_row.binds fun _ _ _ _ _ _ us hl => match us, hl with | [_, _, _], _ => rfl
theorem Tx.b_need_both (T : Tx K mg) : Binds K T.fd_need_both ["shelf", "stand", "wish"] [] := T.F_need_both.binds fun _ _ _ _ _ _ us hl => match us, hl with | [_, _, _], _ => rfl
theorem Tx.b_fewest (T : Tx K mg) : Binds K T.fd_fewest ["shelf", "stand", "wish"] [] := T.F_fewest.binds fun _ _ _ _ _ _ us hl => match us, hl with | [_, _, _], _ => rfl
theorem Tx.b_pushes_to (T : Tx K mg) : Binds K T.fd_pushes_to ["shelf", "stand", "wish"] [] := T.F_pushes_to.binds fun _ _ _ _ _ _ us hl => match us, hl with | [_, _, _], _ => rfl
theorem Tx.b_choices (T : Tx K mg) : Binds K T.fd_choices ["total", "many"] [] := T.F_choices.binds fun _ _ _ _ _ _ us hl => match us, hl with | [_, _], _ => rfl
theorem Tx.b_stands (T : Tx K mg) : Binds K T.fd_stands ["shelf"] [] := T.F_stands.binds fun _ _ _ _ _ _ us hl => match us, hl with | [_], _ => rfl
theorem Tx.b_law_deck (T : Tx K mg) : Binds K T.fd_law_deck ["cell", "turn"] [] := T.F_law_deck.binds fun _ _ _ _ _ _ us hl => match us, hl with | [_, _], _ => rfl
theorem Tx.b_law_pick (T : Tx K mg) : Binds K T.fd_law_pick ["deck", "size"] [] := T.F_law_pick.binds fun _ _ _ _ _ _ us hl => match us, hl with | [_, _], _ => rfl
theorem Tx.b_law_one (T : Tx K mg) : Binds K T.fd_law_one ["deck", "some"] [] := T.F_law_one.binds fun _ _ _ _ _ _ us hl => match us, hl with | [_, _], _ => rfl
theorem Tx.b_law_sort (T : Tx K mg) : Binds K T.fd_law_sort ["thing"] [] := T.F_law_sort.binds fun _ _ _ _ _ _ us hl => match us, hl with | [_], _ => rfl
theorem Tx.b_law_same (T : Tx K mg) : Binds K T.fd_law_same ["told", "due"] [] := T.F_law_same.binds fun _ _ _ _ _ _ us hl => match us, hl with | [_, _], _ => rfl
theorem Tx.b_law_shelf (T : Tx K mg) : Binds K T.fd_law_shelf ["deck", "at_most", "play"] [] := T.F_law_shelf.binds fun _ _ _ _ _ _ us hl => match us, hl with | [_, _, _], _ => rfl
theorem Tx.b_law_play (T : Tx K mg) : Binds K T.fd_law_play ["shelf"] [] := T.F_law_play.binds fun _ _ _ _ _ _ us hl => match us, hl with | [_], _ => rfl
theorem Tx.b_law_stand_of (T : Tx K mg) : Binds K T.fd_law_stand_of ["shelf", "places"] [] := T.F_law_stand_of.binds fun _ _ _ _ _ _ us hl => match us, hl with | [_, _], _ => rfl
theorem Tx.b_law_stand (T : Tx K mg) : Binds K T.fd_law_stand ["deck", "shelf"] [] := T.F_law_stand.binds fun _ _ _ _ _ _ us hl => match us, hl with | [_, _], _ => rfl
theorem Tx.b_law_pushed (T : Tx K mg) : Binds K T.fd_law_pushed ["shelf", "stand", "push"] [] := T.F_law_pushed.binds fun _ _ _ _ _ _ us hl => match us, hl with | [_, _, _], _ => rfl
theorem Tx.b_law_done (T : Tx K mg) : Binds K T.fd_law_done ["shelf", "stand", "row"] [] := T.F_law_done.binds fun _ _ _ _ _ _ us hl => match us, hl with | [_, _, _], _ => rfl
theorem Tx.b_law_pushes (T : Tx K mg) : Binds K T.fd_law_pushes ["shelf"] [] := T.F_law_pushes.binds fun _ _ _ _ _ _ us hl => match us, hl with | [_], _ => rfl
theorem Tx.b_law_reached (T : Tx K mg) : Binds K T.fd_law_reached ["shelf", "stand"] [] := T.F_law_reached.binds fun _ _ _ _ _ _ us hl => match us, hl with | [_, _], _ => rfl

end PS

namespace PS
open PySem PySem.Spec PyProof.Rows L2
variable {P : Program} {w : World} {K : PySem.W.Frag} {mg : Str → Option Value} {base : Heap}
def sp_is_whole (K : PySem.W.Frag) : Sp := fun vs H Q _ => ∃ v d, vs = [v] ∧ Dp K H v d ∧ Q (.bl (isW d)) H
theorem ok_is_whole (T : Tx K mg) : FnOk P w K mg base CX0 1 T.f_is_whole T.fd_is_whole ["thing"] (sp_is_whole K) := by
  refine T.F_is_whole.ok sc_is_whole (fun vs H Q E h => ?_) (fun cdv A outer s H vs Q E hr h => ?_)
  · obtain ⟨v, d, rfl, _⟩ := h
    rfl
  · obtain ⟨v, d, rfl, hd, q⟩ := h
    refine ⟨_, (pss_one (ps_ret (pe_and (pe_callB call_isD (by rfl) T.n_isinstance (by decide +kernel) (pa_cons (pv 0) (pa_cons (pe_bltn (v := .ty "int") (by rfl) T.n_int (by decide +kernel) rfl) pa_nil))) (pe_one (pe_not (pe_callB call_isD (by rfl) T.n_isinstance (by decide +kernel) (pa_cons (pv 0) (pa_cons (pe_bltn (v := .ty "bool") (by rfl) T.n_bool (by decide +kernel) rfl) pa_nil)))))))), ?_⟩
    refine ⟨v, rfl, v, _, d, rfl, hd, kInt d, _, rfl, ?_⟩
    rw [isA_int]
    cases hd with
    | bl b => exact iteT ⟨_, rfl, _, _, _, rfl, .bl b, kBool _, _, rfl, by rw [isA_bool]; exact q⟩
    | int b => exact iteT ⟨_, rfl, _, _, _, rfl, .int b, kBool _, _, rfl, by rw [isA_bool]; exact q⟩
    | _ => exact iteF q
def sp_is_within (K : PySem.W.Frag) : Sp := fun vs H Q _ => ∃ v d lo hi, vs = [v, .int lo, .int hi] ∧ Dp K H v d ∧ Q (.bl (within d lo hi)) H
theorem ok_is_within (T : Tx K mg) : FnOk P w K mg base CX0 2 T.f_is_within T.fd_is_within ["thing", "low", "high"] (sp_is_within K) := by
  have G_is_whole := ok_is_whole (P := P) (w := w) (base := base) T
  refine T.F_is_within.ok sc_is_within (fun vs H Q E h => ?_) (fun cdv A outer s H vs Q E hr h => ?_)
  · obtain ⟨v, d, lo, hi, rfl, _⟩ := h
    rfl
  · obtain ⟨v, d, lo, hi, rfl, hd, q⟩ := h
    refine ⟨_, (pss_one (ps_ret (pe_and (pe_call (G_is_whole.mono (by first | decide | omega)) hr (by rfl) T.g_is_whole T.F_is_whole.kp T.b_is_whole .nil pass0 (pa_cons (pv 0) pa_nil)) (pe_one (pe_chain op_le op_le (pv 1) (pv 0) (pv 2)))))), ?_⟩
    refine ⟨v, rfl, v, d, rfl, hd, _, rfl, ?_⟩
    cases hd with
    | int i =>
      refine iteT ⟨_, rfl, _, rfl, _, _, rfl, rfl, _, rfl, ?_⟩
      unfold within at q
      simp only at q
      by_cases hl : lo ≤ i
      · rw [if_pos hl] at q
        rw [if_pos (decide_eq_true hl)]
        exact ⟨_, rfl, _, _, rfl, rfl, q⟩
      · rw [if_neg hl] at q
        rw [if_neg (by simp [hl])]
        exact q
    | _ => exact iteF q
def sp_is_tuple_of (K : PySem.W.Frag) : Sp := fun vs H Q _ => ∃ v d n, vs = [v, .int n] ∧ Dp K H v d ∧ Q (.bl (tupOf d n)) H
theorem ok_is_tuple_of (T : Tx K mg) : FnOk P w K mg base CX0 1 T.f_is_tuple_of T.fd_is_tuple_of ["thing", "many"] (sp_is_tuple_of K) := by
  refine T.F_is_tuple_of.ok sc_is_tuple_of (fun vs H Q E h => ?_) (fun cdv A outer s H vs Q E hr h => ?_)
  · obtain ⟨v, d, n, rfl, _⟩ := h
    rfl
  · obtain ⟨v, d, n, rfl, hd, q⟩ := h
    refine ⟨_, (pss_one (ps_ret (pe_and (pe_callB call_isD (by rfl) T.n_isinstance (by decide +kernel) (pa_cons (pv 0) (pa_cons (pe_bltn (v := .ty "tuple") (by rfl) T.n_tuple (by decide +kernel) rfl) pa_nil))) (pe_one (pe_cmpR op_eq (pe_callB call_len_seq (by rfl) T.n_len (by decide +kernel) (pa_cons (pv 0) pa_nil)) (pv 1) (nomark _)))))), ?_⟩
    refine ⟨v, rfl, v, _, d, rfl, hd, kTuple d, _, rfl, ?_⟩
    rw [isA_tuple]
    cases hd with
    | @tup a xs ds s al =>
      refine iteT ⟨_, rfl, a, xs, rfl, .inr s, _, rfl, rfl, ?_⟩
      rw [dpAll_len al]
      unfold tupOf at q
      simp only at q
      have e : decide (V.int (ds.length : Int) = V.int n) = decide ((ds.length : Int) = n) := by
        by_cases h : (ds.length : Int) = n
        · rw [h]; simp
        · rw [decide_eq_false h, decide_eq_false (fun z => h (V.int.inj z))]
      rw [e]
      exact q
    | _ => exact iteF q
def sp_are_blocks (K : PySem.W.Frag) : Sp := fun vs H Q _ => ∃ v d, vs = [v] ∧ Dp K H v d ∧ RB H Q (areBlocks d)
theorem ok_are_blocks (T : Tx K mg) : FnOk P w K mg base CX0 3 T.f_are_blocks T.fd_are_blocks ["thing"] (sp_are_blocks K) := by
  have G_is_within := ok_is_within (P := P) (w := w) (base := base) T
  refine T.F_are_blocks.ok sc_are_blocks (fun vs H Q E h => ?_) (fun cdv A outer s H vs Q E hr h => ?_)
  · obtain ⟨v, d, rfl, _⟩ := h
    rfl
  · obtain ⟨v, d, rfl, hd, q⟩ := h
    refine ⟨_, (pss_cons (ps_if (PW.pt (pw_or (pt_not (pt_val (pe_callB call_isD (by rfl) T.n_isinstance (by decide +kernel) (pa_cons (pv 0) (pa_cons (pe_bltn (v := .ty "tuple") (by rfl) T.n_tuple (by decide +kernel) rfl) pa_nil))))) (pw_or1 (pt_not (pt_chain op_le op_le pe_int (pe_callB call_len_seq (by rfl) T.n_len (by decide +kernel) (pa_cons (pv 0) pa_nil)) (pe_glob (by rfl) T.c_MOST_BLOCKS.2 T.c_MOST_BLOCKS.1)))))) (pss_one (ps_ret pe_bl)) pss_nil)
      (pss_one (ps_ret (pe_callB (cr_all rfl) (by rfl) T.n_all (by decide +kernel) (pa_cons (pe_lc (own := [("length", 1)]) (g := gName 1) (tt := tYes) rfl sc_are_blocks.nd (pi_tup (pv 0)) (blkOk_by (own := [("length", 1)]) (N := ["thing", "length"]) (sc := defScope s_are_blocks) (by decide +kernel)) (fun _ _ _ _ _ => (pg_name (i := 1) sc_are_blocks.nd rfl (.inl rfl))) (fun _ _ _ _ _ => pts_nil) (fun _ _ _ _ _ => (pe_call (G_is_within.mono (by first | decide | omega)) hr (by rfl) T.g_is_within T.F_is_within.kp T.b_is_within .nil pass0 (pa_cons (pv 1) (pa_cons pe_int (pa_cons (pe_glob (by rfl) T.c_MOST_LENGTH.2 T.c_MOST_LENGTH.1) pa_nil)))))) pa_nil))))), ?_⟩
    refine ⟨v, rfl, v, _, d, rfl, hd, kTuple d, _, rfl, ?_⟩
    rw [isA_tuple]
    cases hd with
    | @tup a xs ds s al =>
      have hl := dpAll_len al
      refine iteF ⟨.ref a, rfl, a, xs, rfl, .inr s, _, _, rfl, rfl, _, rfl, ?_⟩
      have hn : xs.length ≤ sizeLine → True := fun _ => trivial
      unfold areBlocks at q
      simp only at q
      by_cases h1 : 1 ≤ (xs.length : Int)
      · rw [if_pos (decide_eq_true h1)]
        refine ⟨_, _, rfl, rfl, _, rfl, ?_⟩
        by_cases h8 : (xs.length : Int) ≤ 8
        · rw [if_pos ⟨by rw [← hl]; exact h1, by rw [← hl]; exact h8⟩] at q
          rw [decide_eq_true h8]
          refine iteF ?_
          -- all([..])
          refine ⟨.ref a, rfl, a, rfl, ⟨xs, s⟩, fun D nD => ?_⟩
          refine lc_tup (K := K) (a := a) (xs := xs) (fun i H' => Same H H' ∧ H' D = some (.lst ((ds.take i).map fun x => V.bl (within x 1 50)))) ⟨same_new nD, by rw [upd_same]; rfl⟩ (fun i H' _ p => seqT_mono p.1 s) (fun i x H' hx p => ?_) (fun H' p => ?_)
          · obtain ⟨d, e1, e2⟩ := dpAll_get al hx
            have hi : i < xs.length := (List.getElem?_eq_some_iff.mp hx).1
            refine ⟨rfl, x, rfl, x, d, _, _, rfl, Dpm p.1 e2, ?_⟩
            refine ⟨_, p.2, ?_, ?_, ?_⟩
            · rw [List.length_map, List.length_take]
              exact small1000 (by omega)
            · intro b o hb
              have nb : b ≠ D := ne_of_none hb nD
              rw [upd_ne nb]
              exact p.1 b o hb
            · rw [upd_same, List.take_add_one, e1, List.map_append]
              rfl
          · refine ⟨D, (ds.map fun x => within x 1 50), rfl, .inl (.inl ?_), ?_⟩
            · rw [p.2, hl, List.take_length, List.map_map]
              rfl
            · rw [show (ds.map fun x => within x 1 50).all id = ds.all (fun x => within x 1 50) from by rw [List.all_map]; rfl]
              exact q H' p.1
        · rw [if_neg (by rw [← hl]; exact fun z => h8 z.2)] at q
          rw [decide_eq_false h8]
          exact iteT (q H (Same.refl H))
      · rw [if_neg (by rw [← hl]; exact fun z => h1 z.1)] at q
        rw [if_neg (by simp [h1])]
        exact ⟨_, rfl, iteT (q H (Same.refl H))⟩
    | _ => exact iteT (q H (Same.refl H))
end PS

namespace PS
open PySem PySem.Spec PyProof.Rows L2
variable {P : Program} {w : World} {K : PySem.W.Frag} {mg : Str → Option Value} {base : Heap}
theorem tupOf2 {d : PyData} (h : tupOf d 2 = true) : ∃ r b, d = .tuple [r, b] := by
  cases d with
  | tuple ds =>
    have h1 : (ds.length : Int) = 2 := of_decide_eq_true h
    match ds, h1 with
    | [r, b], _ => exact ⟨r, b, rfl⟩
    | [], h => simp at h
    | [_], h => simp at h
    | _ :: _ :: _ :: _, h => simp at h; omega
  | _ => simp [tupOf] at h
theorem tupOf3 {d : PyData} (h : tupOf d 3 = true) : ∃ r b c, d = .tuple [r, b, c] := by
  cases d with
  | tuple ds =>
    have h1 : (ds.length : Int) = 3 := of_decide_eq_true h
    match ds, h1 with
    | [r, b, c], _ => exact ⟨r, b, c, rfl⟩
    | [], h => simp at h
    | [_], h => simp at h
    | [_, _], h => simp at h
    | _ :: _ :: _ :: _ :: _, h => simp at h; omega
  | _ => simp [tupOf] at h
theorem dp_two {H : Hp} {v : V} {r b : PyData} (h : Dp K H v (.tuple [r, b])) : ∃ a x y, v = .ref a ∧ SqT K H a [x, y] ∧ Dp K H x r ∧ Dp K H y b := by
  obtain ⟨a, xs, rfl, s, al⟩ := dp_tup h
  cases al with
  | cons h1 h2 =>
    cases h2 with
    | cons h3 h4 => cases h4; exact ⟨a, _, _, rfl, s, h1, h3⟩
theorem dp_three {H : Hp} {v : V} {r b c : PyData} (h : Dp K H v (.tuple [r, b, c])) : ∃ a x y z, v = .ref a ∧ SqT K H a [x, y, z] ∧ Dp K H x r ∧ Dp K H y b ∧ Dp K H z c := by
  obtain ⟨a, xs, rfl, s, al⟩ := dp_tup h
  cases al with
  | cons h1 h2 =>
    cases h2 with
    | cons h3 h4 =>
      cases h4 with
      | cons h5 h6 => cases h6; exact ⟨a, _, _, _, rfl, s, h1, h3, h5⟩
theorem dp_shelf {H : Hp} {v : V} {room : Int} {ls : List Int} (h : Dp K H v (shD room ls)) : ∃ a b, v = .ref a ∧ SqT K H a [.int room, .ref b] ∧ SqT K H b (iV ls) := by
  obtain ⟨a, x, y, rfl, s, h1, h2⟩ := dp_two h
  obtain ⟨b, rfl, t⟩ := dp_tI h2
  cases dp_int h1
  exact ⟨a, b, rfl, s, t⟩
/-! ### is_shelf, need_shelf -/
def sp_is_shelf (K : PySem.W.Frag) : Sp := fun vs H Q _ => ∃ v d, vs = [v] ∧ Dp K H v d ∧ RB H Q (isShelf d)
theorem ok_is_shelf (T : Tx K mg) : FnOk P w K mg base CX0 4 T.f_is_shelf T.fd_is_shelf ["thing"] (sp_is_shelf K) := by
  have G_is_tuple_of := ok_is_tuple_of (P := P) (w := w) (base := base) T
  have G_are_blocks := ok_are_blocks (P := P) (w := w) (base := base) T
  have G_is_within := ok_is_within (P := P) (w := w) (base := base) T
  refine T.F_is_shelf.ok sc_is_shelf (fun vs H Q E h => ?_) (fun cdv A outer s H vs Q E hr h => ?_)
  · obtain ⟨v, d, rfl, _⟩ := h
    rfl
  · obtain ⟨v, d, rfl, hd, q⟩ := h
    refine ⟨_, (pss_cons (ps_if (pt_not (pt_val (pe_call (G_is_tuple_of.mono (by first | decide | omega)) hr (by rfl) T.g_is_tuple_of T.F_is_tuple_of.kp T.b_is_tuple_of .nil pass0 (pa_cons (pv 0) (pa_cons pe_int pa_nil))))) (pss_one (ps_ret pe_bl)) pss_nil)
      (pss_cons (ps_asg (pv 0) (pg_tup rfl (pgs_cons (pg_name (i := 1) sc_is_shelf.nd rfl (.inl rfl)) (pgs_cons (pg_name (i := 2) sc_is_shelf.nd rfl (.inl rfl)) pgs_nil))))
      (pss_cons (ps_if (pt_not (pt_val (pe_call (G_are_blocks.mono (by first | decide | omega)) hr (by rfl) T.g_are_blocks T.F_are_blocks.kp T.b_are_blocks .nil pass0 (pa_cons (pv 2) pa_nil)))) (pss_one (ps_ret pe_bl)) pss_nil)
      (pss_cons (ps_set (i := 3) sc_is_shelf.nd rfl (.inl rfl) (pe_callB (cr_sumT rfl) (by rfl) T.n_sum (by decide +kernel) (pa_cons (pv 2) pa_nil)))
      (pss_one (ps_ret (pe_call (G_is_within.mono (by first | decide | omega)) hr (by rfl) T.g_is_within T.F_is_within.kp T.b_is_within .nil pass0 (pa_cons (pv 1) (pa_cons (pv 3) (pa_cons (pe_op op_add (pv 3) (pe_glob (by rfl) T.c_MOST_PLAY.2 T.c_MOST_PLAY.1)) pa_nil)))))))))), ?_⟩
    refine ⟨v, rfl, v, d, _, rfl, hd, _, rfl, ?_⟩
    cases e : tupOf d 2 with
    | false =>
      have ef : isShelf d = false := by
        unfold isShelf
        split
        · simp [tupOf] at e
        · rfl
      rw [ef] at q
      exact iteT (q H (Same.refl H))
    | true =>
      refine iteF ?_
      obtain ⟨r, b, rfl⟩ := tupOf2 e
      obtain ⟨a, x, y, rfl, s, h1, h2⟩ := dp_two hd
      refine ⟨.ref a, rfl, a, [x, y], rfl, s, rfl, x, [y], rfl, y, [], rfl, rfl, ?_⟩
      refine ⟨y, rfl, y, b, rfl, h2, fun H' sm => ⟨_, rfl, ?_⟩⟩
      cases e2 : areBlocks b with
      | false =>
        have ef : isShelf (.tuple [r, b]) = false := by
          unfold isShelf
          split
          · rename_i h; cases h
            rw [e2]; rfl
          · rfl
        rw [ef] at q
        exact iteT (q H' sm)
      | true =>
        refine iteF ?_
        cases b with
        | tuple bs =>
          obtain ⟨ls, rfl, n1, n8, l1⟩ := areBlocks_ints e2
          obtain ⟨c, rfl, t⟩ := dp_tI h2
          refine ⟨.ref c, rfl, c, ls, rfl, seqT_mono sm t, ?_⟩
          refine ⟨x, rfl, _, rfl, _, rfl, _, _, rfl, rfl, x, r, _, _, rfl, Dpm sm h1, ?_⟩
          unfold isShelf at q
          simp only at q
          rw [if_pos e2, intOf_iD] at q
          exact q H' sm
        | _ => simp [areBlocks] at e2
def sp_need_shelf (K : PySem.W.Frag) : Sp := fun vs H Q _ => ∃ v d, vs = [v] ∧ Dp K H v d ∧ isShelf d = true ∧ ∀ H', Same H H' → Q .non H'
theorem ok_need_shelf (T : Tx K mg) : FnOk P w K mg base CX0 5 T.f_need_shelf T.fd_need_shelf ["thing"] (sp_need_shelf K) := by
  have G_is_shelf := ok_is_shelf (P := P) (w := w) (base := base) T
  refine T.F_need_shelf.ok sc_need_shelf (fun vs H Q E h => ?_) (fun cdv A outer s H vs Q E hr h => ?_)
  · obtain ⟨v, d, rfl, _⟩ := h
    rfl
  · obtain ⟨v, d, rfl, hd, e, q⟩ := h
    refine ⟨_, (pss_one (ps_if (pt_not (pt_val (pe_call (G_is_shelf.mono (by first | decide | omega)) hr (by rfl) T.g_is_shelf T.F_is_shelf.kp T.b_is_shelf .nil pass0 (pa_cons (pv 0) pa_nil)))) (pss_one ps_never) pss_nil)), ?_⟩
    refine ⟨v, rfl, v, d, rfl, hd, fun H' sm => ⟨_, rfl, ?_⟩⟩
    rw [e]
    exact iteF (q H' sm)
/-! ### play_of, gap_length -/
def sp_play_of (K : PySem.W.Frag) : Sp := fun vs H Q _ => ∃ v room ls, vs = [v] ∧ Dp K H v (shD room ls) ∧ Q (.int (room - ls.sum)) H
theorem ok_play_of (T : Tx K mg) : FnOk P w K mg base CX0 1 T.f_play_of T.fd_play_of ["shelf"] (sp_play_of K) := by
  refine T.F_play_of.ok sc_play_of (fun vs H Q E h => ?_) (fun cdv A outer s H vs Q E hr h => ?_)
  · obtain ⟨v, d, _, rfl, _⟩ := h
    rfl
  · obtain ⟨v, room, ls, rfl, hd, q⟩ := h
    obtain ⟨a, b, rfl, s, t⟩ := dp_shelf hd
    refine ⟨_, (pss_cons (ps_asg (pv 0) (pg_tup rfl (pgs_cons (pg_name (i := 1) sc_play_of.nd rfl (.inl rfl)) (pgs_cons (pg_name (i := 2) sc_play_of.nd rfl (.inl rfl)) pgs_nil))))
      (pss_one (ps_ret (pe_op op_sub (pv 1) (pe_callB (cr_sumT rfl) (by rfl) T.n_sum (by decide +kernel) (pa_cons (pv 2) pa_nil)))))), ?_⟩
    exact ⟨.ref a, rfl, a, _, rfl, s, rfl, _, _, rfl, _, [], rfl, rfl, _, rfl, _, rfl, b, ls, rfl, t, _, _, rfl, rfl, q⟩
def sp_gap_length (K : PySem.W.Frag) : Sp := fun vs H Q _ => ∃ v room ls g, vs = [v, .int (g : Nat)] ∧ Dp K H v (shD room ls) ∧ RI H Q (pre ls g)
theorem ok_gap_length (T : Tx K mg) : FnOk P w K mg base CX0 1 T.f_gap_length T.fd_gap_length ["shelf", "gap"] (sp_gap_length K) := by
  refine T.F_gap_length.ok sc_gap_length (fun vs H Q E h => ?_) (fun cdv A outer s H vs Q E hr h => ?_)
  · obtain ⟨v, d, _, _, rfl, _⟩ := h
    rfl
  · obtain ⟨v, room, ls, g, rfl, hd, q⟩ := h
    obtain ⟨a, b, rfl, s, t⟩ := dp_shelf hd
    refine ⟨_, (pss_one (ps_ret (pe_callB (cr_sumT rfl) (by rfl) T.n_sum (by decide +kernel) (pa_cons (pe_slice sl_tupA (pe_ix ix_tup (pv 0) pe_int (fun _ _ => rfl)) po_none (po_some (pv 1))) pa_nil)))), ?_⟩
    refine ⟨.ref a, rfl, a, _, 1, _, rfl, rfl, s, atI_nat (j := 1) rfl, _, rfl, _, rfl, ?_⟩
    refine slT_to (k := g) t fun p H' sm st => ⟨p, ls.take g, rfl, ?_, q H' sm⟩
    rw [← List.map_take] at st
    exact st
/-! ### is_stand, need_stand -/
def sp_is_stand (K : PySem.W.Frag) : Sp := fun vs H Q _ => ∃ v u room ls d, vs = [v, u] ∧ Dp K H v (shD room ls) ∧ ShOk room ls ∧ Dp K H u d ∧ RB H Q (isStand room ls d)
theorem ok_is_stand (T : Tx K mg) : FnOk P w K mg base CX0 6 T.f_is_stand T.fd_is_stand ["shelf", "thing"] (sp_is_stand K) := by
  have G_need_shelf := ok_need_shelf (P := P) (w := w) (base := base) T
  have G_is_tuple_of := ok_is_tuple_of (P := P) (w := w) (base := base) T
  have G_is_whole := ok_is_whole (P := P) (w := w) (base := base) T
  refine T.F_is_stand.ok sc_is_stand (fun vs H Q E h => ?_) (fun cdv A outer s H vs Q E hr h => ?_)
  · obtain ⟨v, u, _, _, d, rfl, _⟩ := h
    rfl
  · obtain ⟨v, u, room, ls, d, rfl, hs, sh, hd, q⟩ := h
    refine ⟨_, (pss_cons (ps_expr (pe_call (G_need_shelf.mono (by first | decide | omega)) hr (by rfl) T.g_need_shelf T.F_need_shelf.kp T.b_need_shelf .nil pass0 (pa_cons (pv 0) pa_nil)))
      (pss_cons (ps_asg (pv 0) (pg_tup rfl (pgs_cons (pg_name (i := 2) sc_is_stand.nd rfl (.inl rfl)) (pgs_cons (pg_name (i := 3) sc_is_stand.nd rfl (.inl rfl)) pgs_nil))))
      (pss_cons (ps_if (pt_not (pt_val (pe_call (G_is_tuple_of.mono (by first | decide | omega)) hr (by rfl) T.g_is_tuple_of T.F_is_tuple_of.kp T.b_is_tuple_of .nil pass0 (pa_cons (pv 1) (pa_cons (pe_callB call_len_seq (by rfl) T.n_len (by decide +kernel) (pa_cons (pv 3) pa_nil)) pa_nil))))) (pss_one (ps_ret pe_bl)) pss_nil)
      (pss_cons (ps_set (i := 4) sc_is_stand.nd rfl (.inl rfl) pe_int)
      (pss_cons (ps_for PassesOwn.never rfl (pi_zip2 false false (by rfl) T.n_zip (pa_cons (pv 1) (pa_cons (pv 3) pa_nil))) (pg_tup rfl (pgs_cons (pg_name (i := 5) sc_is_stand.nd rfl (.inl rfl)) (pgs_cons (pg_name (i := 6) sc_is_stand.nd rfl (.inl rfl)) pgs_nil)))
      (pss_cons (ps_if (PW.pt (pw_or (pt_not (pt_val (pe_call (G_is_whole.mono (by first | decide | omega)) hr (by rfl) T.g_is_whole T.F_is_whole.kp T.b_is_whole .nil pass0 (pa_cons (pv 5) pa_nil)))) (pw_or1 (pt_cmpR op_lt (pv 5) (pv 4) (nomark _))))) (pss_one (ps_ret pe_bl)) pss_nil)
      (pss_one (ps_set (i := 4) sc_is_stand.nd rfl (.inl rfl) (pe_op op_add (pv 5) (pv 6))))))
      (pss_one (ps_ret (pe_cmpR op_le (pv 4) (pv 2) (nomark _))))))))), ?_⟩
    refine ⟨v, rfl, v, _, rfl, hs, isShelf_ok sh, fun H1 s1 => ?_⟩
    obtain ⟨a, b, rfl, sa, sb⟩ := dp_shelf (Dpm s1 hs)
    refine ⟨.ref a, rfl, a, _, rfl, sa, rfl, _, _, rfl, _, [], rfl, rfl, ?_⟩
    refine ⟨u, rfl, .ref b, rfl, b, _, rfl, .inr sb, u, d, _, rfl, Dpm s1 hd, _, rfl, ?_⟩
    rw [List.length_map]
    cases e : tupOf d ls.length with
    | false =>
      have ef : isStand room ls d = false := by
        unfold isStand
        cases d with
        | tuple ds =>
          simp only
          rw [if_neg (of_decide_eq_false e)]
        | _ => rfl
      rw [ef] at q
      exact iteT (q H1 s1)
    | true =>
      refine iteF ?_
      cases d with
      | tuple ds =>
        have el : (ds.length : Int) = ls.length := of_decide_eq_true e
        unfold isStand at q
        simp only at q
        rw [if_pos el] at q
        obtain ⟨c, xs, rfl, sc, al⟩ := dp_tup (Dpm s1 hd)
        have hxl := dpAll_len al
        refine ⟨.ref c, rfl, .ref b, rfl, c, b, xs, iV ls, rfl, sc, sb, ?_⟩
        refine for_it (walk_2 (n := ls.length) (xs := xs) (ys := iV ls) (by rw [List.length_map]; omega)) (fun i σ H' => Same H1 H' ∧ ∃ e y5 y6, σ = [some (.ref a), some (.ref c), some (.int room), some (.ref b), some (.int e), y5, y6] ∧ standG room e (ds.drop i) (ls.drop i) = standG room 0 ds ls)
          ⟨Same.refl H1, 0, none, none, rfl, rfl⟩ (fun i σ H' _ p => ⟨seqT_mono p.1 sc, seqT_mono p.1 sb⟩) (fun i x σ H' H2 hi p y => ?_) (fun σ H' p => ?_)
        · obtain ⟨s2, e0, y5, y6, rfl, eq⟩ := p
          obtain ⟨Tt, x, y, rfl, nT, rfl, hx, hy⟩ := y
          have s3 : Same H1 (upd H' Tt (.tup [x, y])) := s2.trans (same_new nT)
          obtain ⟨dx, e1, e2⟩ := dpAll_get al hx
          have hy' : y = .int ls[i] := by
            rw [List.getElem?_map, List.getElem?_eq_getElem hi] at hy
            exact (Option.some.inj hy).symm
          subst hy'
          refine ⟨Tt, _, rfl, .inl (.inl upd_same), rfl, _, _, rfl, _, [], rfl, rfl, ?_⟩
          refine ⟨x, rfl, x, dx, rfl, Dpm s3 e2, _, rfl, ?_⟩
          have hd1 : i < ds.length := by omega
          have e1' : ds[i] = dx := by
            rw [List.getElem?_eq_getElem hd1] at e1
            exact Option.some.inj e1
          rw [List.drop_eq_getElem_cons hd1, List.drop_eq_getElem_cons hi, e1'] at eq
          cases e2 with
          | int k =>
            refine iteF ⟨_, rfl, _, rfl, _, _, rfl, rfl, _, rfl, ?_⟩
            have eq : (if k < e0 then false else standG room (k + ls[i]) (ds.drop (i + 1)) (ls.drop (i + 1))) = standG room 0 ds ls := eq
            by_cases hk : k < e0
            · rw [if_pos hk] at eq
              rw [← eq] at q
              rw [decide_eq_true hk]
              exact iteT (q _ (s1.trans s3))
            · rw [if_neg hk] at eq
              rw [decide_eq_false hk]
              exact iteF ⟨_, rfl, _, rfl, _, _, rfl, rfl, s3, _, _, _, rfl, eq⟩
          | _ =>
            refine iteT ?_
            have eq : false = standG room 0 ds ls := eq
            rw [← eq] at q
            exact q _ (s1.trans s3)
        · obtain ⟨s2, e0, y5, y6, rfl, eq⟩ := p
          rw [List.drop_of_length_le (by omega), List.drop_of_length_le (Nat.le_refl _)] at eq
          refine ⟨_, rfl, _, rfl, _, _, rfl, rfl, ?_⟩
          rw [← eq] at q
          exact q _ (s1.trans s2)
      | _ => simp [tupOf] at e
def sp_need_stand (K : PySem.W.Frag) : Sp := fun vs H Q _ => ∃ v u room ls d, vs = [v, u] ∧ Dp K H v (shD room ls) ∧ ShOk room ls ∧ Dp K H u d ∧ isStand room ls d = true ∧ ∀ H', Same H H' → Q .non H'
theorem ok_need_stand (T : Tx K mg) : FnOk P w K mg base CX0 7 T.f_need_stand T.fd_need_stand ["shelf", "thing"] (sp_need_stand K) := by
  have G_is_stand := ok_is_stand (P := P) (w := w) (base := base) T
  refine T.F_need_stand.ok sc_need_stand (fun vs H Q E h => ?_) (fun cdv A outer s H vs Q E hr h => ?_)
  · obtain ⟨v, u, _, _, d, rfl, _⟩ := h
    rfl
  · obtain ⟨v, u, room, ls, d, rfl, hs, sh, hd, e, q⟩ := h
    refine ⟨_, (pss_one (ps_if (pt_not (pt_val (pe_call (G_is_stand.mono (by first | decide | omega)) hr (by rfl) T.g_is_stand T.F_is_stand.kp T.b_is_stand .nil pass0 (pa_cons (pv 0) (pa_cons (pv 1) pa_nil))))) (pss_one ps_never) pss_nil)), ?_⟩
    refine ⟨v, rfl, u, rfl, v, u, room, ls, d, rfl, hs, sh, hd, fun H' sm => ⟨_, rfl, ?_⟩⟩
    rw [e]
    exact iteF (q H' sm)
end PS

namespace PS
open PySem PySem.Spec PyProof.Rows L2
variable {P : Program} {w : World} {K : PySem.W.Frag} {mg : Str → Option Value} {base : Heap}
/-- what is known of the places while a push to the right goes on -/
def zR (g : Nat) (b : Int) (y : Nat → Int) (i : Nat) : Nat → Int := fun j => if g ≤ j ∧ j < g + i then max (y j) b else y j
def zL (g : Nat) (b : Int) (y : Nat → Int) (i : Nat) : Nat → Int := fun j => if g - i ≤ j ∧ j < g then min (y j) b else y j
def eR (g : Nat) (b : Int) (y : Nat → Int) (i : Nat) : Int := if i = 0 then b else max (y (g + i - 1)) b
def eL (g : Nat) (b : Int) (y : Nat → Int) (i : Nat) : Int := if i = 0 then b else min (y (g - i)) b
theorem zR_step {n g i : Nat} {pl b : Int} {y : Nat → Int} (h : Rise n pl y) (hi : g + i < n) : max (zR g b y i (g + i)) (eR g b y i) = max (y (g + i)) b := by
  have e1 : zR g b y i (g + i) = y (g + i) := by unfold zR; rw [if_neg (by omega)]
  rw [e1]
  unfold eR
  split
  · rfl
  · have := h.up (g + i - 1) (by omega)
    rw [show g + i - 1 + 1 = g + i from by omega] at this
    omega
theorem zL_step {n g i : Nat} {pl b : Int} {y : Nat → Int} (h : Rise n pl y) (hg : g ≤ n) (hi : i < g) : min (zL g b y i (g - 1 - i)) (eL g b y i) = min (y (g - 1 - i)) b := by
  have e1 : zL g b y i (g - 1 - i) = y (g - 1 - i) := by unfold zL; rw [if_neg (by omega)]
  rw [e1]
  unfold eL
  split
  · rfl
  · have := h.up (g - 1 - i) (by omega)
    rw [show g - 1 - i + 1 = g - i from by omega] at this
    omega
theorem zR_next {ls : List Int} {g i : Nat} {b : Int} {y : Nat → Int} (hi : g + i < ls.length) : (stL ls (zR g b y i)).set (g + i) (max (y (g + i)) b + pre ls (g + i)) = stL ls (zR g b y (i + 1)) := by
  rw [stL_set hi]
  apply stL_congr
  intro j hj
  unfold zR
  by_cases e : j = g + i
  · rw [if_pos e, if_pos (by omega)]
    subst e
    omega
  · rw [if_neg e]
    by_cases h2 : g ≤ j ∧ j < g + i
    · rw [if_pos h2, if_pos (by omega)]
    · rw [if_neg h2, if_neg (by omega)]
theorem zL_next {ls : List Int} {g i : Nat} {b : Int} {y : Nat → Int} (hg : g ≤ ls.length) (hi : i < g) : (stL ls (zL g b y i)).set (g - 1 - i) (min (y (g - 1 - i)) b + pre ls (g - 1 - i)) = stL ls (zL g b y (i + 1)) := by
  rw [stL_set (by omega)]
  apply stL_congr
  intro j hj
  unfold zL
  by_cases e : j = g - 1 - i
  · rw [if_pos e, if_pos (by omega)]
    subst e
    omega
  · rw [if_neg e]
    by_cases h2 : g - i ≤ j ∧ j < g
    · rw [if_pos h2, if_pos (by omega)]
    · rw [if_neg h2, if_neg (by omega)]
def sp_pushed (K : PySem.W.Frag) : Sp := fun vs H Q _ => ∃ v u t room ls y p pl, vs = [v, u, t] ∧ Dp K H v (shD room ls) ∧ Dp K H u (tI (stL ls y)) ∧ Dp K H t (puD ls p) ∧ Rise ls.length pl y ∧ ls.length ≤ 8 ∧ PuOk ls.length pl p ∧ RD K H Q (tI (stL ls (doP y p)))
def sp_done (K : PySem.W.Frag) : Sp := fun vs H Q _ => ∃ v u t room ls y r pl, vs = [v, u, t] ∧ Dp K H v (shD room ls) ∧ Dp K H u (tI (stL ls y)) ∧ Dp K H t (roD ls r) ∧ Rise ls.length pl y ∧ ls.length ≤ 8 ∧ (∀ p ∈ r, PuOk ls.length pl p) ∧ RD K H Q (tI (stL ls (doR y r)))
theorem roD_depth (ls : List Int) (r : List Push) : (roD ls r).depth ≤ 2 := by
  unfold roD
  rw [PyData.depth]
  have : PyData.depthAll (r.map (puD ls)) ≤ 1 := depthAll_le _ fun d hd => by
    obtain ⟨p, _, rfl⟩ := List.mem_map.mp hd
    exact puD_depth ls p
  omega
end PS

namespace PS
open PySem PySem.Spec PyProof.Rows L2
variable {P : Program} {w : World} {K : PySem.W.Frag} {mg : Str → Option Value} {base : Heap}
/-! ### places_of -/
abbrev plL (n : Nat) (y : Nat → Int) : List Int := (List.range n).map y
theorem plL_len (n : Nat) (y : Nat → Int) : (plL n y).length = n := by simp [plL]
theorem plL_get {n j : Nat} {y : Nat → Int} (h : j < n) : (plL n y)[j]? = some (y j) := by simp [plL, h]
theorem plL_take {n j : Nat} {y : Nat → Int} (h : j < n) : (plL n y).take (j + 1) = (plL n y).take j ++ [y j] := by
  rw [List.take_add_one, plL_get h]
  rfl
def sp_places_of (K : PySem.W.Frag) : Sp := fun vs H Q _ => ∃ v u room ls y, vs = [v, u] ∧ Dp K H v (shD room ls) ∧ Dp K H u (tI (stL ls y)) ∧ ls.length ≤ 8 ∧ ∀ p H', Same H H' → H p = none → H' p = some (.lst (iV (plL ls.length y))) → Q (.ref p) H'
theorem ok_places_of (T : Tx K mg) : FnOk P w K mg base CX0 2 T.f_places_of T.fd_places_of ["shelf", "stand"] (sp_places_of K) := by
  have G_gap_length := ok_gap_length (P := P) (w := w) (base := base) T
  refine T.F_places_of.ok sc_places_of (fun vs H Q E h => ?_) (fun cdv A outer s H vs Q E hr h => ?_)
  · obtain ⟨_, _, _, _, _, rfl, _⟩ := h
    rfl
  · obtain ⟨v, u, room, ls, y, rfl, hv, hu, n8, q⟩ := h
    obtain ⟨d, rfl, sd⟩ := dp_tI hu
    refine ⟨_, (pss_one (ps_ret (pe_lc (own := [("at", 2), ("left", 3)]) (g := gTup K 2 (gCons (gName 2) (gCons (gName 3) gNil))) (tt := tYes) rfl sc_places_of.nd (pi_enum1 (by rfl) T.n_enumerate (pa_cons (pv 1) pa_nil)) (blkOk_by (own := [("at", 2), ("left", 3)]) (N := ["shelf", "stand", "at", "left"]) (sc := defScope s_places_of) (by decide +kernel)) (fun _ _ _ _ _ => (pg_tup rfl (pgs_cons (pg_name (i := 2) sc_places_of.nd rfl (.inl rfl)) (pgs_cons (pg_name (i := 3) sc_places_of.nd rfl (.inl rfl)) pgs_nil)))) (fun _ _ _ _ _ => pts_nil) (fun _ _ _ _ _ => (pe_op op_sub (pv 3) (pe_call (G_gap_length.mono (by first | decide | omega)) hr (by rfl) T.g_gap_length T.F_gap_length.kp T.b_gap_length .nil pass0 (pa_cons (pv 0) (pa_cons (pv 2) pa_nil)))))))), ?_⟩
    refine ⟨_, rfl, false, d, _, rfl, sd, fun D nD => ?_⟩
    refine lc_it (walk_1 (n := ls.length) (xs := iV (stL ls y)) (by rw [iV_len, stL_len])) (fun i H' => Same H H' ∧ H' D = some (.lst (iV ((plL ls.length y).take i)))) ⟨same_new nD, upd_same⟩ (fun i H' _ p => seqT_mono p.1 sd) (fun i x H' H2 hi p yy => ?_) (fun H' p => ?_)
    · obtain ⟨Tt, x, rfl, nT, rfl, hx⟩ := yy
      rw [iV_get (stL_get hi)] at hx
      cases Option.some.inj hx
      have t1 := same_new (o := .tup [.int (i : Nat), .int (y i + pre ls i)]) nT
      have s1 := p.1.trans t1
      have hD1 := t1 _ _ p.2
      refine ⟨Tt, _, rfl, .inl (.inl upd_same), rfl, _, _, rfl, _, [], rfl, rfl, rfl, _, rfl, v, rfl, _, rfl, v, room, ls, i, rfl, Dpm s1 hv, fun H3 s3 => ?_⟩
      refine ⟨_, _, rfl, rfl, _, s3 _ _ hD1, ?_, fun b o hb => ?_, ?_⟩
      · rw [List.length_map, List.length_take]
        exact small1000 (by omega)
      · rw [upd_ne (ne_of_none hb nD)]
        exact s3 _ _ (s1 b o hb)
      · rw [upd_same, plL_take hi]
        dsimp only
        rw [show y i + pre ls i - pre ls i = y i from by omega]
        simp
    · obtain ⟨s1, hD⟩ := p
      rw [List.take_of_length_le (by rw [plL_len]; exact Nat.le_refl _)] at hD
      exact q D H' s1 nD hD
end PS

namespace PS
open PySem PySem.Spec PyProof.Rows L2
variable {P : Program} {w : World} {K : PySem.W.Frag} {mg : Str → Option Value} {base : Heap}
/-! ### bands -/
abbrev bandL (v1 v2 v3 v4 v5 : V) : List (Str × V) := [("first", v1), ("beyond", v2), ("place", v3), ("up", v4), ("down", v5)]
def bandF (y w : Nat → Int) (r : Nat × Nat) : List (Str × V) := bandL (.int r.1) (.int r.2) (.int (w r.1)) (.bl (fl y w r).1) (.bl (fl y w r).2)
theorem band_put (v1 v2 v3 v4 v5 : V) : putF "down" v5 (putF "up" v4 (putF "place" v3 (putF "beyond" v2 (putF "first" v1 [])))) = bandL v1 v2 v3 v4 v5 := rfl
theorem band_first (y w : Nat → Int) (r : Nat × Nat) : (bandF y w r).lookup ("first" : Str) = some (.int r.1) := rfl
theorem band_beyond (y w : Nat → Int) (r : Nat × Nat) : (bandF y w r).lookup ("beyond" : Str) = some (.int r.2) := rfl
theorem band_place (y w : Nat → Int) (r : Nat × Nat) : (bandF y w r).lookup ("place" : Str) = some (.int (w r.1)) := rfl
theorem band_up (y w : Nat → Int) (r : Nat × Nat) : (bandF y w r).lookup ("up" : Str) = some (.bl (fl y w r).1) := rfl
theorem band_down (y w : Nat → Int) (r : Nat × Nat) : (bandF y w r).lookup ("down" : Str) = some (.bl (fl y w r).2) := rfl
def sp_Band_init (C : Addr) : Sp := fun vs H Q _ => ∃ (x dx : Addr) (v1 v2 v3 v4 v5 : V), vs = [.ref x, v1, v2, v3, v4, v5] ∧ H x = some (.ins C dx []) ∧ ∀ H', H' x = some (.ins C dx (bandL v1 v2 v3 v4 v5)) → (∀ b o, H b = some o → b ≠ x → H' b = some o) → Q .non H'
theorem ok_Band_init (T : Tx K mg) : FnOk P w K mg base CX0 1 T.f_Band_init T.fd_Band_init ["self", "first", "beyond", "place", "up", "down"] (sp_Band_init T.C_Band) := by
  refine T.F_Band_init.ok sc_Band_init (fun vs H Q E h => ?_) (fun cdv A outer s H vs Q E hr h => ?_)
  · obtain ⟨_, _, _, _, _, _, _, rfl, _⟩ := h
    rfl
  · obtain ⟨x, dx, v1, v2, v3, v4, v5, rfl, hx, q⟩ := h
    refine ⟨_, (pss_cons (ps_fld (pv 0) (pv 1) rfl)
      (pss_cons (ps_fld (pv 0) (pv 2) rfl)
      (pss_cons (ps_fld (pv 0) (pv 3) rfl)
      (pss_cons (ps_fld (pv 0) (pv 4) rfl)
      (pss_one (ps_fld (pv 0) (pv 5) rfl)))))), ?_⟩
    refine ⟨v1, rfl, _, rfl, x, T.C_Band, dx, _, rfl, hx, T.cl_Band, T.na_Band_first, (by show 0 < 1000; decide), ?_⟩
    refine ⟨v2, rfl, _, rfl, x, T.C_Band, dx, _, rfl, upd_same, T.cl_Band, T.na_Band_beyond, (by show 1 < 1000; decide), ?_⟩
    refine ⟨v3, rfl, _, rfl, x, T.C_Band, dx, _, rfl, upd_same, T.cl_Band, T.na_Band_place, (by show 2 < 1000; decide), ?_⟩
    refine ⟨v4, rfl, _, rfl, x, T.C_Band, dx, _, rfl, upd_same, T.cl_Band, T.na_Band_up, (by show 3 < 1000; decide), ?_⟩
    refine ⟨v5, rfl, _, rfl, x, T.C_Band, dx, _, rfl, upd_same, T.cl_Band, T.na_Band_down, (by show 4 < 1000; decide), ?_⟩
    exact q _ upd_same fun b o e hb => by rw [upd_ne hb, upd_ne hb, upd_ne hb, upd_ne hb, upd_ne hb]; exact e
/-- a band in the heap -/
def BandAt (C : Addr) (H : Hp) (y w : Nat → Int) (v : V) (r : Nat × Nat) : Prop := ∃ a dx, v = .ref a ∧ H a = some (.ins C dx (bandF y w r))
inductive Bands (C : Addr) (H : Hp) (y w : Nat → Int) : List V → List (Nat × Nat) → Prop
  | nil : Bands C H y w [] []
  | cons {v : V} {vs : List V} {r : Nat × Nat} {rs : List (Nat × Nat)} : BandAt C H y w v r → Bands C H y w vs rs → Bands C H y w (v :: vs) (r :: rs)
theorem Bands.len {C : Addr} {H : Hp} {y w : Nat → Int} : ∀ {vs : List V} {rs : List (Nat × Nat)}, Bands C H y w vs rs → vs.length = rs.length
  | _, _, .nil => rfl
  | _, _, .cons _ h => by simp [h.len]
theorem Bands.mono {C : Addr} {H H' : Hp} {y w : Nat → Int} (k : ∀ a dx fs, H a = some (.ins C dx fs) → H' a = some (.ins C dx fs)) : ∀ {vs : List V} {rs : List (Nat × Nat)}, Bands C H y w vs rs → Bands C H' y w vs rs
  | _, _, .nil => .nil
  | _, _, .cons ⟨a, dx, e, h⟩ hs => .cons ⟨a, dx, e, k _ _ _ h⟩ (hs.mono k)
theorem Bands.same {C : Addr} {H H' : Hp} {y w : Nat → Int} {vs : List V} {rs : List (Nat × Nat)} (h : Bands C H y w vs rs) (s : Same H H') : Bands C H' y w vs rs := h.mono fun a dx fs e => s _ _ e
theorem Bands.app {C : Addr} {H : Hp} {y w : Nat → Int} : ∀ {vs us : List V} {rs qs : List (Nat × Nat)}, Bands C H y w vs rs → Bands C H y w us qs → Bands C H y w (vs ++ us) (rs ++ qs)
  | _, _, _, _, .nil, h => h
  | _, _, _, _, .cons a h, k => .cons a (h.app k)
theorem Bands.take {C : Addr} {H : Hp} {y w : Nat → Int} : ∀ {vs : List V} {rs : List (Nat × Nat)} (n : Nat), Bands C H y w vs rs → Bands C H y w (vs.take n) (rs.take n)
  | vs, rs, 0, h => by simp; exact .nil
  | _, _, n + 1, .nil => .nil
  | _, _, n + 1, .cons a h => .cons a (h.take n)
theorem Bands.drop {C : Addr} {H : Hp} {y w : Nat → Int} : ∀ {vs : List V} {rs : List (Nat × Nat)} (n : Nat), Bands C H y w vs rs → Bands C H y w (vs.drop n) (rs.drop n)
  | vs, rs, 0, h => by simpa using h
  | _, _, n + 1, .nil => .nil
  | _, _, n + 1, .cons a h => h.drop n
theorem Bands.get {C : Addr} {H : Hp} {y w : Nat → Int} : ∀ {vs : List V} {rs : List (Nat × Nat)} {i : Nat} {v : V}, Bands C H y w vs rs → vs[i]? = some v → ∃ r, rs[i]? = some r ∧ BandAt C H y w v r
  | _, _, i, v, .nil, e => by simp at e
  | _, _, 0, v, .cons a h, e => by simp at e; subst e; exact ⟨_, rfl, a⟩
  | _, _, i + 1, v, .cons a h, e => by
    obtain ⟨r, h1, h2⟩ := h.get (i := i) (v := v) (by simpa using e)
    exact ⟨r, by simpa using h1, h2⟩
def sp_band_from (K : PySem.W.Frag) (C : Addr) : Sp := fun vs H Q _ => ∃ (a b : Addr) (n : Nat) (y w : Nat → Int) (f : Nat), vs = [.ref a, .ref b, .int (f : Int)] ∧ SqL K H a (iV (plL n y)) ∧ SqL K H b (iV (plL n w)) ∧ Up n w ∧ f < n ∧ (f = 0 ∨ w (f - 1) < w f) ∧ n ≤ 8 ∧
  ∀ x dx H', Same H H' → H' x = some (.ins C dx (bandF y w (f, f + (plL n w).count (w f)))) → Q (.ref x) H'
theorem ok_band_from (T : Tx K mg) : FnOk P w K mg base CX0 3 T.f_band_from T.fd_band_from ["now", "wished", "first"] (sp_band_from K T.C_Band) := by
  have G_Band_init := ok_Band_init (P := P) (w := w) (base := base) T
  refine T.F_band_from.ok sc_band_from (fun vs H Q E h => ?_) (fun cdv A outer s H vs Q E hr h => ?_)
  · obtain ⟨_, _, _, _, _, _, rfl, _⟩ := h
    rfl
  · obtain ⟨a, b, n, y, w, f, rfl, sa, sb, up, hf, hb, n8, q⟩ := h
    refine ⟨_, (pss_cons (ps_set (i := 3) sc_band_from.nd rfl (.inl rfl) (pe_ix ix_list (pv 1) (pv 2) (fun _ _ => rfl)))
      (pss_cons (ps_set (i := 4) sc_band_from.nd rfl (.inl rfl) (pe_op op_add (pv 2) (pe_bm PySem.F.plainAttrs_list PySem.F.slot_list_count PySem.F.type_list_count mt_lcount (pv 1) (pa_cons (pv 3) pa_nil))))
      (pss_one (ps_ret (pe_make T.mk_Band (G_Band_init.mono (by first | decide | omega)) hr (by rfl) T.g_Band T.b_Band_init .nil pass0 (pa_cons (pv 2) (pa_cons (pv 4) (pa_cons (pv 3) (pa_cons (pe_cmpR op_lt (pe_ix ix_list (pv 0) (pv 2) (fun _ _ => rfl)) (pv 3) (nomark _)) (pa_cons (pe_cmpR op_gt (pe_ix ix_list (pv 0) (pe_op op_sub (pv 4) pe_int) (fun _ _ => rfl)) (pv 3) (nomark _)) pa_nil)))))))))), ?_⟩
    obtain ⟨c1, c2, c3, c4⟩ := run_count up hf hb
    generalize hc : (plL n w).count (w f) = c at *
    refine ⟨.ref b, rfl, _, rfl, b, _, _, _, rfl, rfl, sb, at_of (j := f) rfl (iV_get (plL_get hf)), ?_⟩
    refine ⟨_, rfl, .ref b, rfl, .inl ⟨rfl, _, sb⟩, _, rfl, b, _, _, rfl, rfl, sb, ?_⟩
    rw [hc]
    refine ⟨_, _, rfl, rfl, ?_⟩
    have e1 : (f : Int) + (c : Int) = ((f + c : Nat) : Int) := by omega
    dsimp only
    rw [e1]
    refine ⟨_, rfl, _, rfl, _, rfl, .ref a, rfl, _, rfl, a, _, _, _, rfl, rfl, sa, at_of (j := f) rfl (iV_get (plL_get hf)), _, rfl, _, _, rfl, rfl, .ref a, rfl, _, rfl, _, _, rfl, rfl, a, _, _, _, rfl, rfl, sa, at_of (j := f + c - 1) (by omega) (iV_get (plL_get (by omega))), _, rfl, _, _, rfl, rfl, ?_⟩
    intro x dx nx ndx nex
    refine ⟨x, dx, _, _, _, _, _, rfl, upd_same, fun H1 h1 k1 => ⟨rfl, ?_⟩⟩
    exact q x dx H1 (Same.made nx ndx k1) h1
def sp_bands_of (K : PySem.W.Frag) (C : Addr) : Sp := fun vs H Q _ => ∃ v u t room ls y w pl, vs = [v, u, t] ∧ Dp K H v (shD room ls) ∧ Dp K H u (tI (stL ls y)) ∧ Dp K H t (tI (stL ls w)) ∧ Rise ls.length pl w ∧ ls.length ≤ 8 ∧
  ∀ p H' us rs, Same H H' → H p = none → H' p = some (.lst us) → RunsTo w ls.length 0 ls.length rs → Bands C H' y w us rs → Q (.ref p) H'
theorem ok_bands_of (T : Tx K mg) : FnOk P w K mg base CX0 4 T.f_bands_of T.fd_bands_of ["shelf", "stand", "wish"] (sp_bands_of K T.C_Band) := by
  have G_places_of := ok_places_of (P := P) (w := w) (base := base) T
  have G_band_from := ok_band_from (P := P) (w := w) (base := base) T
  refine T.F_bands_of.ok sc_bands_of (fun vs H Q E h => ?_) (fun cdv A outer s H vs Q E hr h => ?_)
  · obtain ⟨_, _, _, _, _, _, _, _, rfl, _⟩ := h
    rfl
  · obtain ⟨v, u, t, room, ls, y, w, pl, rfl, hv, hu, ht, ri, n8, q⟩ := h
    refine ⟨_, (pss_cons (ps_set (i := 3) sc_bands_of.nd rfl (.inl rfl) (pe_call (G_places_of.mono (by first | decide | omega)) hr (by rfl) T.g_places_of T.F_places_of.kp T.b_places_of .nil pass0 (pa_cons (pv 0) (pa_cons (pv 1) pa_nil))))
      (pss_cons (ps_set (i := 4) sc_bands_of.nd rfl (.inl rfl) (pe_call (G_places_of.mono (by first | decide | omega)) hr (by rfl) T.g_places_of T.F_places_of.kp T.b_places_of .nil pass0 (pa_cons (pv 0) (pa_cons (pv 2) pa_nil))))
      (pss_cons (ps_set (i := 5) sc_bands_of.nd rfl (.inl rfl) (pe_lst pa_nil))
      (pss_cons (ps_set (i := 6) sc_bands_of.nd rfl (.inl rfl) pe_int)
      (pss_cons (ps_while PassesOwn.never (pt_cmpR op_lt (pv 6) (pe_callB call_len_seq (by rfl) T.n_len (by decide +kernel) (pa_cons (pv 4) pa_nil)) (nomark _))
      (pss_cons (ps_set (i := 7) sc_bands_of.nd rfl (.inl rfl) (pe_call (G_band_from.mono (by first | decide | omega)) hr (by rfl) T.g_band_from T.F_band_from.kp T.b_band_from .nil pass0 (pa_cons (pv 3) (pa_cons (pv 4) (pa_cons (pv 6) pa_nil)))))
      (pss_cons (ps_expr (pe_bm PySem.F.plainAttrs_list PySem.F.slot_list_append PySem.F.type_list_append mt_append (pv 5) (pa_cons (pv 7) pa_nil)))
      (pss_one (ps_set (i := 6) sc_bands_of.nd rfl (.inl rfl) (pe_fld (pv 7) rfl))))))
      (pss_one (ps_ret (pv 5)))))))), ?_⟩
    refine ⟨v, rfl, u, rfl, v, u, room, ls, y, rfl, hv, hu, n8, fun a H1 s1 na ha => ?_⟩
    refine ⟨v, rfl, t, rfl, v, t, room, ls, w, rfl, Dpm s1 hv, Dpm s1 ht, n8, fun b H2 s2 nb hb => ?_⟩
    have ha := s2 _ _ ha
    refine ⟨Nat.zero_le _, fun l nl => ?_⟩
    have t3 := same_new (o := .lst []) nl
    have nlH : H l = none := (s1.trans s2).free nl
    refine ⟨fun m σ H' => ∃ k rs us y7, m = ls.length - k ∧ k ≤ ls.length ∧ Same H2 H' ∧ RunsTo w ls.length 0 k rs ∧ σ = [some v, some u, some t, some (.ref a), some (.ref b), some (.ref l), some (.int (k : Nat)), y7] ∧ H' l = some (.lst us) ∧ Bands T.C_Band H' y w us rs,
      ⟨_, 0, [], [], none, rfl, Nat.zero_le _, t3, .nil, rfl, upd_same, .nil⟩, ?_⟩
    rintro m σ H' ⟨k, rs, us, y7, rfl, hk, s3, runs, rfl, hl, bs⟩
    have ha3 := s3 _ _ ha
    have hb3 := s3 _ _ hb
    refine ⟨_, rfl, .ref b, rfl, b, _, rfl, .inl (.inl (.inl hb3)), _, _, rfl, rfl, _, rfl, ?_⟩
    rw [iV_len, plL_len]
    by_cases c : k < ls.length
    · rw [decide_eq_true (show (k : Int) < ((ls.length : Nat) : Int) by omega)]
      refine iteT ⟨fun σ' H4 => ∃ k' rs us y7, k < k' ∧ k' ≤ ls.length ∧ Same H2 H4 ∧ RunsTo w ls.length 0 k' rs ∧ σ' = [some v, some u, some t, some (.ref a), some (.ref b), some (.ref l), some (.int (k' : Nat)), y7] ∧ H4 l = some (.lst us) ∧ Bands T.C_Band H4 y w us rs, ?_, ?_⟩
      · rintro σ' H4 ⟨k', rs', us', y7', h1, h2, h3, h4, rfl, h5, h6⟩
        exact ⟨ls.length - k', by omega, k', rs', us', y7', rfl, h2, h3, h4, rfl, h5, h6⟩
      · have up := ri.mono
        have hfront : k = 0 ∨ w (k - 1) < w k := by
          by_cases e : rs = []
          · subst e
            cases runs
            exact .inl rfl
          · exact .inr (runs.front e c)
        obtain ⟨c1, c2, c3, c4⟩ := run_count up c hfront
        refine ⟨_, rfl, _, rfl, _, rfl, a, b, ls.length, y, w, k, rfl, .inl (.inl ha3), .inl (.inl hb3), up, c, hfront, n8, fun x dx H5 s5 hx => ?_⟩
        have hl5 := s5 _ _ hl
        have hul : us.length ≤ 8 := by
          have h1 := bs.len
          have h2 := runs.len
          omega
        refine ⟨.ref l, rfl, .inl ⟨rfl, _, .inl (.inl hl5)⟩, _, rfl, l, _, _, rfl, rfl, hl5, small1000 (by omega), ?_⟩
        have nxl : x ≠ l := ne_of hx hl5 (by intro z; cases z)
        have hx6 : upd H5 l (.lst (us ++ [.ref x])) x = some (.ins T.C_Band dx (bandF y w (k, k + (plL ls.length w).count (w k)))) := by
          rw [upd_ne nxl]
          exact hx
        refine ⟨_, rfl, x, T.C_Band, dx, _, _, rfl, hx6, T.cl_Band, T.na_Band_beyond, band_beyond _ _ _, ?_⟩
        refine ⟨k + (plL ls.length w).count (w k), rs ++ [(k, k + (plL ls.length w).count (w k))], us ++ [.ref x], _, by show k < k + ((List.range ls.length).map w).count (w k); omega, c2, fun b' o hb' => ?_, ?_, rfl, upd_same, ?_⟩
        · rw [upd_ne (ne_of_none hb' nl)]
          exact s5 _ _ (s3 _ _ hb')
        · exact runs.app (.cons (by show k < k + ((List.range ls.length).map w).count (w k); omega) c2 c3 c4 .nil)
        · refine Bands.app ((bs.same s5).mono fun a' dx' fs e => ?_) (.cons ⟨x, dx, rfl, hx6⟩ .nil)
          rw [upd_ne (ne_of e hl5 (by intro z; cases z))]
          exact e
    · rw [decide_eq_false (show ¬ (k : Int) < ((ls.length : Nat) : Int) by omega)]
      have ek : k = ls.length := by omega
      subst ek
      exact iteF ⟨.ref l, rfl, q l H' us rs ((s1.trans s2).trans s3) nlH hl runs bs⟩
/-! ### rows -/
abbrev RRow (K : PySem.W.Frag) (H : Hp) (Q : VK) (ls : List Int) (r : List Push) : Prop := ∀ p H' us, Same H H' → H p = none → H' p = some (.lst us) → DpAll K (Off p H') us (r.map (puD ls)) → Q (.ref p) H'
def sp_shove (K : PySem.W.Frag) (rt : Bool) : Sp := fun vs H Q _ => ∃ v room ls g b, vs = [v, .int (g : Nat), .int b] ∧ Dp K H v (shD room ls) ∧ RD K H Q (puD ls (rt, g, b))
theorem ok_raised (T : Tx K mg) : FnOk P w K mg base CX0 2 T.f_raised T.fd_raised ["shelf", "gap", "place"] (sp_shove K true) := by
  have G_gap_length := ok_gap_length (P := P) (w := w) (base := base) T
  refine T.F_raised.ok sc_raised (fun vs H Q E h => ?_) (fun cdv A outer s H vs Q E hr h => ?_)
  · obtain ⟨_, _, _, _, _, rfl, _⟩ := h
    rfl
  · obtain ⟨v, room, ls, g, b, rfl, hv, q⟩ := h
    refine ⟨_, (pss_one (ps_ret (pe_tup (pa_cons pe_str (pa_cons (pv 1) (pa_cons (pe_op op_add (pe_call (G_gap_length.mono (by first | decide | omega)) hr (by rfl) T.g_gap_length T.F_gap_length.kp T.b_gap_length .nil pass0 (pa_cons (pv 0) (pa_cons (pv 1) pa_nil))) (pv 2)) pa_nil)))))), ?_⟩
    refine ⟨_, rfl, v, rfl, _, rfl, v, room, ls, g, rfl, hv, fun H1 s1 => ?_⟩
    refine ⟨_, rfl, _, _, rfl, rfl, by show 3 ≤ sizeLine; decide, fun t nt => ?_⟩
    refine q _ _ (s1.trans (same_new nt)) (.tup (.inl (.inl upd_same)) (.cons (.str _) (.cons (.int _) (.cons ?_ .nil))))
    show Dp K _ (.int (pre ls g + b)) (.int (b + pre ls g))
    rw [Int.add_comm]
    exact .int _
theorem ok_lowered (T : Tx K mg) : FnOk P w K mg base CX0 2 T.f_lowered T.fd_lowered ["shelf", "gap", "place"] (sp_shove K false) := by
  have G_gap_length := ok_gap_length (P := P) (w := w) (base := base) T
  refine T.F_lowered.ok sc_lowered (fun vs H Q E h => ?_) (fun cdv A outer s H vs Q E hr h => ?_)
  · obtain ⟨_, _, _, _, _, rfl, _⟩ := h
    rfl
  · obtain ⟨v, room, ls, g, b, rfl, hv, q⟩ := h
    refine ⟨_, (pss_one (ps_ret (pe_tup (pa_cons pe_str (pa_cons (pv 1) (pa_cons (pe_op op_add (pe_call (G_gap_length.mono (by first | decide | omega)) hr (by rfl) T.g_gap_length T.F_gap_length.kp T.b_gap_length .nil pass0 (pa_cons (pv 0) (pa_cons (pv 1) pa_nil))) (pv 2)) pa_nil)))))), ?_⟩
    refine ⟨_, rfl, v, rfl, _, rfl, v, room, ls, g, rfl, hv, fun H1 s1 => ?_⟩
    refine ⟨_, rfl, _, _, rfl, rfl, by show 3 ≤ sizeLine; decide, fun t nt => ?_⟩
    refine q _ _ (s1.trans (same_new nt)) (.tup (.inl (.inl upd_same)) (.cons (.str _) (.cons (.int _) (.cons ?_ .nil))))
    show Dp K _ (.int (pre ls g + b)) (.int (b + pre ls g))
    rw [Int.add_comm]
    exact .int _
/-- a row that grows -/
theorem app_row {H H2 : Hp} {l : Addr} {us : List V} {ds : List PyData} {v : V} {d : PyData} (hl : H l = some (.lst us)) (al : DpAll K (Off l H) us ds) (s : Same H H2) (hd : Dp K H2 v d) (n : noL d = true) : DpAll K (Off l (upd H2 l (.lst (us ++ [v])))) (us ++ [v]) (ds ++ [d]) := by
  rw [show Off l (upd H2 l (.lst (us ++ [v]))) = Off l H2 from by
    funext b
    unfold Off
    split
    · rfl
    · rename_i z
      rw [upd_ne z]]
  exact dpAll_app (dpAll_mono (off_mono s) _ _ al) (.cons (dp_off (s _ _ hl) _ _ n hd) .nil)
theorem keep_row {H0 H2 : Hp} {l : Addr} {o : HO} (nl : H0 l = none) (s : Same H0 H2) : Same H0 (upd H2 l o) := fun b x e => by
  rw [upd_ne (ne_of_none e nl)]
  exact s b x e
def sp_row_alone (K : PySem.W.Frag) (C : Addr) : Sp := fun vs H Q _ => ∃ v u room ls y w r, vs = [v, u] ∧ Dp K H v (shD room ls) ∧ BandAt C H y w u r ∧ RRow K H Q ls (rowAlone y w r)
theorem ok_row_alone (T : Tx K mg) : FnOk P w K mg base CX0 3 T.f_row_alone T.fd_row_alone ["shelf", "band"] (sp_row_alone K T.C_Band) := by
  have G_raised := ok_raised (P := P) (w := w) (base := base) T
  have G_lowered := ok_lowered (P := P) (w := w) (base := base) T
  refine T.F_row_alone.ok sc_row_alone (fun vs H Q E h => ?_) (fun cdv A outer s H vs Q E hr h => ?_)
  · obtain ⟨_, _, _, _, _, _, _, rfl, _⟩ := h
    rfl
  · obtain ⟨v, u, room, ls, y, w, r, rfl, hv, ⟨x, dx, rfl, hx⟩, q⟩ := h
    refine ⟨_, (pss_cons (ps_set (i := 2) sc_row_alone.nd rfl (.inl rfl) (pe_lst pa_nil))
      (C8.pss_cut (ps_if (pt_val (pe_fld (pv 1) rfl)) (pss_one (ps_expr (pe_bm PySem.F.plainAttrs_list PySem.F.slot_list_append PySem.F.type_list_append mt_append (pv 2) (pa_cons (pe_call (G_raised.mono (by first | decide | omega)) hr (by rfl) T.g_raised T.F_raised.kp T.b_raised .nil pass0 (pa_cons (pv 0) (pa_cons (pe_fld (pv 1) rfl) (pa_cons (pe_fld (pv 1) rfl) pa_nil)))) pa_nil)))) pss_nil)
      (C8.pss_cut (ps_if (pt_val (pe_fld (pv 1) rfl)) (pss_one (ps_expr (pe_bm PySem.F.plainAttrs_list PySem.F.slot_list_append PySem.F.type_list_append mt_append (pv 2) (pa_cons (pe_call (G_lowered.mono (by first | decide | omega)) hr (by rfl) T.g_lowered T.F_lowered.kp T.b_lowered .nil pass0 (pa_cons (pv 0) (pa_cons (pe_fld (pv 1) rfl) (pa_cons (pe_fld (pv 1) rfl) pa_nil)))) pa_nil)))) pss_nil)
      (pss_one (ps_ret (pv 2)))))), ?_⟩
    refine ⟨Nat.zero_le _, fun l nl => ?_⟩
    have s1 := same_new (o := .lst []) nl
    refine ⟨fun σ' H' => Same H H' ∧ σ' = [some v, some (.ref x), some (.ref l)] ∧ ∃ us, H' l = some (.lst us) ∧ DpAll K (Off l H') us (((if y r.1 < w r.1 then [((true, r.1, w r.1) : Push)] else [])).map (puD ls)), ?_, ?_⟩
    · refine ⟨.ref x, rfl, x, T.C_Band, dx, _, _, rfl, s1 _ _ hx, T.cl_Band, T.na_Band_up, band_up _ _ _, _, rfl, ?_⟩
      show if decide (y r.1 < w r.1) = true then _ else _
      by_cases c : y r.1 < w r.1
      · rw [decide_eq_true c]
        refine iteT ⟨.ref l, rfl, .inl ⟨rfl, _, .inl (.inl upd_same)⟩, v, rfl, .ref x, rfl, x, T.C_Band, dx, _, _, rfl, s1 _ _ hx, T.cl_Band, T.na_Band_first, band_first _ _ _, .ref x, rfl, x, T.C_Band, dx, _, _, rfl, s1 _ _ hx, T.cl_Band, T.na_Band_place, band_place _ _ _, v, room, ls, r.1, w r.1, rfl, Dpm s1 hv, fun z H2 s2 hz => ?_⟩
        refine ⟨l, [], _, rfl, rfl, s2 _ _ upd_same, small1000 (by simp), keep_row nl (s1.trans s2), rfl, [] ++ [z], upd_same, ?_⟩
        rw [if_pos c]
        exact app_row (K := K) (ds := []) upd_same .nil s2 hz (noL_puD _ _)
      · rw [decide_eq_false c]
        refine iteF ⟨s1, rfl, [], upd_same, ?_⟩
        rw [if_neg c]
        exact .nil
    · rintro σ' H1 ⟨g1, rfl, us, hl, al⟩
      have hlen : us.length ≤ 1 := by
        have h1 := dpAll_len al
        rw [List.length_map] at h1
        rw [h1]
        split <;> simp
      refine ⟨fun σ' H' => Same H H' ∧ σ' = [some v, some (.ref x), some (.ref l)] ∧ ∃ us, H' l = some (.lst us) ∧ DpAll K (Off l H') us ((rowAlone y w r).map (puD ls)), ?_, ?_⟩
      · refine ⟨.ref x, rfl, x, T.C_Band, dx, _, _, rfl, g1 _ _ hx, T.cl_Band, T.na_Band_down, band_down _ _ _, _, rfl, ?_⟩
        show if decide (w r.1 < y (r.2 - 1)) = true then _ else _
        unfold rowAlone
        rw [List.map_append]
        by_cases c : w r.1 < y (r.2 - 1)
        · rw [decide_eq_true c]
          refine iteT ⟨.ref l, rfl, .inl ⟨rfl, _, .inl (.inl hl)⟩, v, rfl, .ref x, rfl, x, T.C_Band, dx, _, _, rfl, g1 _ _ hx, T.cl_Band, T.na_Band_beyond, band_beyond _ _ _, .ref x, rfl, x, T.C_Band, dx, _, _, rfl, g1 _ _ hx, T.cl_Band, T.na_Band_place, band_place _ _ _, v, room, ls, r.2, w r.1, rfl, Dpm g1 hv, fun z H2 s2 hz => ?_⟩
          refine ⟨l, us, _, rfl, rfl, s2 _ _ hl, small1000 (by omega), keep_row nl (g1.trans s2), rfl, us ++ [z], upd_same, ?_⟩
          rw [if_pos c]
          exact app_row hl al s2 hz (noL_puD _ _)
        · rw [decide_eq_false c]
          refine iteF ⟨g1, rfl, us, hl, ?_⟩
          rw [if_neg c]
          simpa using al
      · rintro σ' H2 ⟨g2, rfl, us, hl, al⟩
        exact ⟨.ref l, rfl, q l H2 us g2 nl hl al⟩
/-! one that serves -/
theorem cut_m1 (xs : List V) : cutV xs none (some (-1)) = xs.dropLast := by
  unfold cutV
  rw [HT.sIx_none, List.drop_zero, Nat.sub_zero, List.dropLast_eq_take]
  have e : HT.sIx xs.length xs.length (some (-1)) = xs.length - 1 := by
    show (if (-1 : Int) < 0 then (-1 + (xs.length : Int)).toNat else min (-1 : Int).toNat xs.length) = xs.length - 1
    rw [if_pos (by decide)]
    omega
  rw [e]
theorem cut_am (xs : List V) {a m : Nat} (h1 : a ≤ m) (h2 : m ≤ xs.length) : cutV xs (some (a : Int)) (some (m : Int)) = (xs.take m).drop a := by
  unfold cutV
  rw [HT.sIx_nat, HT.sIx_nat, Nat.min_eq_left h2, Nat.min_eq_left (Nat.le_trans h1 h2), List.drop_take]
theorem Bands.snoc {C : Addr} {H : Hp} {y w : Nat → Int} : ∀ {us : List V} {G : List (Nat × Nat)}, Bands C H y w us G → G ≠ [] → ∃ us0 u0 G0 l0, us = us0 ++ [u0] ∧ G = G0 ++ [l0] ∧ Bands C H y w us0 G0 ∧ BandAt C H y w u0 l0
  | _, _, .nil, h => absurd rfl h
  | _, _, .cons (v := v) (vs := vs) (r := r) (rs := rs) a h, _ => by
    by_cases e : rs = []
    · subst e
      cases h
      exact ⟨[], v, [], r, rfl, rfl, .nil, a⟩
    · obtain ⟨us0, u0, G0, l0, rfl, rfl, h1, h2⟩ := h.snoc e
      exact ⟨v :: us0, u0, r :: G0, l0, rfl, rfl, .cons a h1, h2⟩
theorem headD_snoc {G : List (Nat × Nat)} {l : Nat × Nat} {r : Nat × Nat} (h : (G ++ [l])[0]? = some r) : (G ++ [l]).headD (0, 0) = r := by
  cases G with
  | nil => simpa using h
  | cons a G => simpa using h
theorem lastD_snoc (G : List (Nat × Nat)) (l : Nat × Nat) : (G ++ [l]).getLastD (0, 0) = l := by
  rw [lastD_ne (by simp)]
  simp
def sp_by_last (K : PySem.W.Frag) (C : Addr) : Sp := fun vs H Q _ => ∃ v a room ls y w us G, vs = [v, .ref a] ∧ Dp K H v (shD room ls) ∧ SqL K H a us ∧ Bands C H y w us G ∧ G ≠ [] ∧ G.length ≤ 8 ∧ RRow K H Q ls (rowLast w G (G.headD (0, 0)) (G.getLastD (0, 0)))
theorem ok_row_served_by_last (T : Tx K mg) : FnOk P w K mg base CX0 3 T.f_row_served_by_last T.fd_row_served_by_last ["shelf", "bands"] (sp_by_last K T.C_Band) := by
  have G_raised := ok_raised (P := P) (w := w) (base := base) T
  have G_lowered := ok_lowered (P := P) (w := w) (base := base) T
  refine T.F_row_served_by_last.ok sc_row_served_by_last (fun vs H Q E h => ?_) (fun cdv A outer s H vs Q E hr h => ?_)
  · obtain ⟨_, _, _, _, _, _, _, _, rfl, _⟩ := h
    rfl
  · obtain ⟨v, a, room, ls, y, w, us, G, rfl, hv, sa, bs, hG, g8, q⟩ := h
    obtain ⟨us0, u0, G0, l0, rfl, rfl, bs0, ⟨xl, dl, rfl, hxl⟩⟩ := bs.snoc hG
    have hl0 : 0 < (us0 ++ [V.ref xl]).length := by simp
    obtain ⟨r0, er0, ⟨xf, df, exf, hxf⟩⟩ := bs.get (List.getElem?_eq_getElem hl0)
    have exf' : (us0 ++ [V.ref xl])[0]? = some (.ref xf) := by rw [List.getElem?_eq_getElem hl0, exf]
    rw [headD_snoc er0, lastD_snoc] at q
    have lb := bs0.len
    have l8 : G0.length ≤ 7 := by simpa using g8
    refine ⟨_, (pss_cons (ps_set (i := 2) sc_row_served_by_last.nd rfl (.inl rfl) (pe_lst (pa_cons (pe_call (G_raised.mono (by first | decide | omega)) hr (by rfl) T.g_raised T.F_raised.kp T.b_raised .nil pass0 (pa_cons (pv 0) (pa_cons (pe_fld (pe_ix ix_list (pv 1) pe_int (fun _ _ => rfl)) rfl) (pa_cons (pe_fld (pe_ix ix_list (pv 1) (pe_un un_neg pe_int) (fun _ _ => rfl)) rfl) pa_nil)))) pa_nil)))
      (pss_cons (ps_for PassesOwn.never rfl (pi_list (pe_slice sl_list (pv 1) po_none (po_some (pe_un un_neg pe_int)))) (pg_name (i := 3) sc_row_served_by_last.nd rfl (.inl rfl))
      (pss_one (ps_expr (pe_bm PySem.F.plainAttrs_list PySem.F.slot_list_append PySem.F.type_list_append mt_append (pv 2) (pa_cons (pe_call (G_lowered.mono (by first | decide | omega)) hr (by rfl) T.g_lowered T.F_lowered.kp T.b_lowered .nil pass0 (pa_cons (pv 0) (pa_cons (pe_fld (pv 3) rfl) (pa_cons (pe_fld (pv 3) rfl) pa_nil)))) pa_nil)))))
      (pss_one (ps_ret (pv 2))))), ?_⟩
    refine ⟨v, rfl, .ref a, rfl, a, _, 0, _, rfl, rfl, sa, atI_nat (j := 0) exf', xf, T.C_Band, df, _, _, rfl, hxf, T.cl_Band, T.na_Band_first, band_first _ _ _, ?_⟩
    refine ⟨.ref a, rfl, 1, rfl, a, _, -1, _, rfl, rfl, sa, atI_last _ _, xl, T.C_Band, dl, _, _, rfl, hxl, T.cl_Band, T.na_Band_place, band_place _ _ _, ?_⟩
    refine ⟨v, room, ls, r0.1, w l0.1, rfl, hv, fun z H1 s1 hz => ?_⟩
    refine ⟨by show 1 ≤ sizeLine; decide, fun l nl => ?_⟩
    have t2 := same_new (o := .lst [z]) nl
    have s2 := s1.trans t2
    have nlH : H l = none := s1.free nl
    have hl2 : upd H1 l (.lst [z]) l = some (.lst [z]) := upd_same
    have al2 : DpAll K (Off l (upd H1 l (.lst [z]))) [z] [puD ls (true, r0.1, w l0.1)] := .cons (dp_off hl2 _ _ (noL_puD _ _) (Dpm t2 hz)) .nil
    generalize upd H1 l (.lst [z]) = H2 at *
    refine ⟨.ref a, rfl, 1, rfl, _, rfl, a, _, rfl, s2.seq sa, fun p3 np3 => ?_⟩
    rw [cut_m1, List.dropLast_concat]
    have t3 := same_new (o := .lst us0) np3
    have hp3 : upd H2 p3 (.lst us0) p3 = some (.lst us0) := upd_same
    have hl3 := t3 _ _ hl2
    have al3 := dpAll_mono (off_mono (k := l) t3) _ _ al2
    have s3 := s2.trans t3
    have npl : p3 ≠ l := (ne_of_none hl2 np3).symm
    generalize upd H2 p3 (.lst us0) = H3 at *
    refine ⟨p3, rfl, ⟨us0, .inl (.inl hp3)⟩, ?_⟩
    refine for_list (K := K) (a := p3) (xs := us0) (fun i σ H' => Same H H' ∧ H' p3 = some (.lst us0) ∧ ∃ us' y3, σ = [some v, some (.ref a), some (.ref l), y3] ∧ H' l = some (.lst us') ∧ us'.length = i + 1 ∧ DpAll K (Off l H') us' (puD ls (true, r0.1, w l0.1) :: ((G0.take i).map fun r => puD ls (false, r.2, w r.1))))
      ⟨s3, hp3, [z], _, rfl, hl3, rfl, al3⟩ (fun i σ H' _ p => .inl (.inl p.2.1)) (fun i x σ H4 hx p => ?_) (fun σ H4 p => ?_)
    · obtain ⟨s4, hp4, us', y3, rfl, hl4, hul, al4⟩ := p
      have hi : i < us0.length := (List.getElem?_eq_some_iff.mp hx).1
      obtain ⟨r, er, ⟨xb, db, rfl, hxb⟩⟩ := bs0.get hx
      have hxb4 := s4 _ _ hxb
      refine ⟨.ref l, rfl, .inl ⟨rfl, _, .inl (.inl hl4)⟩, v, rfl, _, rfl, xb, T.C_Band, db, _, _, rfl, hxb4, T.cl_Band, T.na_Band_beyond, band_beyond _ _ _, _, rfl, xb, T.C_Band, db, _, _, rfl, hxb4, T.cl_Band, T.na_Band_place, band_place _ _ _, v, room, ls, r.2, w r.1, rfl, Dpm s4 hv, fun z5 H5 s5 hz5 => ?_⟩
      refine ⟨l, us', _, rfl, rfl, s5 _ _ hl4, small1000 (by omega), keep_row nlH (s4.trans s5), ?_, us' ++ [z5], _, rfl, upd_same, by rw [List.length_append, hul]; rfl, ?_⟩
      · rw [upd_ne npl]
        exact s5 _ _ hp4
      · rw [List.take_add_one, er, List.map_append]
        exact app_row hl4 al4 s5 hz5 (noL_puD _ _)
    · obtain ⟨s4, hp4, us', y3, rfl, hl4, hul, al4⟩ := p
      refine ⟨.ref l, rfl, q l H4 us' s4 nlH hl4 ?_⟩
      rw [lb, List.take_length] at al4
      unfold rowLast
      rw [List.dropLast_concat, List.map_cons, List.map_map]
      exact al4
def sp_by_first (K : PySem.W.Frag) (C : Addr) : Sp := fun vs H Q _ => ∃ v a room ls y w us G, vs = [v, .ref a] ∧ Dp K H v (shD room ls) ∧ SqL K H a us ∧ Bands C H y w us G ∧ G ≠ [] ∧ G.length ≤ 8 ∧ RRow K H Q ls (rowFirst y w G (G.headD (0, 0)) (G.getLastD (0, 0)))
theorem ok_row_served_by_first (T : Tx K mg) : FnOk P w K mg base CX0 3 T.f_row_served_by_first T.fd_row_served_by_first ["shelf", "bands"] (sp_by_first K T.C_Band) := by
  have G_raised := ok_raised (P := P) (w := w) (base := base) T
  have G_lowered := ok_lowered (P := P) (w := w) (base := base) T
  refine T.F_row_served_by_first.ok sc_row_served_by_first (fun vs H Q E h => ?_) (fun cdv A outer s H vs Q E hr h => ?_)
  · obtain ⟨_, _, _, _, _, _, _, _, rfl, _⟩ := h
    rfl
  · obtain ⟨v, a, room, ls, y, w, us, G, rfl, hv, sa, bs, hG, g8, q⟩ := h
    obtain ⟨us0, u0, G0, l0, eus, eG, bs0, ⟨xl, dl, rfl, hxl⟩⟩ := bs.snoc hG
    have elast : G.getLastD (0, 0) = l0 := by rw [eG]; exact lastD_snoc _ _
    have hlst : atI us (-1) = some (.ref xl) := by rw [eus]; exact atI_last _ _
    cases bs with
    | nil => exact absurd rfl hG
    | @cons vf us1 rf G1 bf bs1 =>
      obtain ⟨xf, df, rfl, hxf⟩ := bf
      rw [elast] at q
      simp only [List.headD_cons] at q
      have lb := bs1.len
      have l8 : G1.length ≤ 7 := by simpa using g8
      clear eus eG elast bs0
      refine ⟨_, (pss_cons (ps_set (i := 2) sc_row_served_by_first.nd rfl (.inl rfl) (pe_ix ix_list (pv 1) pe_int (fun _ _ => rfl)))
      (pss_cons (ps_set (i := 3) sc_row_served_by_first.nd rfl (.inl rfl) (pe_lst (pa_cons (pe_call (G_lowered.mono (by first | decide | omega)) hr (by rfl) T.g_lowered T.F_lowered.kp T.b_lowered .nil pass0 (pa_cons (pv 0) (pa_cons (pe_fld (pe_ix ix_list (pv 1) (pe_un un_neg pe_int) (fun _ _ => rfl)) rfl) (pa_cons (pe_fld (pv 2) rfl) pa_nil)))) pa_nil)))
      (C8.pss_cut (ps_if (pt_val (pe_fld (pv 2) rfl)) (pss_one (ps_expr (pe_bm PySem.F.plainAttrs_list PySem.F.slot_list_append PySem.F.type_list_append mt_append (pv 3) (pa_cons (pe_call (G_raised.mono (by first | decide | omega)) hr (by rfl) T.g_raised T.F_raised.kp T.b_raised .nil pass0 (pa_cons (pv 0) (pa_cons (pe_fld (pv 2) rfl) (pa_cons (pe_fld (pv 2) rfl) pa_nil)))) pa_nil)))) pss_nil)
      (pss_cons (ps_for PassesOwn.never rfl (pi_list (pe_slice sl_list (pv 1) (po_some pe_int) po_none)) (pg_name (i := 4) sc_row_served_by_first.nd rfl (.inl rfl))
      (pss_one (ps_expr (pe_bm PySem.F.plainAttrs_list PySem.F.slot_list_append PySem.F.type_list_append mt_append (pv 3) (pa_cons (pe_call (G_raised.mono (by first | decide | omega)) hr (by rfl) T.g_raised T.F_raised.kp T.b_raised .nil pass0 (pa_cons (pv 0) (pa_cons (pe_fld (pv 4) rfl) (pa_cons (pe_fld (pv 4) rfl) pa_nil)))) pa_nil)))))
      (pss_one (ps_ret (pv 3))))))), ?_⟩
      refine ⟨.ref a, rfl, a, _, 0, _, rfl, rfl, sa, atI_nat (j := 0) rfl, ?_⟩
      refine ⟨v, rfl, .ref a, rfl, 1, rfl, a, _, -1, _, rfl, rfl, sa, hlst, xl, T.C_Band, dl, _, _, rfl, hxl, T.cl_Band, T.na_Band_beyond, band_beyond _ _ _, _, rfl, xf, T.C_Band, df, _, _, rfl, hxf, T.cl_Band, T.na_Band_place, band_place _ _ _, v, room, ls, l0.2, w rf.1, rfl, hv, fun z H1 s1 hz => ?_⟩
      refine ⟨by show 1 ≤ sizeLine; decide, fun l nl => ?_⟩
      have t2 := same_new (o := .lst [z]) nl
      have s2 := s1.trans t2
      have nlH : H l = none := s1.free nl
      have hl2 : upd H1 l (.lst [z]) l = some (.lst [z]) := upd_same
      have al2 : DpAll K (Off l (upd H1 l (.lst [z]))) [z] [puD ls (false, l0.2, w rf.1)] := .cons (dp_off hl2 _ _ (noL_puD _ _) (Dpm t2 hz)) .nil
      generalize upd H1 l (.lst [z]) = H2 at *
      refine ⟨fun σ' H' => Same H H' ∧ σ' = [some v, some (.ref a), some (.ref xf), some (.ref l), none] ∧ ∃ us', H' l = some (.lst us') ∧ us'.length ≤ 2 ∧ DpAll K (Off l H') us' (puD ls (false, l0.2, w rf.1) :: ((if y rf.1 < w rf.1 then [((true, rf.1, w rf.1) : Push)] else [])).map (puD ls)), ?_, ?_⟩
      · refine ⟨.ref xf, rfl, xf, T.C_Band, df, _, _, rfl, s2 _ _ hxf, T.cl_Band, T.na_Band_up, band_up _ _ _, _, rfl, ?_⟩
        show if decide (y rf.1 < w rf.1) = true then _ else _
        by_cases c : y rf.1 < w rf.1
        · rw [decide_eq_true c]
          refine iteT ⟨.ref l, rfl, .inl ⟨rfl, _, .inl (.inl hl2)⟩, v, rfl, _, rfl, xf, T.C_Band, df, _, _, rfl, s2 _ _ hxf, T.cl_Band, T.na_Band_first, band_first _ _ _, _, rfl, xf, T.C_Band, df, _, _, rfl, s2 _ _ hxf, T.cl_Band, T.na_Band_place, band_place _ _ _, v, room, ls, rf.1, w rf.1, rfl, Dpm s2 hv, fun z3 H3 s3 hz3 => ?_⟩
          refine ⟨l, [z], _, rfl, rfl, s3 _ _ hl2, small1000 (by simp), keep_row nlH (s2.trans s3), rfl, [z] ++ [z3], upd_same, by simp, ?_⟩
          rw [if_pos c]
          exact app_row hl2 al2 s3 hz3 (noL_puD _ _)
        · rw [decide_eq_false c]
          refine iteF ⟨s2, rfl, [z], hl2, by simp, ?_⟩
          rw [if_neg c]
          exact al2
      · rintro σ' H3 ⟨s3, rfl, us', hl3, hul3, al3⟩
        refine ⟨.ref a, rfl, 1, rfl, ?_⟩
        unfold tNoPart
        refine ⟨a, _, rfl, s3.seq sa, fun p4 np4 => ?_⟩
        rw [show (some (1 : Int)) = some ((1 : Nat) : Int) from rfl, cut_from, List.drop_succ_cons, List.drop_zero]
        have t4 := same_new (o := .lst us1) np4
        have hp4 : upd H3 p4 (.lst us1) p4 = some (.lst us1) := upd_same
        have hl4 := t4 _ _ hl3
        have al4 := dpAll_mono (off_mono (k := l) t4) _ _ al3
        have s4 := s3.trans t4
        have npl : p4 ≠ l := (ne_of_none hl3 np4).symm
        generalize upd H3 p4 (.lst us1) = H4 at *
        refine ⟨p4, rfl, ⟨us1, .inl (.inl hp4)⟩, ?_⟩
        refine for_list (K := K) (a := p4) (xs := us1) (fun i σ H' => Same H H' ∧ H' p4 = some (.lst us1) ∧ ∃ us' y3, σ = [some v, some (.ref a), some (.ref xf), some (.ref l), y3] ∧ H' l = some (.lst us') ∧ us'.length ≤ i + 2 ∧ DpAll K (Off l H') us' (puD ls (false, l0.2, w rf.1) :: ((if y rf.1 < w rf.1 then [((true, rf.1, w rf.1) : Push)] else [])).map (puD ls) ++ ((G1.take i).map fun r => puD ls (true, r.1, w r.1))))
          ⟨s4, hp4, us', _, rfl, hl4, by omega, by simpa using al4⟩ (fun i σ H' _ p => .inl (.inl p.2.1)) (fun i x σ H5 hx p => ?_) (fun σ H5 p => ?_)
        · obtain ⟨s5, hp5, us', y3, rfl, hl5, hul, al5⟩ := p
          have hi : i < us1.length := (List.getElem?_eq_some_iff.mp hx).1
          obtain ⟨r, er, ⟨xb, db, rfl, hxb⟩⟩ := bs1.get hx
          have hxb5 := s5 _ _ hxb
          refine ⟨.ref l, rfl, .inl ⟨rfl, _, .inl (.inl hl5)⟩, v, rfl, _, rfl, xb, T.C_Band, db, _, _, rfl, hxb5, T.cl_Band, T.na_Band_first, band_first _ _ _, _, rfl, xb, T.C_Band, db, _, _, rfl, hxb5, T.cl_Band, T.na_Band_place, band_place _ _ _, v, room, ls, r.1, w r.1, rfl, Dpm s5 hv, fun z6 H6 s6 hz6 => ?_⟩
          refine ⟨l, us', _, rfl, rfl, s6 _ _ hl5, small1000 (by omega), keep_row nlH (s5.trans s6), ?_, us' ++ [z6], _, rfl, upd_same, by rw [List.length_append]; simp; omega, ?_⟩
          · rw [upd_ne npl]
            exact s6 _ _ hp5
          · rw [List.take_add_one, er, List.map_append, ← List.append_assoc]
            exact app_row hl5 al5 s6 hz6 (noL_puD _ _)
        · obtain ⟨s5, hp5, us', y3, rfl, hl5, hul, al5⟩ := p
          refine ⟨.ref l, rfl, q l H5 us' s5 nlH hl5 ?_⟩
          rw [lb, List.take_length] at al5
          unfold rowFirst
          rw [List.map_cons, List.map_append, List.tail_cons, List.map_map]
          exact al5
/-! ### together -/
def sp_together (K : PySem.W.Frag) (C : Addr) : Sp := fun vs H Q _ => ∃ v a room ls y w us G, vs = [v, .ref a] ∧ Dp K H v (shD room ls) ∧ SqL K H a us ∧ Bands C H y w us G ∧ G ≠ [] ∧ G.length ≤ 8 ∧ RRow K H Q ls (rowT y w G)
theorem ok_row_together (T : Tx K mg) : FnOk P w K mg base CX0 4 T.f_row_together T.fd_row_together ["shelf", "bands"] (sp_together K T.C_Band) := by
  have G_row_alone := ok_row_alone (P := P) (w := w) (base := base) T
  have G_row_served_by_last := ok_row_served_by_last (P := P) (w := w) (base := base) T
  have G_row_served_by_first := ok_row_served_by_first (P := P) (w := w) (base := base) T
  refine T.F_row_together.ok sc_row_together (fun vs H Q E h => ?_) (fun cdv A outer s H vs Q E hr h => ?_)
  · obtain ⟨_, _, _, _, _, _, _, _, rfl, _⟩ := h
    rfl
  · obtain ⟨v, a, room, ls, y, w, us, G, rfl, hv, sa, bs, hG, g8, q⟩ := h
    have lb := bs.len
    refine ⟨_, (pss_cons (ps_if (pt_cmpR op_eq (pe_callB call_len_seq (by rfl) T.n_len (by decide +kernel) (pa_cons (pv 1) pa_nil)) pe_int (nomark _)) (pss_one (ps_ret (pe_call (G_row_alone.mono (by first | decide | omega)) hr (by rfl) T.g_row_alone T.F_row_alone.kp T.b_row_alone .nil pass0 (pa_cons (pv 0) (pa_cons (pe_ix ix_list (pv 1) pe_int (fun _ _ => rfl)) pa_nil))))) pss_nil)
      (pss_cons (ps_if (pt_not (pt_val (pe_fld (pe_ix ix_list (pv 1) (pe_un un_neg pe_int) (fun _ _ => rfl)) rfl))) (pss_one (ps_ret (pe_call (G_row_served_by_last.mono (by first | decide | omega)) hr (by rfl) T.g_row_served_by_last T.F_row_served_by_last.kp T.b_row_served_by_last .nil pass0 (pa_cons (pv 0) (pa_cons (pv 1) pa_nil))))) pss_nil)
      (pss_one (ps_ret (pe_call (G_row_served_by_first.mono (by first | decide | omega)) hr (by rfl) T.g_row_served_by_first T.F_row_served_by_first.kp T.b_row_served_by_first .nil pass0 (pa_cons (pv 0) (pa_cons (pv 1) pa_nil))))))), ?_⟩
    refine ⟨.ref a, rfl, a, us, rfl, .inl sa, rfl, _, rfl, ?_⟩
    unfold rowT at q
    by_cases c : G.length = 1
    · rw [if_pos c] at q
      rw [decide_eq_true (show V.int (us.length : Int) = V.int 1 by rw [lb, c]; rfl)]
      match G, c, bs, q with
      | [r], _, .cons b .nil, q => exact iteT ⟨v, rfl, .ref a, rfl, a, _, 0, _, rfl, rfl, sa, atI_nat (j := 0) rfl, v, _, room, ls, y, w, r, rfl, hv, b, q⟩
    · rw [if_neg c] at q
      rw [decide_eq_false (show ¬ V.int (us.length : Int) = V.int 1 from fun z => c (by have := V.int.inj z; omega))]
      obtain ⟨us0, u0, G0, l0, eus, eG, bs0, ⟨xl, dl, rfl, hxl⟩⟩ := bs.snoc hG
      have elast : G.getLastD (0, 0) = l0 := by rw [eG]; exact lastD_snoc _ _
      have hlst : atI us (-1) = some (.ref xl) := by rw [eus]; exact atI_last _ _
      refine iteF ⟨.ref a, rfl, 1, rfl, a, _, -1, _, rfl, rfl, sa, hlst, xl, T.C_Band, dl, _, _, rfl, hxl, T.cl_Band, T.na_Band_down, band_down _ _ _, _, rfl, ?_⟩
      show if (!decide (w l0.1 < y (l0.2 - 1))) = true then _ else _
      by_cases c2 : w l0.1 < y (l0.2 - 1)
      · rw [elast, if_neg (by simpa using c2), ← elast] at q
        rw [decide_eq_true c2]
        exact iteF ⟨v, rfl, .ref a, rfl, v, a, room, ls, y, w, us, G, rfl, hv, sa, bs, hG, g8, q⟩
      · rw [elast, if_pos (by simpa using c2), ← elast] at q
        rw [decide_eq_false c2]
        exact iteT ⟨v, rfl, .ref a, rfl, v, a, room, ls, y, w, us, G, rfl, hv, sa, bs, hG, g8, q⟩
end PS

namespace PS
open PySem PySem.Spec PyProof.Rows L2
variable {P : Program} {w : World} {K : PySem.W.Frag} {mg : Str → Option Value} {base : Heap}
/-! ### a row of the fewest pushes -/
def Fresh (H : Hp) (v : V) : Prop := ∃ c, v = .ref c ∧ H c = none
def sp_shortest (K : PySem.W.Frag) : Sp := fun vs H Q _ => ∃ v u t room ls y w, vs = [v, u, t] ∧ Dp K H v (shD room ls) ∧ ls.length ≤ 8 ∧ Dp K H u (tI (stL ls y)) ∧ Dp K H t (tI (stL ls w)) ∧ Rise ls.length (room - ls.sum) y ∧ Rise ls.length (room - ls.sum) w ∧
  ∀ c H' r us, Same H H' → H c = none → H' c = some (.lst us) → DpAll K (Off c H') us (r.map (puD ls)) → Best ls.length (room - ls.sum) y w r → Q (.ref c) H'
/-- a list of pushes, untouched by what is made elsewhere -/
def RowC (K : PySem.W.Frag) (H : Hp) (ls : List Int) (v : V) (r : List Push) : Prop := ∃ c us, v = .ref c ∧ H c = some (.lst us) ∧ DpAll K (Off c H) us (r.map (puD ls))
theorem noLs_pu (ls : List Int) (r : List Push) : noLs (r.map (puD ls)) = true := noLs_all _ fun d hd => by
  obtain ⟨p, _, rfl⟩ := List.mem_map.mp hd
  exact noL_puD ls p
theorem RowC.keep {H H' : Hp} {ls : List Int} {v : V} {r : List Push} (h : RowC K H ls v r) (s : Same H H') : RowC K H' ls v r := by
  obtain ⟨c, us, rfl, h1, h2⟩ := h
  exact ⟨c, us, rfl, s _ _ h1, dpAll_mono (off_mono s) _ _ h2⟩
theorem RowC.put {H : Hp} {ls : List Int} {v : V} {r : List Push} {l : Addr} {xs zs : List V} (h : RowC K H ls v r) (hl : H l = some (.lst xs)) (nv : v ≠ .ref l) : RowC K (upd H l (.lst zs)) ls v r := by
  obtain ⟨c, us, rfl, h1, h2⟩ := h
  have ncl : c ≠ l := fun z => nv (by rw [z])
  have h3 : upd H l (.lst zs) c = some (.lst us) := by rw [upd_ne ncl]; exact h1
  refine ⟨c, us, rfl, h3, dpAll_off h3 _ _ (noLs_pu ls r) ?_⟩
  have h4 := dpAll_off hl _ _ (noLs_pu ls r) (dpAll_mono (off_same c H) _ _ h2)
  refine dpAll_mono (fun b o e => ?_) _ _ h4
  unfold Off at e
  split at e
  · cases e
  · rename_i nb
    rw [upd_ne nb]
    exact e
theorem RowC.dp {H : Hp} {ls : List Int} {v : V} {r : List Push} (h : RowC K H ls v r) : Dp K H v (roD ls r) := by
  obtain ⟨c, us, rfl, h1, h2⟩ := h
  exact .lst (.inl (.inl h1)) (dpAll_mono (off_same c H) _ _ h2)
def wayL (y w : Nat → Int) (rs : List (Nat × Nat)) (fR : Nat → List Push) (m a : Nat) : List Push := fR a ++ rowT y w ((rs.take (m + 1)).drop a)
theorem ok_shortest_row (T : Tx K mg) : FnOk P w K mg base CX0 5 T.f_shortest_row T.fd_shortest_row ["shelf", "stand", "wish"] (sp_shortest K) := by
  have G_bands_of := ok_bands_of (P := P) (w := w) (base := base) T
  have G_row_together := ok_row_together (P := P) (w := w) (base := base) T
  refine T.F_shortest_row.ok sc_shortest_row (fun vs H Q E h => ?_) (fun cdv A outer s H vs Q E hr h => ?_)
  · obtain ⟨_, _, _, _, _, _, _, rfl, _⟩ := h
    rfl
  · obtain ⟨v, u, t, room, ls, y, w, rfl, hv, n8, hu, ht, riy, riw, q⟩ := h
    refine ⟨_, (pss_cons (ps_set (i := 3) sc_shortest_row.nd rfl (.inr rfl) (pe_call (G_bands_of.mono (by first | decide | omega)) hr (by rfl) T.g_bands_of T.F_bands_of.kp T.b_bands_of .nil pass0 (pa_cons (pv 0) (pa_cons (pv 1) (pa_cons (pv 2) pa_nil)))))
      (pss_cons (ps_set (i := 4) sc_shortest_row.nd rfl (.inr rfl) (pe_lst (pa_cons (pe_lst pa_nil) pa_nil)))
      (pss_cons (ps_for PassesOwn.never rfl (pi_range2 (by rfl) T.n_range (pa_cons pe_int (pa_cons (pe_op op_add (pe_callB call_len_seq (by rfl) T.n_len (by decide +kernel) (pa_cons (pv 3) pa_nil)) pe_int) pa_nil))) (pg_name (i := 5) sc_shortest_row.nd rfl (.inr rfl))
      (pss_cons (ps_setLc (i := 6) (own := [("ahead", 7)]) (g := gName 7) (tt := tYes) rfl sc_shortest_row.nd rfl rfl (sw_true rfl rfl rfl (by decide +kernel)) (pi_range1 (by rfl) T.n_range (pa_cons (pv 5) pa_nil)) (blkOk_by (own := [("ahead", 7)]) (N := ["shelf", "stand", "wish", "bands", "rows", "many", "ways", "ahead"]) (sc := defScope s_shortest_row) (by decide +kernel)) (fun _ _ _ _ _ => (pg_name (i := 7) sc_shortest_row.nd rfl (.inl rfl))) (fun _ _ _ _ _ => pts_nil) (fun _ _ _ _ _ => (pe_op (show OpR _ _ (rCatL K) from op_catL) (pe_ix (show IxR _ (rIxL K) from ix_list) (pv 4) (pv 7) (fun _ _ => rfl)) (pe_call (G_row_together.mono (by first | decide | omega)) hr (by rfl) T.g_row_together T.F_row_together.kp T.b_row_together .nil pass0 (pa_cons (pv 0) (pa_cons (pe_slice (show SlR _ (rSlL K) from sl_list) (pv 3) (po_some (pv 7)) (po_some (pv 5))) pa_nil))))))
      (pss_one (ps_expr (pe_bm PySem.F.plainAttrs_list PySem.F.slot_list_append PySem.F.type_list_append mt_append (pv 4) (pa_cons (pe_minLen rfl (by rfl) T.n_min (by rfl) T.n_len (pa_cons (pv 6) pa_nil)) pa_nil))))))
      (pss_one (ps_ret (pe_ix ix_list (pv 4) (pe_un un_neg pe_int) (fun _ _ => rfl))))))), ?_⟩
    refine ⟨v, rfl, u, rfl, t, rfl, v, u, t, room, ls, y, w, _, rfl, hv, hu, ht, riw, n8, fun pb H1 ub rs s1 npb hpb runs bs => ?_⟩
    have lb := bs.len
    have lr := runs.len
    have r8 : rs.length ≤ 8 := by omega
    refine ⟨Nat.zero_le _, fun e0 ne0 => ⟨by show 1 ≤ sizeLine; decide, fun l nl => ?_⟩⟩
    have t2 := same_new (o := .lst []) ne0
    have nle : e0 ≠ l := fun z => by
      rw [z, upd_same] at nl
      cases nl
    have nl1 : H1 l = none := by rw [upd_ne nle.symm] at nl; exact nl
    have t3 := same_new (o := .lst [.ref e0]) nl
    have hl3 : upd (upd H1 e0 (.lst [])) l (.lst [.ref e0]) l = some (.lst [.ref e0]) := upd_same
    have he3 : upd (upd H1 e0 (.lst [])) l (.lst [.ref e0]) e0 = some (.lst []) := t3 _ _ upd_same
    have g3 := t2.trans t3
    generalize upd (upd H1 e0 (.lst [])) l (.lst [.ref e0]) = H3 at *
    refine ⟨.ref pb, rfl, pb, ub, rfl, .inl (.inl (.inl (g3 _ _ hpb))), _, _, rfl, rfl, _, _, rfl, ⟨by omega, by omega, by omega, by rw [lb]; omega⟩, ?_⟩
    rw [lb]
    refine for_range (lo := 1) (n := ((rs.length : Int) + 1 - 1).toNat) (fun i σ H' => Same H1 H' ∧ ∃ (vs : List V) (fR : Nat → List Push) (y5 y6 : Option V), σ = [some v, some u, some t, some (.ref pb), some (.ref l), y5, y6, none] ∧ H' l = some (.lst vs) ∧ vs.length = i + 1 ∧ (∀ m, m ≤ i → Told ls.length (room - ls.sum) y w rs m (fR m)) ∧ (∀ m x, vs[m]? = some x → RowC K H' ls x (fR m) ∧ x ≠ .ref l ∧ Fresh H x))
      ⟨g3, [.ref e0], fun _ => [], none, none, rfl, hl3, rfl, fun m hm => ?_, fun m x hx => ?_⟩ (fun i σ H4 hi p => ?_) (fun σ H4 p => ?_)
    · have : m = 0 := by omega
      subst this
      exact told_nil
    · have hm : m = 0 := by
        have := (List.getElem?_eq_some_iff.mp hx).1
        simpa using this
      subst hm
      have : x = .ref e0 := by simpa using hx.symm
      subst this
      exact ⟨⟨e0, [], rfl, he3, .nil⟩, fun z => nle (by cases z; rfl), e0, rfl, s1.free ne0⟩
    · obtain ⟨s4, vs, fR, y5, y6, rfl, hl4, hvl, told, rows⟩ := p
      have hir : i < rs.length := by omega
      have hpb4 := s4 _ _ hpb
      have bs4 := bs.same s4
      -- the ways
      refine ⟨_, rfl, _, rfl, by omega, by omega, fun D nD => ?_⟩
      have nDl : l ≠ D := ne_of_none hl4 nD
      refine lc_range (lo := 0) (n := (1 + (i : Int)).toNat) (fun a H' => Same H4 H' ∧ ∃ us, H' D = some (.lst us) ∧ us.length = a ∧ ∀ m x, us[m]? = some x → RowC K H' ls x (wayL y w rs fR i m) ∧ x ≠ .ref l ∧ x ≠ .ref D ∧ Fresh H x)
        ⟨same_new nD, [], upd_same, rfl, fun m x hx => by simp at hx⟩ (fun a H5 ha p => ?_) (fun H5 p => ?_)
      · obtain ⟨s5, us, hD, hul, hus⟩ := p
        have ha' : a ≤ i := by omega
        have hva : vs[a]? = some vs[a] := List.getElem?_eq_getElem (by omega)
        obtain ⟨rowA, nA, frA⟩ := rows a _ hva
        obtain ⟨c1, us1, ec1, hc1, al1⟩ := rowA
        have hl5 := s5 _ _ hl4
        refine ⟨rfl, .ref l, rfl, _, rfl, l, _, _, _, rfl, rfl, .inl (.inl hl5), at_of (j := a) (by omega) hva, ?_⟩
        rw [ec1]
        refine ⟨v, rfl, .ref pb, rfl, _, rfl, _, rfl, _, rfl, _, rfl, pb, ub, rfl, .inl (.inl (s5 _ _ hpb4)), fun p6 np6 => ?_⟩
        rw [show (0 : Int) + (a : Int) = ((a : Nat) : Int) from by omega, show (1 : Int) + (i : Int) = ((i + 1 : Nat) : Int) from by omega, cut_am ub (by omega) (by omega)]
        have t6 := same_new (o := .lst ((ub.take (i + 1)).drop a)) np6
        have hp6 : upd H5 p6 (.lst ((ub.take (i + 1)).drop a)) p6 = some (.lst ((ub.take (i + 1)).drop a)) := upd_same
        have g6 := s5.trans t6
        generalize upd H5 p6 (.lst ((ub.take (i + 1)).drop a)) = H6 at *
        have hne : (rs.take (i + 1)).drop a ≠ [] := fun z => by
          have := congrArg List.length z
          rw [List.length_drop, List.length_take] at this
          simp at this
          omega
        refine ⟨v, p6, room, ls, y, w, _, (rs.take (i + 1)).drop a, rfl, Dpm ((s1.trans s4).trans g6) hv, .inl (.inl hp6), ((bs4.same g6).take (i + 1)).drop a, hne, by rw [List.length_drop, List.length_take]; omega, fun p7 H7 us7 s7 np7 hp7 al7 => ?_⟩
        have g7 := g6.trans s7
        have hc7 := g7 _ _ hc1
        have hl1 := dpAll_len al1
        rw [List.length_map] at hl1
        have hl7 := dpAll_len al7
        rw [List.length_map] at hl7
        have b1 := (told a ha').len
        have b2 := rowT_le (y := y) (w := w) hne
        have b3 : ((rs.take (i + 1)).drop a).length ≤ 8 := by rw [List.length_drop, List.length_take]; omega
        refine ⟨c1, p7, us1, us7, rfl, rfl, .inl (.inl hc7), .inl (.inl hp7), Nat.le_of_lt (small1000 (by omega)), fun p8 np8 => ?_⟩
        have t8 := same_new (o := .lst (us1 ++ us7)) np8
        have hp8 : upd H7 p8 (.lst (us1 ++ us7)) p8 = some (.lst (us1 ++ us7)) := upd_same
        have g8 := g7.trans t8
        have hD8 := t8 _ _ (s7 _ _ (t6 _ _ hD))
        have hl8 := g8 _ _ hl4
        have al8 : DpAll K (Off p8 (upd H7 p8 (.lst (us1 ++ us7)))) (us1 ++ us7) ((wayL y w rs fR i a).map (puD ls)) := by
          refine dpAll_off hp8 _ _ (noLs_pu ls _) ?_
          unfold wayL
          rw [List.map_append]
          exact dpAll_app (dpAll_mono ((off_same c1 H4).trans g8) _ _ al1) (dpAll_mono ((off_same p7 H7).trans t8) _ _ al7)
        have np8H : H p8 = none := (s1.trans s4).free (g7.free np8)
        generalize upd H7 p8 (.lst (us1 ++ us7)) = H8 at *
        have n8D : p8 ≠ D := (ne_of_none (s7 _ _ (t6 _ _ hD)) np8).symm
        have n8l : p8 ≠ l := (ne_of_none (g7 _ _ hl4) np8).symm
        refine ⟨us, hD8, small1000 (by omega), fun b o e => ?_, us ++ [.ref p8], upd_same, by rw [List.length_append, hul]; rfl, fun m x hx => ?_⟩
        · rw [upd_ne (ne_of_none e nD)]
          exact g8 _ _ e
        · by_cases cm : m < us.length
          · rw [List.getElem?_append_left cm] at hx
            obtain ⟨h1, h2, h3, h4⟩ := hus m x hx
            exact ⟨(h1.keep ((t6.trans s7).trans t8)).put hD8 h3, h2, h3, h4⟩
          · have em : m = a := by
              have := (List.getElem?_eq_some_iff.mp hx).1
              rw [List.length_append] at this
              simp at this
              omega
            subst em
            rw [List.getElem?_append_right (by omega), hul, Nat.sub_self] at hx
            cases Option.some.inj hx
            exact ⟨(show RowC K H8 ls (.ref p8) _ from ⟨p8, _, rfl, hp8, al8⟩).put hD8 (fun z => n8D (by cases z; rfl)), fun z => n8l (by cases z; rfl), fun z => n8D (by cases z; rfl), p8, rfl, np8H⟩
      · obtain ⟨s5, us, hD, hul, hus⟩ := p
        have hul' : us.length = i + 1 := by omega
        have hl5 := s5 _ _ hl4
        -- the shortest of them
        refine ⟨.ref l, rfl, .inl ⟨rfl, _, .inl (.inl hl5)⟩, .ref D, rfl, D, us, fun m => (wayL y w rs fR i m).length, rfl, .inl (.inl hD), by omega, fun m x hx => ?_, fun a x hx hmin => ?_⟩
        · obtain ⟨⟨c, us', rfl, h1, h2⟩, _⟩ := hus m x hx
          refine ⟨c, us', rfl, .inl (.inl h1), ?_⟩
          have := dpAll_len h2
          rwa [List.length_map] at this
        · have ha : a ≤ i := by
            have := (List.getElem?_eq_some_iff.mp hx).1
            omega
          obtain ⟨h1, h2, h3, h4⟩ := hus a x hx
          refine ⟨l, vs, x, rfl, rfl, hl5, small1000 (by omega), fun b o e => ?_, vs ++ [x], fun m => if m ≤ i then fR m else wayL y w rs fR i a, _, _, rfl, upd_same, by rw [List.length_append, hvl]; rfl, fun m hm => ?_, fun m z hz => ?_⟩
          · rw [upd_ne (ne_of_none e nl1)]
            exact s5 _ _ (s4 _ _ e)
          · dsimp only
            by_cases c : m ≤ i
            · rw [if_pos c]
              exact told m c
            · have : m = i + 1 := by omega
              subst this
              rw [if_neg c]
              exact told_next riw riy runs hir fR told ha _ rfl fun b hb => hmin b (by omega)
          · dsimp only
            by_cases c : m < vs.length
            · rw [List.getElem?_append_left c] at hz
              obtain ⟨k1, k2, k3⟩ := rows m z hz
              rw [if_pos (by omega)]
              exact ⟨(k1.keep s5).put hl5 k2, k2, k3⟩
            · have em : m = i + 1 := by
                have := (List.getElem?_eq_some_iff.mp hz).1
                rw [List.length_append] at this
                simp at this
                omega
              subst em
              rw [List.getElem?_append_right (by omega), hvl, Nat.sub_self] at hz
              cases Option.some.inj hz
              rw [if_neg (by omega)]
              exact ⟨h1.put hl5 h2, h2, h4⟩
    · obtain ⟨s4, vs, fR, y5, y6, rfl, hl4, hvl, told, rows⟩ := p
      rw [show ((rs.length : Int) + 1 - 1).toNat = rs.length from by omega] at hvl told
      have hlast : vs[rs.length]? = some vs[rs.length] := List.getElem?_eq_getElem (by omega)
      have hat : atI vs (-1) = some vs[rs.length] := by
        have e : vs = vs.take rs.length ++ [vs[rs.length]] := by
          have := List.take_append_drop rs.length vs
          rw [List.drop_eq_getElem_cons (by omega), List.drop_of_length_le (by omega)] at this
          exact this.symm
        have := atI_last (vs.take rs.length) vs[rs.length]
        rw [← e] at this
        exact this
      obtain ⟨⟨c, us, ec, hc, al⟩, _, c', ec', nc⟩ := rows _ _ hlast
      rw [ec] at ec'
      cases ec'
      refine ⟨.ref l, rfl, 1, rfl, l, _, -1, _, rfl, rfl, .inl (.inl hl4), hat, ?_⟩
      rw [ec]
      exact q c H4 (fR rs.length) us (s1.trans s4) nc hc al (best_of runs (told rs.length (Nat.le_refl _)))
def sp_need_both (K : PySem.W.Frag) : Sp := fun vs H Q _ => ∃ v u t room ls d e, vs = [v, u, t] ∧ Dp K H v (shD room ls) ∧ ShOk room ls ∧ Dp K H u d ∧ isStand room ls d = true ∧ Dp K H t e ∧ isStand room ls e = true ∧ ∀ H', Same H H' → Q .non H'
theorem ok_need_both (T : Tx K mg) : FnOk P w K mg base CX0 8 T.f_need_both T.fd_need_both ["shelf", "stand", "wish"] (sp_need_both K) := by
  have G_need_stand := ok_need_stand (P := P) (w := w) (base := base) T
  refine T.F_need_both.ok sc_need_both (fun vs H Q E h => ?_) (fun cdv A outer s H vs Q E hr h => ?_)
  · obtain ⟨_, _, _, _, _, _, _, rfl, _⟩ := h
    rfl
  · obtain ⟨v, u, t, room, ls, d, e, rfl, hv, sh, hu, du, ht, dt, q⟩ := h
    refine ⟨_, (pss_cons (ps_expr (pe_call (G_need_stand.mono (by first | decide | omega)) hr (by rfl) T.g_need_stand T.F_need_stand.kp T.b_need_stand .nil pass0 (pa_cons (pv 0) (pa_cons (pv 1) pa_nil))))
      (pss_one (ps_expr (pe_call (G_need_stand.mono (by first | decide | omega)) hr (by rfl) T.g_need_stand T.F_need_stand.kp T.b_need_stand .nil pass0 (pa_cons (pv 0) (pa_cons (pv 2) pa_nil)))))), ?_⟩
    refine ⟨v, rfl, u, rfl, v, u, room, ls, d, rfl, hv, sh, hu, du, fun H1 s1 => ?_⟩
    exact ⟨v, rfl, t, rfl, v, t, room, ls, e, rfl, Dpm s1 hv, sh, Dpm s1 ht, dt, fun H2 s2 => q H2 (s1.trans s2)⟩
end PS

namespace PS
open PySem PySem.Spec PyProof.Rows L2
variable {P : Program} {w : World} {K : PySem.W.Frag} {mg : Str → Option Value} {base : Heap}
def sp_fewest (K : PySem.W.Frag) : Sp := fun vs H Q _ => ∃ v u t room ls y w, vs = [v, u, t] ∧ Dp K H v (shD room ls) ∧ ShOk room ls ∧ Dp K H u (tI (stL ls y)) ∧ Dp K H t (tI (stL ls w)) ∧ Rise ls.length (room - ls.sum) y ∧ Rise ls.length (room - ls.sum) w ∧
  ∀ H' r, Same H H' → Best ls.length (room - ls.sum) y w r → Q (.int (r.length : Nat)) H'
theorem ok_fewest (T : Tx K mg) : FnOk P w K mg base CX0 9 T.f_fewest T.fd_fewest ["shelf", "stand", "wish"] (sp_fewest K) := by
  have G_need_both := ok_need_both (P := P) (w := w) (base := base) T
  have G_shortest_row := ok_shortest_row (P := P) (w := w) (base := base) T
  refine T.F_fewest.ok sc_fewest (fun vs H Q E h => ?_) (fun cdv A outer s H vs Q E hr h => ?_)
  · obtain ⟨_, _, _, _, _, _, _, rfl, _⟩ := h
    rfl
  · obtain ⟨v, u, t, room, ls, y, w, rfl, hv, sh, hu, ht, riy, riw, q⟩ := h
    refine ⟨_, (pss_cons (ps_expr (pe_call (G_need_both.mono (by first | decide | omega)) hr (by rfl) T.g_need_both T.F_need_both.kp T.b_need_both .nil pass0 (pa_cons (pv 0) (pa_cons (pv 1) (pa_cons (pv 2) pa_nil)))))
      (pss_one (ps_ret (pe_callB call_len_seq (by rfl) T.n_len (by decide +kernel) (pa_cons (pe_call (G_shortest_row.mono (by first | decide | omega)) hr (by rfl) T.g_shortest_row T.F_shortest_row.kp T.b_shortest_row .nil pass0 (pa_cons (pv 0) (pa_cons (pv 1) (pa_cons (pv 2) pa_nil)))) pa_nil))))), ?_⟩
    refine ⟨v, rfl, u, rfl, t, rfl, v, u, t, room, ls, _, _, rfl, hv, sh, hu, isStand_ok riy sh.lo, ht, isStand_ok riw sh.lo, fun H1 s1 => ?_⟩
    refine ⟨v, rfl, u, rfl, t, rfl, v, u, t, room, ls, y, w, rfl, Dpm s1 hv, sh.n8, Dpm s1 hu, Dpm s1 ht, riy, riw, fun c H2 r us s2 nc hc al bst => ?_⟩
    have := dpAll_len al
    rw [List.length_map] at this
    refine ⟨c, us, rfl, .inl (.inl (.inl hc)), ?_⟩
    rw [this]
    exact q H2 r (s1.trans s2) bst
end PS

namespace PS
open PySem PySem.Spec PyProof.Rows L2
variable {P : Program} {w : World} {K : PySem.W.Frag} {mg : Str → Option Value} {base : Heap}
def sp_pushes_to (K : PySem.W.Frag) : Sp := fun vs H Q _ => ∃ v u t room ls y w, vs = [v, u, t] ∧ Dp K H v (shD room ls) ∧ ShOk room ls ∧ Dp K H u (tI (stL ls y)) ∧ Dp K H t (tI (stL ls w)) ∧ Rise ls.length (room - ls.sum) y ∧ Rise ls.length (room - ls.sum) w ∧
  ∀ c H' r us, Same H H' → H c = none → H' c = some (.lst us) → DpAll K (Off c H') us (r.map (puD ls)) → Best ls.length (room - ls.sum) y w r → Q (.ref c) H'
theorem ok_pushes_to (T : Tx K mg) : FnOk P w K mg base CX0 9 T.f_pushes_to T.fd_pushes_to ["shelf", "stand", "wish"] (sp_pushes_to K) := by
  have G_need_both := ok_need_both (P := P) (w := w) (base := base) T
  have G_shortest_row := ok_shortest_row (P := P) (w := w) (base := base) T
  refine T.F_pushes_to.ok sc_pushes_to (fun vs H Q E h => ?_) (fun cdv A outer s H vs Q E hr h => ?_)
  · obtain ⟨_, _, _, _, _, _, _, rfl, _⟩ := h
    rfl
  · obtain ⟨v, u, t, room, ls, y, w, rfl, hv, sh, hu, ht, riy, riw, q⟩ := h
    refine ⟨_, (pss_cons (ps_expr (pe_call (G_need_both.mono (by first | decide | omega)) hr (by rfl) T.g_need_both T.F_need_both.kp T.b_need_both .nil pass0 (pa_cons (pv 0) (pa_cons (pv 1) (pa_cons (pv 2) pa_nil)))))
      (pss_one (ps_ret (pe_call (G_shortest_row.mono (by first | decide | omega)) hr (by rfl) T.g_shortest_row T.F_shortest_row.kp T.b_shortest_row .nil pass0 (pa_cons (pv 0) (pa_cons (pv 1) (pa_cons (pv 2) pa_nil))))))), ?_⟩
    refine ⟨v, rfl, u, rfl, t, rfl, v, u, t, room, ls, _, _, rfl, hv, sh, hu, isStand_ok riy sh.lo, ht, isStand_ok riw sh.lo, fun H1 s1 => ?_⟩
    exact ⟨v, rfl, u, rfl, t, rfl, v, u, t, room, ls, y, w, rfl, Dpm s1 hv, sh.n8, Dpm s1 hu, Dpm s1 ht, riy, riw, fun c H2 r us s2 nc hc al bst => q c H2 r us (s1.trans s2) (s1.free nc) hc al bst⟩
end PS

namespace PS
open PySem PySem.Spec PyProof.Rows L2
variable {P : Program} {w : World} {K : PySem.W.Frag} {mg : Str → Option Value} {base : Heap}
/-! ### choices -/
def sp_choices (K : PySem.W.Frag) : Sp := fun vs H Q _ => ∃ t m : Nat, vs = [.int (t : Int), .int (m : Int)] ∧ m ≤ t + 1 ∧ t ≤ 100000 ∧ Q (.int (ch t m : Nat)) H
theorem ch_div {t i : Nat} (h : i ≤ t) : ((ch t i : Int) * ((t : Int) - (i : Int))).fdiv ((i : Int) + 1) = (ch t (i + 1) : Nat) := by
  have e := ch_step h
  have e2 : (ch t i : Int) * ((t : Int) - (i : Int)) = (ch t (i + 1) : Int) * ((i : Int) + 1) := by
    rw [show (t : Int) - (i : Int) = ((t - i : Nat) : Int) from by omega, show (i : Int) + 1 = ((i + 1 : Nat) : Int) from by omega, ← Int.natCast_mul, ← Int.natCast_mul, e]
  rw [e2]
  exact Int.mul_fdiv_cancel _ (by omega)
theorem ok_choices (T : Tx K mg) : FnOk P w K mg base CX0 1 T.f_choices T.fd_choices ["total", "many"] (sp_choices K) := by
  refine T.F_choices.ok sc_choices (fun vs H Q E h => ?_) (fun cdv A outer s H vs Q E hr h => ?_)
  · obtain ⟨_, _, rfl, _⟩ := h
    rfl
  · obtain ⟨t, m, rfl, mt, tb, q⟩ := h
    refine ⟨_, (pss_cons (ps_set (i := 2) sc_choices.nd rfl (.inl rfl) pe_int)
      (pss_cons (ps_for PassesOwn.never rfl (pi_range1 (by rfl) T.n_range (pa_cons (pv 1) pa_nil)) (pg_name (i := 3) sc_choices.nd rfl (.inl rfl))
      (pss_one (ps_set (i := 2) sc_choices.nd rfl (.inl rfl) (pe_op op_fdivN (pe_op op_mul (pv 2) (pe_op op_sub (pv 0) (pv 3))) (pe_op op_add (pv 3) pe_int)))))
      (pss_one (ps_ret (pv 2))))), ?_⟩
    refine ⟨_, rfl, _, rfl, by omega, by omega, ?_⟩
    refine for_range (lo := 0) (n := ((m : Nat) : Int).toNat) (fun i σ H' => H' = H ∧ ∃ y3, σ = [some (.int (t : Int)), some (.int (m : Int)), some (.int (ch t i : Nat)), y3]) ⟨rfl, none, by rw [ch_zero]; rfl⟩ (fun i σ H' hi p => ?_) (fun σ H' p => ?_)
    · obtain ⟨rfl, y3, rfl⟩ := p
      have hit : i ≤ t := by omega
      refine ⟨_, rfl, _, rfl, _, rfl, _, _, rfl, rfl, _, _, rfl, rfl, .inr ⟨by omega, by omega⟩, _, rfl, _, _, rfl, rfl, _, _, rfl, rfl, ⟨by omega, by omega⟩, rfl, some (.int (0 + (i : Int))), ?_⟩
      dsimp only
      rw [show (0 : Int) + (i : Int) = (i : Int) from by omega, ch_div hit]
      rfl
    · obtain ⟨rfl, y3, rfl⟩ := p
      exact ⟨_, rfl, by simpa using q⟩
/-! ### stands, doings -/
def sp_stands (K : PySem.W.Frag) : Sp := fun vs H Q _ => ∃ v room ls, vs = [v] ∧ Dp K H v (shD room ls) ∧ ShOk room ls ∧ RI H Q (ch ((room - ls.sum).toNat + ls.length) ls.length : Nat)
theorem tot_nat {room : Int} {ls : List Int} (sh : ShOk room ls) : room - ls.sum + ((ls.length : Nat) : Int) = (((room - ls.sum).toNat + ls.length : Nat) : Int) := by
  have := sh.lo
  omega
theorem ok_stands (T : Tx K mg) : FnOk P w K mg base CX0 6 T.f_stands T.fd_stands ["shelf"] (sp_stands K) := by
  have G_need_shelf := ok_need_shelf (P := P) (w := w) (base := base) T
  have G_play_of := ok_play_of (P := P) (w := w) (base := base) T
  have G_choices := ok_choices (P := P) (w := w) (base := base) T
  refine T.F_stands.ok sc_stands (fun vs H Q E h => ?_) (fun cdv A outer s H vs Q E hr h => ?_)
  · obtain ⟨_, _, _, rfl, _⟩ := h
    rfl
  · obtain ⟨v, room, ls, rfl, hv, sh, q⟩ := h
    refine ⟨_, (pss_cons (ps_expr (pe_call (G_need_shelf.mono (by first | decide | omega)) hr (by rfl) T.g_need_shelf T.F_need_shelf.kp T.b_need_shelf .nil pass0 (pa_cons (pv 0) pa_nil)))
      (pss_cons (ps_set (i := 1) sc_stands.nd rfl (.inl rfl) (pe_callB call_len_seq (by rfl) T.n_len (by decide +kernel) (pa_cons (pe_ix ix_tup (pv 0) pe_int (fun _ _ => rfl)) pa_nil)))
      (pss_one (ps_ret (pe_call (G_choices.mono (by first | decide | omega)) hr (by rfl) T.g_choices T.F_choices.kp T.b_choices .nil pass0 (pa_cons (pe_op op_add (pe_call (G_play_of.mono (by first | decide | omega)) hr (by rfl) T.g_play_of T.F_play_of.kp T.b_play_of .nil pass0 (pa_cons (pv 0) pa_nil)) (pv 1)) (pa_cons (pv 1) pa_nil))))))), ?_⟩
    refine ⟨v, rfl, v, _, rfl, hv, isShelf_ok sh, fun H1 s1 => ?_⟩
    obtain ⟨a, b, rfl, sa, sb⟩ := dp_shelf (Dpm s1 hv)
    refine ⟨.ref a, rfl, a, _, 1, _, rfl, rfl, sa, atI_nat (j := 1) rfl, b, _, rfl, .inr sb, ?_⟩
    rw [iV_len]
    refine ⟨_, rfl, .ref a, room, ls, rfl, Dpm s1 hv, _, rfl, _, _, rfl, rfl, _, rfl, ?_⟩
    have n8 := sh.n8
    have hi := sh.hi
    have lo := sh.lo
    refine ⟨(room - ls.sum).toNat + ls.length, ls.length, ?_, by omega, by omega, q H1 s1⟩
    dsimp only
    rw [tot_nat sh]
    rfl
def sp_doings (K : PySem.W.Frag) : Sp := fun vs H Q _ => ∃ v room ls, vs = [v] ∧ Dp K H v (shD room ls) ∧ ShOk room ls ∧ RI H Q ((ch ((room - ls.sum).toNat + ls.length) ls.length : Int) * (ch ((room - ls.sum).toNat + ls.length) ls.length : Int) - (ch ((room - ls.sum).toNat + ls.length) (ls.length - 1) : Int) * (ch ((room - ls.sum).toNat + ls.length) (ls.length + 1) : Int))
theorem ch_wide {t : Nat} (h : t ≤ 408) (a b : Nat) : CMulW (ch t a : Nat) (ch t b : Nat) := by
  have lt : ∀ k : Nat, ((ch t k : Nat) : Int).natAbs < 2 ^ 409 := fun k => by
    rw [Int.natAbs_natCast]
    exact Nat.lt_of_le_of_lt (ch_le t k) (Nat.pow_lt_pow_right (by decide) (by omega))
  exact wide_mul (lt a) (lt b) (by decide) (by decide) (by decide)
end PS

namespace PS
open PySem PySem.Spec PyProof.Rows L2
variable {P : Program} {w : World} {K : PySem.W.Frag} {mg : Str → Option Value} {base : Heap}
/-! ### the deck -/
def Dk (k : Addr) (H : Hp) (n : Nat) : Prop := ∃ a b c : Int, H k = some (.lst [.int a, .int b, .int c]) ∧ 0 ≤ b ∧ b < 2147483579 ∧ 0 ≤ c ∧ c + (n : Int) ≤ 1073741824
theorem Dk.le {k : Addr} {H : Hp} {n m : Nat} (h : Dk k H n) (e : m ≤ n) : Dk k H m := by
  obtain ⟨a, b, c, h1, h2, h3, h4, h5⟩ := h
  exact ⟨a, b, c, h1, h2, h3, h4, by omega⟩
theorem Dk.lst {k : Addr} {H : Hp} {n : Nat} (h : Dk k H n) : ∃ l, H k = some (.lst l) := by
  obtain ⟨a, b, c, h1, _⟩ := h
  exact ⟨_, h1⟩
theorem Dk.same {k : Addr} {H H' : Hp} {n : Nat} (h : Dk k H n) (s : Same H H') : Dk k H' n := by
  obtain ⟨a, b, c, h1, h2⟩ := h
  exact ⟨a, b, c, s _ _ h1, h2⟩
theorem Dk.ne {k : Addr} {H : Hp} {n : Nat} (h : Dk k H n) {p : Addr} (np : H p = none) : p ≠ k := by
  obtain ⟨a, b, c, h1, _⟩ := h
  exact (ne_of_none h1 np).symm
theorem fmod_in {a b : Int} (h : 0 < b) : 0 ≤ a.fmod b ∧ a.fmod b < b := ⟨Int.fmod_nonneg_of_pos a h, Int.fmod_lt_of_pos a h⟩
def sp_deck (K : PySem.W.Frag) : Sp := fun vs H Q _ => ∃ c t : Int, vs = [.int c, .int t] ∧ 0 ≤ t ∧ t ≤ 1000 ∧ ∀ p H', Same H H' → H p = none → Dk p H' 1000000 → Q (.ref p) H'
theorem ok_law_deck (T : Tx K mg) : FnOk P w K mg base CX0 1 T.f_law_deck T.fd_law_deck ["cell", "turn"] (sp_deck K) := by
  refine T.F_law_deck.ok sc_law_deck (fun vs H Q E h => ?_) (fun cdv A outer s H vs Q E hr h => ?_)
  · obtain ⟨c, t, rfl, _⟩ := h
    rfl
  · obtain ⟨c, t, rfl, t0, t1, q⟩ := h
    refine ⟨_, (pss_cons (ps_if (pt_cmpR op_ge (pv 0) (pe_op op_pow pe_int pe_int) (nomark _)) (pss_one (ps_ret (pe_lst (pa_cons (pe_op op_sub (pv 0) (pe_op op_pow pe_int pe_int)) (pa_cons (pe_op op_modN (pv 0) pe_int) (pa_cons (pv 1) pa_nil)))))) pss_nil)
      (pss_one (ps_ret (pe_lst (pa_cons pe_int (pa_cons (pe_op op_modN (pv 0) pe_int) (pa_cons (pv 1) pa_nil))))))), ?_⟩
    have m := fmod_in (a := c) (b := 2147483579) (by decide)
    have fin : ∀ (z : Int) (p : Addr), H p = none → Q (.ref p) (upd H p (.lst [.int z, .int (c.fmod 2147483579), .int t])) := fun z p np =>
      q p _ (same_new np) np ⟨z, _, t, upd_same, m.1, m.2, t0, by omega⟩
    refine ⟨_, rfl, _, _, rfl, rfl, ⟨by decide, by decide, by decide⟩, _, _, rfl, rfl, _, rfl, ite2 (fun _ => ?_) (fun _ => ?_)⟩
    · exact ⟨_, rfl, _, _, rfl, rfl, ⟨by decide, by decide, by decide⟩, _, _, rfl, rfl, _, rfl, _, _, rfl, rfl, (show (2147483579 : Int) ≠ 0 by decide), _, rfl, by show 3 ≤ sizeLine; decide, fun p np => fin _ p np⟩
    · exact ⟨_, rfl, _, _, rfl, rfl, (show (2147483579 : Int) ≠ 0 by decide), _, rfl, by show 3 ≤ sizeLine; decide, fun p np => fin _ p np⟩
def sp_pick (K : PySem.W.Frag) : Sp := fun vs H Q _ => ∃ (k : Addr) (m : Int) (n : Nat), vs = [.ref k, .int m] ∧ 0 < m ∧ m < 1000000 ∧ Dk k H (n + 1) ∧ ∀ r H', 0 ≤ r → r < m → Dk k H' n → Same (Off k H) (Off k H') → Q (.int r) H'
theorem off_upd {k : Addr} {H : Hp} {o : HO} : Off k (upd H k o) = Off k H := by
  funext b
  unfold Off
  split
  · rfl
  · rename_i n
    rw [upd_ne n]
theorem ok_law_pick (T : Tx K mg) : FnOk P w K mg base CX0 1 T.f_law_pick T.fd_law_pick ["deck", "size"] (sp_pick K) := by
  refine T.F_law_pick.ok sc_law_pick (fun vs H Q E h => ?_) (fun cdv A outer s H vs Q E hr h => ?_)
  · obtain ⟨k, m, n, rfl, _⟩ := h
    rfl
  · obtain ⟨k, m, n, rfl, m0, m1, ⟨a, b, c, hk, b0, b1, c0, c1⟩, q⟩ := h
    refine ⟨_, (pss_cons (ps_if (pt_cmpR op_gt (pe_ix ix_list (pv 0) pe_int (fun _ _ => rfl)) pe_int (nomark _)) (pss_cons (ps_set (i := 2) sc_law_pick.nd rfl (.inl rfl) (pe_op op_modN (pe_ix ix_list (pv 0) pe_int (fun _ _ => rfl)) (pv 1)))
      (pss_cons (ps_asg (pe_op op_fdivN (pe_ix ix_list (pv 0) pe_int (fun _ _ => rfl)) (pv 1)) (pg_sub (pv 0) pe_int set_list))
      (pss_one (ps_ret (pv 2))))) pss_nil)
      (pss_cons (ps_asg (pe_op op_add (pe_ix ix_list (pv 0) pe_int (fun _ _ => rfl)) pe_int) (pg_sub (pv 0) pe_int set_list))
      (pss_cons (ps_set (i := 3) sc_law_pick.nd rfl (.inl rfl) (pe_op op_modN (pe_op op_pow (pe_op op_add (pe_ix ix_list (pv 0) pe_int (fun _ _ => rfl)) (pe_op op_mul pe_int (pe_ix ix_list (pv 0) pe_int (fun _ _ => rfl)))) pe_int) pe_int))
      (pss_cons (ps_set (i := 2) sc_law_pick.nd rfl (.inl rfl) (pe_op op_fdivN (pe_op op_modN (pe_op op_pow (pe_op op_add (pv 3) (pe_op op_mul pe_int (pe_ix ix_list (pv 0) pe_int (fun _ _ => rfl)))) pe_int) pe_int) pe_int))
      (pss_one (ps_ret (pe_op op_modN (pv 2) (pv 1)))))))), ?_⟩
    refine ⟨.ref k, rfl, k, _, 0, _, rfl, rfl, .inl (.inl hk), atI_nat (j := 0) rfl, _, _, rfl, rfl, _, rfl, ite2 (fun _ => ?_) (fun _ => ?_)⟩
    · refine ⟨.ref k, rfl, k, _, 0, _, rfl, rfl, .inl (.inl hk), atI_nat (j := 0) rfl, _, rfl, _, _, rfl, rfl, by omega, ?_⟩
      refine ⟨.ref k, rfl, k, _, 0, _, rfl, rfl, .inl (.inl hk), atI_nat (j := 0) rfl, _, rfl, _, _, rfl, rfl, ⟨by omega, by omega⟩, ?_⟩
      refine ⟨.ref k, rfl, k, _, 0, 0, rfl, rfl, hk, rfl, ?_⟩
      refine ⟨_, rfl, ?_⟩
      have mm := fmod_in (a := a) m0
      exact q _ _ mm.1 mm.2 ⟨_, b, c, upd_same, b0, b1, c0, by omega⟩ (by rw [off_upd]; exact Same.refl _)
    · refine ⟨.ref k, rfl, k, _, 2, _, rfl, rfl, .inl (.inl hk), atI_nat (j := 2) rfl, _, _, rfl, rfl, ?_⟩
      refine ⟨.ref k, rfl, k, _, 2, 2, rfl, rfl, hk, rfl, ?_⟩
      have hk1 : upd H k (.lst ([V.int a, V.int b, V.int c].set 2 (V.int (c + 1)))) k = some (.lst [.int a, .int b, .int (c + 1)]) := upd_same
      refine ⟨.ref k, rfl, k, _, 1, _, rfl, rfl, .inl (.inl hk1), atI_nat (j := 1) rfl, .ref k, rfl, k, _, 2, _, rfl, rfl, .inl (.inl hk1), atI_nat (j := 2) rfl, _, _, rfl, rfl, .inl ⟨by decide, by decide⟩, _, _, rfl, rfl, _, _, rfl, rfl, ⟨by decide, by decide, by omega⟩, _, _, rfl, rfl, (show (2147483647 : Int) ≠ 0 by decide), ?_⟩
      have m2 := fmod_in (a := (b + 15485867 * (c + 1)) ^ (5 : Int).toNat) (b := 2147483647) (by decide)
      refine ⟨_, rfl, .ref k, rfl, k, _, 2, _, rfl, rfl, .inl (.inl hk1), atI_nat (j := 2) rfl, _, _, rfl, rfl, .inl ⟨by decide, by decide⟩, _, _, rfl, rfl, _, _, rfl, rfl, ⟨by decide, by decide, by omega⟩, _, _, rfl, rfl, (show (2147483629 : Int) ≠ 0 by decide), _, _, rfl, rfl, (show (32 : Int) ≠ 0 ∧ (32 : Int).natAbs < 1073741824 by decide), ?_⟩
      refine ⟨_, rfl, _, rfl, _, _, rfl, rfl, by omega, ?_⟩
      have mm := fmod_in (a := (((((b + 15485867 * (c + 1)) ^ (5 : Int).toNat).fmod 2147483647 + 7919 * (c + 1)) ^ (3 : Int).toNat).fmod 2147483629).fdiv 32) m0
      exact q _ _ mm.1 mm.2 ⟨a, b, c + 1, hk1, b0, b1, by omega, by omega⟩ (by rw [off_upd]; exact Same.refl _)
def sp_one (K : PySem.W.Frag) : Sp := fun vs H Q _ => ∃ (k a : Addr) (xs : List V) (n : Nat), vs = [.ref k, .ref a] ∧ SqL K (Off k H) a xs ∧ 0 < xs.length ∧ xs.length < 1000 ∧ Dk k H (n + 1) ∧ ∀ x H', x ∈ xs → Dk k H' n → Same (Off k H) (Off k H') → Q x H'
theorem ok_law_one (T : Tx K mg) : FnOk P w K mg base CX0 2 T.f_law_one T.fd_law_one ["deck", "some"] (sp_one K) := by
  have G_law_pick := ok_law_pick (P := P) (w := w) (base := base) T
  refine T.F_law_one.ok sc_law_one (fun vs H Q E h => ?_) (fun cdv A outer s H vs Q E hr h => ?_)
  · obtain ⟨k, a, xs, n, rfl, _⟩ := h
    rfl
  · obtain ⟨k, a, xs, n, rfl, hs, l0, l1, dk, q⟩ := h
    refine ⟨_, (pss_one (ps_ret (pe_ix ix_list (pv 1) (pe_call (G_law_pick.mono (by first | decide | omega)) hr (by rfl) T.g_law_pick T.F_law_pick.kp T.b_law_pick .nil pass0 (pa_cons (pv 0) (pa_cons (pe_callB call_len_seq (by rfl) T.n_len (by decide +kernel) (pa_cons (pv 1) pa_nil)) pa_nil))) (fun _ _ => rfl)))), ?_⟩
    refine ⟨.ref a, rfl, .ref k, rfl, .ref a, rfl, a, xs, rfl, .inl ((off_same k H).seq hs), k, _, n, rfl, by omega, by omega, dk, fun r H' r0 r1 dk' sm => ?_⟩
    have hr' : r.toNat < xs.length := by omega
    have hx : xs[r.toNat]? = some xs[r.toNat] := List.getElem?_eq_getElem hr'
    exact ⟨a, xs, r, _, rfl, rfl, ((off_same k H').seq (sm.seq hs)), at_of (j := r.toNat) (by omega) hx, q _ _ (List.mem_of_getElem? hx) dk' sm⟩
def sortD : PyData → Int
  | .bool _ => 1 | .int _ => 2 | .str _ => 3 | .list _ => 4 | .tuple _ => 5 | _ => 6
def sp_sort (K : PySem.W.Frag) : Sp := fun vs H Q _ => ∃ v d, vs = [v] ∧ Dp K H v d ∧ Q (.int (sortD d)) H
theorem ok_law_sort (T : Tx K mg) : FnOk P w K mg base CX0 1 T.f_law_sort T.fd_law_sort ["thing"] (sp_sort K) := by
  refine T.F_law_sort.ok sc_law_sort (fun vs H Q E h => ?_) (fun cdv A outer s H vs Q E hr h => ?_)
  · obtain ⟨v, d, rfl, _⟩ := h
    rfl
  · obtain ⟨v, d, rfl, hd, q⟩ := h
    refine ⟨_, (pss_cons (ps_if (pt_val (pe_callB call_isD (by rfl) T.n_isinstance (by decide +kernel) (pa_cons (pv 0) (pa_cons (pe_bltn (v := .ty "bool") (by rfl) T.n_bool (by decide +kernel) rfl) pa_nil)))) (pss_one (ps_ret pe_int)) pss_nil)
      (pss_cons (ps_if (pt_val (pe_callB call_isD (by rfl) T.n_isinstance (by decide +kernel) (pa_cons (pv 0) (pa_cons (pe_bltn (v := .ty "int") (by rfl) T.n_int (by decide +kernel) rfl) pa_nil)))) (pss_one (ps_ret pe_int)) pss_nil)
      (pss_cons (ps_if (pt_val (pe_callB call_isD (by rfl) T.n_isinstance (by decide +kernel) (pa_cons (pv 0) (pa_cons (pe_bltn (v := .ty "str") (by rfl) T.n_str (by decide +kernel) rfl) pa_nil)))) (pss_one (ps_ret pe_int)) pss_nil)
      (pss_cons (ps_if (pt_val (pe_callB call_isD (by rfl) T.n_isinstance (by decide +kernel) (pa_cons (pv 0) (pa_cons (pe_bltn (v := .ty "list") (by rfl) T.n_list (by decide +kernel) rfl) pa_nil)))) (pss_one (ps_ret pe_int)) pss_nil)
      (pss_one (ps_ret (pe_ifExp (pt_val (pe_callB call_isD (by rfl) T.n_isinstance (by decide +kernel) (pa_cons (pv 0) (pa_cons (pe_bltn (v := .ty "tuple") (by rfl) T.n_tuple (by decide +kernel) rfl) pa_nil)))) pe_int pe_int))))))), ?_⟩
    refine ⟨v, rfl, v, _, d, rfl, hd, kBool d, _, rfl, ?_⟩
    rw [isA_bool]
    refine ite2 (fun e => ?_) (fun e => ⟨v, rfl, v, _, d, rfl, hd, kInt d, _, rfl, ?_⟩)
    · cases d <;> simp [isB] at e <;> exact q
    rw [isA_int]
    refine ite2 (fun e2 => ?_) (fun e2 => ⟨v, rfl, v, _, d, rfl, hd, kStr d, _, rfl, ?_⟩)
    · cases d <;> simp [isB, isIB] at e e2 <;> exact q
    rw [isA_str]
    refine ite2 (fun e3 => ?_) (fun e3 => ⟨v, rfl, v, _, d, rfl, hd, kList d, _, rfl, ?_⟩)
    · cases d <;> simp [isS] at e3 <;> exact q
    rw [isA_list]
    refine ite2 (fun e4 => ?_) (fun e4 => ⟨v, rfl, v, _, d, rfl, hd, kTuple d, _, rfl, ?_⟩)
    · cases d <;> simp [isL] at e4 <;> exact q
    rw [isA_tuple]
    refine ite2 (fun e5 => ?_) (fun e5 => ?_)
    · cases d <;> simp [isT] at e5 <;> exact q
    · cases d <;> simp [isB, isIB, isS, isL, isT] at e e2 e3 e4 e5 <;> exact q
def sp_same (K : PySem.W.Frag) (n : Nat) : Sp := fun vs H Q _ => ∃ v u d, vs = [v, u] ∧ Dp K H v d ∧ Dp K H u d ∧ d.depth < n ∧ RB H Q true
theorem same_step (T : Tx K mg) {n k : Nat} (hk : 1 ≤ k) (G_law_same : FnOk P w K mg base CX0 k T.f_law_same T.fd_law_same ["told", "due"] (sp_same K n)) : FnOk P w K mg base CX0 (k + 1) T.f_law_same T.fd_law_same ["told", "due"] (sp_same K (n + 1)) := by
  have G_law_sort := ok_law_sort (P := P) (w := w) (base := base) T
  refine T.F_law_same.ok sc_law_same (fun vs H Q E h => ?_) (fun cdv A outer s H vs Q E hr h => ?_)
  · obtain ⟨v, u, d, rfl, _⟩ := h
    rfl
  · obtain ⟨v, u, d, rfl, hv, hu, hd, q⟩ := h
    refine ⟨_, (pss_cons (ps_if (pt_cmpR op_ne (pe_call (G_law_sort.mono (by first | decide | omega)) hr (by rfl) T.g_law_sort T.F_law_sort.kp T.b_law_sort .nil pass0 (pa_cons (pv 0) pa_nil)) (pe_call (G_law_sort.mono (by first | decide | omega)) hr (by rfl) T.g_law_sort T.F_law_sort.kp T.b_law_sort .nil pass0 (pa_cons (pv 1) pa_nil)) (nomark _)) (pss_one (ps_ret pe_bl)) pss_nil)
      (pss_cons (ps_if (PW.pt (pw_and (pt_cmpR op_gt (pe_call (G_law_sort.mono (by first | decide | omega)) hr (by rfl) T.g_law_sort T.F_law_sort.kp T.b_law_sort .nil pass0 (pa_cons (pv 0) pa_nil)) pe_int (nomark _)) (pw_and1 (pt_cmpR op_lt (pe_call (G_law_sort.mono (by first | decide | omega)) hr (by rfl) T.g_law_sort T.F_law_sort.kp T.b_law_sort .nil pass0 (pa_cons (pv 0) pa_nil)) pe_int (nomark _))))) (pss_cons (ps_if (pt_cmpR op_ne (pe_callB call_len_seq (by rfl) T.n_len (by decide +kernel) (pa_cons (pv 0) pa_nil)) (pe_callB call_len_seq (by rfl) T.n_len (by decide +kernel) (pa_cons (pv 1) pa_nil)) (nomark _)) (pss_one (ps_ret pe_bl)) pss_nil)
      (pss_one (ps_ret (pe_cmpR (op_eqP hr.units) (pe_lc (own := [("k", 2), ("part", 3)]) (g := gTup K 2 (gCons (gName 2) (gCons (gName 3) gNil))) rfl sc_law_same.nd (pi_enum1 (by rfl) T.n_enumerate (pa_cons (pv 0) pa_nil)) (blkOk_by (own := [("k", 2), ("part", 3)]) (N := ["told", "due", "k", "part"]) (sc := defScope s_law_same) (by decide +kernel)) (fun _ _ _ _ _ => (pg_tup rfl (pgs_cons (pg_name (i := 2) sc_law_same.nd rfl (.inl rfl)) (pgs_cons (pg_name (i := 3) sc_law_same.nd rfl (.inl rfl)) pgs_nil)))) (fun _ _ _ _ _ => pts_one (pt_not (pt_val (pe_call (G_law_same.mono (by first | decide | omega)) hr (by rfl) T.g_law_same T.F_law_same.kp T.b_law_same .nil pass0 (pa_cons (pv 3) (pa_cons (pe_ix (show IxR _ (rIx K) from ix_seq) (pv 1) (pv 2) (fun _ _ => rfl)) pa_nil)))))) (fun _ _ _ _ _ => (pv 2))) (pe_lst pa_nil) (nomark _))))) pss_nil)
      (pss_one (ps_ret (pe_cmpR (op_eqP hr.units) (pv 0) (pv 1) (nomark _)))))), ?_⟩
    refine ⟨v, rfl, v, d, rfl, hv, u, rfl, u, d, rfl, hu, rfl, _, rfl, ?_⟩
    rw [decide_eq_true (show V.int (sortD d) = V.int (sortD d) from rfl)]
    refine iteF ⟨v, rfl, v, d, rfl, hv, _, _, rfl, rfl, _, rfl, ?_⟩
    have comp : ∀ (b : Bool) (a c : Addr) (xs ys : List V) (ds : List PyData), v = .ref a → u = .ref c → SqK b K H a xs → SqK b K H c ys → DpAll K H xs ds → DpAll K H ys ds → (∀ d ∈ ds, d.depth < n) →
        tOp (rEqP K) (tLc (iEnum1 K (tCons (tVar 0) tNil)) (gTup K 2 (gCons (gName 2) (gCons (gName 3) gNil))) (tNot (tB (tCall (sp_same K n) [] E0 (tCons (tVar 3) (tCons (fun σ H Q => tVar 1 σ H fun x H1 => tVar 2 σ H1 fun y H2 => rIx K x y H2 Q) tNil))))) (tVar 2) [2, 3]) (tLst tNil) (start ["told", "due", "k", "part"] [v, u]) H Q := by
      intro b a c xs ys ds ev eu s1 s2 a1 a2 hdep
      subst ev eu
      have l1 := dpAll_len a1
      have l2 := dpAll_len a2
      refine ⟨_, rfl, b, a, xs, rfl, s1, fun D nD => ?_⟩
      refine lc_it (walk_1 (n := ds.length) (xs := xs) (by omega)) (fun i H' => Same H H' ∧ H' D = some (.lst [])) ⟨same_new nD, upd_same⟩ (fun i H' _ p => ?_) (fun i x H' H2 hi p y => ?_) (fun H' p => ?_)
      · cases b
        · exact seqT_mono p.1 s1
        · exact p.1.seq s1
      · obtain ⟨Tt, x, rfl, nT, rfl, hx⟩ := y
        have s3 : Same H (upd H' Tt (.tup [.int (i : Nat), x])) := p.1.trans (same_new nT)
        obtain ⟨d1, e1, h1⟩ := dpAll_get a1 hx
        obtain ⟨y, hy, h2⟩ := dpAll_at a2 e1
        refine ⟨Tt, _, rfl, .inl (.inl upd_same), rfl, _, _, rfl, _, [], rfl, rfl, ?_⟩
        refine ⟨rfl, x, rfl, .ref c, rfl, _, rfl, ?_⟩
        have hD' : upd H' Tt (.tup [.int (i : Nat), x]) D = some (.lst []) := by
          rw [upd_ne (ne_of_none p.2 nT)]
          exact p.2
        have dd := hdep d1 (List.mem_of_getElem? e1)
        cases b
        · exact .inr (.inl ⟨c, ys, _, y, rfl, rfl, seqT_mono s3 s2, atI_nat hy, x, y, d1, rfl, Dpm s3 h1, Dpm s3 h2, dd, fun H3 s4 => ⟨true, rfl, iteF ⟨s3.trans s4, s4 _ _ hD'⟩⟩⟩)
        · exact .inl ⟨c, ys, _, y, rfl, rfl, s3.seq s2, atI_nat hy, x, y, d1, rfl, Dpm s3 h1, Dpm s3 h2, dd, fun H3 s4 => ⟨true, rfl, iteF ⟨s3.trans s4, s4 _ _ hD'⟩⟩⟩
      · refine ⟨Nat.zero_le _, fun p2 np2 => ?_⟩
        have s5 := p.1.trans (same_new (o := .lst []) np2)
        refine ⟨.list [], .list [], .lst (.inl (.inl ?_)) .nil, .lst (.inl (.inl upd_same)) .nil, by simp [PyData.depth, PyData.depthAll], q _ s5⟩
        rw [upd_ne (ne_of_none p.2 np2)]
        exact p.2
    have flat : d.depth ≤ 64 → tOp (rEqP K) (tVar 0) (tVar 1) (start ["told", "due", "k", "part"] [v, u]) H Q := fun h64 => by
      refine ⟨v, rfl, u, rfl, d, d, hv, hu, h64, ?_⟩
      rw [eqv_self hv]
      exact q H (Same.refl H)
    cases d with
    | none => exact iteT ⟨v, rfl, v, _, rfl, hv, _, _, rfl, rfl, _, rfl, flat (by simp [PyData.depth])⟩
    | bool b => exact flat (by simp [PyData.depth])
    | int b => exact flat (by simp [PyData.depth])
    | str b => exact flat (by simp [PyData.depth])
    | dict b => cases hv
    | list ds =>
      obtain ⟨a, xs, rfl, s1, a1⟩ := dp_lst hv
      obtain ⟨c, ys, rfl, s2, a2⟩ := dp_lst hu
      refine iteT ⟨.ref a, rfl, .ref a, _, rfl, hv, _, _, rfl, rfl, _, rfl, ?_⟩
      refine iteT ⟨.ref a, rfl, a, xs, rfl, .inl s1, .ref c, rfl, c, ys, rfl, .inl s2, rfl, _, rfl, ?_⟩
      rw [dpAll_len a1, dpAll_len a2, decide_eq_true (show V.int (ds.length : Int) = V.int (ds.length : Int) from rfl)]
      refine iteF (comp true a c xs ys ds rfl rfl s1 s2 a1 a2 (fun x hx => ?_))
      have : PyData.depthAll ds + 1 < n + 1 := by simpa [PyData.depth] using hd
      have := depth_of_all (n := PyData.depthAll ds) ds (Nat.le_refl _) x hx
      omega
    | tuple ds =>
      obtain ⟨a, xs, rfl, s1, a1⟩ := dp_tup hv
      obtain ⟨c, ys, rfl, s2, a2⟩ := dp_tup hu
      refine iteT ⟨.ref a, rfl, .ref a, _, rfl, hv, _, _, rfl, rfl, _, rfl, ?_⟩
      refine iteT ⟨.ref a, rfl, a, xs, rfl, .inr s1, .ref c, rfl, c, ys, rfl, .inr s2, rfl, _, rfl, ?_⟩
      rw [dpAll_len a1, dpAll_len a2, decide_eq_true (show V.int (ds.length : Int) = V.int (ds.length : Int) from rfl)]
      refine iteF (comp false a c xs ys ds rfl rfl s1 s2 a1 a2 (fun x hx => ?_))
      have : PyData.depthAll ds + 1 < n + 1 := by simpa [PyData.depth] using hd
      have := depth_of_all (n := PyData.depthAll ds) ds (Nat.le_refl _) x hx
      omega
theorem ok_law_same (T : Tx K mg) : ∀ n : Nat, FnOk P w K mg base CX0 (n + 1) T.f_law_same T.fd_law_same ["told", "due"] (sp_same K n)
  | 0 => ⟨fun vs H Q E h => by
      obtain ⟨_, _, _, _, _, _, z, _⟩ := h
      omega, fun A outer s H args us vs Q E hr he hb hv h => by
      obtain ⟨_, _, _, _, _, _, z, _⟩ := h
      omega⟩
  | n + 1 => same_step T (Nat.succ_le_succ (Nat.zero_le n)) (ok_law_same T n)
end PS

namespace PS
open PySem PySem.Spec PyProof.Rows L2
variable {P : Program} {w : World} {K : PySem.W.Frag} {mg : Str → Option Value} {base : Heap}
theorem off_new {k p : Addr} {H : Hp} {o : HO} (np : H p = none) : Same (Off k H) (Off k (upd H p o)) := off_mono (same_new np)
theorem off_free {k p : Addr} {H : Hp} (np : H p = none) : Off k H p = none := by
  unfold Off
  split
  · rfl
  · exact np
theorem off_up {k p : Addr} {H : Hp} {o : HO} (n : p ≠ k) : Off k (upd H p o) p = some o := off_at n upd_same
theorem off_keep {k D : Addr} {H0 H : Hp} {o : HO} (s : Same (Off k H0) (Off k H)) (nD : H0 D = none) : Same (Off k H0) (Off k (upd H D o)) := fun b x e => by
  have nb : b ≠ D := ne_of_none e (off_free nD)
  have h := s b x e
  unfold Off at h ⊢
  split at h
  · cases h
  · rename_i nk
    rw [if_neg nk, upd_ne nb]
    exact h
/-! ### shelves -/
def sp_shelf (K : PySem.W.Frag) : Sp := fun vs H Q _ => ∃ (k : Addr) (m pl : Int) (n : Nat), vs = [.ref k, .int m, .int pl] ∧ 1 ≤ m ∧ m ≤ 8 ∧ 0 ≤ pl ∧ pl ≤ 400 ∧ Dk k H (n + 20) ∧
  ∀ v H' room ls, ShOk room ls → (ls.length : Int) ≤ m → room - ls.sum ≤ pl → Dk k H' n → Same (Off k H) (Off k H') → Dp K (Off k H') v (shD room ls) → Q v H'
theorem ok_law_shelf (T : Tx K mg) : FnOk P w K mg base CX0 3 T.f_law_shelf T.fd_law_shelf ["deck", "at_most", "play"] (sp_shelf K) := by
  have G_law_pick := ok_law_pick (P := P) (w := w) (base := base) T
  have G_law_one := ok_law_one (P := P) (w := w) (base := base) T
  refine T.F_law_shelf.ok sc_law_shelf (fun vs H Q E h => ?_) (fun cdv A outer s H vs Q E hr h => ?_)
  · obtain ⟨k, m, pl, n, rfl, _⟩ := h
    rfl
  · obtain ⟨k, m, pl, n, rfl, m1, m8, p0, p4, dk, q⟩ := h
    refine ⟨_, (pss_cons (ps_set (i := 3) sc_law_shelf.nd rfl (.inl rfl) (pe_callTy call_tuple_of (by rfl) T.n_tuple (by decide +kernel) (pa_cons (pe_lc (own := [("k", 4)]) (g := gName 4) (tt := tYes) rfl sc_law_shelf.nd (pi_range1 (by rfl) T.n_range (pa_cons (pe_op op_add pe_int (pe_call (G_law_pick.mono (by first | decide | omega)) hr (by rfl) T.g_law_pick T.F_law_pick.kp T.b_law_pick .nil pass0 (pa_cons (pv 0) (pa_cons (pv 1) pa_nil)))) pa_nil)) (blkOk_by (own := [("k", 4)]) (N := ["deck", "at_most", "play", "blocks", "k"]) (sc := defScope s_law_shelf) (by decide +kernel)) (fun _ _ _ _ _ => (pg_name (i := 4) sc_law_shelf.nd rfl (.inl rfl))) (fun _ _ _ _ _ => pts_nil) (fun _ _ _ _ _ => (pe_op op_add pe_int (pe_call (G_law_pick.mono (by first | decide | omega)) hr (by rfl) T.g_law_pick T.F_law_pick.kp T.b_law_pick .nil pass0 (pa_cons (pv 0) (pa_cons (pe_call (G_law_one.mono (by first | decide | omega)) hr (by rfl) T.g_law_one T.F_law_one.kp T.b_law_one .nil pass0 (pa_cons (pv 0) (pa_cons (pe_lst (pa_cons pe_int (pa_cons pe_int pa_nil))) pa_nil))) pa_nil)))))) pa_nil)))
      (pss_one (ps_ret (pe_tup (pa_cons (pe_op op_add (pe_callB (cr_sumT rfl) (by rfl) T.n_sum (by decide +kernel) (pa_cons (pv 3) pa_nil)) (pe_call (G_law_pick.mono (by first | decide | omega)) hr (by rfl) T.g_law_pick T.F_law_pick.kp T.b_law_pick .nil pass0 (pa_cons (pv 0) (pa_cons (pe_op op_add (pv 2) pe_int) pa_nil)))) (pa_cons (pv 3) pa_nil)))))), ?_⟩
    refine ⟨.ref k, rfl, .int m, rfl, k, m, n + 19, rfl, by omega, by omega, dk, fun r H1 r0 r1 dk1 s1 => ?_⟩
    refine ⟨_, _, rfl, rfl, _, rfl, by omega, by omega, fun D nD => ?_⟩
    refine lc_range (lo := 0) (n := (1 + r).toNat) (fun i H' => Same (Off k H1) (Off k H') ∧ Dk k H' (n + 19 - 2 * i) ∧ ∃ ns : List Int, H' D = some (.lst (iV ns)) ∧ ns.length = i ∧ ∀ l ∈ ns, 1 ≤ l ∧ l ≤ 50)
      ⟨off_new nD, dk1.same (same_new nD), [], upd_same, rfl, by simp⟩ (fun i H' hi p => ?_) (fun H' p => ?_)
    · obtain ⟨s2, dk2, ns, hD, hl, hb⟩ := p
      refine ⟨rfl, .ref k, rfl, .ref k, rfl, by show 2 ≤ sizeLine; decide, fun z nz => ?_⟩
      have nzk := dk2.ne nz
      refine ⟨k, z, [.int 3, .int 50], n + 17 - 2 * i + 1, rfl, .inl (.inl (off_up nzk)), by decide, by decide, (dk2.same (same_new nz)).le (by omega), fun x H3 hx dk3 s3 => ?_⟩
      have hx' : x = .int 3 ∨ x = .int 50 := by simpa using hx
      have fin : ∀ c : Int, 0 < c → c ≤ 50 → sp_pick K [.ref k, .int c] H3 (fun y H4 => ∃ i1 j1, (V.int 1) = .int i1 ∧ y = .int j1 ∧ ∃ acc, H4 D = some (.lst acc) ∧ acc.length < sizeLine ∧ Same (Off k H1) (Off k (upd H4 D (.lst (acc ++ [.int (i1 + j1)])))) ∧ Dk k (upd H4 D (.lst (acc ++ [.int (i1 + j1)]))) (n + 19 - 2 * (i + 1)) ∧ ∃ ns : List Int, upd H4 D (.lst (acc ++ [.int (i1 + j1)])) D = some (.lst (iV ns)) ∧ ns.length = i + 1 ∧ ∀ l ∈ ns, 1 ≤ l ∧ l ≤ 50) E0 := by
        intro c c0 c1
        refine ⟨k, c, n + 17 - 2 * i, rfl, c0, by omega, dk3, fun t H4 t0 t1 dk4 s4 => ?_⟩
        have nDk : D ≠ k := dk1.ne nD
        have sA : Same (Off k H') (Off k H4) := ((off_new nz).trans s3).trans s4
        have hD4 : H4 D = some (.lst (iV ns)) := off_back sA nDk hD
        have s5 : Same (Off k H1) (Off k H4) := s2.trans sA
        refine ⟨1, t, rfl, rfl, _, hD4, ?_, off_keep s5 nD, ?_, ns ++ [1 + t], ?_, ?_, ?_⟩
        · rw [List.length_map]
          exact small1000 (by omega)
        · obtain ⟨a, b, c, h1, h2⟩ := dk4.le (show n + 19 - 2 * (i + 1) ≤ n + 17 - 2 * i by omega)
          exact ⟨a, b, c, by rw [upd_ne nDk.symm]; exact h1, h2⟩
        · rw [upd_same]
          simp
        · rw [List.length_append, hl]
          rfl
        · intro l hl'
          rcases List.mem_append.mp hl' with z | z
          · exact hb l z
          · have : l = 1 + t := by simpa using z
            omega
      rcases hx' with rfl | rfl
      · exact fin 3 (by decide) (by decide)
      · exact fin 50 (by decide) (by decide)
    · obtain ⟨s2, dk2, ns, hD, hl, hb⟩ := p
      refine ⟨D, _, rfl, .inl ⟨.inl (.inl hD), fun t nt => ?_⟩⟩
      have hT : upd H' t (.tup (iV ns)) t = some (.tup (iV ns)) := upd_same
      have ntk := dk2.ne nt
      refine ⟨.ref t, rfl, t, ns, rfl, .inl (.inl hT), .ref k, rfl, _, rfl, _, _, rfl, rfl, k, pl + 1, n, rfl, by omega, by omega, (dk2.same (same_new nt)).le (by omega), fun r2 H4 r20 r21 dk4 s4 => ?_⟩
      refine ⟨_, _, rfl, rfl, .ref t, rfl, by show 2 ≤ sizeLine; decide, fun z nz => ?_⟩
      have h5 : Off k H4 t = some (.tup (iV ns)) := s4 _ _ (off_up ntk)
      have nzk := dk4.ne nz
      refine q (.ref z) _ (ns.sum + r2) ns ⟨by omega, by omega, hb, by omega, by omega⟩ (by omega) (by omega) (dk4.same (same_new nz)) (((s1.trans s2).trans (off_new nt)).trans (s4.trans (off_new nz))) ?_
      refine .tup (.inl (.inl (off_up nzk))) (.cons (.int _) (.cons (tI_dp (.inl (.inl ?_))) .nil))
      exact off_new nz _ _ h5
def sp_play (K : PySem.W.Frag) : Sp := fun vs H Q _ => ∃ v room ls, vs = [v] ∧ Dp K H v (shD room ls) ∧ Q (.int (room - ls.sum)) H
theorem ok_law_play (T : Tx K mg) : FnOk P w K mg base CX0 1 T.f_law_play T.fd_law_play ["shelf"] (sp_play K) := by
  refine T.F_law_play.ok sc_law_play (fun vs H Q E h => ?_) (fun cdv A outer s H vs Q E hr h => ?_)
  · obtain ⟨v, room, ls, rfl, _⟩ := h
    rfl
  · obtain ⟨v, room, ls, rfl, hv, q⟩ := h
    obtain ⟨a, b, rfl, sa, sb⟩ := dp_shelf hv
    refine ⟨_, (pss_one (ps_ret (pe_op op_sub (pe_ix ix_tup (pv 0) pe_int (fun _ _ => rfl)) (pe_callB (cr_sumT rfl) (by rfl) T.n_sum (by decide +kernel) (pa_cons (pe_ix ix_tup (pv 0) pe_int (fun _ _ => rfl)) pa_nil))))), ?_⟩
    exact ⟨.ref a, rfl, a, _, 0, _, rfl, rfl, sa, atI_nat (j := 0) rfl, .ref a, rfl, a, _, 1, _, rfl, rfl, sa, atI_nat (j := 1) rfl, b, ls, rfl, sb, _, _, rfl, rfl, q⟩
/-! ### stands -/
abbrev RT (H : Hp) (Q : VK) (zs : List Int) : Prop := ∀ (t : Addr) (H' : Hp), Same H H' → H' t = some (.tup (iV zs)) → Q (.ref t) H'
def sp_stand_of (K : PySem.W.Frag) : Sp := fun vs H Q _ => ∃ v a room ls y, vs = [v, .ref a] ∧ Dp K H v (shD room ls) ∧ ls.length ≤ 8 ∧ (SqL K H a (iV ((List.range ls.length).map y)) ∨ SqT K H a (iV ((List.range ls.length).map y))) ∧ RD K H Q (tI (stL ls y))
theorem stL_take {ls : List Int} {y : Nat → Int} {i : Nat} (h : i < ls.length) : (stL ls y).take (i + 1) = (stL ls y).take i ++ [y i + pre ls i] := by
  rw [List.take_add_one, stL_get h]
  rfl
theorem stand_of_any (b : Bool) (T : Tx K mg) : FnOk P w K mg base CX0 1 T.f_law_stand_of T.fd_law_stand_of ["shelf", "places"] (fun vs H Q _ => ∃ v a room ls y, vs = [v, .ref a] ∧ Dp K H v (shD room ls) ∧ ls.length ≤ 8 ∧ SqK b K H a (iV ((List.range ls.length).map y)) ∧ RT H Q (stL ls y)) := by
  refine T.F_law_stand_of.ok sc_law_stand_of (fun vs H Q E h => ?_) (fun cdv A outer s H vs Q E hr h => ?_)
  · obtain ⟨v, a, room, ls, y, rfl, _⟩ := h
    rfl
  · obtain ⟨v, a, room, ls, y, rfl, hv, n8, ha, q⟩ := h
    obtain ⟨c, d, rfl, sc, sd⟩ := dp_shelf hv
    refine ⟨_, (pss_cons (ps_par (i := 2) (j := 3) (by rfl) sc_law_stand_of.nd rfl rfl (by decide) rfl rfl (pa_cons (pe_lst pa_nil) (pa_cons pe_int pa_nil)) (by rfl))
      (pss_cons (ps_for PassesOwn.never rfl (pi_zip2 b false (by rfl) T.n_zip (pa_cons (pv 1) (pa_cons (pe_ix ix_tup (pv 0) pe_int (fun _ _ => rfl)) pa_nil))) (pg_tup rfl (pgs_cons (pg_name (i := 4) sc_law_stand_of.nd rfl (.inl rfl)) (pgs_cons (pg_name (i := 5) sc_law_stand_of.nd rfl (.inl rfl)) pgs_nil)))
      (pss_cons (ps_expr (pe_bm PySem.F.plainAttrs_list PySem.F.slot_list_append PySem.F.type_list_append mt_append (pv 2) (pa_cons (pe_op op_add (pv 4) (pv 3)) pa_nil)))
      (pss_one (ps_set (i := 3) sc_law_stand_of.nd rfl (.inl rfl) (pe_op op_add (pv 3) (pv 5))))))
      (pss_one (ps_ret (pe_callTy call_tuple_of (by rfl) T.n_tuple (by decide +kernel) (pa_cons (pv 2) pa_nil)))))), ?_⟩
    refine ⟨Nat.zero_le _, fun l nl => ⟨_, _, rfl, ?_⟩⟩
    have s1 : Same H (upd H l (.lst [])) := same_new nl
    have ha1 : SqK b K (upd H l (.lst [])) a (iV ((List.range ls.length).map y)) := by
      cases b
      · exact seqT_mono s1 ha
      · exact s1.seq ha
    refine ⟨.ref a, rfl, .ref c, rfl, c, _, 1, _, rfl, rfl, seqT_mono s1 sc, atI_nat (j := 1) rfl, a, d, _, _, rfl, ha1, seqT_mono s1 sd, ?_⟩
    refine for_it (walk_2 (n := ls.length) (xs := iV ((List.range ls.length).map y)) (ys := iV ls) (by simp)) (fun i σ H' => Same H H' ∧ H' l = some (.lst (iV ((stL ls y).take i))) ∧ ∃ y4 y5, σ = [some (.ref c), some (.ref a), some (.ref l), some (.int (pre ls i)), y4, y5])
      ⟨s1, upd_same, none, none, by rw [pre_zero]; rfl⟩ (fun i σ H' _ p => ⟨?_, seqT_mono p.1 sd⟩) (fun i x σ H' H2 hi p yy => ?_) (fun σ H' p => ?_)
    · cases b
      · exact seqT_mono p.1 ha
      · exact p.1.seq ha
    · obtain ⟨s2, hl, y4, y5, rfl⟩ := p
      obtain ⟨Tt, x, z, rfl, nT, rfl, hx, hz⟩ := yy
      have s3 : Same H (upd H' Tt (.tup [x, z])) := s2.trans (same_new nT)
      have ex : x = .int (y i) := by
        rw [iV_get (v := y i) (by simp [hi])] at hx
        exact (Option.some.inj hx).symm
      have ez : z = .int ls[i] := by
        rw [iV_get (List.getElem?_eq_getElem hi)] at hz
        exact (Option.some.inj hz).symm
      subst ex ez
      have hl2 : upd H' Tt (.tup [.int (y i), .int ls[i]]) l = some (.lst (iV ((stL ls y).take i))) := by
        rw [upd_ne (ne_of_none hl nT)]
        exact hl
      refine ⟨Tt, _, rfl, .inl (.inl upd_same), rfl, _, _, rfl, _, [], rfl, rfl, ?_⟩
      refine ⟨.ref l, rfl, .inl ⟨rfl, _, .inl (.inl hl2)⟩, _, rfl, _, rfl, _, _, rfl, rfl, l, _, _, rfl, rfl, hl2, ?_, ?_⟩
      · rw [List.length_map, List.length_take]
        exact small1000 (by omega)
      · refine ⟨_, rfl, _, rfl, _, _, rfl, rfl, fun b o hb => ?_, ?_, some (.int (y i)), some (.int ls[i]), ?_⟩
        · rw [upd_ne (ne_of_none hb nl)]
          exact s3 b o hb
        · rw [upd_same, stL_take hi]
          simp
        · rw [pre_succ hi]
          rfl
    · obtain ⟨s2, hl, y4, y5, rfl⟩ := p
      rw [List.take_of_length_le (by rw [stL_len]; exact Nat.le_refl _)] at hl
      refine ⟨.ref l, rfl, l, _, rfl, .inl ⟨.inl (.inl hl), fun t nt => ?_⟩⟩
      exact q _ _ (s2.trans (same_new nt)) upd_same
end PS

namespace PS
open PySem PySem.Spec PyProof.Rows L2
variable {P : Program} {w : World} {K : PySem.W.Frag} {mg : Str → Option Value} {base : Heap}
theorem range_getD (ns : List Int) : (List.range ns.length).map (fun j => ns.getD j 0) = ns := by
  apply List.ext_getElem?
  intro j
  by_cases h : j < ns.length
  · simp [h]
  · rw [List.getElem?_eq_none (by simp; omega), List.getElem?_eq_none (by omega)]
theorem rise_sorted {ns : List Int} {pl : Int} (hs : ns.Pairwise (· ≤ ·)) (hb : ∀ x ∈ ns, 0 ≤ x ∧ x ≤ pl) : Rise ns.length pl (fun j => ns.getD j 0) where
  lo := fun j hj => by
    have := hb ns[j] (List.getElem_mem hj)
    simp [hj]; omega
  hi := fun j hj => by
    have := hb ns[j] (List.getElem_mem hj)
    simp [hj]; omega
  up := fun j hj => by
    have h1 : j < ns.length := by omega
    have := List.pairwise_iff_getElem.mp hs j (j + 1) h1 hj (by omega)
    simp [h1, hj]
    exact this
def sp_stand (K : PySem.W.Frag) : Sp := fun vs H Q _ => ∃ (k : Addr) (v : V) (room : Int) (ls : List Int) (n : Nat), vs = [.ref k, v] ∧ Dp K (Off k H) v (shD room ls) ∧ ShOk room ls ∧ Dk k H (n + 20) ∧
  ∀ (t : Addr) (H' : Hp) (y : Nat → Int), Rise ls.length (room - ls.sum) y → Dk k H' n → Same (Off k H) (Off k H') → H' t = some (.tup (iV (stL ls y))) → Q (.ref t) H'
theorem ok_law_stand (T : Tx K mg) : FnOk P w K mg base CX0 3 T.f_law_stand T.fd_law_stand ["deck", "shelf"] (sp_stand K) := by
  have G_law_pick := ok_law_pick (P := P) (w := w) (base := base) T
  have G_law_one := ok_law_one (P := P) (w := w) (base := base) T
  have G_law_play := ok_law_play (P := P) (w := w) (base := base) T
  have G_law_stand_of := stand_of_any (P := P) (w := w) (base := base) true T
  refine T.F_law_stand.ok sc_law_stand (fun vs H Q E h => ?_) (fun cdv A outer s H vs Q E hr h => ?_)
  · obtain ⟨k, v, _, _, n, rfl, _⟩ := h
    rfl
  · obtain ⟨k, v, room, ls, n, rfl, hv, sh, dk, q⟩ := h
    have fin : ∀ (H' : Hp) (p : Addr) (ns : List Int), Same (Off k H) (Off k H') → Dk k H' n → p ≠ k → H' p = some (.lst (iV ns)) → ns.length = ls.length → ns.Pairwise (· ≤ ·) → (∀ x ∈ ns, 0 ≤ x ∧ x ≤ room - ls.sum) →
        ∃ v' a room' ls' y, [v, .ref p] = [v', V.ref a] ∧ Dp K H' v' (shD room' ls') ∧ ls'.length ≤ 8 ∧ SqK true K H' a (iV ((List.range ls'.length).map y)) ∧ RT H' Q (stL ls' y) := by
      intro H' p ns sm dk' npk hp hl hs hb
      refine ⟨v, p, room, ls, fun j => ns.getD j 0, rfl, Dpm (sm.trans (off_same k H')) hv, sh.n8, ?_, fun u H3 s3 h3 => ?_⟩
      · rw [← hl, range_getD]
        exact .inl (.inl hp)
      · obtain ⟨l, hk⟩ := (dk'.same s3).lst
        have ri := rise_sorted hs hb
        rw [hl] at ri
        exact q u H3 _ ri (dk'.same s3) (sm.trans (off_mono s3)) h3
    obtain ⟨a, b, rfl, sa, sb⟩ := dp_shelf hv
    have pl0 := sh.lo
    have pl4 := sh.hi
    have n8 := sh.n8
    refine ⟨_, (pss_cons (ps_set (i := 2) sc_law_stand.nd rfl (.inr rfl) (pe_callB cr_sorted (by rfl) T.n_sorted (by decide +kernel) (pa_cons (pe_lc (own := [("long", 3)]) (g := gName 3) (tt := tYes) rfl sc_law_stand.nd (pi_tup (pe_ix ix_tup (pv 1) pe_int (fun _ _ => rfl))) (blkOk_by (own := [("long", 3)]) (N := ["deck", "shelf", "places", "long"]) (sc := defScope s_law_stand) (by decide +kernel)) (fun _ _ _ _ _ => (pg_name (i := 3) sc_law_stand.nd rfl (.inl rfl))) (fun _ _ _ _ _ => pts_nil) (fun _ _ _ _ _ => (pe_call (G_law_pick.mono (by first | decide | omega)) hr (by rfl) T.g_law_pick T.F_law_pick.kp T.b_law_pick .nil pass0 (pa_cons (pv 0) (pa_cons (pe_op op_add (pe_call (G_law_play.mono (by first | decide | omega)) hr (by rfl) T.g_law_play T.F_law_play.kp T.b_law_play .nil pass0 (pa_cons (pv 1) pa_nil)) pe_int) pa_nil))))) pa_nil)))
      (pss_cons (ps_if (pt_cmpR op_eq (pe_call (G_law_pick.mono (by first | decide | omega)) hr (by rfl) T.g_law_pick T.F_law_pick.kp T.b_law_pick .nil pass0 (pa_cons (pv 0) (pa_cons pe_int pa_nil))) pe_int (nomark _)) (pss_one (ps_set (i := 2) sc_law_stand.nd rfl (.inr rfl) (pe_callB cr_sorted (by rfl) T.n_sorted (by decide +kernel) (pa_cons (pe_lc (own := [("long", 3)]) (g := gName 3) (tt := tYes) rfl sc_law_stand.nd (pi_tup (pe_ix ix_tup (pv 1) pe_int (fun _ _ => rfl))) (blkOk_by (own := [("long", 3)]) (N := ["deck", "shelf", "places", "long"]) (sc := defScope s_law_stand) (by decide +kernel)) (fun _ _ _ _ _ => (pg_name (i := 3) sc_law_stand.nd rfl (.inl rfl))) (fun _ _ _ _ _ => pts_nil) (fun _ _ _ _ _ => (pe_call (G_law_one.mono (by first | decide | omega)) hr (by rfl) T.g_law_one T.F_law_one.kp T.b_law_one .nil pass0 (pa_cons (pv 0) (pa_cons (pv 2) pa_nil))))) pa_nil)))) pss_nil)
      (pss_one (ps_ret (pe_call (G_law_stand_of.mono (by first | decide | omega)) hr (by rfl) T.g_law_stand_of T.F_law_stand_of.kp T.b_law_stand_of .nil pass0 (pa_cons (pv 1) (pa_cons (pv 2) pa_nil))))))), ?_⟩
    refine ⟨.ref a, rfl, a, _, 1, _, rfl, rfl, seqT_mono (off_same k H) sa, atI_nat (j := 1) rfl, b, rfl, ⟨_, seqT_mono (off_same k H) sb⟩, fun D nD => ?_⟩
    have nDk : D ≠ k := dk.ne nD
    refine lc_tup (K := K) (a := b) (xs := iV ls) (fun i H' => Same (Off k H) (Off k H') ∧ Dk k H' (n + 20 - i) ∧ ∃ ns : List Int, H' D = some (.lst (iV ns)) ∧ ns.length = i ∧ ∀ x ∈ ns, 0 ≤ x ∧ x ≤ room - ls.sum)
      ⟨off_new nD, dk.same (same_new nD), [], upd_same, rfl, by simp⟩ (fun i H' _ p => seqT_mono (p.1.trans (off_same k H')) sb) (fun i x H' hx p => ?_) (fun H' p => ?_)
    · obtain ⟨s2, dk2, ns, hD, hl, hb⟩ := p
      have hi : i < ls.length := by
        have := (List.getElem?_eq_some_iff.mp hx).1
        rwa [iV_len] at this
      refine ⟨rfl, .ref k, rfl, .ref a, rfl, .ref a, room, ls, rfl, Dpm (s2.trans (off_same k H')) hv, _, _, rfl, rfl, k, _, n + 19 - i, rfl, by omega, by omega, dk2.le (by omega), fun r H4 r0 r1 dk4 s4 => ?_⟩
      have hD4 : H4 D = some (.lst (iV ns)) := off_back s4 nDk hD
      refine ⟨_, hD4, ?_, off_keep (s2.trans s4) nD, ?_, ns ++ [r], ?_, ?_, ?_⟩
      · rw [List.length_map]
        exact small1000 (by omega)
      · obtain ⟨a, b, c, h1, h2⟩ := dk4.le (show n + 20 - (i + 1) ≤ n + 19 - i by omega)
        exact ⟨a, b, c, by rw [upd_ne nDk.symm]; exact h1, h2⟩
      · rw [upd_same]
        simp
      · rw [List.length_append, hl]
        rfl
      · intro l hl'
        rcases List.mem_append.mp hl' with z | z
        · exact hb l z
        · have : l = r := by simpa using z
          omega
    · obtain ⟨s2, dk2, ns, hD, hl, hb⟩ := p
      rw [iV_len] at hl dk2
      refine ⟨D, ns, rfl, .inl (.inl hD), by omega, fun ns1 p1 perm1 sort1 np1 => ?_⟩
      have hl1 : ns1.length = ls.length := by rw [perm1.length_eq, hl]
      have hb1 : ∀ x ∈ ns1, 0 ≤ x ∧ x ≤ room - ls.sum := fun x hx => hb x (perm1.mem_iff.mp hx)
      have np1k : p1 ≠ k := dk2.ne np1
      refine ⟨.ref k, rfl, k, 3, n + 11, rfl, by decide, by decide, (dk2.same (same_new np1)).le (by omega), fun r H3 r0 r1 dk3 s3 => ?_⟩
      have hp1 : H3 p1 = some (.lst (iV ns1)) := off_back s3 np1k upd_same
      have s13 : Same (Off k H) (Off k H3) := (s2.trans (off_new np1)).trans s3
      refine ⟨rfl, _, rfl, ite2 (fun _ => ?_) (fun _ => ?_)⟩
      · have sa3 := seqT_mono (s13.trans (off_same k H3)) sa
        have sb3 := seqT_mono (s13.trans (off_same k H3)) sb
        refine ⟨.ref a, rfl, a, _, 1, _, rfl, rfl, sa3, atI_nat (j := 1) rfl, b, rfl, ⟨_, sb3⟩, fun D2 nD2 => ?_⟩
        have nD2k : D2 ≠ k := dk3.ne nD2
        have nDp : p1 ≠ D2 := ne_of_none hp1 nD2
        refine lc_tup (K := K) (a := b) (xs := iV ls) (fun i H' => Same (Off k H3) (Off k H') ∧ Dk k H' (n + 11 - i) ∧ ∃ ns : List Int, H' D2 = some (.lst (iV ns)) ∧ ns.length = i ∧ ∀ x ∈ ns, 0 ≤ x ∧ x ≤ room - ls.sum)
          ⟨off_new nD2, dk3.same (same_new nD2), [], upd_same, rfl, by simp⟩ (fun i H' _ p => seqT_mono ((s13.trans p.1).trans (off_same k H')) sb) (fun i x H' hx p => ?_) (fun H' p => ?_)
        · obtain ⟨s4, dk4, ns2, hD2, hl2, hb2⟩ := p
          have hi : i < ls.length := by
            have := (List.getElem?_eq_some_iff.mp hx).1
            rwa [iV_len] at this
          have hp4 : Off k H' p1 = some (.lst (iV ns1)) := s4 _ _ (off_at np1k hp1)
          refine ⟨rfl, .ref k, rfl, .ref p1, rfl, k, p1, _, n + 10 - i, rfl, .inl (.inl hp4), by rw [iV_len]; have := sh.n1; omega, by rw [iV_len]; omega, dk4.le (by omega), fun x H5 hx5 dk5 s5 => ?_⟩
          obtain ⟨r5, hr5, rfl⟩ := List.mem_map.mp hx5
          have hD5 : H5 D2 = some (.lst (iV ns2)) := off_back s5 nD2k hD2
          refine ⟨_, hD5, ?_, off_keep (s4.trans s5) nD2, ?_, ns2 ++ [r5], ?_, ?_, ?_⟩
          · rw [List.length_map]
            exact small1000 (by omega)
          · obtain ⟨a, b, c, h1, h2⟩ := dk5.le (show n + 11 - (i + 1) ≤ n + 10 - i by omega)
            exact ⟨a, b, c, by rw [upd_ne nD2k.symm]; exact h1, h2⟩
          · rw [upd_same]
            simp
          · rw [List.length_append, hl2]
            rfl
          · intro l hl'
            rcases List.mem_append.mp hl' with z | z
            · exact hb2 l z
            · have : l = r5 := by simpa using z
              rw [this]
              exact hb1 r5 hr5
        · obtain ⟨s4, dk4, ns2, hD2, hl2, hb2⟩ := p
          rw [iV_len] at hl2 dk4
          refine ⟨D2, ns2, rfl, .inl (.inl hD2), by omega, fun ns3 p3 perm3 sort3 np3 => ?_⟩
          refine ⟨.ref a, rfl, .ref p3, rfl, ?_⟩
          exact fin _ p3 ns3 ((s13.trans s4).trans (off_new np3)) ((dk4.same (same_new np3)).le (by omega)) (dk4.ne np3) upd_same (by rw [perm3.length_eq, hl2]) sort3 (fun x hx => hb2 x (perm3.mem_iff.mp hx))
      · refine ⟨.ref a, rfl, .ref p1, rfl, ?_⟩
        exact fin _ p1 ns1 s13 (dk3.le (by omega)) np1k hp1 hl1 sort1 hb1
/-! ### pushes and rows -/
end PS

namespace PS
open PySem PySem.Spec PyProof.Rows L2
variable {P : Program} {w : World} {K : PySem.W.Frag} {mg : Str → Option Value} {base : Heap}
def sp_pushedT (K : PySem.W.Frag) : Sp := fun vs H Q _ => ∃ v u t room ls y p pl, vs = [v, u, t] ∧ Dp K H v (shD room ls) ∧ Dp K H u (tI (stL ls y)) ∧ Dp K H t (puD ls p) ∧ Rise ls.length pl y ∧ ls.length ≤ 8 ∧ PuOk ls.length pl p ∧ RT H Q (stL ls (doP y p))
theorem ok_law_pushed (T : Tx K mg) : FnOk P w K mg base CX0 1 T.f_law_pushed T.fd_law_pushed ["shelf", "stand", "push"] (sp_pushedT K) := by
  refine T.F_law_pushed.ok sc_law_pushed (fun vs H Q E h => ?_) (fun cdv A outer s H vs Q E hr h => ?_)
  · obtain ⟨_, _, _, _, _, _, _, _, rfl, _⟩ := h
    rfl
  · obtain ⟨v, u, t, room, ls, y, ⟨rt, g, b⟩, pl, rfl, hv, hu, ht, ri, n8, pk, q⟩ := h
    obtain ⟨a, ba, rfl, sa, sb⟩ := dp_shelf hv
    obtain ⟨c, x1, x2, x3, rfl, sc, h1, h2, h3⟩ := dp_three ht
    obtain ⟨d, rfl, sd⟩ := dp_tI hu
    have h1 : Dp K H x1 (.str (sideS rt)) := h1
    have h2 : Dp K H x2 (.int (g : Int)) := h2
    have h3 : Dp K H x3 (.int (b + pre ls g)) := h3
    cases dp_str h1
    cases dp_int h2
    cases dp_int h3
    refine ⟨_, (pss_cons (ps_asg (pv 2) (pg_tup rfl (pgs_cons (pg_name (i := 3) sc_law_pushed.nd rfl (.inl rfl)) (pgs_cons (pg_name (i := 4) sc_law_pushed.nd rfl (.inl rfl)) (pgs_cons (pg_name (i := 5) sc_law_pushed.nd rfl (.inl rfl)) pgs_nil)))))
      (pss_cons (ps_set (i := 6) sc_law_pushed.nd rfl (.inl rfl) (pe_callTy call_list_of (by rfl) T.n_list (by decide +kernel) (pa_cons (pv 1) pa_nil)))
      (pss_cons (ps_if (pt_cmpR op_eq (pv 3) pe_str (nomark _)) (pss_one (ps_for PassesOwn.never rfl (pi_range2 (by rfl) T.n_range (pa_cons (pv 4) (pa_cons (pe_callB call_len_seq (by rfl) T.n_len (by decide +kernel) (pa_cons (pv 6) pa_nil)) pa_nil))) (pg_name (i := 7) sc_law_pushed.nd rfl (.inl rfl))
      (pss_cons (ps_asg (pe_callB (call_max2 rfl) (by rfl) T.n_max (by decide +kernel) (pa_cons (pe_ix ix_list (pv 6) (pv 7) (fun _ _ => rfl)) (pa_cons (pv 5) pa_nil))) (pg_sub (pv 6) (pv 7) set_list))
      (pss_one (ps_set (i := 5) sc_law_pushed.nd rfl (.inl rfl) (pe_op op_add (pe_ix ix_list (pv 6) (pv 7) (fun _ _ => rfl)) (pe_ix ix_tup (pe_ix ix_tup (pv 0) pe_int (fun _ _ => rfl)) (pv 7) (fun _ _ => rfl)))))))) (pss_one (ps_for PassesOwn.never rfl (pi_range3 (by rfl) T.n_range (pa_cons (pe_op op_sub (pv 4) pe_int) (pa_cons (pe_un un_neg pe_int) (pa_cons (pe_un un_neg pe_int) pa_nil)))) (pg_name (i := 7) sc_law_pushed.nd rfl (.inl rfl))
      (pss_cons (ps_asg (pe_callB (call_min2 rfl) (by rfl) T.n_min (by decide +kernel) (pa_cons (pe_ix ix_list (pv 6) (pv 7) (fun _ _ => rfl)) (pa_cons (pe_op op_sub (pv 5) (pe_ix ix_tup (pe_ix ix_tup (pv 0) pe_int (fun _ _ => rfl)) (pv 7) (fun _ _ => rfl))) pa_nil))) (pg_sub (pv 6) (pv 7) set_list))
      (pss_one (ps_set (i := 5) sc_law_pushed.nd rfl (.inl rfl) (pe_ix ix_list (pv 6) (pv 7) (fun _ _ => rfl))))))))
      (pss_one (ps_ret (pe_callTy call_tuple_of (by rfl) T.n_tuple (by decide +kernel) (pa_cons (pv 6) pa_nil))))))), ?_⟩
    refine ⟨.ref c, rfl, c, _, rfl, sc, rfl, _, _, rfl, _, _, rfl, _, [], rfl, rfl, ?_⟩
    refine ⟨.ref d, rfl, d, _, rfl, .inr sd, fun l nl => ?_⟩
    refine ⟨_, rfl, rfl, _, rfl, ?_⟩
    cases rt with
    | true =>
      have hg := pk.g0 rfl
      simp only at hg
      rw [decide_eq_true (show V.str (sideS true) = V.str "right" from rfl)]
      refine iteT ?_
      have hlen : (iV (stL ls y)).length = ls.length := by rw [iV_len, stL_len]
      refine ⟨_, rfl, .ref l, rfl, l, _, rfl, .inl (.inl (.inl upd_same)), _, _, rfl, ⟨by omega, by omega, by omega, by rw [hlen]; omega⟩, ?_⟩
      refine for_range (lo := (g : Int)) (n := (((iV (stL ls y)).length : Int) - (g : Int)).toNat) (fun i σ H' => Same H H' ∧ H' l = some (.lst (iV (stL ls (zR g b y i)))) ∧ ∃ y7, σ = [some (.ref a), some (.ref d), some (.ref c), some (.str (sideS true)), some (.int (g : Nat)), some (.int (eR g b y i + pre ls (g + i))), some (.ref l), y7])
        ⟨same_new nl, ?_, none, ?_⟩ (fun i σ H' hi p => ?_) (fun σ H' p => ?_)
      · rw [upd_same]
        congr 3
        apply stL_congr
        intro j hj
        unfold zR
        rw [if_neg (by omega)]
      · rfl
      · obtain ⟨s1, hl, y7, rfl⟩ := p
        rw [hlen] at hi
        have hgi : g + i < ls.length := by omega
        have eat : (g : Int) + (i : Int) = ((g + i : Nat) : Int) := by omega
        have g1 := iV_get (stL_get (y := zR g b y i) hgi)
        have e1 : (if eR g b y i + pre ls (g + i) > zR g b y i (g + i) + pre ls (g + i) then eR g b y i + pre ls (g + i) else zR g b y i (g + i) + pre ls (g + i)) = max (y (g + i)) b + pre ls (g + i) := by
          rw [← zR_step ri hgi]
          split <;> omega
        refine ⟨.ref l, rfl, _, rfl, l, _, _, _, rfl, rfl, .inl (.inl hl), at_of eat g1, _, rfl, _, _, rfl, ?_⟩
        rw [e1]
        refine ⟨.ref l, rfl, _, rfl, l, _, _, g + i, rfl, rfl, hl, ixN_at eat (by rw [iV_len, stL_len]; exact hgi), ?_⟩
        rw [iV_set, zR_next hgi]
        have g2 := iV_get (stL_get (y := zR g b y (i + 1)) hgi)
        have e2 : zR g b y (i + 1) (g + i) = max (y (g + i)) b := by unfold zR; rw [if_pos (by omega)]
        have s2 : Same H (upd H' l (.lst (iV (stL ls (zR g b y (i + 1)))))) := fun b o hb => by
          rw [upd_ne (ne_of_none hb nl)]
          exact s1 b o hb
        refine ⟨.ref l, rfl, _, rfl, l, _, _, _, rfl, rfl, .inl (.inl upd_same), at_of eat g2, .ref a, rfl, a, _, 1, _, rfl, rfl, seqT_mono s2 sa, atI_nat (j := 1) rfl, _, rfl, ba, _, _, _, rfl, rfl, seqT_mono s2 sb, at_of eat (iV_get (List.getElem?_eq_getElem hgi)), _, _, rfl, rfl, s2, upd_same, some (.int ((g : Int) + (i : Int))), ?_⟩
        have e3 : eR g b y (i + 1) + pre ls (g + (i + 1)) = zR g b y (i + 1) (g + i) + pre ls (g + i) + ls[g + i] := by
          rw [e2, show g + (i + 1) = g + i + 1 from by omega, pre_succ hgi]
          unfold eR
          rw [if_neg (by omega), show g + (i + 1) - 1 = g + i from by omega]
          omega
        rw [e3]
        rfl
      · obtain ⟨s1, hl, y7, rfl⟩ := p
        refine ⟨.ref l, rfl, l, _, rfl, .inl ⟨.inl (.inl hl), fun t nt => ?_⟩⟩
        have e : stL ls (zR g b y (((iV (stL ls y)).length : Int) - (g : Int)).toNat) = stL ls (doP y (true, g, b)) := by
          rw [hlen]
          apply stL_congr
          intro j hj
          show zR g b y _ j = pR g b y j
          unfold zR pR
          by_cases h2 : g ≤ j
          · rw [if_pos h2, if_pos (by omega)]
          · rw [if_neg h2, if_neg (by omega)]
        rw [e]
        exact q _ _ (s1.trans (same_new nt)) upd_same
    | false =>
      have hg := pk.g1 rfl
      simp only at hg
      rw [decide_eq_false (show ¬ V.str (sideS false) = V.str "right" from by decide +kernel)]
      refine iteF ?_
      refine ⟨_, rfl, _, _, rfl, rfl, 1, rfl, 1, rfl, _, _, _, _, rfl, RgC.neg (by omega) (by omega) (by omega) (by omega), ?_⟩
      have en : ((g : Int) - 1 - -1).toNat = g := by omega
      show ∃ W, _
      rw [en]
      refine for_rangeC (lo := (g : Int) - 1) (c := -1) (n := g) (fun i σ H' => Same H H' ∧ H' l = some (.lst (iV (stL ls (zL g b y i)))) ∧ ∃ y7, σ = [some (.ref a), some (.ref d), some (.ref c), some (.str (sideS false)), some (.int (g : Nat)), some (.int (eL g b y i + pre ls (g - i))), some (.ref l), y7])
        ⟨same_new nl, ?_, none, ?_⟩ (fun i σ H' hi p => ?_) (fun σ H' p => ?_)
      · rw [upd_same]
        congr 3
        apply stL_congr
        intro j hj
        unfold zL
        rw [if_neg (by omega)]
      · rfl
      · obtain ⟨s1, hl, y7, rfl⟩ := p
        have hgi : g - 1 - i < ls.length := by omega
        have eat : (g : Int) - 1 + (i : Nat) * (-1) = ((g - 1 - i : Nat) : Int) := by omega
        have g1 := iV_get (stL_get (y := zL g b y i) hgi)
        have epre : pre ls (g - i) = pre ls (g - 1 - i) + ls[g - 1 - i] := by
          have := pre_succ hgi
          rw [show g - 1 - i + 1 = g - i from by omega] at this
          exact this
        have e1 : (if eL g b y i + pre ls (g - i) - ls[g - 1 - i] < zL g b y i (g - 1 - i) + pre ls (g - 1 - i) then eL g b y i + pre ls (g - i) - ls[g - 1 - i] else zL g b y i (g - 1 - i) + pre ls (g - 1 - i)) = min (y (g - 1 - i)) b + pre ls (g - 1 - i) := by
          rw [← zL_step ri hg.2 hi, epre]
          split <;> omega
        refine ⟨.ref l, rfl, _, rfl, l, _, _, _, rfl, rfl, .inl (.inl hl), at_of eat g1, _, rfl, .ref a, rfl, a, _, 1, _, rfl, rfl, seqT_mono s1 sa, atI_nat (j := 1) rfl, _, rfl, ba, _, _, _, rfl, rfl, seqT_mono s1 sb, at_of eat (iV_get (List.getElem?_eq_getElem hgi)), _, _, rfl, rfl, _, _, rfl, ?_⟩
        rw [e1]
        refine ⟨.ref l, rfl, _, rfl, l, _, _, g - 1 - i, rfl, rfl, hl, ixN_at eat (by rw [iV_len, stL_len]; exact hgi), ?_⟩
        rw [iV_set, zL_next hg.2 hi]
        have g2 := iV_get (stL_get (y := zL g b y (i + 1)) hgi)
        have e2 : zL g b y (i + 1) (g - 1 - i) = min (y (g - 1 - i)) b := by unfold zL; rw [if_pos (by omega)]
        have s2 : Same H (upd H' l (.lst (iV (stL ls (zL g b y (i + 1)))))) := fun b o hb => by
          rw [upd_ne (ne_of_none hb nl)]
          exact s1 b o hb
        refine ⟨.ref l, rfl, _, rfl, l, _, _, _, rfl, rfl, .inl (.inl upd_same), at_of eat g2, s2, upd_same, some (.int ((g : Int) - 1 + (i : Nat) * (-1))), ?_⟩
        have e3 : eL g b y (i + 1) + pre ls (g - (i + 1)) = zL g b y (i + 1) (g - 1 - i) + pre ls (g - 1 - i) := by
          rw [e2, show g - (i + 1) = g - 1 - i from by omega]
          unfold eL
          rw [if_neg (by omega), show g - (i + 1) = g - 1 - i from by omega]
        rw [e3]
        rfl
      · obtain ⟨s1, hl, y7, rfl⟩ := p
        refine ⟨.ref l, rfl, l, _, rfl, .inl ⟨.inl (.inl hl), fun t nt => ?_⟩⟩
        have e : stL ls (zL g b y g) = stL ls (doP y (false, g, b)) := by
          apply stL_congr
          intro j hj
          show zL g b y g j = pL g b y j
          unfold zL pL
          by_cases h2 : j < g
          · rw [if_pos h2, if_pos (by omega)]
          · rw [if_neg h2, if_neg (by omega)]
        rw [e]
        exact q _ _ (s1.trans (same_new nt)) upd_same
theorem ok_law_done (T : Tx K mg) : FnOk P w K mg base CX0 2 T.f_law_done T.fd_law_done ["shelf", "stand", "row"] (sp_done K) := by
  have G_law_pushed := ok_law_pushed (P := P) (w := w) (base := base) T
  refine T.F_law_done.ok sc_law_done (fun vs H Q E h => ?_) (fun cdv A outer s H vs Q E hr h => ?_)
  · obtain ⟨_, _, _, _, _, _, _, _, rfl, _⟩ := h
    rfl
  · obtain ⟨v, u, t, room, ls, y, r, pl, rfl, hv, hu, ht, ri, n8, pk, q⟩ := h
    obtain ⟨c, xs, rfl, sc, al⟩ := dp_lst ht
    have hl := dpAll_len al
    rw [List.length_map] at hl
    refine ⟨_, (pss_cons (ps_for PassesOwn.never rfl (pi_list (pv 2)) (pg_name (i := 3) sc_law_done.nd rfl (.inl rfl))
      (pss_one (ps_set (i := 1) sc_law_done.nd rfl (.inl rfl) (pe_call (G_law_pushed.mono (by first | decide | omega)) hr (by rfl) T.g_law_pushed T.F_law_pushed.kp T.b_law_pushed .nil pass0 (pa_cons (pv 0) (pa_cons (pv 1) (pa_cons (pv 3) pa_nil)))))))
      (pss_one (ps_ret (pv 1)))), ?_⟩
    refine ⟨.ref c, rfl, c, rfl, ⟨xs, sc⟩, ?_⟩
    refine for_list (K := K) (a := c) (xs := xs) (fun i σ H' => Same H H' ∧ ∃ u' y3, σ = [some v, some u', some (.ref c), y3] ∧ Dp K H' u' (tI (stL ls (doR y (r.take i))))) ⟨Same.refl H, u, none, rfl, hu⟩ (fun i σ H' _ p => p.1.seq sc) (fun i x σ H' hx p => ?_) (fun σ H' p => ?_)
    · obtain ⟨s1, u', y3, rfl, hu'⟩ := p
      obtain ⟨d, e1, e2⟩ := dpAll_get al hx
      rw [List.getElem?_map] at e1
      obtain ⟨p, ep, rfl⟩ := Option.map_eq_some_iff.mp e1
      have hp : p ∈ r := List.mem_of_getElem? ep
      refine ⟨v, rfl, u', rfl, x, rfl, v, u', x, room, ls, doR y (r.take i), p, pl, rfl, Dpm s1 hv, hu', Dpm s1 e2, doR_rise ri (fun z hz => pk z (List.mem_of_mem_take hz)), n8, pk p hp, fun t' H2 s2 h2 => ?_⟩
      refine ⟨s1.trans s2, .ref t', _, rfl, ?_⟩
      rw [List.take_add_one, ep]
      show Dp K H2 (.ref t') (tI (stL ls (doR y (r.take i ++ [p]))))
      rw [doR_app]
      exact tI_dp (.inl (.inl h2))
    · obtain ⟨s1, u', y3, rfl, hu'⟩ := p
      rw [hl, List.take_length] at hu'
      exact ⟨u', rfl, q _ _ s1 hu'⟩
end PS

namespace PS
open PySem PySem.Spec PyProof.Rows L2
variable {P : Program} {w : World} {K : PySem.W.Frag} {mg : Str → Option Value} {base : Heap}
theorem nw {H H' : Hp} {p : Addr} {o : HO} (n : H p = none) (e : upd H p o = H') : H' p = some o ∧ Same H H' := by
  subst e
  exact ⟨upd_same, same_new n⟩
/-! ### all pushes -/
theorem pusA_len (n pn : Nat) : ∀ g, (pusA n pn g).length ≤ 2 * (pn + 1) * g
  | 0 => Nat.le_refl _
  | g + 1 => by
    have := pusA_len n pn g
    have h : (pusG n pn g).length ≤ 2 * (pn + 1) := by
      unfold pusG
      rw [List.length_append]
      split <;> split <;> simp <;> omega
    rw [pusA, List.length_append, Nat.mul_succ]
    omega
def sp_pushes (K : PySem.W.Frag) : Sp := fun vs H Q _ => ∃ (v : V) (room : Int) (ls : List Int) (pn : Nat), vs = [v] ∧ Dp K H v (shD room ls) ∧ ShOk room ls ∧ room - ls.sum = (pn : Int) ∧ pn ≤ 4 ∧
  ∀ (p : Addr) (H' : Hp) (us : List V), Same H H' → H' p = some (.lst us) → DpAll K H' us ((pusA ls.length pn (ls.length + 1)).map (puD ls)) → Q (.ref p) H'
theorem ok_law_pushes (T : Tx K mg) : FnOk P w K mg base CX0 2 T.f_law_pushes T.fd_law_pushes ["shelf"] (sp_pushes K) := by
  have G_law_play := ok_law_play (P := P) (w := w) (base := base) T
  refine T.F_law_pushes.ok sc_law_pushes (fun vs H Q E h => ?_) (fun cdv A outer s H vs Q E hr h => ?_)
  · obtain ⟨_, _, _, _, rfl, _⟩ := h
    rfl
  · obtain ⟨v, room, ls, pn, rfl, hv, sh, hpn, p4, q⟩ := h
    obtain ⟨a, b, rfl, sa, sb⟩ := dp_shelf hv
    have n8 := sh.n8
    refine ⟨_, (pss_cons (ps_set (i := 1) sc_law_pushes.nd rfl (.inl rfl) (pe_lst pa_nil))
      (pss_cons (ps_for PassesOwn.never rfl (pi_range1 (by rfl) T.n_range (pa_cons (pe_op op_add (pe_callB call_len_seq (by rfl) T.n_len (by decide +kernel) (pa_cons (pe_ix ix_tup (pv 0) pe_int (fun _ _ => rfl)) pa_nil)) pe_int) pa_nil)) (pg_name (i := 2) sc_law_pushes.nd rfl (.inr rfl))
      (pss_cons (ps_set (i := 3) sc_law_pushes.nd rfl (.inr rfl) (pe_callB (cr_sumT rfl) (by rfl) T.n_sum (by decide +kernel) (pa_cons (pe_slice sl_tupA (pe_ix ix_tup (pv 0) pe_int (fun _ _ => rfl)) po_none (po_some (pv 2))) pa_nil)))
      (pss_cons (ps_setLc (i := 4) (own := [("place", 5)]) (g := gName 5) (tt := tYes) rfl sc_law_pushes.nd rfl rfl (sw_true rfl rfl rfl (by decide +kernel)) (pi_range1 (by rfl) T.n_range (pa_cons (pe_op op_add (pe_call (G_law_play.mono (by first | decide | omega)) hr (by rfl) T.g_law_play T.F_law_play.kp T.b_law_play .nil pass0 (pa_cons (pv 0) pa_nil)) pe_int) pa_nil)) (blkOk_by (own := [("place", 5)]) (N := ["shelf", "found", "gap", "here", "some", "place"]) (sc := defScope s_law_pushes) (by decide +kernel)) (fun _ _ _ _ _ => (pg_name (i := 5) sc_law_pushes.nd rfl (.inl rfl))) (fun _ _ _ _ _ => pts_nil) (fun _ _ _ _ _ => (pe_op op_add (pv 3) (pv 5))))
      (pss_cons (ps_set (i := 1) sc_law_pushes.nd rfl (.inl rfl) (pe_op op_catL (pv 1) (pe_op op_rep (pe_lc (own := [("place", 5)]) (g := gName 5) (tt := tYes) rfl sc_law_pushes.nd (pi_list (pv 4)) (blkOk_by (own := [("place", 5)]) (N := ["shelf", "found", "gap", "here", "some", "place"]) (sc := defScope s_law_pushes) (by decide +kernel)) (fun _ _ _ _ _ => (pg_name (i := 5) sc_law_pushes.nd rfl (.inl rfl))) (fun _ _ _ _ _ => pts_nil) (fun _ _ _ _ _ => (pe_tup (pa_cons pe_str (pa_cons (pv 2) (pa_cons (pv 5) pa_nil)))))) (pe_callTy call_int1 (by rfl) T.n_int (by decide +kernel) (pa_cons (pe_cmpR op_lt (pv 2) (pe_callB call_len_seq (by rfl) T.n_len (by decide +kernel) (pa_cons (pe_ix ix_tup (pv 0) pe_int (fun _ _ => rfl)) pa_nil)) (nomark _)) pa_nil)))))
      (pss_one (ps_set (i := 1) sc_law_pushes.nd rfl (.inl rfl) (pe_op op_catL (pv 1) (pe_op op_rep (pe_lc (own := [("place", 5)]) (g := gName 5) (tt := tYes) rfl sc_law_pushes.nd (pi_list (pv 4)) (blkOk_by (own := [("place", 5)]) (N := ["shelf", "found", "gap", "here", "some", "place"]) (sc := defScope s_law_pushes) (by decide +kernel)) (fun _ _ _ _ _ => (pg_name (i := 5) sc_law_pushes.nd rfl (.inl rfl))) (fun _ _ _ _ _ => pts_nil) (fun _ _ _ _ _ => (pe_tup (pa_cons pe_str (pa_cons (pv 2) (pa_cons (pv 5) pa_nil)))))) (pe_callTy call_int1 (by rfl) T.n_int (by decide +kernel) (pa_cons (pe_cmpR op_gt (pv 2) pe_int (nomark _)) pa_nil))))))))))
      (pss_one (ps_ret (pv 1))))), ?_⟩
    refine ⟨Nat.zero_le _, fun l nl => ?_⟩
    have t1 := same_new (o := .lst []) nl
    refine ⟨.ref a, rfl, a, _, 1, _, rfl, rfl, seqT_mono t1 sa, atI_nat (j := 1) rfl, b, _, rfl, .inr (seqT_mono t1 sb), _, _, rfl, rfl, _, rfl, by omega, by rw [iV_len]; omega, ?_⟩
    rw [iV_len]
    refine for_range (lo := 0) (n := ls.length + 1) (fun i σ H' => Same H H' ∧ ∃ l us y2 y3 y4 y5, σ = [some (.ref a), some (.ref l), y2, y3, y4, y5] ∧ H' l = some (.lst us) ∧ DpAll K H' us ((pusA ls.length pn i).map (puD ls)))
      ⟨t1, l, [], _, _, _, _, rfl, upd_same, .nil⟩ (fun i σ H' hi p => ?_) (fun σ H' p => ?_)
    · obtain ⟨s1, l, us, y2, y3, y4, y5, rfl, hl, al⟩ := p
      rw [Int.zero_add]
      have hv1 := Dpm s1 hv
      have sa1 := seqT_mono s1 sa
      have sb1 := seqT_mono s1 sb
      refine ⟨.ref a, rfl, a, _, 1, _, rfl, rfl, sa1, atI_nat (j := 1) rfl, _, rfl, _, rfl, ?_⟩
      refine slT_to (k := i) sb1 fun p H3 s3 sp => ?_
      rw [← List.map_take] at sp
      refine ⟨p, ls.take i, rfl, sp, ?_⟩
      have s13 := s1.trans s3
      refine ⟨.ref a, rfl, .ref a, room, ls, rfl, Dpm s13 hv, _, _, rfl, rfl, _, rfl, by omega, by omega, fun Ds nDs => ?_⟩
      rw [hpn, show ((pn : Int) + 1).toNat = pn + 1 from by omega]
      refine lc_range (lo := 0) (n := pn + 1) (fun j H' => Same H3 H' ∧ H' Ds = some (.lst (iV ((List.range j).map fun c : Nat => (ls.take i).sum + (c : Int)))))
        ⟨same_new nDs, upd_same⟩ (fun j H' hj p => ?_) (fun H4 p => ?_)
      · obtain ⟨s4, hD⟩ := p
        refine ⟨rfl, _, rfl, _, rfl, _, _, rfl, rfl, _, hD, ?_, fun c o h => ?_, ?_⟩
        · simp
          exact small1000 (by omega)
        · rw [upd_ne (ne_of_none h nDs)]
          exact s4 _ _ h
        · rw [upd_same, List.range_succ]
          simp
      · obtain ⟨s4, hD⟩ := p
        generalize hzs : ((List.range (pn + 1)).map fun c : Nat => (ls.take i).sum + (c : Int)) = zs at *
        have s14 := s13.trans s4
        -- right
        refine ⟨.ref l, rfl, .ref Ds, rfl, Ds, rfl, ⟨_, .inl (.inl ((Same.refl H4) _ _ hD))⟩, fun D1 nD1 => ?_⟩
        refine lc_list (K := K) (a := Ds) (xs := iV zs) (fun j H' => Same H4 H' ∧ ∃ ws, H' D1 = some (.lst ws) ∧ ws.length = j ∧ DpAll K (Off D1 H') ws (((List.range j).map fun c : Nat => ((true, i, (c : Int)) : Push)).map (puD ls)))
          ⟨same_new nD1, [], upd_same, rfl, .nil⟩ (fun j H' _ p => .inl (.inl (p.1 _ _ ((Same.refl H4) _ _ hD)))) (fun j x H6 hx p => ?_) (fun H6 p => ?_)
        · obtain ⟨s6, ws, hw, lw, aw⟩ := p
          have hj : j < pn + 1 := by
            have := (List.getElem?_eq_some_iff.mp hx).1
            rw [iV_len, ← hzs] at this
            simpa using this
          have ex : x = .int ((ls.take i).sum + (j : Int)) := by
            rw [← hzs, iV_get (v := (ls.take i).sum + (j : Int)) (by simp [hj])] at hx
            exact (Option.some.inj hx).symm
          subst ex
          refine ⟨rfl, _, rfl, _, rfl, by show 3 ≤ sizeLine; decide, fun t nt => ?_⟩
          have t7 := same_new (o := .tup [.str (sideS true), .int (i : Int), .int ((ls.take i).sum + (j : Int))]) nt
          have hz : Dp K (upd H6 t (.tup [.str (sideS true), .int (i : Int), .int ((ls.take i).sum + (j : Int))])) (.ref t) (puD ls (true, i, (j : Int))) := by
            refine .tup (.inl (.inl upd_same)) (.cons (.str _) (.cons (.int _) (.cons ?_ .nil)))
            show Dp K _ (.int ((ls.take i).sum + (j : Int))) (.int ((j : Int) + pre ls i))
            rw [show (ls.take i).sum + (j : Int) = (j : Int) + pre ls i from Int.add_comm _ _]
            exact .int _
          refine ⟨ws, t7 _ _ hw, small1000 (by omega), fun c o h => ?_, ws ++ [.ref t], upd_same, by rw [List.length_append, lw]; rfl, ?_⟩
          · rw [upd_ne (ne_of_none h nD1)]
            exact (s6.trans t7) _ _ h
          · rw [List.range_succ, List.map_append, List.map_append]
            exact app_row hw aw t7 hz (noL_puD _ _)
        · obtain ⟨s6, ws, hw, lw, aw⟩ := p
          have ezl : (iV zs).length = pn + 1 := by
            rw [iV_len, ← hzs]
            simp
          rw [ezl] at lw aw
          have aw := dpAll_mono (off_same D1 H6) _ _ aw
          have g6 := (Same.refl H4).trans s6
          have s16 := s14.trans g6
          refine ⟨_, rfl, .ref a, rfl, a, _, 1, _, rfl, rfl, seqT_mono s16 sa, atI_nat (j := 1) rfl, b, _, rfl, .inr (seqT_mono s16 sb), _, _, rfl, rfl, .inr ⟨_, rfl, ?_⟩⟩
          rw [iV_len]
          refine ⟨D1, _, ws, rfl, rfl, hw, ?_, ?_, ?_, fun p1 np1 => ?_⟩
          · split <;> decide
          · split <;> decide
          · refine Nat.le_trans (Nat.mul_le_mul_left _ (show _ ≤ 1 from by split <;> decide)) (Nat.le_of_lt (small1000 (by omega)))
          generalize hws : (List.replicate _ ws).flatten = ws1
          have aw1 : DpAll K H6 ws1 ((if i < ls.length then (List.range (pn + 1)).map (fun c : Nat => ((true, i, (c : Int)) : Push)) else []).map (puD ls)) ∧ ws1.length ≤ 5 := by
            by_cases c : i < ls.length
            · rw [decide_eq_true (show (i : Int) < ((ls.length : Nat) : Int) by omega)] at hws
              have : ws = ws1 := by simpa using hws
              rw [if_pos c, ← this]
              exact ⟨aw, by omega⟩
            · rw [decide_eq_false (show ¬ (i : Int) < ((ls.length : Nat) : Int) by omega)] at hws
              have : [] = ws1 := by simpa using hws
              rw [if_neg c, ← this]
              exact ⟨.nil, by decide⟩
          obtain ⟨aw1, lw1⟩ := aw1
          generalize e7 : upd H6 p1 _ = H7
          obtain ⟨hp1, s7⟩ := nw np1 e7
          have lus := dpAll_len al
          rw [List.length_map] at lus
          have lpa := pusA_len ls.length pn i
          have lpb : 2 * (pn + 1) * i ≤ 2 * (4 + 1) * 8 := Nat.mul_le_mul (Nat.mul_le_mul_left _ (by omega)) (by omega)
          have s17 := s16.trans s7
          have t17 := ((s3.trans s4).trans g6).trans s7
          refine ⟨l, p1, us, ws1, rfl, rfl, .inl (.inl (t17 _ _ hl)), .inl (.inl hp1), Nat.le_of_lt (small1000 (by omega)), fun p2 np2 => ?_⟩
          generalize e8 : upd H7 p2 _ = H8
          obtain ⟨hp2, s8⟩ := nw np2 e8
          have s18 := s17.trans s8
          have al8 : DpAll K H8 (us ++ ws1) ((pusA ls.length pn i ++ (if i < ls.length then (List.range (pn + 1)).map (fun c : Nat => ((true, i, (c : Int)) : Push)) else [])).map (puD ls)) := by
            rw [List.map_append]
            exact dpAll_app (dpAll_mono (t17.trans s8) _ _ al) (dpAll_mono (s7.trans s8) _ _ aw1)
          have hD8 := (g6.trans (s7.trans s8)) _ _ hD
          have lus8 : (us ++ ws1).length ≤ 90 := by rw [List.length_append]; omega
          generalize us ++ ws1 = us8 at *
          clear e7 e8 hws aw aw1 hw lw hp1 np1 np2 nD1 hl al lus lpa lpb
          -- left
          refine ⟨.ref p2, rfl, .ref Ds, rfl, Ds, rfl, ⟨_, .inl (.inl hD8)⟩, fun D2 nD2 => ?_⟩
          refine lc_list (K := K) (a := Ds) (xs := iV zs) (fun j H' => Same H8 H' ∧ ∃ ws, H' D2 = some (.lst ws) ∧ ws.length = j ∧ DpAll K (Off D2 H') ws (((List.range j).map fun c : Nat => ((false, i, (c : Int)) : Push)).map (puD ls)))
            ⟨same_new nD2, [], upd_same, rfl, .nil⟩ (fun j H' _ p => .inl (.inl (p.1 _ _ hD8))) (fun j x H9 hx p => ?_) (fun H9 p => ?_)
          · obtain ⟨s9, ws, hw, lw, aw⟩ := p
            have hj : j < pn + 1 := by
              have := (List.getElem?_eq_some_iff.mp hx).1
              rw [iV_len, ← hzs] at this
              simpa using this
            have ex : x = .int ((ls.take i).sum + (j : Int)) := by
              rw [← hzs, iV_get (v := (ls.take i).sum + (j : Int)) (by simp [hj])] at hx
              exact (Option.some.inj hx).symm
            subst ex
            refine ⟨rfl, _, rfl, _, rfl, by show 3 ≤ sizeLine; decide, fun t nt => ?_⟩
            have t7 := same_new (o := .tup [.str (sideS false), .int (i : Int), .int ((ls.take i).sum + (j : Int))]) nt
            have hz : Dp K (upd H9 t (.tup [.str (sideS false), .int (i : Int), .int ((ls.take i).sum + (j : Int))])) (.ref t) (puD ls (false, i, (j : Int))) := by
              refine .tup (.inl (.inl upd_same)) (.cons (.str _) (.cons (.int _) (.cons ?_ .nil)))
              show Dp K _ (.int ((ls.take i).sum + (j : Int))) (.int ((j : Int) + pre ls i))
              rw [show (ls.take i).sum + (j : Int) = (j : Int) + pre ls i from Int.add_comm _ _]
              exact .int _
            refine ⟨ws, t7 _ _ hw, small1000 (by omega), fun c o h => ?_, ws ++ [.ref t], upd_same, by rw [List.length_append, lw]; rfl, ?_⟩
            · rw [upd_ne (ne_of_none h nD2)]
              exact (s9.trans t7) _ _ h
            · rw [List.range_succ, List.map_append, List.map_append]
              exact app_row hw aw t7 hz (noL_puD _ _)
          · obtain ⟨s9, ws, hw, lw, aw⟩ := p
            rw [ezl] at lw aw
            have aw := dpAll_mono (off_same D2 H9) _ _ aw
            refine ⟨_, rfl, _, _, rfl, rfl, .inr ⟨_, rfl, ?_⟩⟩
            refine ⟨D2, _, ws, rfl, rfl, hw, ?_, ?_, ?_, fun p3 np3 => ?_⟩
            · split <;> decide
            · split <;> decide
            · refine Nat.le_trans (Nat.mul_le_mul_left _ (show _ ≤ 1 from by split <;> decide)) (Nat.le_of_lt (small1000 (by omega)))
            generalize hws : (List.replicate _ ws).flatten = ws1
            have aw1 : DpAll K H9 ws1 ((if 0 < i then (List.range (pn + 1)).map (fun c : Nat => ((false, i, (c : Int)) : Push)) else []).map (puD ls)) ∧ ws1.length ≤ 5 := by
              by_cases c : 0 < i
              · rw [decide_eq_true (show (0 : Int) < (i : Int) by omega)] at hws
                have : ws = ws1 := by simpa using hws
                rw [if_pos c, ← this]
                exact ⟨aw, by omega⟩
              · rw [decide_eq_false (show ¬ (0 : Int) < (i : Int) by omega)] at hws
                have : [] = ws1 := by simpa using hws
                rw [if_neg c, ← this]
                exact ⟨.nil, by decide⟩
            obtain ⟨aw1, lw1⟩ := aw1
            generalize e10 : upd H9 p3 _ = H10
            obtain ⟨hp3, s10⟩ := nw np3 e10
            refine ⟨p2, p3, us8, ws1, rfl, rfl, .inl (.inl ((s9.trans s10) _ _ hp2)), .inl (.inl hp3), Nat.le_of_lt (small1000 (by omega)), fun p4 np4 => ?_⟩
            generalize e11 : upd H10 p4 _ = H11
            obtain ⟨hp4, s11⟩ := nw np4 e11
            refine ⟨((s18.trans s9).trans s10).trans s11, p4, us8 ++ ws1, _, _, _, _, rfl, hp4, ?_⟩
            rw [pusA, show pusG ls.length pn i = (if i < ls.length then (List.range (pn + 1)).map (fun c : Nat => ((true, i, (c : Int)) : Push)) else []) ++ (if 0 < i then (List.range (pn + 1)).map (fun c : Nat => ((false, i, (c : Int)) : Push)) else []) from rfl, ← List.append_assoc, List.map_append]
            exact dpAll_app (dpAll_mono ((s9.trans s10).trans s11) _ _ al8) (dpAll_mono (s10.trans s11) _ _ aw1)
    · obtain ⟨s1, l, us, y2, y3, y4, y5, rfl, hl, al⟩ := p
      exact ⟨.ref l, rfl, q l H' us s1 hl al⟩
end PS

namespace PS
open PySem PySem.Spec PyProof.Rows L2
variable {P : Program} {w : World} {K : PySem.W.Frag} {mg : Str → Option Value} {base : Heap}
def sp_reached (K : PySem.W.Frag) : Sp := fun vs H Q _ => ∃ (v : V) (t : Addr) (room : Int) (ls : List Int) (pn : Nat) (y : Nat → Int), vs = [v, .ref t] ∧ Dp K H v (shD room ls) ∧ ShOk room ls ∧ room - ls.sum = (pn : Int) ∧ pn ≤ 4 ∧ H t = some (.tup (iV (stL ls y))) ∧ Rise ls.length pn y ∧
  ∀ (dd : Addr) (H' : Hp) (d : Nat) (F : List (List Int × Nat)), Same H H' → H dd = none → H' dd = some (.dT (kvsF ls F)) → Fnd (nbP ls.length pn) (pc ls.length y) d F [] → Q (.ref dd) H'
theorem in_off {H H2 : Hp} {k : Addr} (s : Same H H2) (n : H k = none) : Same H (Off k H2) := fun b o h => off_at (ne_of_none h n) (s b o h)
theorem ok_law_reached (T : Tx K mg) : FnOk P w K mg base CX0 3 T.f_law_reached T.fd_law_reached ["shelf", "stand"] (sp_reached K) := by
  have G_law_pushes := ok_law_pushes (P := P) (w := w) (base := base) T
  have G_law_pushed := ok_law_pushed (P := P) (w := w) (base := base) T
  refine T.F_law_reached.ok sc_law_reached (fun vs H Q E h => ?_) (fun cdv A outer s H vs Q E hr h => ?_)
  · obtain ⟨_, _, _, _, _, _, rfl, _⟩ := h
    rfl
  · obtain ⟨v, t, room, ls, pn, y, rfl, hv, sh, hpn, p4, ht, ri, q⟩ := h
    have n8 := sh.n8
    refine ⟨_, (pss_cons (ps_par3 (i := 2) (j := 3) (l := 4) (by rfl) sc_law_reached.nd rfl rfl rfl (by decide) (by decide) (by decide) rfl rfl rfl (pa_cons (pe_disp1T (hu_of hr) (pv 1) pe_int) (pa_cons (pe_lst (pa_cons (pv 1) pa_nil)) (pa_cons pe_int pa_nil))) (by rfl))
      (pss_cons (ps_set (i := 5) sc_law_reached.nd rfl (.inl rfl) (pe_call (G_law_pushes.mono (by first | decide | omega)) hr (by rfl) T.g_law_pushes T.F_law_pushes.kp T.b_law_pushes .nil pass0 (pa_cons (pv 0) pa_nil)))
      (pss_cons (ps_while PassesOwn.never (pt_cmpR (op_neP hr.units) (pv 3) (pe_lst pa_nil) (nomark _))
      (pss_cons (ps_par (i := 6) (j := 4) (by rfl) sc_law_reached.nd rfl rfl (by decide) rfl rfl (pa_cons (pe_lst pa_nil) (pa_cons (pe_op op_add (pv 4) pe_int) pa_nil)) (by rfl))
      (pss_cons (ps_for PassesOwn.never rfl (pi_list (pv 3)) (pg_name (i := 7) sc_law_reached.nd rfl (.inl rfl))
      (pss_one (ps_for PassesOwn.never rfl (pi_list (pv 5)) (pg_name (i := 8) sc_law_reached.nd rfl (.inl rfl))
      (pss_cons (ps_set (i := 9) sc_law_reached.nd rfl (.inl rfl) (pe_call (G_law_pushed.mono (by first | decide | omega)) hr (by rfl) T.g_law_pushed T.F_law_pushed.kp T.b_law_pushed .nil pass0 (pa_cons (pv 0) (pa_cons (pv 7) (pa_cons (pv 8) pa_nil)))))
      (pss_one (ps_if (pt_cmp (pc_dnotin (hu_of hr) (pv 9) (pv 2))) (pss_cons (ps_dput (hu_of hr) (pv 2) (pv 9) (pv 4) rfl)
      (pss_one (ps_expr (pe_bm PySem.F.plainAttrs_list PySem.F.slot_list_append PySem.F.type_list_append mt_append (pv 6) (pa_cons (pv 9) pa_nil))))) pss_nil))))))
      (pss_one (ps_set (i := 3) sc_law_reached.nd rfl (.inl rfl) (pv 6))))))
      (pss_one (ps_ret (pv 2)))))), ?_⟩
    intro dd ndd
    have sd := same_new (o := .dT []) ndd
    have nt : t ≠ dd := ne_of_none ht ndd
    refine ⟨.ref t, rfl, kX ls (pc ls.length y), t, rfl, by rw [kX_V, kX_pc]; exact sd _ _ ht, upd_same, ?_⟩
    generalize e1 : upd (upd H dd (.dT [])) dd _ = H1
    have hd1 : H1 dd = some (.dT (kvsF ls [(pc ls.length y, 0)])) := by rw [← e1]; exact upd_same
    have k1 : Same H H1 := fun b o h => by
      rw [← e1, upd_ne (ne_of_none h ndd), upd_ne (ne_of_none h ndd)]
      exact h
    refine ⟨.ref t, rfl, by show 1 ≤ sizeLine; decide, fun rl nrl => ?_⟩
    generalize e2 : upd H1 rl _ = H2
    obtain ⟨hrl, s2⟩ := nw nrl e2
    refine ⟨_, _, _, rfl, ?_⟩
    have k2 := k1.trans s2
    refine ⟨v, rfl, v, room, ls, pn, rfl, Dpm k2 hv, sh, hpn, p4, fun ev H3 us s3 hev al => ?_⟩
    have k3 := k2.trans s3
    have hd3 := (s2.trans s3) _ _ hd1
    have hrl3 := s3 _ _ hrl
    have B0 : Same H (Off dd H3) := in_off k3 ndd
    have hv3 := Dpm B0 hv
    have al3 := dpAll_offD hd3 _ _ al
    have hev3 : Off dd H3 ev = some (.lst us) := off_at (ne_of hev hd3 (by intro z; cases z)) hev
    have ht3 : H3 t = some (.tup (iV (stL ls (gF (pc ls.length y))))) := by rw [kX_pc]; exact k3 _ _ ht
    refine ⟨fun m σ H' => ∃ (d : Nat) (F : List (List Int × Nat)) (X : List (List Int)) (rl : Addr) (rs : List V) (y6 y7 y8 y9 : Option V), m = 2 * ls.length + 1 - d ∧ σ = [some v, some (.ref t), some (.ref dd), some (.ref rl), some (.int (d : Nat)), some (.ref ev), y6, y7, y8, y9] ∧ Same (Off dd H3) (Off dd H') ∧ H' dd = some (.dT (kvsF ls F)) ∧ H' rl = some (.lst rs) ∧ Tups H' ls rs X ∧ Fnd (nbP ls.length pn) (pc ls.length y) d F X,
      ⟨_, 0, _, _, rl, _, none, none, none, none, rfl, rfl, Same.refl _, hd3, hrl3, .cons ht3 .nil, Fnd.start _ _⟩, ?_⟩
    rintro m σ H4 ⟨d, F, X, rl, rs, y6, y7, y8, y9, rfl, rfl, s4, hd4, hr4, tr4, fn⟩
    refine ⟨_, rfl, Nat.zero_le _, fun z nz => ?_⟩
    have t5 := same_new (o := .lst []) nz
    refine ⟨_, _, .lst (.inl (.inl (t5 _ _ hr4))) (dpAll_mono t5 _ _ tr4.dp), .lst (.inl (.inl upd_same)) .nil, depth_ring _ _, _, rfl, ?_⟩
    rw [eqv_ring]
    generalize upd H4 z (.lst []) = H5 at *
    have s5 := s4.trans (off_mono (k := dd) t5)
    have hd5 := t5 _ _ hd4
    have hr5 := t5 _ _ hr4
    have tr5 := tr4.keep (H' := H5) fun t ys h => t5 _ _ h
    clear hd4 hr4 tr4 s4 t5 nz
    by_cases cX : X = []
    · subst cX
      rw [decide_eq_true rfl]
      refine iteF ⟨.ref dd, rfl, q dd H5 d F (fun b o h => ?_) ndd hd5 fn⟩
      exact off_back s5 (ne_of_none h ndd) (k3 _ _ h)
    · rw [decide_eq_false cX]
      have dle : d ≤ 2 * ls.length := by
        obtain ⟨x, hx⟩ := List.exists_mem_of_ne_nil X cX
        exact ds_le ri ((fn.rg x).mp hx)
      refine iteT ⟨fun σ' H' => ∃ (F' : List (List Int × Nat)) (X' : List (List Int)) (rl : Addr) (rs : List V) (y6 y7 y8 y9 : Option V), σ' = [some v, some (.ref t), some (.ref dd), some (.ref rl), some (.int ((d + 1 : Nat) : Int)), some (.ref ev), y6, y7, y8, y9] ∧ Same (Off dd H3) (Off dd H') ∧ H' dd = some (.dT (kvsF ls F')) ∧ H' rl = some (.lst rs) ∧ Tups H' ls rs X' ∧ Fnd (nbP ls.length pn) (pc ls.length y) (d + 1) F' X', ?_, ?_⟩
      · rintro σ' H' ⟨F', X', rl, rs, y6, y7, y8, y9, rfl, h1, h2, h3, h4, h5⟩
        exact ⟨_, by omega, d + 1, F', X', rl, rs, y6, y7, y8, y9, rfl, rfl, h1, h2, h3, h4, h5⟩
      · refine ⟨Nat.zero_le _, fun lt nlt => ?_⟩
        generalize e6 : upd H5 lt _ = H6
        obtain ⟨hlt, t6⟩ := nw nlt e6
        refine ⟨_, rfl, _, _, rfl, rfl, _, _, rfl, ?_⟩
        dsimp only
        rw [show (d : Int) + 1 = ((d + 1 : Nat) : Int) from by omega]
        have nlt3 : Off dd H3 lt = none := by
          cases hh : Off dd H3 lt with
          | none => rfl
          | some o =>
            have h1 := s5 _ _ hh
            have h2 := off_same dd H5 _ _ h1
            rw [nlt] at h2
            cases h2
        have s6 := s5.trans (off_mono (k := dd) t6)
        have hd6 := t6 _ _ hd5
        have hr6 := t6 _ _ hr5
        have tr6 := tr5.keep (H' := H6) fun t ys h => t6 _ _ h
        have nrlt : rl ≠ lt := ne_of_none hr5 nlt
        have ndlt : dd ≠ lt := ne_of_none hd5 nlt
        clear e6 s5 hd5 hr5 tr5 t6 nlt
        have lrs := tr6.len
        refine ⟨.ref rl, rfl, rl, rfl, ⟨rs, .inl (.inl hr6)⟩, ?_⟩
        refine for_list (K := K) (a := rl) (xs := rs) (fun i σ H' => ∃ (S : List Int → Prop) (L : List (List Int)) (ws : List V) (y7 y8 y9 : Option V), σ = [some v, some (.ref t), some (.ref dd), some (.ref rl), some (.int ((d + 1 : Nat) : Int)), some (.ref ev), some (.ref lt), y7, y8, y9] ∧ Same (Off dd H3) (Off dd H') ∧ H' dd = some (.dT (kvsF ls (F ++ L.map fun x => (x, d + 1)))) ∧ H' rl = some (.lst rs) ∧ Tups H' ls rs X ∧ H' lt = some (.lst ws) ∧ Tups H' ls ws L ∧ Rng (nbP ls.length pn) d F X S L ∧ ∀ k x, k < i → X[k]? = some x → ∀ z ∈ nbP ls.length pn x, S z)
          ⟨fun _ => False, [], [], _, _, _, rfl, s6, by simpa using hd6, hr6, tr6, hlt, .nil, Rng.start _ _ _ _, fun k x hk => by omega⟩ (fun i σ H' _ p => ?_) (fun i x σ H7 hx p => ?_) (fun σ H7 p => ?_)
        · obtain ⟨_, _, _, _, _, _, _, _, _, h, _⟩ := p
          exact .inl (.inl h)
        · obtain ⟨S, L, ws, y7, y8, y9, rfl, s7, hd7, hr7, tr7, hw7, tw7, rg, hS⟩ := p
          obtain ⟨hh, xh, rfl, hX, htup⟩ := tr7.get hx
          have hXm : xh ∈ X := List.mem_of_getElem? hX
          obtain ⟨lxh, rxh⟩ := rc_gF ri ((fn.rg xh).mp hXm).1
          have f7 : Same (Off dd H3) H7 := s7.trans (off_same dd H7)
          refine ⟨.ref ev, rfl, ev, rfl, ⟨us, .inl (.inl (f7 _ _ hev3))⟩, ?_⟩
          refine for_list (K := K) (a := ev) (xs := us) (fun j σ H' => ∃ (S' : List Int → Prop) (L : List (List Int)) (ws : List V) (y8 y9 : Option V), σ = [some v, some (.ref t), some (.ref dd), some (.ref rl), some (.int ((d + 1 : Nat) : Int)), some (.ref ev), some (.ref lt), some (.ref hh), y8, y9] ∧ Same (Off dd H3) (Off dd H') ∧ H' dd = some (.dT (kvsF ls (F ++ L.map fun x => (x, d + 1)))) ∧ H' rl = some (.lst rs) ∧ Tups H' ls rs X ∧ H' lt = some (.lst ws) ∧ Tups H' ls ws L ∧ Rng (nbP ls.length pn) d F X S' L ∧ (∀ z, S z → S' z) ∧ ∀ k p, k < j → (pusA ls.length pn (ls.length + 1))[k]? = some p → S' (pc ls.length (doP (gF xh) p)))
            ⟨S, L, ws, _, _, rfl, s7, hd7, hr7, tr7, hw7, tw7, rg, fun _ h => h, fun k p hk => by omega⟩ (fun j σ H' _ p => ?_) (fun j x σ H8 hx8 p => ?_) (fun σ H8 p => ?_)
          · obtain ⟨_, _, _, _, _, _, h, _⟩ := p
            exact .inl (.inl ((h.trans (off_same dd H')) _ _ hev3))
          · obtain ⟨S', L, ws, y8, y9, rfl, s8, hd8, hr8, tr8, hw8, tw8, rg, hSS, hP⟩ := p
            obtain ⟨dp, e1, e2⟩ := dpAll_get al3 hx8
            rw [List.getElem?_map] at e1
            obtain ⟨p, ep, rfl⟩ := Option.map_eq_some_iff.mp e1
            have pk : PuOk ls.length pn p := pus_all.mp (List.mem_of_getElem? ep)
            have f8 : Same (Off dd H3) H8 := s8.trans (off_same dd H8)
            obtain ⟨hh', xh', ehh, hX', htup8⟩ := tr8.get hx
            cases ehh
            rw [hX] at hX'
            cases hX'
            refine ⟨v, rfl, .ref hh, rfl, x, rfl, v, .ref hh, x, room, ls, gF xh, p, pn, rfl, Dpm f8 hv3, tI_dp (.inl (.inl htup8)), Dpm f8 e2, rxh, n8, pk, fun th H9 s9 hth => ?_⟩
            rw [← kX_pc] at hth
            generalize hx0 : pc ls.length (doP (gF xh) p) = x0 at *
            have lx0 : x0.length = ls.length := by rw [← hx0]; exact pc_len _ _
            have s89 := s8.trans (off_mono (k := dd) s9)
            have hd9 := s9 _ _ hd8
            have hr9 := s9 _ _ hr8
            have tr9 := tr8.keep (H' := H9) fun t ys h => s9 _ _ h
            have hw9 := s9 _ _ hw8
            have tw9 := tw8.keep (H' := H9) fun t ys h => s9 _ _ h
            obtain ⟨few, lens⟩ := mid_few ri n8 p4 fn rg
            have hth' : H9 th = some (.tup ((kX ls x0).map kV)) := by rw [kX_V]; exact hth
            refine ⟨_, rfl, .ref dd, rfl, dd, _, rfl, DGet.t hd9 hth', _, rfl, ?_⟩
            have inb : x0 ∈ nbP ls.length pn xh := List.mem_map.mpr ⟨p, pus_all.mpr pk, hx0⟩
            have nxt : ∀ S'' : List Int → Prop, (∀ z, S'' z ↔ S' z ∨ z = x0) → ∀ k p, k < j + 1 → (pusA ls.length pn (ls.length + 1))[k]? = some p → S'' (pc ls.length (doP (gF xh) p)) := fun S'' hs k p' hk e => by
              by_cases c : k = j
              · subst c
                rw [ep] at e
                cases e
                exact (hs _).mpr (.inr hx0)
              · exact (hs _).mpr (.inl (hP k p' (by omega) e))
            by_cases c : x0 ∈ (F ++ L.map fun x => (x, d + 1)).map (·.1)
            · obtain ⟨⟨x1, e⟩, hm, hx1⟩ := List.mem_map.mp c
              have hx1 : x1 = x0 := hx1
              subst hx1
              rw [kvsF_some lens (mid_nodup fn rg) hm]
              refine iteF ⟨_, L, ws, _, _, rfl, s89, hd9, hr9, tr9, hw9, tw9, Rng.old _ rg ((mid_keys _).mp c), fun z h => .inl (hSS z h), nxt _ fun z => Iff.rfl⟩
            · have hnone := kvsF_none lens lx0 c
              rw [hnone]
              refine iteT ⟨_, rfl, .ref dd, rfl, _, rfl, dd, _, rfl, DPut.t hd9 hth' (small4096 (by rw [kvsF, List.length_map]; omega)), ?_⟩
              rw [putK_new _ hnone]
              have ekv : kvsF ls (F ++ L.map fun x => (x, d + 1)) ++ [(kX ls x0, V.int ((d + 1 : Nat) : Int))] = kvsF ls (F ++ (L ++ [x0]).map fun x => (x, d + 1)) := by
                rw [List.map_append, ← List.append_assoc, kvsF_app ls (F ++ _)]
                rfl
              rw [ekv]
              generalize e10 : upd H9 dd _ = H10
              have hd10 : H10 dd = some (.dT (kvsF ls (F ++ (L ++ [x0]).map fun x => (x, d + 1)))) := by rw [← e10]; exact upd_same
              have kp : ∀ b o, b ≠ dd → H9 b = some o → H10 b = some o := fun b o n h => by rw [← e10, upd_ne n]; exact h
              have s10 : Same (Off dd H9) (Off dd H10) := off_of kp
              have kt : ∀ t ys, H9 t = some (.tup ys) → H10 t = some (.tup ys) := fun t ys h => kp _ _ (ne_of h hd9 (by intro z; cases z)) h
              have hw10 := kp _ _ ndlt.symm hw9
              have hr10 := kp _ _ (ne_of hr9 hd9 (by intro z; cases z)) hr9
              have nlw : ws.length ≤ 4096 := by
                have := tw9.len
                simp at few
                omega
              refine ⟨.ref lt, rfl, .inl ⟨rfl, _, .inl (.inl hw10)⟩, _, rfl, lt, ws, _, rfl, rfl, hw10, small4096 (by omega), ?_⟩
              generalize e11 : upd H10 lt _ = H11
              have hw11 : H11 lt = some (.lst (ws ++ [.ref th])) := by rw [← e11]; exact upd_same
              have kp2 : ∀ b o, b ≠ lt → H10 b = some o → H11 b = some o := fun b o n h => by rw [← e11, upd_ne n]; exact h
              have kt2 : ∀ t ys, H10 t = some (.tup ys) → H11 t = some (.tup ys) := fun t ys h => kp2 _ _ (ne_of h hw10 (by intro z; cases z)) h
              have s11 : Same (Off dd H3) (Off dd H11) := fun b o h => by
                have h1 := (s89.trans s10) b o h
                have nb : b ≠ lt := ne_of_none h nlt3
                unfold Off at h1 ⊢
                split at h1
                · cases h1
                · rename_i n
                  rw [if_neg n]
                  exact kp2 _ _ nb h1
              refine ⟨_, L ++ [x0], ws ++ [.ref th], _, _, rfl, s11, kp2 _ _ ndlt hd10, kp2 _ _ nrlt hr10, (tr9.keep kt).keep kt2, hw11, ((tw9.keep kt).keep kt2).app (.cons (kt2 _ _ (kt _ _ hth)) .nil), Rng.put _ rg (fun z => c ((mid_keys _).mpr (.inl z))) (fun z => c ((mid_keys _).mpr (.inr z))) ⟨xh, hXm, inb⟩, fun z h => .inl (hSS z h), nxt _ fun z => Iff.rfl⟩
          · obtain ⟨S', L, ws, y8, y9, rfl, s8, hd8, hr8, tr8, hw8, tw8, rg, hSS, hP⟩ := p
            refine ⟨S', L, ws, _, _, _, rfl, s8, hd8, hr8, tr8, hw8, tw8, rg, fun k x hk e z hz => ?_⟩
            by_cases c : k = i
            · subst c
              rw [hX] at e
              cases e
              obtain ⟨p, hp, rfl⟩ := List.mem_map.mp hz
              obtain ⟨k', hk'⟩ := List.mem_iff_getElem?.mp hp
              have lu := dpAll_len al3
              rw [List.length_map] at lu
              exact hP k' p (by rw [lu]; exact (List.getElem?_eq_some_iff.mp hk').1) hk'
            · exact hSS z (hS k x (by omega) e z hz)
        · obtain ⟨S, L, ws, y7, y8, y9, rfl, s7, hd7, hr7, tr7, hw7, tw7, rg, hS⟩ := p
          refine ⟨_, rfl, _, L, lt, ws, _, _, _, _, rfl, s7, hd7, hw7, tw7, Fnd.next _ _ fn rg fun x hx z hz => ?_⟩
          obtain ⟨k, hk⟩ := List.mem_iff_getElem?.mp hx
          exact hS k x (by rw [lrs]; exact (List.getElem?_eq_some_iff.mp hk).1) hk z hz
end PS

namespace PS
open PySem PySem.Spec PyProof.Rows L2
variable {P : Program} {w : World} {K : PySem.W.Frag} {mg : Str → Option Value} {base : Heap}
theorem same_out {k : Addr} {H0 H1 H2 : Hp} (s : Same H0 H1) (nk : H0 k = none) (t : Same (Off k H1) (Off k H2)) : Same H0 H2 := fun b o h => off_back t (ne_of_none h nk) (s b o h)
theorem sum_bd : ∀ (ls : List Int) (j : Nat), (∀ l ∈ ls, 0 ≤ l) → 0 ≤ (ls.take j).sum ∧ (ls.take j).sum ≤ ls.sum
  | [], j, _ => by simp
  | l :: ls, 0, h => by
    have h1 := h l (by simp)
    have h2 := sum_bd ls ls.length fun x hx => h x (by simp [hx])
    simp at h2 ⊢
    omega
  | l :: ls, j + 1, h => by
    have h1 := h l (by simp)
    have h2 := sum_bd ls j fun x hx => h x (by simp [hx])
    simp
    omega
theorem st_bd {ls : List Int} {pn : Nat} {y : Nat → Int} (hl : ∀ l ∈ ls, 1 ≤ l ∧ l ≤ 50) (ri : Rise ls.length pn y) : TS.Bd ((pn : Int) + ls.sum + 1) (stL ls y) := fun m hm => by
  obtain ⟨j, hj, rfl⟩ := List.mem_map.mp hm
  have h1 := List.mem_range.mp hj
  have h2 := sum_bd ls j fun l h => by have := hl l h; omega
  have h3 := ri.lo j h1
  have h4 := ri.hi j h1
  have h5 : pre ls j = (ls.take j).sum := rfl
  constructor <;> rw [h5] <;> omega
theorem thru {k dd : Addr} {H5 H9 H14 : Hp} (s : Same (Off k H5) (Off k H9)) (n : Off k H5 dd = none) (h : ∀ b o, b ≠ dd → H9 b = some o → H14 b = some o) : Same (Off k H5) (Off k H14) := fun b o e => by
  have nb : b ≠ dd := ne_of_none e n
  have h1 := s b o e
  unfold Off at h1 ⊢
  split at h1
  · cases h1
  · rename_i nk
    rw [if_neg nk]
    exact h b o nb h1
theorem dk_to {k : Addr} {H H' : Hp} {n : Nat} (h : Dk k H n) (f : ∀ o, H k = some o → H' k = some o) : Dk k H' n := by
  obtain ⟨a, b, c, h1, h2⟩ := h
  exact ⟨a, b, c, f _ h1, h2⟩
theorem free_off {k dd : Addr} {H5 H7 : Hp} (s : Same (Off k H5) (Off k H7)) (n : H7 dd = none) : Off k H5 dd = none := by
  cases h : Off k H5 dd with
  | none => rfl
  | some o =>
    have := off_same k H7 _ _ (s _ _ h)
    rw [n] at this
    cases this
def sp_law (K : PySem.W.Frag) : Sp := fun vs H Q _ => ∃ (a : Addr) (ns : List Int), vs = [.ref a] ∧ SqL K H a (ns.map V.int) ∧ ns.length ≤ 63 ∧ ∀ H', Q (.bl true) H'
theorem ok_law {f : Addr} {fd : FuncData} (F : Fun K "law" "law" s_law f fd) (T : Tx K mg) : FnOk P w K mg base CX0 11 f fd ["script"] (sp_law K) := by
  have G_law_deck := ok_law_deck (P := P) (w := w) (base := base) T
  have G_law_pick := ok_law_pick (P := P) (w := w) (base := base) T
  have G_law_one := ok_law_one (P := P) (w := w) (base := base) T
  have G_law_shelf := ok_law_shelf (P := P) (w := w) (base := base) T
  have G_law_stand := ok_law_stand (P := P) (w := w) (base := base) T
  have G_law_reached := ok_law_reached (P := P) (w := w) (base := base) T
  have G_law_done := ok_law_done (P := P) (w := w) (base := base) T
  have G_stands := ok_stands (P := P) (w := w) (base := base) T
  have G_fewest := ok_fewest (P := P) (w := w) (base := base) T
  have G_pushes_to := ok_pushes_to (P := P) (w := w) (base := base) T
  have G_law_same := ok_law_same (P := P) (w := w) (base := base) T 1
  refine F.ok sc_law (fun vs H Q E h => ?_) (fun cdv A outer s H vs Q E hr h => ?_)
  · obtain ⟨a, ns, rfl, _⟩ := h
    rfl
  · obtain ⟨a, ns, rfl, hS, hlen, q⟩ := h
    refine ⟨_, (pss_cons (ps_for PassesOwn.never rfl (pi_list (pe_slice sl_list (pe_op op_catL (pe_lst (pa_cons pe_int pa_nil)) (pv 0)) po_none (po_some pe_int))) (pg_name (i := 1) sc_law.nd rfl (.inl rfl))
      (pss_cons (ps_set (i := 2) sc_law.nd rfl (.inr rfl) (pe_call (G_law_deck.mono (by first | decide | omega)) hr (by rfl) T.g_law_deck T.F_law_deck.kp T.b_law_deck .nil pass0 (pa_cons (pv 1) (pa_cons pe_int pa_nil))))
      (pss_cons (ps_set (i := 3) sc_law.nd rfl (.inl rfl) (pe_callTy call_tuple_of (by rfl) T.n_tuple (by decide +kernel) (pa_cons (pe_lc (own := [("k", 9)]) (g := gName 9) (tt := tYes) rfl sc_law.nd (pi_range1 (by rfl) T.n_range (pa_cons pe_int pa_nil)) (blkOk_by (own := [("k", 9)]) (N := ["script", "cell", "deck", "six", "shelf", "stand", "found", "wish", "told", "k"]) (sc := defScope s_law) (by decide +kernel)) (fun _ _ _ _ _ => (pg_name (i := 9) sc_law.nd rfl (.inl rfl))) (fun _ _ _ _ _ => pts_nil) (fun _ _ _ _ _ => (pe_op op_add pe_int (pe_call (G_law_pick.mono (by first | decide | omega)) hr (by rfl) T.g_law_pick T.F_law_pick.kp T.b_law_pick .nil pass0 (pa_cons (pv 2) (pa_cons pe_int pa_nil)))))) pa_nil)))
      (pss_one (ps_for PassesOwn.never rfl (pi_list (pe_lst (pa_cons (pe_call (G_law_shelf.mono (by first | decide | omega)) hr (by rfl) T.g_law_shelf T.F_law_shelf.kp T.b_law_shelf .nil pass0 (pa_cons (pv 2) (pa_cons pe_int (pa_cons pe_int pa_nil)))) (pa_cons (pe_tup (pa_cons (pe_op op_add (pe_callB (cr_sumT rfl) (by rfl) T.n_sum (by decide +kernel) (pa_cons (pv 3) pa_nil)) pe_int) (pa_cons (pv 3) pa_nil))) pa_nil)))) (pg_name (i := 4) sc_law.nd rfl (.inl rfl))
      (pss_cons (ps_set (i := 5) sc_law.nd rfl (.inl rfl) (pe_call (G_law_stand.mono (by first | decide | omega)) hr (by rfl) T.g_law_stand T.F_law_stand.kp T.b_law_stand .nil pass0 (pa_cons (pv 2) (pa_cons (pv 4) pa_nil))))
      (pss_cons (ps_set (i := 6) sc_law.nd rfl (.inl rfl) (pe_call (G_law_reached.mono (by first | decide | omega)) hr (by rfl) T.g_law_reached T.F_law_reached.kp T.b_law_reached .nil pass0 (pa_cons (pv 4) (pa_cons (pv 5) pa_nil))))
      (pss_cons (ps_if (pt_cmpR op_ne (pe_callB call_len_dT (by rfl) T.n_len (by decide +kernel) (pa_cons (pv 6) pa_nil)) (pe_call (G_stands.mono (by first | decide | omega)) hr (by rfl) T.g_stands T.F_stands.kp T.b_stands .nil pass0 (pa_cons (pv 4) pa_nil)) (nomark _)) (pss_one (ps_ret pe_bl)) pss_nil)
      (pss_cons (ps_lock (ps_for PassesOwn.never rfl (pi_keys (pv 6)) (pg_name (i := 7) sc_law.nd rfl (.inl rfl))
      (pss_one (ps_if (pt_not (pt_val (pe_call (G_law_same.mono (by first | decide | omega)) hr (by rfl) T.g_law_same T.F_law_same.kp T.b_law_same .nil pass0 (pa_cons (pe_call (G_fewest.mono (by first | decide | omega)) hr (by rfl) T.g_fewest T.F_fewest.kp T.b_fewest .nil pass0 (pa_cons (pv 4) (pa_cons (pv 5) (pa_cons (pv 7) pa_nil)))) (pa_cons (pe_dget (hu_of hr) (pv 6) (pv 7) (fun _ _ => rfl)) pa_nil))))) (pss_one (ps_ret pe_bl)) pss_nil))))
      (pss_cons (ps_set (i := 7) sc_law.nd rfl (.inl rfl) (pe_call (G_law_one.mono (by first | decide | omega)) hr (by rfl) T.g_law_one T.F_law_one.kp T.b_law_one .nil pass0 (pa_cons (pv 2) (pa_cons (pe_callB (cr_sortD rfl) (by rfl) T.n_sorted (by decide +kernel) (pa_cons (pv 6) pa_nil)) pa_nil))))
      (pss_cons (ps_set (i := 8) sc_law.nd rfl (.inl rfl) (pe_call (G_pushes_to.mono (by first | decide | omega)) hr (by rfl) T.g_pushes_to T.F_pushes_to.kp T.b_pushes_to .nil pass0 (pa_cons (pv 4) (pa_cons (pv 5) (pa_cons (pv 7) pa_nil)))))
      (pss_one (ps_if (PW.pt (pw_or (pt_cmpR op_ne (pe_callB call_len_seq (by rfl) T.n_len (by decide +kernel) (pa_cons (pv 8) pa_nil)) (pe_dget (hu_of hr) (pv 6) (pv 7) (fun _ _ => rfl)) (nomark _)) (pw_or1 (pt_cmpR (op_neP hr.units) (pe_call (G_law_done.mono (by first | decide | omega)) hr (by rfl) T.g_law_done T.F_law_done.kp T.b_law_done .nil pass0 (pa_cons (pv 4) (pa_cons (pv 5) (pa_cons (pv 8) pa_nil)))) (pv 7) (nomark _))))) (pss_one (ps_ret pe_bl)) pss_nil)))))))))))))
      (pss_one (ps_ret pe_bl))), ?_⟩
    refine ⟨by show 1 ≤ sizeLine; decide, fun z nz => ⟨.ref a, rfl, z, a, [.int 0], iV ns, rfl, rfl, .inl (.inl upd_same), (same_new nz).seq hS, ?_, fun p np => ⟨3, rfl, p, _, rfl, .inl (.inl upd_same), fun c nc => ?_⟩⟩⟩
    · have : ([V.int 0] ++ iV ns).length ≤ 64 := by simp; omega
      exact Nat.le_of_lt (small1000 (by simp; omega))
    have ecut : cutV ([V.int 0] ++ iV ns) none (some 3) = iV (((0 : Int) :: ns).take 3) := by
      rw [show (some (3 : Int)) = some ((3 : Nat) : Int) from rfl, cut_to]
      show _ = (((0 : Int) :: ns).take 3).map V.int
      rw [List.map_take]
      rfl
    rw [ecut]
    generalize ((0 : Int) :: ns).take 3 = cells
    generalize hHc : upd (upd (upd H z (.lst [.int 0])) p (.lst ([V.int 0] ++ iV ns))) c (.lst (iV cells)) = Hc
    have hc : SqL K Hc c (iV cells) := by
      rw [← hHc]
      exact .inl (.inl upd_same)
    refine ⟨c, rfl, ⟨_, hc⟩, ?_⟩
    refine for_list (K := K) (a := c) (xs := iV cells) (fun i σ H' => Same Hc H' ∧ ∃ y1 y2 y3 y4 y5 y6 y7 y8 y9, σ = [some (.ref a), y1, y2, y3, y4, y5, y6, y7, y8, y9])
      ⟨Same.refl Hc, _, _, _, _, _, _, _, _, _, rfl⟩ (fun i σ H' _ p => p.1.seq hc) (fun i x σ H' hx p => ?_) (fun σ H' p => ?_)
    · obtain ⟨s0, y1, y2, y3, y4, y5, y6, y7, y8, y9, rfl⟩ := p
      obtain ⟨cell, _, rfl⟩ := List.mem_map.mp (List.mem_of_getElem? hx)
      refine ⟨_, rfl, cell, 8, rfl, by decide, by decide, fun k H1 s1 nk dk1 => ?_⟩
      have sk : Same Hc H1 := s0.trans s1
      have nkc : Hc k = none := s0.free nk
      -- six
      refine ⟨6, rfl, by omega, by omega, fun D nD => ?_⟩
      refine lc_range (lo := 0) (n := 6) (fun i H' => Same (Off k H1) (Off k H') ∧ Dk k H' (1000000 - i) ∧ ∃ ns : List Int, H' D = some (.lst (iV ns)) ∧ ns.length = i ∧ ∀ l ∈ ns, 1 ≤ l ∧ l ≤ 50)
        ⟨off_new nD, dk1.same (same_new nD), [], upd_same, rfl, by simp⟩ (fun i H' hi p => ?_) (fun H' p => ?_)
      · obtain ⟨s2, dk2, ns, hD, hl, hb⟩ := p
        refine ⟨rfl, .ref k, rfl, k, 9, 999999 - i, rfl, by decide, by decide, dk2.le (by omega), fun t H4 t0 t1 dk4 s4 => ?_⟩
        have nDk : D ≠ k := dk1.ne nD
        have hD4 : H4 D = some (.lst (iV ns)) := off_back s4 nDk hD
        have s5 : Same (Off k H1) (Off k H4) := s2.trans s4
        refine ⟨1, t, rfl, rfl, _, hD4, ?_, off_keep s5 nD, ?_, ns ++ [1 + t], ?_, ?_, ?_⟩
        · rw [List.length_map]
          exact small1000 (by omega)
        · obtain ⟨a, b, c, h1, h2⟩ := dk4.le (show 1000000 - (i + 1) ≤ 999999 - i by omega)
          exact ⟨a, b, c, by rw [upd_ne nDk.symm]; exact h1, h2⟩
        · rw [upd_same]
          simp
        · rw [List.length_append, hl]
          rfl
        · intro l hl'
          rcases List.mem_append.mp hl' with z | z
          · exact hb l z
          · have : l = 1 + t := by simpa using z
            omega
      · obtain ⟨s2, dk2, ns, hD, hl, hb⟩ := p
        refine ⟨D, _, rfl, .inl ⟨.inl (.inl hD), fun t6 nt6 => ?_⟩⟩
        have nt6k := dk2.ne nt6
        have dk3 := dk2.same (same_new (o := .tup (iV ns)) nt6)
        have ht3 : Off k (upd H' t6 (.tup (iV ns))) t6 = some (.tup (iV ns)) := off_up nt6k
        have o3 : Same (Off k H1) (Off k (upd H' t6 (.tup (iV ns)))) := s2.trans (off_new nt6)
        generalize upd H' t6 (.tup (iV ns)) = H3 at *
        clear hD dk2 s2 nt6 dk1
        -- two shelves
        refine ⟨.ref k, rfl, k, 5, 4, 999974, rfl, by decide, by decide, by decide, by decide, dk3, fun v1 H4 room1 ls1 sh1 m1 pl1 dk4 s4 hv1 => ?_⟩
        have ht4 := s4 _ _ ht3
        refine ⟨.ref t6, rfl, t6, ns, rfl, .inl (.inl (off_same k H4 _ _ ht4)), _, _, rfl, rfl, .ref t6, rfl, by show 2 ≤ sizeLine; decide, fun z nz => ?_⟩
        have nzk := dk4.ne nz
        have tz := same_new (o := .tup [.int (ns.sum + 3), .ref t6]) nz
        have hz : Dp K (Off k (upd H4 z (.tup [.int (ns.sum + 3), .ref t6]))) (.ref z) (shD (ns.sum + 3) ns) := .tup (.inl (.inl (off_up nzk))) (.cons (.int _) (.cons (tI_dp (.inl (.inl (off_new nz _ _ ht4)))) .nil))
        have hv1 := Dpm (off_mono (k := k) tz) hv1
        have dk4 := dk4.same tz
        have o4 := (o3.trans s4).trans (off_mono (k := k) tz)
        generalize upd H4 z (.tup [.int (ns.sum + 3), .ref t6]) = H4' at *
        refine ⟨by show 2 ≤ sizeLine; decide, fun lp nlp => ?_⟩
        have nlk := dk4.ne nlp
        have tl := same_new (o := .lst [v1, .ref z]) nlp
        have hlp : Off k (upd H4' lp (.lst [v1, .ref z])) lp = some (.lst [v1, .ref z]) := off_up nlk
        have hz := Dpm (off_mono (k := k) tl) hz
        have hv1 := Dpm (off_mono (k := k) tl) hv1
        have dk5 := dk4.same tl
        have o5 := o4.trans (off_mono (k := k) tl)
        generalize upd H4' lp (.lst [v1, .ref z]) = H5 at *
        have all : ∀ x ∈ [v1, V.ref z], ∃ (room : Int) (ls : List Int) (pn : Nat), ShOk room ls ∧ Dp K (Off k H5) x (shD room ls) ∧ room - ls.sum = (pn : Int) ∧ pn ≤ 4 ∧ pn + ls.length ≤ 9 := fun x hx => by
          have : x = v1 ∨ x = .ref z := by simpa using hx
          rcases this with rfl | rfl
          · have := sh1.lo
            exact ⟨room1, ls1, (room1 - ls1.sum).toNat, sh1, hv1, by omega, by omega, by omega⟩
          · exact ⟨ns.sum + 3, ns, 3, ⟨by omega, by omega, hb, by omega, by omega⟩, hz, by omega, by decide, by omega⟩
        refine ⟨lp, rfl, ⟨_, .inl (.inl (off_same k H5 _ _ hlp))⟩, ?_⟩
        refine for_list (K := K) (a := lp) (xs := [v1, .ref z]) (fun i σ H' => Dk k H' (900000 - 100 * i) ∧ Same (Off k H5) (Off k H') ∧ ∃ y4 y5 y6 y7 y8 y9, σ = [some (.ref a), some (.int cell), some (.ref k), some (.ref t6), y4, y5, y6, y7, y8, y9])
          ⟨dk5.le (by decide), Same.refl _, _, _, _, _, _, _, rfl⟩ (fun i σ H' _ p => .inl (.inl (off_same k H' _ _ (p.2.1 _ _ hlp)))) (fun i x σ H6 hx p => ?_) (fun σ H6 p => ?_)
        · obtain ⟨dk6, s6, y4, y5, y6, y7, y8, y9, rfl⟩ := p
          have hi : i < 2 := (List.getElem?_eq_some_iff.mp hx).1
          obtain ⟨room, ls, pn, sh, hvx, hpn, p4, p9⟩ := all x (List.mem_of_getElem? hx)
          have n8 := sh.n8
          have n1 := sh.n1
          refine ⟨.ref k, rfl, x, rfl, k, x, room, ls, 899970 - 100 * i, rfl, Dpm s6 hvx, sh, dk6.le (by omega), fun t H7 y ri dk7 s7 ht => ?_⟩
          have o7 := s6.trans s7
          have f7 := o7.trans (off_same k H7)
          have ri' : Rise ls.length pn y := by rw [← hpn]; exact ri
          refine ⟨x, rfl, .ref t, rfl, x, t, room, ls, pn, y, rfl, Dpm f7 hvx, sh, hpn, p4, ht, ri', fun dd H8 d F s8 ndd hdd fn => ?_⟩
          have nd5 := free_off o7 ndd
          have cF := fnd_count ri' fn
          refine ⟨.ref dd, rfl, dd, _, rfl, hdd, x, rfl, x, room, ls, rfl, Dpm (f7.trans s8) hvx, sh, fun H9 s9 => ?_⟩
          have eF : (kvsF ls F).length = ch ((room - ls.sum).toNat + ls.length) ls.length := by
            rw [kvsF, List.length_map, cF, hpn, Int.toNat_natCast]
          rw [eF]
          refine ⟨rfl, _, rfl, ?_⟩
          rw [decide_eq_true rfl]
          refine iteF ?_
          have s79 := s8.trans s9
          have hd9 := s9 _ _ hdd
          have ht9 := s79 _ _ ht
          have hx9 := dp_offD hd9 _ _ (Dpm (f7.trans s79) hvx)
          have ht9 : Off dd H9 t = some (.tup (iV (stL ls y))) := off_at (ne_of ht9 hd9 (by intro z; cases z)) ht9
          have dk9 := dk7.same s79
          have o9 := o7.trans (off_mono (k := k) s79)
          obtain ⟨l9, hk9⟩ := dk9.lst
          have nkd : k ≠ dd := ne_of hk9 hd9 (by intro z; cases z)
          have lenF : ∀ p ∈ F, p.1.length = ls.length := fun p hp => (rc_gF ri' ((fn.at_ p.1 p.2).mp hp).1.1).1
          clear hdd s8 s9 s79 ht dk7 s7 eF
          -- each wish
          refine ⟨dd, _, hd9, trivial, fun od => ?_⟩
          generalize e10 : upd H9 dd _ = H10
          have hfz : H10 dd = some (.frz od (.dT (kvsF ls F))) := by rw [← e10]; exact upd_same
          have k10 : ∀ b o, b ≠ dd → H9 b = some o → H10 b = some o := fun b o n h => by rw [← e10, upd_ne n]; exact h
          have f10 : Same (Off dd H9) H10 := fun b o h => by
            unfold Off at h
            split at h
            · cases h
            · rename_i n
              exact k10 _ _ n h
          clear e10
          refine ⟨.ref dd, rfl, dd, od, rfl, .inr ⟨_, hfz, ?_⟩⟩
          refine for_it walk_keysT (fun i σ H' => Same H10 H' ∧ ∃ y7 y8 y9, σ = [some (.ref a), some (.int cell), some (.ref k), some (.ref t6), some x, some (.ref t), some (.ref dd), y7, y8, y9])
            ⟨Same.refl _, _, _, _, rfl⟩ (fun i σ H' _ p => p.1 _ _ hfz) (fun j zz σ H11 H11' hj p yy => ?_) (fun σ H11 p => ?_)
          · obtain ⟨s11, y7, y8, y9, rfl⟩ := p
            obtain ⟨rfl, kk, vv, q', hkv, rfl, hq⟩ := yy
            rw [kvsF, List.getElem?_map] at hkv
            obtain ⟨⟨xw, e⟩, hF, ekv⟩ := Option.map_eq_some_iff.mp hkv
            cases ekv
            have hm : (xw, e) ∈ F := List.mem_of_getElem? hF
            obtain ⟨dsw, _⟩ := (fn.at_ xw e).mp hm
            obtain ⟨lxw, rxw⟩ := rc_gF ri' dsw.1
            have f11 := f10.trans s11
            have hqd : Dp K H11' (.ref q') (tI (stL ls (gF xw))) := tI_dp (.inl (.inl (by rw [← kX_V]; exact hq)))
            refine ⟨x, rfl, .ref t, rfl, .ref q', rfl, x, .ref t, .ref q', room, ls, y, gF xw, rfl, Dpm f11 hx9, sh, tI_dp (.inl (.inl (f11 _ _ ht9))), hqd, ri, by rw [hpn]; exact rxw, fun H12 r s12 best => ?_⟩
            have er : r.length = e := by
              rw [hpn] at best
              have := rc_best best
              rw [pc_gF lxw] at this
              exact ds_uniq _ _ this dsw
            rw [er]
            refine ⟨.ref dd, rfl, _, rfl, dd, .int (e : Int), rfl, .inr ⟨_, kX ls xw, q', .inr ⟨od, (s11.trans s12) _ _ hfz⟩, rfl, s12 _ _ hq, (kvsF_some lenF fn.nd hm).symm⟩, ?_⟩
            refine ⟨_, _, .int (e : Int), rfl, .int _, .int _, (show 0 < 1 by decide), fun H13 s13 => ⟨_, rfl, iteF ?_⟩⟩
            exact ⟨(s11.trans s12).trans s13, _, _, _, rfl⟩
          · obtain ⟨s11, y7, y8, y9, rfl⟩ := p
            refine ⟨s11 _ _ hfz, ?_⟩
            generalize e14 : upd H11 dd _ = H14
            have hd14 : H14 dd = some (.dT (kvsF ls F)) := by rw [← e14]; exact upd_same
            have k14 : ∀ b o, b ≠ dd → H9 b = some o → H14 b = some o := fun b o n h => by rw [← e14, upd_ne n]; exact s11 _ _ (k10 b o n h)
            have f14 : Same (Off dd H9) H14 := fun b o h => by
              unfold Off at h
              split at h
              · cases h
              · rename_i n
                exact k14 _ _ n h
            have dk14 := dk_to dk9 fun o h => k14 k o nkd h
            have o14 := thru o9 nd5 k14
            clear e14 s11 hfz k10 f10
            refine ⟨.ref k, rfl, .ref dd, rfl, dd, _, ls.length, (pn : Int) + ls.sum + 1, rfl, n1, .inl hd14, fun pr hpr => ?_, fun p bs cs np ik pm => ?_⟩
            · obtain ⟨⟨xw, e⟩, hm, rfl⟩ := List.mem_map.mp hpr
              exact ⟨stL ls (gF xw), rfl, stL_len _ _, st_bd sh.l1 (rc_gF ri' ((fn.at_ xw e).mp hm).1.1).2⟩
            have npk := dk14.ne np
            have tp := same_new (o := .lst (cs.map V.ref)) np
            have lcs : cs.length = F.length := by
              have h1 := pm.length_eq
              have h2 := Paired.length ik
              rw [kvsF, List.length_map] at h2
              omega
            have posF : 0 < F.length := List.length_pos_of_mem ((fn.at_ (pc ls.length y) 0).mpr ⟨⟨rfl, fun e he => by omega⟩, Nat.zero_le _⟩)
            have fewF : F.length ≤ 512 := by
              rw [cF]
              exact Nat.le_trans (ch_pow _ _) (Nat.le_trans (Nat.pow_le_pow_right (by decide) p9) (by decide))
            refine ⟨k, p, cs.map V.ref, 899960 - 100 * i, rfl, .inl (.inl (off_up npk)), by rw [List.length_map]; omega, by rw [List.length_map]; omega, (dk14.same tp).le (by omega), fun wv H15 hwv dk15 s15 => ?_⟩
            obtain ⟨q', hq', rfl⟩ := List.mem_map.mp hwv
            obtain ⟨jq, hjq⟩ := List.mem_iff_getElem?.mp (pm.mem_iff.mp hq')
            obtain ⟨pr, hpr, hqt⟩ := DX.pget ik hjq
            obtain ⟨⟨xw, e⟩, hm, rfl⟩ := List.mem_map.mp (List.mem_of_getElem? hpr)
            have hqt : H14 q' = some (.tup ((kX ls xw).map kV)) := hqt
            obtain ⟨dsw, _⟩ := (fn.at_ xw e).mp hm
            obtain ⟨lxw, rxw⟩ := rc_gF ri' dsw.1
            have u15 : Same (Off k H14) (Off k H15) := (off_mono (k := k) tp).trans s15
            have g15 : Same (Off k H14) H15 := u15.trans (off_same k H15)
            obtain ⟨l14, hk14⟩ := dk14.lst
            have hd15 : H15 dd = some (.dT (kvsF ls F)) := g15 _ _ (off_at nkd.symm hd14)
            have hq15 : H15 q' = some (.tup ((kX ls xw).map kV)) := g15 _ _ (off_at (ne_of hqt hk14 (by intro z; cases z)) hqt)
            have ht14 := f14 _ _ ht9
            have ht15 : H15 t = some (.tup (iV (stL ls y))) := g15 _ _ (off_at (ne_of ht14 hk14 (by intro z; cases z)) ht14)
            have hx15 : Dp K H15 x (shD room ls) := Dpm ((o14.trans u15).trans (off_same k H15)) hvx
            have hqd15 : Dp K H15 (.ref q') (tI (stL ls (gF xw))) := tI_dp (.inl (.inl (by rw [← kX_V]; exact hq15)))
            refine ⟨x, rfl, .ref t, rfl, .ref q', rfl, x, .ref t, .ref q', room, ls, y, gF xw, rfl, hx15, sh, tI_dp (.inl (.inl ht15)), hqd15, ri, by rw [hpn]; exact rxw, fun c H16 r us s16 nc hc al best => ?_⟩
            have er : r.length = e := by
              have best' := best
              rw [hpn] at best'
              have := rc_best best'
              rw [pc_gF lxw] at this
              exact ds_uniq _ _ this dsw
            have lus := dpAll_len al
            rw [List.length_map, er] at lus
            refine ⟨.ref c, rfl, c, us, rfl, .inl (.inl (.inl hc)), .ref dd, rfl, _, rfl, dd, .int (e : Int), rfl, .inr ⟨_, kX ls xw, q', .inl (s16 _ _ hd15), rfl, s16 _ _ hq15, (kvsF_some lenF fn.nd hm).symm⟩, ?_⟩
            rw [lus]
            refine ⟨rfl, _, rfl, ?_⟩
            rw [decide_eq_true rfl]
            refine iteF ?_
            refine ⟨x, rfl, .ref t, rfl, .ref c, rfl, x, .ref t, .ref c, room, ls, y, r, _, rfl, Dpm s16 hx15, tI_dp (.inl (.inl (s16 _ _ ht15))), .lst (.inl (.inl hc)) (dpAll_mono (off_same c H16) _ _ al), ri, n8, best.ok, fun u17 H17 s17 h17 => ?_⟩
            refine ⟨_, rfl, _, _, h17, Dpm (s16.trans s17) hqd15, Nat.le_trans (depth_tI _) (by decide), _, rfl, ?_⟩
            rw [eqv_tI, decide_eq_true (stL_congr best.lead)]
            refine iteF ⟨(dk15.same (s16.trans s17)).le (by omega), (o14.trans u15).trans (off_mono (k := k) (s16.trans s17)), _, _, _, _, _, _, rfl⟩
        · obtain ⟨dk6, s6, y4, y5, y6, y7, y8, y9, rfl⟩ := p
          exact ⟨same_out sk nkc (o5.trans s6), _, _, _, _, _, _, _, _, _, rfl⟩
    · exact q _
end PS

namespace PS
open PySem PySem.Spec PyProof.Rows L2
theorem all_mk {l : PySem.W.OpenLaw} {w : World} {K : PySem.W.Frag} {h : Heap} {mg : Str → Option Value} {fa : Addr} (X : K.In h) (G : h.Ns mainGlobals mg) (hfa : mg "law" = some (.ref fa))
    {C_Band : Addr}
    {f0 : Addr} {od0 an0 : Option Addr} {sl0 : Array (Option Value)} {oc0 kV0 dc0 pm0 cd0 ct0 : Value}
    (a0 : PySem.W.nsIn K mainGlobals "is_whole" = some (some (.ref f0))) (l0 : K.lookup f0 = some ⟨oc0, od0, .func (PySem.W.fnOf "is_whole" "is_whole" (defArgs s_is_whole) (defBody s_is_whole) (defScope s_is_whole) .none kV0 dc0 pm0 an0 cd0 ct0), sl0⟩) (c0 : PySem.W.codeIn K cd0 "is_whole" = true) (k0 : PySem.W.keepIn K (.ref f0) = true)
    {f1 : Addr} {od1 an1 : Option Addr} {sl1 : Array (Option Value)} {oc1 kV1 dc1 pm1 cd1 ct1 : Value}
    (a1 : PySem.W.nsIn K mainGlobals "is_within" = some (some (.ref f1))) (l1 : K.lookup f1 = some ⟨oc1, od1, .func (PySem.W.fnOf "is_within" "is_within" (defArgs s_is_within) (defBody s_is_within) (defScope s_is_within) .none kV1 dc1 pm1 an1 cd1 ct1), sl1⟩) (c1 : PySem.W.codeIn K cd1 "is_within" = true) (k1 : PySem.W.keepIn K (.ref f1) = true)
    {f2 : Addr} {od2 an2 : Option Addr} {sl2 : Array (Option Value)} {oc2 kV2 dc2 pm2 cd2 ct2 : Value}
    (a2 : PySem.W.nsIn K mainGlobals "is_tuple_of" = some (some (.ref f2))) (l2 : K.lookup f2 = some ⟨oc2, od2, .func (PySem.W.fnOf "is_tuple_of" "is_tuple_of" (defArgs s_is_tuple_of) (defBody s_is_tuple_of) (defScope s_is_tuple_of) .none kV2 dc2 pm2 an2 cd2 ct2), sl2⟩) (c2 : PySem.W.codeIn K cd2 "is_tuple_of" = true) (k2 : PySem.W.keepIn K (.ref f2) = true)
    {f3 : Addr} {od3 an3 : Option Addr} {sl3 : Array (Option Value)} {oc3 kV3 dc3 pm3 cd3 ct3 : Value}
    (a3 : PySem.W.nsIn K mainGlobals "are_blocks" = some (some (.ref f3))) (l3 : K.lookup f3 = some ⟨oc3, od3, .func (PySem.W.fnOf "are_blocks" "are_blocks" (defArgs s_are_blocks) (defBody s_are_blocks) (defScope s_are_blocks) .none kV3 dc3 pm3 an3 cd3 ct3), sl3⟩) (c3 : PySem.W.codeIn K cd3 "are_blocks" = true) (k3 : PySem.W.keepIn K (.ref f3) = true)
    {f4 : Addr} {od4 an4 : Option Addr} {sl4 : Array (Option Value)} {oc4 kV4 dc4 pm4 cd4 ct4 : Value}
    (a4 : PySem.W.nsIn K mainGlobals "is_shelf" = some (some (.ref f4))) (l4 : K.lookup f4 = some ⟨oc4, od4, .func (PySem.W.fnOf "is_shelf" "is_shelf" (defArgs s_is_shelf) (defBody s_is_shelf) (defScope s_is_shelf) .none kV4 dc4 pm4 an4 cd4 ct4), sl4⟩) (c4 : PySem.W.codeIn K cd4 "is_shelf" = true) (k4 : PySem.W.keepIn K (.ref f4) = true)
    {f5 : Addr} {od5 an5 : Option Addr} {sl5 : Array (Option Value)} {oc5 kV5 dc5 pm5 cd5 ct5 : Value}
    (a5 : PySem.W.nsIn K mainGlobals "need_shelf" = some (some (.ref f5))) (l5 : K.lookup f5 = some ⟨oc5, od5, .func (PySem.W.fnOf "need_shelf" "need_shelf" (defArgs s_need_shelf) (defBody s_need_shelf) (defScope s_need_shelf) .none kV5 dc5 pm5 an5 cd5 ct5), sl5⟩) (c5 : PySem.W.codeIn K cd5 "need_shelf" = true) (k5 : PySem.W.keepIn K (.ref f5) = true)
    {f6 : Addr} {od6 an6 : Option Addr} {sl6 : Array (Option Value)} {oc6 kV6 dc6 pm6 cd6 ct6 : Value}
    (a6 : PySem.W.nsIn K mainGlobals "play_of" = some (some (.ref f6))) (l6 : K.lookup f6 = some ⟨oc6, od6, .func (PySem.W.fnOf "play_of" "play_of" (defArgs s_play_of) (defBody s_play_of) (defScope s_play_of) .none kV6 dc6 pm6 an6 cd6 ct6), sl6⟩) (c6 : PySem.W.codeIn K cd6 "play_of" = true) (k6 : PySem.W.keepIn K (.ref f6) = true)
    {f7 : Addr} {od7 an7 : Option Addr} {sl7 : Array (Option Value)} {oc7 kV7 dc7 pm7 cd7 ct7 : Value}
    (a7 : PySem.W.nsIn K mainGlobals "gap_length" = some (some (.ref f7))) (l7 : K.lookup f7 = some ⟨oc7, od7, .func (PySem.W.fnOf "gap_length" "gap_length" (defArgs s_gap_length) (defBody s_gap_length) (defScope s_gap_length) .none kV7 dc7 pm7 an7 cd7 ct7), sl7⟩) (c7 : PySem.W.codeIn K cd7 "gap_length" = true) (k7 : PySem.W.keepIn K (.ref f7) = true)
    {f8 : Addr} {od8 an8 : Option Addr} {sl8 : Array (Option Value)} {oc8 kV8 dc8 pm8 cd8 ct8 : Value}
    (a8 : PySem.W.nsIn K mainGlobals "places_of" = some (some (.ref f8))) (l8 : K.lookup f8 = some ⟨oc8, od8, .func (PySem.W.fnOf "places_of" "places_of" (defArgs s_places_of) (defBody s_places_of) (defScope s_places_of) .none kV8 dc8 pm8 an8 cd8 ct8), sl8⟩) (c8 : PySem.W.codeIn K cd8 "places_of" = true) (k8 : PySem.W.keepIn K (.ref f8) = true)
    {f9 : Addr} {od9 an9 : Option Addr} {sl9 : Array (Option Value)} {oc9 kV9 dc9 pm9 cd9 ct9 : Value}
    (a9 : PySem.W.nsIn K mainGlobals "is_stand" = some (some (.ref f9))) (l9 : K.lookup f9 = some ⟨oc9, od9, .func (PySem.W.fnOf "is_stand" "is_stand" (defArgs s_is_stand) (defBody s_is_stand) (defScope s_is_stand) .none kV9 dc9 pm9 an9 cd9 ct9), sl9⟩) (c9 : PySem.W.codeIn K cd9 "is_stand" = true) (k9 : PySem.W.keepIn K (.ref f9) = true)
    {f10 : Addr} {od10 an10 : Option Addr} {sl10 : Array (Option Value)} {oc10 kV10 dc10 pm10 cd10 ct10 : Value}
    (a10 : PySem.W.nsIn K mainGlobals "need_stand" = some (some (.ref f10))) (l10 : K.lookup f10 = some ⟨oc10, od10, .func (PySem.W.fnOf "need_stand" "need_stand" (defArgs s_need_stand) (defBody s_need_stand) (defScope s_need_stand) .none kV10 dc10 pm10 an10 cd10 ct10), sl10⟩) (c10 : PySem.W.codeIn K cd10 "need_stand" = true) (k10 : PySem.W.keepIn K (.ref f10) = true)
    {f11 : Addr} {od11 an11 : Option Addr} {sl11 : Array (Option Value)} {oc11 kV11 dc11 pm11 cd11 ct11 : Value}
    (a11 : PySem.W.findIn K (.ref C_Band) "__init__" = some (some (.ref f11))) (i11 : PySem.W.isFn K (.ref f11) = true) (l11 : K.lookup f11 = some ⟨oc11, od11, .func (PySem.W.fnOf "__init__" "Band.__init__" (defArgs s_Band_init) (defBody s_Band_init) (defScope s_Band_init) .none kV11 dc11 pm11 an11 cd11 ct11), sl11⟩) (c11 : PySem.W.codeIn K cd11 "Band.__init__" = true) (k11 : PySem.W.keepIn K (.ref f11) = true)
    {f12 : Addr} {od12 an12 : Option Addr} {sl12 : Array (Option Value)} {oc12 kV12 dc12 pm12 cd12 ct12 : Value}
    (a12 : PySem.W.nsIn K mainGlobals "band_from" = some (some (.ref f12))) (l12 : K.lookup f12 = some ⟨oc12, od12, .func (PySem.W.fnOf "band_from" "band_from" (defArgs s_band_from) (defBody s_band_from) (defScope s_band_from) .none kV12 dc12 pm12 an12 cd12 ct12), sl12⟩) (c12 : PySem.W.codeIn K cd12 "band_from" = true) (k12 : PySem.W.keepIn K (.ref f12) = true)
    {f13 : Addr} {od13 an13 : Option Addr} {sl13 : Array (Option Value)} {oc13 kV13 dc13 pm13 cd13 ct13 : Value}
    (a13 : PySem.W.nsIn K mainGlobals "bands_of" = some (some (.ref f13))) (l13 : K.lookup f13 = some ⟨oc13, od13, .func (PySem.W.fnOf "bands_of" "bands_of" (defArgs s_bands_of) (defBody s_bands_of) (defScope s_bands_of) .none kV13 dc13 pm13 an13 cd13 ct13), sl13⟩) (c13 : PySem.W.codeIn K cd13 "bands_of" = true) (k13 : PySem.W.keepIn K (.ref f13) = true)
    {f14 : Addr} {od14 an14 : Option Addr} {sl14 : Array (Option Value)} {oc14 kV14 dc14 pm14 cd14 ct14 : Value}
    (a14 : PySem.W.nsIn K mainGlobals "raised" = some (some (.ref f14))) (l14 : K.lookup f14 = some ⟨oc14, od14, .func (PySem.W.fnOf "raised" "raised" (defArgs s_raised) (defBody s_raised) (defScope s_raised) .none kV14 dc14 pm14 an14 cd14 ct14), sl14⟩) (c14 : PySem.W.codeIn K cd14 "raised" = true) (k14 : PySem.W.keepIn K (.ref f14) = true)
    {f15 : Addr} {od15 an15 : Option Addr} {sl15 : Array (Option Value)} {oc15 kV15 dc15 pm15 cd15 ct15 : Value}
    (a15 : PySem.W.nsIn K mainGlobals "lowered" = some (some (.ref f15))) (l15 : K.lookup f15 = some ⟨oc15, od15, .func (PySem.W.fnOf "lowered" "lowered" (defArgs s_lowered) (defBody s_lowered) (defScope s_lowered) .none kV15 dc15 pm15 an15 cd15 ct15), sl15⟩) (c15 : PySem.W.codeIn K cd15 "lowered" = true) (k15 : PySem.W.keepIn K (.ref f15) = true)
    {f16 : Addr} {od16 an16 : Option Addr} {sl16 : Array (Option Value)} {oc16 kV16 dc16 pm16 cd16 ct16 : Value}
    (a16 : PySem.W.nsIn K mainGlobals "row_alone" = some (some (.ref f16))) (l16 : K.lookup f16 = some ⟨oc16, od16, .func (PySem.W.fnOf "row_alone" "row_alone" (defArgs s_row_alone) (defBody s_row_alone) (defScope s_row_alone) .none kV16 dc16 pm16 an16 cd16 ct16), sl16⟩) (c16 : PySem.W.codeIn K cd16 "row_alone" = true) (k16 : PySem.W.keepIn K (.ref f16) = true)
    {f17 : Addr} {od17 an17 : Option Addr} {sl17 : Array (Option Value)} {oc17 kV17 dc17 pm17 cd17 ct17 : Value}
    (a17 : PySem.W.nsIn K mainGlobals "row_served_by_last" = some (some (.ref f17))) (l17 : K.lookup f17 = some ⟨oc17, od17, .func (PySem.W.fnOf "row_served_by_last" "row_served_by_last" (defArgs s_row_served_by_last) (defBody s_row_served_by_last) (defScope s_row_served_by_last) .none kV17 dc17 pm17 an17 cd17 ct17), sl17⟩) (c17 : PySem.W.codeIn K cd17 "row_served_by_last" = true) (k17 : PySem.W.keepIn K (.ref f17) = true)
    {f18 : Addr} {od18 an18 : Option Addr} {sl18 : Array (Option Value)} {oc18 kV18 dc18 pm18 cd18 ct18 : Value}
    (a18 : PySem.W.nsIn K mainGlobals "row_served_by_first" = some (some (.ref f18))) (l18 : K.lookup f18 = some ⟨oc18, od18, .func (PySem.W.fnOf "row_served_by_first" "row_served_by_first" (defArgs s_row_served_by_first) (defBody s_row_served_by_first) (defScope s_row_served_by_first) .none kV18 dc18 pm18 an18 cd18 ct18), sl18⟩) (c18 : PySem.W.codeIn K cd18 "row_served_by_first" = true) (k18 : PySem.W.keepIn K (.ref f18) = true)
    {f19 : Addr} {od19 an19 : Option Addr} {sl19 : Array (Option Value)} {oc19 kV19 dc19 pm19 cd19 ct19 : Value}
    (a19 : PySem.W.nsIn K mainGlobals "row_together" = some (some (.ref f19))) (l19 : K.lookup f19 = some ⟨oc19, od19, .func (PySem.W.fnOf "row_together" "row_together" (defArgs s_row_together) (defBody s_row_together) (defScope s_row_together) .none kV19 dc19 pm19 an19 cd19 ct19), sl19⟩) (c19 : PySem.W.codeIn K cd19 "row_together" = true) (k19 : PySem.W.keepIn K (.ref f19) = true)
    {f20 : Addr} {od20 an20 : Option Addr} {sl20 : Array (Option Value)} {oc20 kV20 dc20 pm20 cd20 ct20 : Value}
    (a20 : PySem.W.nsIn K mainGlobals "shortest_row" = some (some (.ref f20))) (l20 : K.lookup f20 = some ⟨oc20, od20, .func (PySem.W.fnOf "shortest_row" "shortest_row" (defArgs s_shortest_row) (defBody s_shortest_row) (defScope s_shortest_row) .none kV20 dc20 pm20 an20 cd20 ct20), sl20⟩) (c20 : PySem.W.codeIn K cd20 "shortest_row" = true) (k20 : PySem.W.keepIn K (.ref f20) = true)
    {f21 : Addr} {od21 an21 : Option Addr} {sl21 : Array (Option Value)} {oc21 kV21 dc21 pm21 cd21 ct21 : Value}
    (a21 : PySem.W.nsIn K mainGlobals "need_both" = some (some (.ref f21))) (l21 : K.lookup f21 = some ⟨oc21, od21, .func (PySem.W.fnOf "need_both" "need_both" (defArgs s_need_both) (defBody s_need_both) (defScope s_need_both) .none kV21 dc21 pm21 an21 cd21 ct21), sl21⟩) (c21 : PySem.W.codeIn K cd21 "need_both" = true) (k21 : PySem.W.keepIn K (.ref f21) = true)
    {f22 : Addr} {od22 an22 : Option Addr} {sl22 : Array (Option Value)} {oc22 kV22 dc22 pm22 cd22 ct22 : Value}
    (a22 : PySem.W.nsIn K mainGlobals "fewest" = some (some (.ref f22))) (l22 : K.lookup f22 = some ⟨oc22, od22, .func (PySem.W.fnOf "fewest" "fewest" (defArgs s_fewest) (defBody s_fewest) (defScope s_fewest) .none kV22 dc22 pm22 an22 cd22 ct22), sl22⟩) (c22 : PySem.W.codeIn K cd22 "fewest" = true) (k22 : PySem.W.keepIn K (.ref f22) = true)
    {f23 : Addr} {od23 an23 : Option Addr} {sl23 : Array (Option Value)} {oc23 kV23 dc23 pm23 cd23 ct23 : Value}
    (a23 : PySem.W.nsIn K mainGlobals "pushes_to" = some (some (.ref f23))) (l23 : K.lookup f23 = some ⟨oc23, od23, .func (PySem.W.fnOf "pushes_to" "pushes_to" (defArgs s_pushes_to) (defBody s_pushes_to) (defScope s_pushes_to) .none kV23 dc23 pm23 an23 cd23 ct23), sl23⟩) (c23 : PySem.W.codeIn K cd23 "pushes_to" = true) (k23 : PySem.W.keepIn K (.ref f23) = true)
    {f24 : Addr} {od24 an24 : Option Addr} {sl24 : Array (Option Value)} {oc24 kV24 dc24 pm24 cd24 ct24 : Value}
    (a24 : PySem.W.nsIn K mainGlobals "choices" = some (some (.ref f24))) (l24 : K.lookup f24 = some ⟨oc24, od24, .func (PySem.W.fnOf "choices" "choices" (defArgs s_choices) (defBody s_choices) (defScope s_choices) .none kV24 dc24 pm24 an24 cd24 ct24), sl24⟩) (c24 : PySem.W.codeIn K cd24 "choices" = true) (k24 : PySem.W.keepIn K (.ref f24) = true)
    {f25 : Addr} {od25 an25 : Option Addr} {sl25 : Array (Option Value)} {oc25 kV25 dc25 pm25 cd25 ct25 : Value}
    (a25 : PySem.W.nsIn K mainGlobals "stands" = some (some (.ref f25))) (l25 : K.lookup f25 = some ⟨oc25, od25, .func (PySem.W.fnOf "stands" "stands" (defArgs s_stands) (defBody s_stands) (defScope s_stands) .none kV25 dc25 pm25 an25 cd25 ct25), sl25⟩) (c25 : PySem.W.codeIn K cd25 "stands" = true) (k25 : PySem.W.keepIn K (.ref f25) = true)
    {f26 : Addr} {od26 an26 : Option Addr} {sl26 : Array (Option Value)} {oc26 kV26 dc26 pm26 cd26 ct26 : Value}
    (a26 : PySem.W.nsIn K mainGlobals "_law_deck" = some (some (.ref f26))) (l26 : K.lookup f26 = some ⟨oc26, od26, .func (PySem.W.fnOf "_law_deck" "_law_deck" (defArgs s_law_deck) (defBody s_law_deck) (defScope s_law_deck) .none kV26 dc26 pm26 an26 cd26 ct26), sl26⟩) (c26 : PySem.W.codeIn K cd26 "_law_deck" = true) (k26 : PySem.W.keepIn K (.ref f26) = true)
    {f27 : Addr} {od27 an27 : Option Addr} {sl27 : Array (Option Value)} {oc27 kV27 dc27 pm27 cd27 ct27 : Value}
    (a27 : PySem.W.nsIn K mainGlobals "_law_pick" = some (some (.ref f27))) (l27 : K.lookup f27 = some ⟨oc27, od27, .func (PySem.W.fnOf "_law_pick" "_law_pick" (defArgs s_law_pick) (defBody s_law_pick) (defScope s_law_pick) .none kV27 dc27 pm27 an27 cd27 ct27), sl27⟩) (c27 : PySem.W.codeIn K cd27 "_law_pick" = true) (k27 : PySem.W.keepIn K (.ref f27) = true)
    {f28 : Addr} {od28 an28 : Option Addr} {sl28 : Array (Option Value)} {oc28 kV28 dc28 pm28 cd28 ct28 : Value}
    (a28 : PySem.W.nsIn K mainGlobals "_law_one" = some (some (.ref f28))) (l28 : K.lookup f28 = some ⟨oc28, od28, .func (PySem.W.fnOf "_law_one" "_law_one" (defArgs s_law_one) (defBody s_law_one) (defScope s_law_one) .none kV28 dc28 pm28 an28 cd28 ct28), sl28⟩) (c28 : PySem.W.codeIn K cd28 "_law_one" = true) (k28 : PySem.W.keepIn K (.ref f28) = true)
    {f29 : Addr} {od29 an29 : Option Addr} {sl29 : Array (Option Value)} {oc29 kV29 dc29 pm29 cd29 ct29 : Value}
    (a29 : PySem.W.nsIn K mainGlobals "_law_sort" = some (some (.ref f29))) (l29 : K.lookup f29 = some ⟨oc29, od29, .func (PySem.W.fnOf "_law_sort" "_law_sort" (defArgs s_law_sort) (defBody s_law_sort) (defScope s_law_sort) .none kV29 dc29 pm29 an29 cd29 ct29), sl29⟩) (c29 : PySem.W.codeIn K cd29 "_law_sort" = true) (k29 : PySem.W.keepIn K (.ref f29) = true)
    {f30 : Addr} {od30 an30 : Option Addr} {sl30 : Array (Option Value)} {oc30 kV30 dc30 pm30 cd30 ct30 : Value}
    (a30 : PySem.W.nsIn K mainGlobals "_law_same" = some (some (.ref f30))) (l30 : K.lookup f30 = some ⟨oc30, od30, .func (PySem.W.fnOf "_law_same" "_law_same" (defArgs s_law_same) (defBody s_law_same) (defScope s_law_same) .none kV30 dc30 pm30 an30 cd30 ct30), sl30⟩) (c30 : PySem.W.codeIn K cd30 "_law_same" = true) (k30 : PySem.W.keepIn K (.ref f30) = true)
    {f31 : Addr} {od31 an31 : Option Addr} {sl31 : Array (Option Value)} {oc31 kV31 dc31 pm31 cd31 ct31 : Value}
    (a31 : PySem.W.nsIn K mainGlobals "_law_shelf" = some (some (.ref f31))) (l31 : K.lookup f31 = some ⟨oc31, od31, .func (PySem.W.fnOf "_law_shelf" "_law_shelf" (defArgs s_law_shelf) (defBody s_law_shelf) (defScope s_law_shelf) .none kV31 dc31 pm31 an31 cd31 ct31), sl31⟩) (c31 : PySem.W.codeIn K cd31 "_law_shelf" = true) (k31 : PySem.W.keepIn K (.ref f31) = true)
    {f32 : Addr} {od32 an32 : Option Addr} {sl32 : Array (Option Value)} {oc32 kV32 dc32 pm32 cd32 ct32 : Value}
    (a32 : PySem.W.nsIn K mainGlobals "_law_play" = some (some (.ref f32))) (l32 : K.lookup f32 = some ⟨oc32, od32, .func (PySem.W.fnOf "_law_play" "_law_play" (defArgs s_law_play) (defBody s_law_play) (defScope s_law_play) .none kV32 dc32 pm32 an32 cd32 ct32), sl32⟩) (c32 : PySem.W.codeIn K cd32 "_law_play" = true) (k32 : PySem.W.keepIn K (.ref f32) = true)
    {f33 : Addr} {od33 an33 : Option Addr} {sl33 : Array (Option Value)} {oc33 kV33 dc33 pm33 cd33 ct33 : Value}
    (a33 : PySem.W.nsIn K mainGlobals "_law_stand_of" = some (some (.ref f33))) (l33 : K.lookup f33 = some ⟨oc33, od33, .func (PySem.W.fnOf "_law_stand_of" "_law_stand_of" (defArgs s_law_stand_of) (defBody s_law_stand_of) (defScope s_law_stand_of) .none kV33 dc33 pm33 an33 cd33 ct33), sl33⟩) (c33 : PySem.W.codeIn K cd33 "_law_stand_of" = true) (k33 : PySem.W.keepIn K (.ref f33) = true)
    {f34 : Addr} {od34 an34 : Option Addr} {sl34 : Array (Option Value)} {oc34 kV34 dc34 pm34 cd34 ct34 : Value}
    (a34 : PySem.W.nsIn K mainGlobals "_law_stand" = some (some (.ref f34))) (l34 : K.lookup f34 = some ⟨oc34, od34, .func (PySem.W.fnOf "_law_stand" "_law_stand" (defArgs s_law_stand) (defBody s_law_stand) (defScope s_law_stand) .none kV34 dc34 pm34 an34 cd34 ct34), sl34⟩) (c34 : PySem.W.codeIn K cd34 "_law_stand" = true) (k34 : PySem.W.keepIn K (.ref f34) = true)
    {f35 : Addr} {od35 an35 : Option Addr} {sl35 : Array (Option Value)} {oc35 kV35 dc35 pm35 cd35 ct35 : Value}
    (a35 : PySem.W.nsIn K mainGlobals "_law_pushed" = some (some (.ref f35))) (l35 : K.lookup f35 = some ⟨oc35, od35, .func (PySem.W.fnOf "_law_pushed" "_law_pushed" (defArgs s_law_pushed) (defBody s_law_pushed) (defScope s_law_pushed) .none kV35 dc35 pm35 an35 cd35 ct35), sl35⟩) (c35 : PySem.W.codeIn K cd35 "_law_pushed" = true) (k35 : PySem.W.keepIn K (.ref f35) = true)
    {f36 : Addr} {od36 an36 : Option Addr} {sl36 : Array (Option Value)} {oc36 kV36 dc36 pm36 cd36 ct36 : Value}
    (a36 : PySem.W.nsIn K mainGlobals "_law_done" = some (some (.ref f36))) (l36 : K.lookup f36 = some ⟨oc36, od36, .func (PySem.W.fnOf "_law_done" "_law_done" (defArgs s_law_done) (defBody s_law_done) (defScope s_law_done) .none kV36 dc36 pm36 an36 cd36 ct36), sl36⟩) (c36 : PySem.W.codeIn K cd36 "_law_done" = true) (k36 : PySem.W.keepIn K (.ref f36) = true)
    {f37 : Addr} {od37 an37 : Option Addr} {sl37 : Array (Option Value)} {oc37 kV37 dc37 pm37 cd37 ct37 : Value}
    (a37 : PySem.W.nsIn K mainGlobals "_law_pushes" = some (some (.ref f37))) (l37 : K.lookup f37 = some ⟨oc37, od37, .func (PySem.W.fnOf "_law_pushes" "_law_pushes" (defArgs s_law_pushes) (defBody s_law_pushes) (defScope s_law_pushes) .none kV37 dc37 pm37 an37 cd37 ct37), sl37⟩) (c37 : PySem.W.codeIn K cd37 "_law_pushes" = true) (k37 : PySem.W.keepIn K (.ref f37) = true)
    {f38 : Addr} {od38 an38 : Option Addr} {sl38 : Array (Option Value)} {oc38 kV38 dc38 pm38 cd38 ct38 : Value}
    (a38 : PySem.W.nsIn K mainGlobals "_law_reached" = some (some (.ref f38))) (l38 : K.lookup f38 = some ⟨oc38, od38, .func (PySem.W.fnOf "_law_reached" "_law_reached" (defArgs s_law_reached) (defBody s_law_reached) (defScope s_law_reached) .none kV38 dc38 pm38 an38 cd38 ct38), sl38⟩) (c38 : PySem.W.codeIn K cd38 "_law_reached" = true) (k38 : PySem.W.keepIn K (.ref f38) = true)
    {f39 : Addr} {od39 an39 : Option Addr} {sl39 : Array (Option Value)} {oc39 kV39 dc39 pm39 cd39 ct39 : Value}
    (a39 : PySem.W.nsIn K mainGlobals "law" = some (some (.ref f39))) (l39 : K.lookup f39 = some ⟨oc39, od39, .func (PySem.W.fnOf "law" "law" (defArgs s_law) (defBody s_law) (defScope s_law) .none kV39 dc39 pm39 an39 cd39 ct39), sl39⟩) (c39 : PySem.W.codeIn K cd39 "law" = true) (k39 : PySem.W.keepIn K (.ref f39) = true)
    (aC_Band : PySem.W.nsIn K mainGlobals "Band" = some (some (.ref C_Band))) (pg_Band : PySem.W.plainGet K C_Band Str.empty = true) (hd_Band : PySem.W.hasDictIn K C_Band = true) (po_Band : PySem.W.plainOver K C_Band = true) (sa_Band : PySem.W.findIn K (.ref C_Band) "__setattr__" = some (some (.builtin "object.__setattr__"))) (mk_Band : PySem.W.makesIn K C_Band = true) (kc_Band : PySem.W.keepIn K (.ref C_Band) = true)
    (na_Band_first : PySem.W.findIn K (.ref C_Band) "first" = some none)
    (na_Band_beyond : PySem.W.findIn K (.ref C_Band) "beyond" = some none)
    (na_Band_place : PySem.W.findIn K (.ref C_Band) "place" = some none)
    (na_Band_up : PySem.W.findIn K (.ref C_Band) "up" = some none)
    (na_Band_down : PySem.W.findIn K (.ref C_Band) "down" = some none)
    (z_all : PySem.W.nsIn K mainGlobals "all" = some none)
    (z_bool : PySem.W.nsIn K mainGlobals "bool" = some none)
    (z_enumerate : PySem.W.nsIn K mainGlobals "enumerate" = some none)
    (z_int : PySem.W.nsIn K mainGlobals "int" = some none)
    (z_isinstance : PySem.W.nsIn K mainGlobals "isinstance" = some none)
    (z_len : PySem.W.nsIn K mainGlobals "len" = some none)
    (z_list : PySem.W.nsIn K mainGlobals "list" = some none)
    (z_max : PySem.W.nsIn K mainGlobals "max" = some none)
    (z_min : PySem.W.nsIn K mainGlobals "min" = some none)
    (z_range : PySem.W.nsIn K mainGlobals "range" = some none)
    (z_sorted : PySem.W.nsIn K mainGlobals "sorted" = some none)
    (z_str : PySem.W.nsIn K mainGlobals "str" = some none)
    (z_sum : PySem.W.nsIn K mainGlobals "sum" = some none)
    (z_tuple : PySem.W.nsIn K mainGlobals "tuple" = some none)
    (z_zip : PySem.W.nsIn K mainGlobals "zip" = some none)
    {t_MOST_BLOCKS : Tok} (v_MOST_BLOCKS : PySem.W.nsIn K mainGlobals "MOST_BLOCKS" = some (some (.int 8 t_MOST_BLOCKS)))
    {t_MOST_LENGTH : Tok} (v_MOST_LENGTH : PySem.W.nsIn K mainGlobals "MOST_LENGTH" = some (some (.int 50 t_MOST_LENGTH)))
    {t_MOST_PLAY : Tok} (v_MOST_PLAY : PySem.W.nsIn K mainGlobals "MOST_PLAY" = some (some (.int 400 t_MOST_PLAY)))
    : ∃ fd : FuncData, (∀ (s : Shared) (v : Value), BindsTo s fd ⟨[v], []⟩ [("script", v)]) ∧ ∀ base : Heap, K.In base → base.Ns mainGlobals mg → FnOk l.prog w K mg base CX0 11 fa fd ["script"] (sp_law K) := by
  have e := hfa.symm.trans (PySem.W.mg_of X G a39)
  cases e
  have T : Tx K mg := {
    F_is_whole := fun_mk (st := s_is_whole) l0 c0 k0
    g_is_whole := PySem.W.mg_of X G a0
    F_is_within := fun_mk (st := s_is_within) l1 c1 k1
    g_is_within := PySem.W.mg_of X G a1
    F_is_tuple_of := fun_mk (st := s_is_tuple_of) l2 c2 k2
    g_is_tuple_of := PySem.W.mg_of X G a2
    F_are_blocks := fun_mk (st := s_are_blocks) l3 c3 k3
    g_are_blocks := PySem.W.mg_of X G a3
    F_is_shelf := fun_mk (st := s_is_shelf) l4 c4 k4
    g_is_shelf := PySem.W.mg_of X G a4
    F_need_shelf := fun_mk (st := s_need_shelf) l5 c5 k5
    g_need_shelf := PySem.W.mg_of X G a5
    F_play_of := fun_mk (st := s_play_of) l6 c6 k6
    g_play_of := PySem.W.mg_of X G a6
    F_gap_length := fun_mk (st := s_gap_length) l7 c7 k7
    g_gap_length := PySem.W.mg_of X G a7
    F_places_of := fun_mk (st := s_places_of) l8 c8 k8
    g_places_of := PySem.W.mg_of X G a8
    F_is_stand := fun_mk (st := s_is_stand) l9 c9 k9
    g_is_stand := PySem.W.mg_of X G a9
    F_need_stand := fun_mk (st := s_need_stand) l10 c10 k10
    g_need_stand := PySem.W.mg_of X G a10
    F_Band_init := fun_mk (st := s_Band_init) l11 c11 k11
    F_band_from := fun_mk (st := s_band_from) l12 c12 k12
    g_band_from := PySem.W.mg_of X G a12
    F_bands_of := fun_mk (st := s_bands_of) l13 c13 k13
    g_bands_of := PySem.W.mg_of X G a13
    F_raised := fun_mk (st := s_raised) l14 c14 k14
    g_raised := PySem.W.mg_of X G a14
    F_lowered := fun_mk (st := s_lowered) l15 c15 k15
    g_lowered := PySem.W.mg_of X G a15
    F_row_alone := fun_mk (st := s_row_alone) l16 c16 k16
    g_row_alone := PySem.W.mg_of X G a16
    F_row_served_by_last := fun_mk (st := s_row_served_by_last) l17 c17 k17
    g_row_served_by_last := PySem.W.mg_of X G a17
    F_row_served_by_first := fun_mk (st := s_row_served_by_first) l18 c18 k18
    g_row_served_by_first := PySem.W.mg_of X G a18
    F_row_together := fun_mk (st := s_row_together) l19 c19 k19
    g_row_together := PySem.W.mg_of X G a19
    F_shortest_row := fun_mk (st := s_shortest_row) l20 c20 k20
    g_shortest_row := PySem.W.mg_of X G a20
    F_need_both := fun_mk (st := s_need_both) l21 c21 k21
    g_need_both := PySem.W.mg_of X G a21
    F_fewest := fun_mk (st := s_fewest) l22 c22 k22
    g_fewest := PySem.W.mg_of X G a22
    F_pushes_to := fun_mk (st := s_pushes_to) l23 c23 k23
    g_pushes_to := PySem.W.mg_of X G a23
    F_choices := fun_mk (st := s_choices) l24 c24 k24
    g_choices := PySem.W.mg_of X G a24
    F_stands := fun_mk (st := s_stands) l25 c25 k25
    g_stands := PySem.W.mg_of X G a25
    F_law_deck := fun_mk (st := s_law_deck) l26 c26 k26
    g_law_deck := PySem.W.mg_of X G a26
    F_law_pick := fun_mk (st := s_law_pick) l27 c27 k27
    g_law_pick := PySem.W.mg_of X G a27
    F_law_one := fun_mk (st := s_law_one) l28 c28 k28
    g_law_one := PySem.W.mg_of X G a28
    F_law_sort := fun_mk (st := s_law_sort) l29 c29 k29
    g_law_sort := PySem.W.mg_of X G a29
    F_law_same := fun_mk (st := s_law_same) l30 c30 k30
    g_law_same := PySem.W.mg_of X G a30
    F_law_shelf := fun_mk (st := s_law_shelf) l31 c31 k31
    g_law_shelf := PySem.W.mg_of X G a31
    F_law_play := fun_mk (st := s_law_play) l32 c32 k32
    g_law_play := PySem.W.mg_of X G a32
    F_law_stand_of := fun_mk (st := s_law_stand_of) l33 c33 k33
    g_law_stand_of := PySem.W.mg_of X G a33
    F_law_stand := fun_mk (st := s_law_stand) l34 c34 k34
    g_law_stand := PySem.W.mg_of X G a34
    F_law_pushed := fun_mk (st := s_law_pushed) l35 c35 k35
    g_law_pushed := PySem.W.mg_of X G a35
    F_law_done := fun_mk (st := s_law_done) l36 c36 k36
    g_law_done := PySem.W.mg_of X G a36
    F_law_pushes := fun_mk (st := s_law_pushes) l37 c37 k37
    g_law_pushes := PySem.W.mg_of X G a37
    F_law_reached := fun_mk (st := s_law_reached) l38 c38 k38
    g_law_reached := PySem.W.mg_of X G a38
    cl_Band := ⟨pg_Band, hd_Band, po_Band, sa_Band⟩
    g_Band := PySem.W.mg_of X G aC_Band
    mk_Band := ⟨mk_Band, a11, i11, kc_Band⟩
    na_Band_first := na_Band_first
    na_Band_beyond := na_Band_beyond
    na_Band_place := na_Band_place
    na_Band_up := na_Band_up
    na_Band_down := na_Band_down
    n_all := PySem.W.mg_none_of X G z_all
    n_bool := PySem.W.mg_none_of X G z_bool
    n_enumerate := PySem.W.mg_none_of X G z_enumerate
    n_int := PySem.W.mg_none_of X G z_int
    n_isinstance := PySem.W.mg_none_of X G z_isinstance
    n_len := PySem.W.mg_none_of X G z_len
    n_list := PySem.W.mg_none_of X G z_list
    n_max := PySem.W.mg_none_of X G z_max
    n_min := PySem.W.mg_none_of X G z_min
    n_range := PySem.W.mg_none_of X G z_range
    n_sorted := PySem.W.mg_none_of X G z_sorted
    n_str := PySem.W.mg_none_of X G z_str
    n_sum := PySem.W.mg_none_of X G z_sum
    n_tuple := PySem.W.mg_none_of X G z_tuple
    n_zip := PySem.W.mg_none_of X G z_zip
    c_MOST_BLOCKS := ⟨⟨_, rfl⟩, PySem.W.mg_of X G v_MOST_BLOCKS⟩
    c_MOST_LENGTH := ⟨⟨_, rfl⟩, PySem.W.mg_of X G v_MOST_LENGTH⟩
    c_MOST_PLAY := ⟨⟨_, rfl⟩, PySem.W.mg_of X G v_MOST_PLAY⟩ }
  exact ⟨PySem.W.fnOf "law" "law" (defArgs s_law) (defBody s_law) (defScope s_law) .none kV39 dc39 pm39 an39 cd39 ct39, fun s v => .of_eq rfl, fun base _ _ => ok_law (fun_mk (st := s_law) l39 c39 k39) T⟩
end PS
open PySem PySem.W PyProof.Rows
set_option maxHeartbeats 0 in
theorem PySem.Challenge.cw_pushshelf_k08_whole_fewest_of_all_rows_holds : PySem.Challenge.rw_pushshelf_k08_whole_fewest_of_all_rows.Holds := by
  w_on; o_law; k_head; (case hw => w_witness2)
  k_fill
  refine L2.walk_of (l := PySem.Challenge.rw_pushshelf_k08_whole_fewest_of_all_rows) (n := 63) (k := 11) (x := "script") (CX := fun _ => L2.CX0) (sp := fun w => PS.sp_law _) rfl (by decide) rfl ⟨rfl, by decide, by decide⟩ (fun w h Y => PySem.W.kIn_of Y) ?F (fun _ _ a ns hl _ hS => ⟨a, ns, rfl, hS, hl, fun _ => rfl⟩) (fun _ _ _ _ _ h => h)
  case F =>
    intro w mg fa h KX G hmg
    refine' PS.all_mk KX G hmg ?a0 ?l0 ?c0 ?k0 ?a1 ?l1 ?c1 ?k1 ?a2 ?l2 ?c2 ?k2 ?a3 ?l3 ?c3 ?k3 ?a4 ?l4 ?c4 ?k4 ?a5 ?l5 ?c5 ?k5 ?a6 ?l6 ?c6 ?k6 ?a7 ?l7 ?c7 ?k7 ?a8 ?l8 ?c8 ?k8 ?a9 ?l9 ?c9 ?k9 ?a10 ?l10 ?c10 ?k10 ?a11 ?i11 ?l11 ?c11 ?k11 ?a12 ?l12 ?c12 ?k12 ?a13 ?l13 ?c13 ?k13 ?a14 ?l14 ?c14 ?k14 ?a15 ?l15 ?c15 ?k15 ?a16 ?l16 ?c16 ?k16 ?a17 ?l17 ?c17 ?k17 ?a18 ?l18 ?c18 ?k18 ?a19 ?l19 ?c19 ?k19 ?a20 ?l20 ?c20 ?k20 ?a21 ?l21 ?c21 ?k21 ?a22 ?l22 ?c22 ?k22 ?a23 ?l23 ?c23 ?k23 ?a24 ?l24 ?c24 ?k24 ?a25 ?l25 ?c25 ?k25 ?a26 ?l26 ?c26 ?k26 ?a27 ?l27 ?c27 ?k27 ?a28 ?l28 ?c28 ?k28 ?a29 ?l29 ?c29 ?k29 ?a30 ?l30 ?c30 ?k30 ?a31 ?l31 ?c31 ?k31 ?a32 ?l32 ?c32 ?k32 ?a33 ?l33 ?c33 ?k33 ?a34 ?l34 ?c34 ?k34 ?a35 ?l35 ?c35 ?k35 ?a36 ?l36 ?c36 ?k36 ?a37 ?l37 ?c37 ?k37 ?a38 ?l38 ?c38 ?k38 ?a39 ?l39 ?c39 ?k39 ?aC_Band ?pg_Band ?hd_Band ?po_Band ?sa_Band ?mk_Band ?kc_Band ?na_Band_first ?na_Band_beyond ?na_Band_place ?na_Band_up ?na_Band_down ?z_all ?z_bool ?z_enumerate ?z_int ?z_isinstance ?z_len ?z_list ?z_max ?z_min ?z_range ?z_sorted ?z_str ?z_sum ?z_tuple ?z_zip ?v_MOST_BLOCKS ?v_MOST_LENGTH ?v_MOST_PLAY
    (case aC_Band => k_is); (case a0 => k_is); (case l0 => k_is); (case c0 => k_is); (case k0 => k_is); (case a1 => k_is); (case l1 => k_is); (case c1 => k_is); (case k1 => k_is); (case a2 => k_is); (case l2 => k_is); (case c2 => k_is); (case k2 => k_is); (case a3 => k_is); (case l3 => k_is); (case c3 => k_is); (case k3 => k_is); (case a4 => k_is); (case l4 => k_is); (case c4 => k_is); (case k4 => k_is); (case a5 => k_is); (case l5 => k_is); (case c5 => k_is); (case k5 => k_is); (case a6 => k_is); (case l6 => k_is); (case c6 => k_is); (case k6 => k_is); (case a7 => k_is); (case l7 => k_is); (case c7 => k_is); (case k7 => k_is); (case a8 => k_is); (case l8 => k_is); (case c8 => k_is); (case k8 => k_is); (case a9 => k_is); (case l9 => k_is); (case c9 => k_is); (case k9 => k_is); (case a10 => k_is); (case l10 => k_is); (case c10 => k_is); (case k10 => k_is); (case a11 => k_is); (case i11 => k_is); (case l11 => k_is); (case c11 => k_is); (case k11 => k_is); (case a12 => k_is); (case l12 => k_is); (case c12 => k_is); (case k12 => k_is); (case a13 => k_is); (case l13 => k_is); (case c13 => k_is); (case k13 => k_is); (case a14 => k_is); (case l14 => k_is); (case c14 => k_is); (case k14 => k_is); (case a15 => k_is); (case l15 => k_is); (case c15 => k_is); (case k15 => k_is); (case a16 => k_is); (case l16 => k_is); (case c16 => k_is); (case k16 => k_is); (case a17 => k_is); (case l17 => k_is); (case c17 => k_is); (case k17 => k_is); (case a18 => k_is); (case l18 => k_is); (case c18 => k_is); (case k18 => k_is); (case a19 => k_is); (case l19 => k_is); (case c19 => k_is); (case k19 => k_is); (case a20 => k_is); (case l20 => k_is); (case c20 => k_is); (case k20 => k_is); (case a21 => k_is); (case l21 => k_is); (case c21 => k_is); (case k21 => k_is); (case a22 => k_is); (case l22 => k_is); (case c22 => k_is); (case k22 => k_is); (case a23 => k_is); (case l23 => k_is); (case c23 => k_is); (case k23 => k_is); (case a24 => k_is); (case l24 => k_is); (case c24 => k_is); (case k24 => k_is); (case a25 => k_is); (case l25 => k_is); (case c25 => k_is); (case k25 => k_is); (case a26 => k_is); (case l26 => k_is); (case c26 => k_is); (case k26 => k_is); (case a27 => k_is); (case l27 => k_is); (case c27 => k_is); (case k27 => k_is); (case a28 => k_is); (case l28 => k_is); (case c28 => k_is); (case k28 => k_is); (case a29 => k_is); (case l29 => k_is); (case c29 => k_is); (case k29 => k_is); (case a30 => k_is); (case l30 => k_is); (case c30 => k_is); (case k30 => k_is); (case a31 => k_is); (case l31 => k_is); (case c31 => k_is); (case k31 => k_is); (case a32 => k_is); (case l32 => k_is); (case c32 => k_is); (case k32 => k_is); (case a33 => k_is); (case l33 => k_is); (case c33 => k_is); (case k33 => k_is); (case a34 => k_is); (case l34 => k_is); (case c34 => k_is); (case k34 => k_is); (case a35 => k_is); (case l35 => k_is); (case c35 => k_is); (case k35 => k_is); (case a36 => k_is); (case l36 => k_is); (case c36 => k_is); (case k36 => k_is); (case a37 => k_is); (case l37 => k_is); (case c37 => k_is); (case k37 => k_is); (case a38 => k_is); (case l38 => k_is); (case c38 => k_is); (case k38 => k_is); (case a39 => k_is); (case l39 => k_is); (case c39 => k_is); (case k39 => k_is); (case pg_Band => k_is); (case hd_Band => k_is); (case po_Band => k_is); (case sa_Band => k_is); (case mk_Band => k_is); (case kc_Band => k_is); (case na_Band_first => k_is); (case na_Band_beyond => k_is); (case na_Band_place => k_is); (case na_Band_up => k_is); (case na_Band_down => k_is); (case z_all => k_is); (case z_bool => k_is); (case z_enumerate => k_is); (case z_int => k_is); (case z_isinstance => k_is); (case z_len => k_is); (case z_list => k_is); (case z_max => k_is); (case z_min => k_is); (case z_range => k_is); (case z_sorted => k_is); (case z_str => k_is); (case z_sum => k_is); (case z_tuple => k_is); (case z_zip => k_is); (case v_MOST_BLOCKS => k_is); (case v_MOST_LENGTH => k_is); (case v_MOST_PLAY => k_is)



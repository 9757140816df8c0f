import PyProof.Rows.All
import Wide.All
import OpenK.AllK
import Wide.FinOn
import HandS.ForMost
import HandS.IsInst
import HandS.TupAny
import HandS.RevRange
import HandS.Walk
import HandS.Zip
import HandS.SortInts
import KE.GoesNew
import KE.DataEq
import HandS.Style
import PyProof.Rows.IntBool
import HandS.Deep
import KE.DataMinKey
import HandS.SortKw
import HandS.TupMul
import HandS.Conv
import HandS.Wide
import HandS.SetFor
import HandS.Codes
import PySem.Challenge.RW_pushshelf_k13_whole_small_shelves_by_wor
set_option Elab.async false
set_option linter.all false
set_option maxRecDepth 100000
set_option maxHeartbeats 8000000
namespace PS
open PySem PySem.Spec PyProof.Rows L2

/-! ### lists and tuples at once -/
def SqK (b : Bool) (K : PySem.W.Frag) (H : Hp) (a : Addr) (xs : List V) : Prop := match b with
  | true => SqL K H a xs
  | false => SqT K H a xs
def IsK (b : Bool) (h : Heap) (a : Addr) (its : Array Value) : Prop := match b with
  | true => h.IsList a its
  | false => h.IsTuple a its
def ItK (b : Bool) (h : Heap) (it a : Addr) (i : Nat) : Prop := match b with
  | true => h.IsListIter it a i
  | false => h.IsTupleIter it a i
def itO (b : Bool) (a : Addr) : Obj := match b with
  | true => { cls := .type "list_iterator", data := .fields #[.ref a, .int 0 0] }
  | false => { cls := .type "tuple_iterator", data := .fields #[.ref a, .int 0 0] }
theorem beginsK (b : Bool) (a : Addr) (its : Array Value) : Begins (.ref a) (itO b a) (fun h => IsK b h a its) := by
  cases b
  · exact begins_tuple a its
  · exact begins_list a its
theorem drawsK {prog : Program} {w : World} {A : Around} (b : Bool) (hh : A.handled = none) (it a : Addr) (hne : a ≠ it) (its : Array Value) :
    Draws prog w A it [it, a] its.size (fun i v => its[i]? = some v) (fun i h => ItK b h it a i ∧ IsK b h a its) := by
  cases b
  · exact Draws.tuple hh it a hne its
  · exact Draws.list hh it a hne its
theorem seqK {X : Cx} {pins : List (Addr × Obj)} {σ : L2.St} {H : Hp} {s : Shared} {b : Bool} {a : Addr} {xs : List V} (I : Inv X pins σ H s) (h : SqK b X.K H a xs) :
    ∃ its : List Value, Vals xs its ∧ IsK b s.heap a its.toArray ∧ a < s.heap.objs.size := by
  cases b
  · obtain ⟨its, r, p, _⟩ := I.tuple h
    exact ⟨its, r, p, p.lt⟩
  · obtain ⟨its, r, p, _⟩ := I.list h
    exact ⟨its, r, p.isList, p.lt⟩
theorem seqK_inj {X : Cx} {pins : List (Addr × Obj)} {σ : L2.St} {H : Hp} {s : Shared} {b : Bool} {a : Addr} {xs ys : List V} (I : Inv X pins σ H s) (h : SqK b X.K H a xs) (h' : SqK b X.K H a ys) : xs = ys := by
  cases b
  · exact I.tuple_inj h h'
  · exact I.list_inj h h'
theorem itK_obj {b : Bool} {h : Heap} {it a : Addr} {i : Nat} (x : ItK b h it a i) : ∃ o, h.get? it = some o ∧ ∀ v, o.data ≠ .cell v := by
  cases b
  · obtain ⟨o, e, _, d⟩ := x
    exact ⟨o, e, fun v q => by rw [d] at q; cases q⟩
  · obtain ⟨o, e, _, d⟩ := x
    exact ⟨o, e, fun v q => by rw [d] at q; cases q⟩
theorem itK_keep {b : Bool} {h h' : Heap} {it a : Addr} {i : Nat} (x : ItK b h it a i) (k : ∀ o, h.get? it = some o → h'.get? it = some o) : ItK b h' it a i := by
  cases b
  · obtain ⟨o, e, r⟩ := x
    exact ⟨o, k o e, r⟩
  · obtain ⟨o, e, r⟩ := x
    exact ⟨o, k o e, r⟩
theorem itK_new {b : Bool} {h : Heap} {it a : Addr} (e : h.get? it = some (itO b a)) : ItK b h it a 0 := by
  cases b
  · exact ⟨_, e, rfl, rfl⟩
  · exact ⟨_, e, rfl, rfl⟩

/-! ### one turn, by the library's walk of tuples -/
theorem item_of {X : Cx} {elts : List Expr} {kk : Nat} {tp : Pos} {it : Addr} {fp0 fp wr : List Addr} {n i : Nat} {Pt : Nat → Array Value → Prop} {S0 : Nat → Heap → Prop} {Mid : Nat → Addr → Heap → Prop}
    {pins : List (Addr × Obj)} {σ : L2.St} {H : Hp} {s : Shared} {E : Value → Shared → Prop} (G : WalksT X.prog X.w X.A it fp0 wr n Pt S0 Mid) (hw : ∀ b ∈ wr, b ∈ fp) (I : Inv X pins σ H s) (hf : ∀ b ∈ fp, FpOk X pins H b) (hi : i < n) (st : S0 i s.heap)
    (lt : ∀ b ∈ fp, b < s.heap.objs.size) {J : It} {tn : Nat → Heap → Prop} {xs : List V} (hP : ∀ vals, Pt i vals → Vals xs vals.toList) (hx : xs.length ≤ sizeLine)
    (hJ : ∀ T, H T = none → J.yld i H (.ref T) (upd H T (.tup xs))) (ht : ∀ h', S0 (i + 1) h' → tn (i + 1) h') :
    wpAny (model X.prog X.w) X.A (pyNext (.ref it)) (fun r s1 => ∃ u, r = some u ∧
      wpAny (model X.prog X.w) X.A (letOwnedTupleGo (.Tuple elts kk tp) (.ref it) u) (fun _ s2 => ∃ x H', Inv X pins σ H' s2 ∧ RelV x u ∧ J.yld i H x H' ∧ tn (i + 1) s2.heap ∧ ∀ b ∈ fp, H' b = none) E s1) E s := by
  refine (GoesN.ofWalksT (elts := elts) (k := kk) (pos := tp) G).goes i s _ E hi st fun v h' tk hY st' hk _ => ?_
  obtain ⟨T, vals, rfl, hT, hv, tup⟩ := hY
  have fT : H T = none := I.hok.fresh hT
  have hxs := hP vals hv
  have new : ObjOk X.prog X.w (upd H T (.tup xs)) h' T (.tup xs) := ⟨hx, vals.toList, hxs, by
    rw [show vals.toList.toArray = vals from by simp]
    exact tup⟩
  have I1 := I.turnedNew (t' := tk) (ch := fp) (fun b o hb q => hk b o (fun z => hb (hw b z)) q) hf hT new
  refine ⟨.ref T, upd H T (.tup xs), I1, rfl, hJ T fT, ht h' st', fun b hb => ?_⟩
  rw [upd_ne (Nat.ne_of_lt (Nat.lt_of_lt_of_le (lt b hb) hT))]
  exact (hf b hb).1
theorem done_of {X : Cx} {it : Addr} {fp0 fp wr : List Addr} {n : Nat} {Pt : Nat → Array Value → Prop} {S0 : Nat → Heap → Prop} {Mid : Nat → Addr → Heap → Prop}
    {pins : List (Addr × Obj)} {σ : L2.St} {H : Hp} {s : Shared} {E : Value → Shared → Prop} (G : WalksT X.prog X.w X.A it fp0 wr n Pt S0 Mid) (hw : ∀ b ∈ wr, b ∈ fp) (I : Inv X pins σ H s) (hf : ∀ b ∈ fp, FpOk X pins H b) (st : S0 n s.heap) :
    wpAny (model X.prog X.w) X.A (pyNext (.ref it)) (fun r s1 => r = none ∧ Inv X pins σ H s1) E s :=
  (GoesN.ofWalksT (elts := []) (k := 0) (pos := ⟨0, 0, 0, 0⟩) G).stops s (fun s1 => Inv X pins σ H s1) E st fun h' tk hk _ => I.turnedL (ch := fp) (fun b o hb q => hk b o (fun z => hb (hw b z)) q) hf

/-! ### zip of two, of three; enumerate: each of lists or tuples -/
def It2 (b1 b2 : Bool) (K : PySem.W.Frag) (a1 a2 : Addr) : It where
  go := fun i H => ∃ (xs ys : List V) (x y : V), SqK b1 K H a1 xs ∧ SqK b2 K H a2 ys ∧ xs[i]? = some x ∧ ys[i]? = some y
  yld := fun i H v H' => ∃ T x y, v = .ref T ∧ H T = none ∧ H' = upd H T (.tup [x, y]) ∧ (∀ xs, SqK b1 K H a1 xs → xs[i]? = some x) ∧ ∀ ys, SqK b2 K H a2 ys → ys[i]? = some y
  stop := fun i H => ∃ xs ys : List V, SqK b1 K H a1 xs ∧ SqK b2 K H a2 ys ∧ i = min xs.length ys.length
theorem mem5 {c z t o i j : Addr} (h : c ∈ [z, t, o, i, j]) : c = z ∨ c = t ∨ c = o ∨ c = i ∨ c = j := by simpa using h
theorem mem6 {c z t o i j k : Addr} (h : c ∈ [z, t, o, i, j, k]) : c = z ∨ c = t ∨ c = o ∨ c = i ∨ c = j ∨ c = k := by simpa using h
abbrev T2 (b1 b2 : Bool) (a1 a2 N : Addr) (i : Nat) (h : Heap) : Prop := IsZip h (N + 4) (N + 2) (N + 3) .none ∧ IsTupOf2 h (N + 2) (.ref N) (.ref (N + 1)) ∧ (∃ u v, IsTupOf2 h (N + 3) u v) ∧ ItK b1 h N a1 i ∧ ItK b2 h (N + 1) a2 i
theorem turn_2 {P : Program} {w : World} {K : PySem.W.Frag} {elts : List Expr} {kk : Nat} {tp : Pos} {b1 b2 : Bool} {a1 a2 N : Addr} (l1 : a1 < N) (l2 : a2 < N) :
    Turn P w K (.Tuple elts kk tp) (It2 b1 b2 K a1 a2) [N + 4, N + 2, N + 3, N, N + 1] (N + 4) (T2 b1 b2 a1 a2 N) where
  mem := by simp
  obj := fun i h st c hc => by
    obtain ⟨z1, z2, ⟨u, v, z3⟩, z4, z5⟩ := st
    rcases mem5 hc with q | q | q | q | q <;> rw [q]
    · exact ⟨_, z1, fun v q => nomatch q⟩
    · exact ⟨_, z2, fun v q => nomatch q⟩
    · exact ⟨_, z3, fun v q => nomatch q⟩
    · exact itK_obj z4
    · exact itK_obj z5
  keep := fun i h h' st k => by
    obtain ⟨z1, z2, ⟨u, v, z3⟩, z4, z5⟩ := st
    exact ⟨k _ (by simp) _ z1, k _ (by simp) _ z2, ⟨u, v, k _ (by simp) _ z3⟩, itK_keep z4 fun o e => k _ (by simp) o e, itK_keep z5 fun o e => k _ (by simp) o e⟩
  item := by
    intro X hP hw hK hc i pins s σ H E I hf st hg
    subst hP hw hK
    obtain ⟨xs, ys, x, y, q1, q2, e1, e2⟩ := hg
    obtain ⟨us, r1, p1, m1⟩ := seqK I q1
    obtain ⟨ws, r2, p2, m2⟩ := seqK I q2
    obtain ⟨u, g1, v1⟩ := r1.get e1
    obtain ⟨v, g2, v2⟩ := r2.get e2
    obtain ⟨z1, z2, z3, z4, z5⟩ := st
    have D1 := drawsK (prog := X.prog) (w := X.w) (A := X.A.in1) b1 (I.ok.hd hc) N a1 (Nat.ne_of_lt l1) us.toArray
    have D2 := drawsK (prog := X.prog) (w := X.w) (A := X.A.in1) b2 (I.ok.hd hc) (N + 1) a2 (Nat.ne_of_lt (Nat.lt_succ_of_lt l2)) ws.toArray
    have S := zip_sep2 (N := N) (fp1 := [a1]) (fp2 := [a2]) (by simpa using l1) (by simpa using l2)
    have n1 : i < us.length := (List.getElem?_eq_some_iff.mp g1).1
    have n2 : i < ws.length := (List.getElem?_eq_some_iff.mp g2).1
    have lt : ∀ c ∈ [N + 4, N + 2, N + 3, N, N + 1], c < s.heap.objs.size := fun c hc' => by
      obtain ⟨u', v', z3⟩ := z3
      rcases mem5 hc' with q | q | q | q | q <;> rw [q]
      · exact Heap.lt_size z1
      · exact Heap.lt_size z2
      · exact Heap.lt_size z3
      · obtain ⟨o, e, _⟩ := itK_obj z4; exact Heap.lt_size e
      · obtain ⟨o, e, _⟩ := itK_obj z5; exact Heap.lt_size e
    refine item_of (xs := [x, y]) (WalksT.zipD2 S D1 D2) (by simp) I hf (by simp; omega) ⟨z1, z2, z3, ⟨z4, p1⟩, ⟨z5, p2⟩⟩ lt (fun vals hv => ?_) (by show 2 ≤ sizeLine; decide) (fun T fT => ?_) (fun h' t => ?_)
    · obtain ⟨x', y', h1, h2, rfl⟩ := hv
      simp only [List.getElem?_toArray] at h1 h2
      rw [g1] at h1; rw [g2] at h2
      cases h1; cases h2
      exact .cons v1 (.cons v2 .nil)
    · exact ⟨T, x, y, rfl, fT, rfl, fun l hl => by rw [seqK_inj I hl q1]; exact e1, fun l hl => by rw [seqK_inj I hl q2]; exact e2⟩
    · exact ⟨t.1, t.2.1, t.2.2.1, t.2.2.2.1.1, t.2.2.2.2.1⟩
  done := by
    intro X hP hw hK hc i pins s σ H E I hf st hg
    subst hP hw hK
    obtain ⟨xs, ys, q1, q2, e⟩ := hg
    obtain ⟨us, r1, p1, m1⟩ := seqK I q1
    obtain ⟨ws, r2, p2, m2⟩ := seqK I q2
    obtain ⟨z1, z2, z3, z4, z5⟩ := st
    have D1 := drawsK (prog := X.prog) (w := X.w) (A := X.A.in1) b1 (I.ok.hd hc) N a1 (Nat.ne_of_lt l1) us.toArray
    have D2 := drawsK (prog := X.prog) (w := X.w) (A := X.A.in1) b2 (I.ok.hd hc) (N + 1) a2 (Nat.ne_of_lt (Nat.lt_succ_of_lt l2)) ws.toArray
    have S := zip_sep2 (N := N) (fp1 := [a1]) (fp2 := [a2]) (by simpa using l1) (by simpa using l2)
    have en : i = min us.toArray.size ws.toArray.size := by
      have := r1.length
      have := r2.length
      simp only [List.size_toArray]
      omega
    subst en
    exact done_of (WalksT.zipD2 S D1 D2) (by simp) I hf ⟨z1, z2, z3, ⟨z4, p1⟩, ⟨z5, p2⟩⟩
  self := fun A i s Q E st h => wpAny_pyIter_zip st.1 h

/-- what zip(e, e2) asks: the kinds of both -/
def iZip2 (b1 b2 : Bool) (K : PySem.W.Frag) (ta : TA) : TI := fun σ H R => ta σ H fun vs H1 => ∃ a1 a2 xs ys, vs = [.ref a1, .ref a2] ∧ SqK b1 K H1 a1 xs ∧ SqK b2 K H1 a2 ys ∧ R (It2 b1 b2 K a1 a2) H1
theorem fpNew {X : Cx} {pins : List (Addr × Obj)} {σ : L2.St} {H : Hp} {s : Shared} {c : Addr} (I : Inv X pins σ H s) (h : s.heap.objs.size ≤ c) : FpOk X pins H c := I.fpOk h (I.hok.fresh h)
theorem pi_zip2 {X : Cx} {e e2 : Expr} {ta : TA} {p pos tpos : Pos} {elts : List Expr} {kk : Nat} (b1 b2 : Bool) (hg : Gl X "zip") (hm : X.mg "zip" = none) (ha : PA X [e, e2] ta)
    (hs : starEach [e, e2] X.env = (false, eval e X.env) :: starEach [e2] X.env := by rfl) (hpl : (backTo pos (starEach [e2] X.env)).any (·.1) = false := by rfl) :
    PI X (.Tuple elts kk tpos) (.Call (.Name "zip" p) [e, e2] [] pos) (iZip2 b1 b2 X.K ta) := by
  constructor
  intro pins s σ H R I h
  refine Call_ ?_
  refine ld_blt I hg hm PyProof.Rows.boot_zip ?_
  refine PyProof.Rows.callWith_type1 (thn (ha.run pos pins s σ H _ I h) ?_) hs hpl
  rintro us s1 ⟨vs, H1, I1, r1, a1, a2, xs, ys, rfl, q1, q2, q⟩
  obtain ⟨u1, u2, rfl, e1, e2⟩ := vals2 r1
  cases e1; cases e2
  obtain ⟨us, w1, p1, m1⟩ := seqK I1 q1
  obtain ⟨ws, w2, p2, m2⟩ := seqK I1 q2
  refine zip_begins2 (beginsK b1 a1 us.toArray) (beginsK b2 a2 ws.toArray) p1 p2 fun h' c1 c2 c3 c4 c5 _ hk => wpAny_pyIter_zip c1 ?_
  refine ⟨_, _, _, _, H1, rfl, I1.kept (t' := s1.toks) hk, turn_2 (b1 := b1) (b2 := b2) m1 m2, ⟨c1, c2, ⟨_, _, c3⟩, itK_new c4, itK_new c5⟩, fun c hc => ?_, q⟩
  refine fpNew I1 ?_
  rcases mem5 hc with z | z | z | z | z <;> rw [z] <;> first | exact Nat.le_refl _ | exact Nat.le_add_right _ _

def It3 (b1 b2 b3 : Bool) (K : PySem.W.Frag) (a1 a2 a3 : Addr) : It where
  go := fun i H => ∃ (xs ys zs : List V) (x y z : V), SqK b1 K H a1 xs ∧ SqK b2 K H a2 ys ∧ SqK b3 K H a3 zs ∧ xs[i]? = some x ∧ ys[i]? = some y ∧ zs[i]? = some z
  yld := fun i H v H' => ∃ T x y z, v = .ref T ∧ H T = none ∧ H' = upd H T (.tup [x, y, z]) ∧ (∀ xs, SqK b1 K H a1 xs → xs[i]? = some x) ∧ (∀ ys, SqK b2 K H a2 ys → ys[i]? = some y) ∧ ∀ zs, SqK b3 K H a3 zs → zs[i]? = some z
  stop := fun i H => ∃ xs ys zs : List V, SqK b1 K H a1 xs ∧ SqK b2 K H a2 ys ∧ SqK b3 K H a3 zs ∧ i = min (min xs.length ys.length) zs.length
abbrev T3 (b1 b2 b3 : Bool) (a1 a2 a3 N : Addr) (i : Nat) (h : Heap) : Prop := IsZip h (N + 5) (N + 3) (N + 4) .none ∧ IsTupOf3 h (N + 3) (.ref N) (.ref (N + 1)) (.ref (N + 2)) ∧ (∃ u v z, IsTupOf3 h (N + 4) u v z) ∧ ItK b1 h N a1 i ∧ ItK b2 h (N + 1) a2 i ∧ ItK b3 h (N + 2) a3 i
theorem turn_3 {P : Program} {w : World} {K : PySem.W.Frag} {elts : List Expr} {kk : Nat} {tp : Pos} {b1 b2 b3 : Bool} {a1 a2 a3 N : Addr} (l1 : a1 < N) (l2 : a2 < N) (l3 : a3 < N) :
    Turn P w K (.Tuple elts kk tp) (It3 b1 b2 b3 K a1 a2 a3) [N + 5, N + 3, N + 4, N, N + 1, N + 2] (N + 5) (T3 b1 b2 b3 a1 a2 a3 N) where
  mem := by simp
  obj := fun i h st c hc => by
    obtain ⟨z1, z2, ⟨u, v, t, z3⟩, z4, z5, z6⟩ := st
    rcases mem6 hc with q | q | q | q | q | q <;> rw [q]
    · exact ⟨_, z1, fun v q => nomatch q⟩
    · exact ⟨_, z2, fun v q => nomatch q⟩
    · exact ⟨_, z3, fun v q => nomatch q⟩
    · exact itK_obj z4
    · exact itK_obj z5
    · exact itK_obj z6
  keep := fun i h h' st k => by
    obtain ⟨z1, z2, ⟨u, v, t, z3⟩, z4, z5, z6⟩ := st
    exact ⟨k _ (by simp) _ z1, k _ (by simp) _ z2, ⟨u, v, t, k _ (by simp) _ z3⟩, itK_keep z4 fun o e => k _ (by simp) o e, itK_keep z5 fun o e => k _ (by simp) o e, itK_keep z6 fun o e => k _ (by simp) o e⟩
  item := by
    intro X hP hw hK hc i pins s σ H E I hf st hg
    subst hP hw hK
    obtain ⟨xs, ys, zs, x, y, z, q1, q2, q3, e1, e2, e3⟩ := hg
    obtain ⟨us, r1, p1, m1⟩ := seqK I q1
    obtain ⟨ws, r2, p2, m2⟩ := seqK I q2
    obtain ⟨ts, r3, p3, m3⟩ := seqK I q3
    obtain ⟨u, g1, v1⟩ := r1.get e1
    obtain ⟨v, g2, v2⟩ := r2.get e2
    obtain ⟨t, g3, v3⟩ := r3.get e3
    obtain ⟨z1, z2, z3, z4, z5, z6⟩ := st
    have D1 := drawsK (prog := X.prog) (w := X.w) (A := X.A.in1) b1 (I.ok.hd hc) N a1 (Nat.ne_of_lt l1) us.toArray
    have D2 := drawsK (prog := X.prog) (w := X.w) (A := X.A.in1) b2 (I.ok.hd hc) (N + 1) a2 (Nat.ne_of_lt (Nat.lt_succ_of_lt l2)) ws.toArray
    have D3 := drawsK (prog := X.prog) (w := X.w) (A := X.A.in1) b3 (I.ok.hd hc) (N + 2) a3 (Nat.ne_of_lt (Nat.lt_succ_of_lt (Nat.lt_succ_of_lt l3))) ts.toArray
    have S := zip_sep3 (N := N) (fp1 := [a1]) (fp2 := [a2]) (fp3 := [a3]) (by simpa using l1) (by simpa using l2) (by simpa using l3)
    have n1 : i < us.length := (List.getElem?_eq_some_iff.mp g1).1
    have n2 : i < ws.length := (List.getElem?_eq_some_iff.mp g2).1
    have n3 : i < ts.length := (List.getElem?_eq_some_iff.mp g3).1
    have lt : ∀ c ∈ [N + 5, N + 3, N + 4, N, N + 1, N + 2], c < s.heap.objs.size := fun c hc' => by
      obtain ⟨u', v', t', z3⟩ := z3
      rcases mem6 hc' with q | q | q | q | q | q <;> rw [q]
      · exact Heap.lt_size z1
      · exact Heap.lt_size z2
      · exact Heap.lt_size z3
      · obtain ⟨o, e, _⟩ := itK_obj z4; exact Heap.lt_size e
      · obtain ⟨o, e, _⟩ := itK_obj z5; exact Heap.lt_size e
      · obtain ⟨o, e, _⟩ := itK_obj z6; exact Heap.lt_size e
    refine item_of (xs := [x, y, z]) (WalksT.zipD3 S D1 D2 D3) (by simp) I hf (by simp; omega) ⟨z1, z2, z3, ⟨z4, p1⟩, ⟨z5, p2⟩, ⟨z6, p3⟩⟩ lt (fun vals hv => ?_) (by show 3 ≤ sizeLine; decide) (fun T fT => ?_) (fun h' t => ?_)
    · obtain ⟨x', y', z', h1, h2, h3, rfl⟩ := hv
      simp only [List.getElem?_toArray] at h1 h2 h3
      rw [g1] at h1; rw [g2] at h2; rw [g3] at h3
      cases h1; cases h2; cases h3
      exact .cons v1 (.cons v2 (.cons v3 .nil))
    · exact ⟨T, x, y, z, rfl, fT, rfl, fun l hl => by rw [seqK_inj I hl q1]; exact e1, fun l hl => by rw [seqK_inj I hl q2]; exact e2, fun l hl => by rw [seqK_inj I hl q3]; exact e3⟩
    · exact ⟨t.1, t.2.1, t.2.2.1, t.2.2.2.1.1, t.2.2.2.2.1.1, t.2.2.2.2.2.1⟩
  done := by
    intro X hP hw hK hc i pins s σ H E I hf st hg
    subst hP hw hK
    obtain ⟨xs, ys, zs, q1, q2, q3, e⟩ := hg
    obtain ⟨us, r1, p1, m1⟩ := seqK I q1
    obtain ⟨ws, r2, p2, m2⟩ := seqK I q2
    obtain ⟨ts, r3, p3, m3⟩ := seqK I q3
    obtain ⟨z1, z2, z3, z4, z5, z6⟩ := st
    have D1 := drawsK (prog := X.prog) (w := X.w) (A := X.A.in1) b1 (I.ok.hd hc) N a1 (Nat.ne_of_lt l1) us.toArray
    have D2 := drawsK (prog := X.prog) (w := X.w) (A := X.A.in1) b2 (I.ok.hd hc) (N + 1) a2 (Nat.ne_of_lt (Nat.lt_succ_of_lt l2)) ws.toArray
    have D3 := drawsK (prog := X.prog) (w := X.w) (A := X.A.in1) b3 (I.ok.hd hc) (N + 2) a3 (Nat.ne_of_lt (Nat.lt_succ_of_lt (Nat.lt_succ_of_lt l3))) ts.toArray
    have S := zip_sep3 (N := N) (fp1 := [a1]) (fp2 := [a2]) (fp3 := [a3]) (by simpa using l1) (by simpa using l2) (by simpa using l3)
    have en : i = min (min us.toArray.size ws.toArray.size) ts.toArray.size := by
      have := r1.length
      have := r2.length
      have := r3.length
      simp only [List.size_toArray]
      omega
    subst en
    exact done_of (WalksT.zipD3 S D1 D2 D3) (by simp) I hf ⟨z1, z2, z3, ⟨z4, p1⟩, ⟨z5, p2⟩, ⟨z6, p3⟩⟩
  self := fun A i s Q E st h => wpAny_pyIter_zip st.1 h
def iZip3 (b1 b2 b3 : Bool) (K : PySem.W.Frag) (ta : TA) : TI := fun σ H R => ta σ H fun vs H1 => ∃ a1 a2 a3 xs ys zs, vs = [.ref a1, .ref a2, .ref a3] ∧ SqK b1 K H1 a1 xs ∧ SqK b2 K H1 a2 ys ∧ SqK b3 K H1 a3 zs ∧ R (It3 b1 b2 b3 K a1 a2 a3) H1
theorem vals3 {a b c : V} {us : List Value} (r : Vals [a, b, c] us) : ∃ x y z, us = [x, y, z] ∧ RelV a x ∧ RelV b y ∧ RelV c z := by
  cases r with
  | cons r1 rr =>
    obtain ⟨y, z, rfl, h1, h2⟩ := vals2 rr
    exact ⟨_, y, z, rfl, r1, h1, h2⟩
theorem pi_zip3 {X : Cx} {e e2 e3 : Expr} {ta : TA} {p pos tpos : Pos} {elts : List Expr} {kk : Nat} (b1 b2 b3 : Bool) (hg : Gl X "zip") (hm : X.mg "zip" = none) (ha : PA X [e, e2, e3] ta)
    (hs : starEach [e, e2, e3] X.env = (false, eval e X.env) :: starEach [e2, e3] X.env := by rfl) (hpl : (backTo pos (starEach [e2, e3] X.env)).any (·.1) = false := by rfl) :
    PI X (.Tuple elts kk tpos) (.Call (.Name "zip" p) [e, e2, e3] [] pos) (iZip3 b1 b2 b3 X.K ta) := by
  constructor
  intro pins s σ H R I h
  refine Call_ ?_
  refine ld_blt I hg hm PyProof.Rows.boot_zip ?_
  refine PyProof.Rows.callWith_type1 (thn (ha.run pos pins s σ H _ I h) ?_) hs hpl
  rintro us s1 ⟨vs, H1, I1, r1, a1, a2, a3, xs, ys, zs, rfl, q1, q2, q3, q⟩
  obtain ⟨u1, u2, u3, rfl, e1, e2, e3⟩ := vals3 r1
  cases e1; cases e2; cases e3
  obtain ⟨us, w1, p1, m1⟩ := seqK I1 q1
  obtain ⟨ws, w2, p2, m2⟩ := seqK I1 q2
  obtain ⟨ts, w3, p3, m3⟩ := seqK I1 q3
  refine zip_begins3 (beginsK b1 a1 us.toArray) (beginsK b2 a2 ws.toArray) (beginsK b3 a3 ts.toArray) p1 p2 p3 fun h' c1 c2 c3 c4 c5 c6 _ hk => wpAny_pyIter_zip c1 ?_
  refine ⟨_, _, _, _, H1, rfl, I1.kept (t' := s1.toks) hk, turn_3 (b1 := b1) (b2 := b2) (b3 := b3) m1 m2 m3, ⟨c1, c2, ⟨_, _, _, c3⟩, itK_new c4, itK_new c5, itK_new c6⟩, fun c hc => ?_, q⟩
  refine fpNew I1 ?_
  rcases mem6 hc with z | z | z | z | z | z <;> rw [z] <;> first | exact Nat.le_refl _ | exact Nat.le_add_right _ _

/-! ### enumerate of a list or a tuple -/
def It1 (b : Bool) (K : PySem.W.Frag) (a : Addr) : It where
  go := fun i H => ∃ (xs : List V) (x : V), SqK b K H a xs ∧ xs[i]? = some x
  yld := fun i H v H' => ∃ T x, v = .ref T ∧ H T = none ∧ H' = upd H T (.tup [.int (i : Nat), x]) ∧ ∀ xs, SqK b K H a xs → xs[i]? = some x
  stop := fun i H => ∃ xs : List V, SqK b K H a xs ∧ i = xs.length
abbrev T1 (b : Bool) (a N : Addr) (i : Nat) (h : Heap) : Prop := (∃ old, IsEnum h (N + 1) N (0 + (i : Int)) old) ∧ ItK b h N a i
theorem turn_1 {P : Program} {w : World} {K : PySem.W.Frag} {elts : List Expr} {kk : Nat} {tp : Pos} {b : Bool} {a N : Addr} (l1 : a < N) :
    Turn P w K (.Tuple elts kk tp) (It1 b K a) [N + 1, N] (N + 1) (T1 b a N) where
  mem := by simp
  obj := fun i h st c hc => by
    obtain ⟨⟨old, z1⟩, z2⟩ := st
    have hc' : c = N + 1 ∨ c = N := by simpa using hc
    rcases hc' with q | q <;> rw [q]
    · exact ⟨_, z1, fun v q => nomatch q⟩
    · exact itK_obj z2
  keep := fun i h h' st k => by
    obtain ⟨⟨old, z1⟩, z2⟩ := st
    exact ⟨⟨old, k _ (by simp) _ z1⟩, itK_keep z2 fun o e => k _ (by simp) o e⟩
  item := by
    intro X hP hw hK hc i pins s σ H E I hf st hg
    subst hP hw hK
    obtain ⟨xs, x, q1, e1⟩ := hg
    obtain ⟨us, r1, p1, m1⟩ := seqK I q1
    obtain ⟨u, g1, v1⟩ := r1.get e1
    obtain ⟨z1, z2⟩ := st
    have D1 := drawsK (prog := X.prog) (w := X.w) (A := X.A.in1) b (I.ok.hd hc) N a (Nat.ne_of_lt l1) us.toArray
    have n1 : i < us.length := (List.getElem?_eq_some_iff.mp g1).1
    have lt : ∀ c ∈ [N + 1, N], c < s.heap.objs.size := fun c hc' => by
      obtain ⟨old, z1⟩ := z1
      have hc' : c = N + 1 ∨ c = N := by simpa using hc'
      rcases hc' with q | q <;> rw [q]
      · exact Heap.lt_size z1
      · obtain ⟨o, e, _⟩ := itK_obj z2; exact Heap.lt_size e
    have W := WalksT.enumFrom 0 D1 (N + 1) (Nat.ne_of_gt (Nat.lt_succ_self N)) (by
      intro hm
      have hm' : N + 1 = N ∨ N + 1 = a := by simpa using hm
      rcases hm' with q | q
      · exact absurd q (Nat.ne_of_gt (Nat.lt_succ_self N))
      · exact absurd q.symm (Nat.ne_of_lt (Nat.lt_succ_of_lt l1))) (by simp)
    refine item_of (xs := [.int (i : Nat), x]) W (by simp) I hf (by simpa using n1) ⟨z1, ⟨z2, p1⟩⟩ lt (fun vals hv => ?_) (by show 2 ≤ sizeLine; decide) (fun T fT => ?_) (fun h' t => ?_)
    · obtain ⟨t, x', h1, rfl⟩ := hv
      simp only [List.getElem?_toArray] at h1
      rw [g1] at h1
      cases h1
      exact .cons ⟨t, by rw [Int.zero_add]⟩ (.cons v1 .nil)
    · exact ⟨T, x, rfl, fT, rfl, fun l hl => by rw [seqK_inj I hl q1]; exact e1⟩
    · exact ⟨t.1, t.2.1⟩
  done := by
    intro X hP hw hK hc i pins s σ H E I hf st hg
    subst hP hw hK
    obtain ⟨xs, q1, e⟩ := hg
    obtain ⟨us, r1, p1, m1⟩ := seqK I q1
    obtain ⟨z1, z2⟩ := st
    have D1 := drawsK (prog := X.prog) (w := X.w) (A := X.A.in1) b (I.ok.hd hc) N a (Nat.ne_of_lt l1) us.toArray
    have W := WalksT.enumFrom 0 D1 (N + 1) (Nat.ne_of_gt (Nat.lt_succ_self N)) (by
      intro hm
      have hm' : N + 1 = N ∨ N + 1 = a := by simpa using hm
      rcases hm' with q | q
      · exact absurd q (Nat.ne_of_gt (Nat.lt_succ_self N))
      · exact absurd q.symm (Nat.ne_of_lt (Nat.lt_succ_of_lt l1))) (by simp)
    have en : i = us.toArray.size := by
      have := r1.length
      simp only [List.size_toArray]
      omega
    subst en
    exact done_of W (by simp) I hf ⟨z1, ⟨z2, p1⟩⟩
  self := fun A i s Q E st h => by
    obtain ⟨⟨old, z1⟩, _⟩ := st
    exact wpAny_pyIter_enum z1 h
set_option maxHeartbeats 1000000 in
theorem meets_enum1 {v : Value} {o : Obj} {H : Heap → Prop} (B : Begins v o H) :
    Meets (Builtin.«enumerate.__new__» ⟨[.type "enumerate", v], []⟩) (fun _ R s => H s.heap ∧
      R (.ok (.ret (.ref (s.heap.push o).objs.size))) { s with heap := (s.heap.push o).push ⟨.type "enumerate", none, .fields #[.none, .bool false, .ref s.heap.objs.size, rawInt 0, .none, .none], #[]⟩ }) :=
  .of_wp fun prog w A R s h => by
    obtain ⟨hp, g, d, tk, os⟩ := s
    obtain ⟨h1, h⟩ := h
    have hsub := sub_enumerate
    have q1 : ∀ {A' : Around} {E : Value → Shared → Prop} {Q : Value → Shared → Prop}, Q (.ref hp.objs.size) ⟨hp.push o, g, d, tk, os⟩ → wpAny (model prog w) A' (pyIter v) Q E ⟨hp, g, d, tk, os⟩ := by
      intro A' E Q q
      exact B.iter prog w _ _ ⟨hp, g, d, tk, os⟩ _ h1 q
    wp_walk using q1
    apply wpAny_stack_any
    intro st
    apply wpAny_pure
    split
    · rename_i c _ _ _ _ _
      cases (c == Value.type "enumerate") <;> (wp_walk using q1; exact ⟨_, rfl, h⟩)
    · wp_walk using q1
      exact ⟨_, rfl, h⟩
theorem enum_begins1 {prog : Program} {w : World} {A : Around} {E : Value → Shared → Prop} {s : Shared} {v : Value} {o : Obj} {H : Heap → Prop} {Q : Value → Shared → Prop} (B : Begins v o H) (h1 : H s.heap)
    (h : ∀ h', IsEnum h' (s.heap.objs.size + 1) s.heap.objs.size 0 .none → h'.get? s.heap.objs.size = some o → (∀ b o, s.heap.get? b = some o → h'.get? b = some o) → Q (.ref (s.heap.objs.size + 1)) { s with heap := h' }) :
    wpAny (model prog w) A (call (.type "enumerate") [v]) Q E s := by
  refine callType_new F.called_enumerate (by decide) (F.typeCall_enumerate_1 _) (F.newCall_enumerate_1 _) (fun obj => F.args_object_init_2 obj _) F.entry_enumerate_new (meets_enum1 B) ⟨h1, ?_⟩
  have hz : (s.heap.push o).objs.size = s.heap.objs.size + 1 := Heap.size_push ..
  have he := Heap.get?_push_size (s.heap.push o) (o := ⟨.type "enumerate", none, .fields #[.none, .bool false, .ref s.heap.objs.size, rawInt 0, .none, .none], #[]⟩) rfl
  rw [hz] at he
  show _ ∧ _
  rw [hz]
  exact ⟨⟨_, he, rfl⟩, h _ he (Heap.get?_push_of_some _ (Heap.get?_push_size _ B.free)) fun b o x => Heap.get?_push_of_some _ (Heap.get?_push_of_some _ x)⟩
def iEnum1 (K : PySem.W.Frag) (ta : TA) : TI := fun σ H R => ta σ H fun vs H1 => ∃ b a xs, vs = [.ref a] ∧ SqK b K H1 a xs ∧ R (It1 b K a) H1
theorem pi_enum1 {X : Cx} {e : Expr} {ta : TA} {p pos tpos : Pos} {elts : List Expr} {kk : Nat} (hg : Gl X "enumerate") (hm : X.mg "enumerate" = none) (ha : PA X [e] ta)
    (hs : starEach [e] X.env = (false, eval e X.env) :: starEach [] X.env := by rfl) (hpl : (backTo pos (starEach [] X.env)).any (·.1) = false := by rfl) :
    PI X (.Tuple elts kk tpos) (.Call (.Name "enumerate" p) [e] [] pos) (iEnum1 X.K ta) := by
  constructor
  intro pins s σ H R I h
  refine Call_ ?_
  refine ld_blt I hg hm PyProof.Rows.boot_enumerate ?_
  refine PyProof.Rows.callWith_type1 (thn (ha.run pos pins s σ H _ I h) ?_) hs hpl
  rintro us s1 ⟨vs, H1, I1, r1, b, a, xs, rfl, q1, q⟩
  obtain ⟨u1, rfl, e1⟩ := vals1 r1
  cases e1
  obtain ⟨us, w1, p1, m1⟩ := seqK I1 q1
  refine enum_begins1 (beginsK b a us.toArray) p1 fun h' c1 c2 hk => wpAny_pyIter_enum c1 ?_
  refine ⟨_, _, _, _, H1, rfl, I1.kept (t' := s1.toks) hk, turn_1 (b := b) m1, ⟨⟨_, c1⟩, itK_new c2⟩, fun c hc => ?_, q⟩
  refine fpNew I1 ?_
  have hc' : c = s1.heap.objs.size + 1 ∨ c = s1.heap.objs.size := by simpa using hc
  rcases hc' with z | z <;> rw [z] <;> first | exact Nat.le_refl _ | exact Nat.le_add_right _ _

/-! ### list + list, both read -/
def rCatL (K : PySem.W.Frag) : R2 := fun x y H Q => ∃ l b xs zs, x = .ref l ∧ y = .ref b ∧ SqL K H l xs ∧ SqL K H b zs ∧ xs.length + zs.length ≤ sizeLine ∧ ∀ p, H p = none → Q (.ref p) (upd H p (.lst (xs ++ zs)))
theorem op_catL {X : Cx} : OpR X (binaryOp .Add) (rCatL X.K) := by
  intro pins s σ H x y v u Q I rx ry h
  obtain ⟨l, b, xs, zs, rfl, rfl, h1, h2, hz, q⟩ := h
  cases rx
  cases ry
  obtain ⟨i1, r1, p1, _⟩ := I.list h1
  obtain ⟨i2, r2, p2, _⟩ := I.list h2
  have l1 := r1.length
  have l2 := r2.length
  obtain ⟨⟨c1, d1, t1, w1⟩, n1, o1, k1, g1, e1⟩ := p1
  obtain ⟨⟨c2, d2, t2, w2⟩, n2, o2, k2, g2, e2⟩ := p2
  simp only at k1 g1 e1 k2 g2 e2
  subst k1 g1 e1 k2 g2 e2
  have ea : i1.toArray ++ i2.toArray = (i1 ++ i2).toArray := by simp
  refine concat_meets ⟨_, o1, rfl⟩ ⟨_, o2, rfl⟩ noFill_list_add seq_list_add PySem.F.slot_list_add PySem.F.entry_list_add (PySem.F.args_list_add_2 _ _) (list_addW l b i1.toArray i2.toArray n1 n2 none none w1 w2 (by simp; omega)) ⟨o1, o2, ?_⟩
  rw [ea]
  exact ⟨.ref _, _, I.lnew (t' := s.toks) (r1.append r2) (by rw [List.length_append]; omega), rfl, q _ I.fresh⟩
/-! ### sum of a tuple of ints -/
def rSumT (K : PySem.W.Frag) : List V → Hp → VK → Prop := fun vs H Q => ∃ (a : Addr) (ns : List Int), vs = [V.ref a] ∧ SqT K H a (ns.map V.int) ∧ Q (.int ns.sum) H
theorem preSum_list (ns : List Int) : ∀ k, k ≤ ns.length → preSum (fun i => ns.getD i 0) k = (ns.take k).sum
  | 0, _ => by simp [preSum]
  | k + 1, h => by
    have ih := preSum_list ns k (by omega)
    have e : ns[k]? = some ns[k] := List.getElem?_eq_getElem (by omega)
    rw [sum_take e, ← ih]
    show preSum (fun i => ns.getD i 0) k + ns.getD k 0 = _
    rw [List.getD_eq_getElem?_getD, e]
    rfl
theorem cr_sumT {X : Cx} (hc : X.calm = true) : CallR X (.builtin "sum") (rSumT X.K) := by
  intro pins s σ H vs us Q I r h
  obtain ⟨a, ns, rfl, hs, q⟩ := h
  obtain ⟨its, rv, p, _⟩ := I.tuple hs
  have hlt := p.lt
  have hlen := rv.length
  rw [Vals.ref1 r]
  refine call_sum_walkG (wpAny_pyIter_tuple p ?_)
  refine ⟨_, _, _, _, _, _, fun i => ns.getD i 0, rfl, Walks.tuple (A := X.A.in1) (I.ok.hd hc) _ a (Nat.ne_of_lt hlt) its.toArray, ⟨⟨_, Heap.get?_push_size _ rfl, rfl, rfl⟩, ?_⟩, fun b hb => ?_, fun i v hv => ?_, fun h' tk t' hk => ?_⟩
  · obtain ⟨o, e, r⟩ := id p
    exact ⟨o, Heap.get?_push_of_some _ e, r⟩
  · show b < (s.heap.push _).objs.size
    rw [Heap.size_push]
    have hb' : b = s.heap.objs.size ∨ b = a := by simpa using hb
    rcases hb' with z | z <;> rw [z]
    · exact Nat.lt_succ_self _
    · exact Nat.lt_succ_of_lt hlt
  · have hv' : its[i]? = some v := by simpa using hv
    have hi : i < its.length := (List.getElem?_eq_some_iff.mp hv').1
    rw [List.length_map] at hlen
    have hn : i < ns.length := by omega
    have e : (ns.map V.int)[i]? = some (.int (ns.getD i 0)) := by
      rw [List.getElem?_map, List.getElem?_eq_getElem hn, List.getD_eq_getElem?_getD, List.getElem?_eq_getElem hn]
      rfl
    obtain ⟨u, hu, t, ru⟩ := rv.get e
    rw [hv'] at hu
    cases hu
    exact ⟨t, ru⟩
  · rw [List.length_map] at hlen
    have hk' : ∀ b o, s.heap.get? b = some o → h'.get? b = some o := fun b o e => hk b o (by
      have := Heap.lt_size e
      simp
      exact Nat.ne_of_lt this) (Heap.get?_push_of_some _ e)
    refine ⟨.int _, H, I.kept hk', ⟨t', rfl⟩, ?_⟩
    rw [List.size_toArray, ← hlen, preSum_list ns _ (Nat.le_refl _), List.take_length]
    exact q
end PS

namespace PS
open PySem PySem.Spec PyProof.Rows L2
/-! ### data in the heap -/
section
variable {K : PySem.W.Frag} {H H' : Hp}
theorem seqT_mono {a : Addr} {xs : List V} (e : Same H H') (h : SqT K H a xs) : SqT K H' a xs := by
  rcases h with (h | ⟨o, h⟩) | h
  · exact .inl (.inl (e _ _ h))
  · exact .inl (.inr ⟨o, e _ _ h⟩)
  · exact .inr h
mutual
theorem dp_mono (e : Same H H') : ∀ (d : PyData) (v : V), Dp K H v d → Dp K H' v d
  | .none, _, h => by cases h; exact .non
  | .bool b, _, h => by cases h; exact .bl b
  | .int i, _, h => by cases h; exact .int i
  | .str x, _, h => by cases h; exact .str x
  | .list ds, _, h => by
    cases h with
    | lst s a => exact .lst (e.seq s) (dpAll_mono e ds _ a)
  | .tuple ds, _, h => by
    cases h with
    | tup s a => exact .tup (seqT_mono e s) (dpAll_mono e ds _ a)
  | .dict _, _, h => by cases h
theorem dpAll_mono (e : Same H H') : ∀ (ds : List PyData) (vs : List V), DpAll K H vs ds → DpAll K H' vs ds
  | [], _, h => by cases h; exact .nil
  | d :: ds, _, h => by
    cases h with
    | cons h1 h2 => exact .cons (dp_mono e d _ h1) (dpAll_mono e ds _ h2)
end
theorem Dpm {d : PyData} {v : V} (e : Same H H') (h : Dp K H v d) : Dp K H' v d := dp_mono e d v h
theorem dpAll_len : ∀ {ds : List PyData} {vs : List V}, DpAll K H vs ds → vs.length = ds.length
  | [], _, h => by cases h; rfl
  | d :: ds, _, h => by
    cases h with
    | cons h1 h2 => simp [dpAll_len h2]
theorem dpAll_get : ∀ {ds : List PyData} {vs : List V} {i : Nat} {v : V}, DpAll K H vs ds → vs[i]? = some v → ∃ d, ds[i]? = some d ∧ Dp K H v d
  | [], _, i, v, h, e => by cases h; simp at e
  | d :: ds, _, i, v, h, e => by
    cases h with
    | cons h1 h2 =>
      cases i with
      | zero => simp at e; subst e; exact ⟨d, rfl, h1⟩
      | succ i =>
        obtain ⟨d', e1, e2⟩ := dpAll_get (i := i) (v := v) h2 (by simpa using e)
        exact ⟨d', by simpa using e1, e2⟩
theorem dpAll_at : ∀ {ds : List PyData} {vs : List V} {i : Nat} {d : PyData}, DpAll K H vs ds → ds[i]? = some d → ∃ v, vs[i]? = some v ∧ Dp K H v d
  | [], _, i, v, h, e => by simp at e
  | d :: ds, _, i, v, h, e => by
    cases h with
    | cons h1 h2 =>
      cases i with
      | zero => simp at e; subst e; exact ⟨_, rfl, h1⟩
      | succ i =>
        obtain ⟨d', e1, e2⟩ := dpAll_at (i := i) (d := v) h2 (by simpa using e)
        exact ⟨d', by simpa using e1, e2⟩
theorem dpAll_app : ∀ {ds es : List PyData} {vs us : List V}, DpAll K H vs ds → DpAll K H us es → DpAll K H (vs ++ us) (ds ++ es)
  | [], _, _, _, h, g => by cases h; exact g
  | d :: ds, _, _, _, h, g => by
    cases h with
    | cons h1 h2 => exact .cons h1 (dpAll_app h2 g)
theorem dpAll_take : ∀ {ds : List PyData} {vs : List V} (n : Nat), DpAll K H vs ds → DpAll K H (vs.take n) (ds.take n)
  | ds, vs, 0, h => by simp; exact .nil
  | [], _, n + 1, h => by cases h; exact .nil
  | d :: ds, _, n + 1, h => by
    cases h with
    | cons h1 h2 => exact .cons h1 (dpAll_take n h2)
theorem dpAll_drop : ∀ {ds : List PyData} {vs : List V} (n : Nat), DpAll K H vs ds → DpAll K H (vs.drop n) (ds.drop n)
  | ds, vs, 0, h => by simpa using h
  | [], _, n + 1, h => by cases h; exact .nil
  | d :: ds, _, n + 1, h => by
    cases h with
    | cons h1 h2 => exact dpAll_drop n h2
theorem dp_tup {v : V} {ds : List PyData} (h : Dp K H v (.tuple ds)) : ∃ a xs, v = .ref a ∧ SqT K H a xs ∧ DpAll K H xs ds := by
  cases h with
  | tup s a => exact ⟨_, _, rfl, s, a⟩
theorem dp_lst {v : V} {ds : List PyData} (h : Dp K H v (.list ds)) : ∃ a xs, v = .ref a ∧ SqL K H a xs ∧ DpAll K H xs ds := by
  cases h with
  | lst s a => exact ⟨_, _, rfl, s, a⟩
/-- ints -/
abbrev iD (ns : List Int) : List PyData := ns.map PyData.int
abbrev iV (ns : List Int) : List V := ns.map V.int
theorem dpAll_ints : ∀ {ns : List Int} {vs : List V}, DpAll K H vs (iD ns) → vs = iV ns
  | [], _, h => by cases h; rfl
  | n :: ns, _, h => by
    cases h with
    | cons h1 h2 =>
      cases h1
      rw [dpAll_ints (ns := ns) h2]
      rfl
theorem ints_dpAll : ∀ (ns : List Int), DpAll K H (iV ns) (iD ns)
  | [] => .nil
  | n :: ns => .cons (.int n) (ints_dpAll ns)
abbrev tI (ns : List Int) : PyData := .tuple (iD ns)
theorem dp_tI {v : V} {ns : List Int} (h : Dp K H v (tI ns)) : ∃ a, v = .ref a ∧ SqT K H a (iV ns) := by
  obtain ⟨a, xs, rfl, s, t⟩ := dp_tup h
  rw [dpAll_ints t] at s
  exact ⟨a, rfl, s⟩
theorem tI_dp {a : Addr} {ns : List Int} (h : SqT K H a (iV ns)) : Dp K H (.ref a) (tI ns) := .tup h (ints_dpAll ns)
theorem dp_int {v : V} {i : Int} (h : Dp K H v (.int i)) : v = .int i := by cases h; rfl
theorem dp_str {v : V} {x : Str} (h : Dp K H v (.str x)) : v = .str x := by cases h; rfl
/-! ### kinds -/
def tyN : PyData → String
  | .none => "NoneType" | .bool _ => "bool" | .int _ => "int" | .str _ => "str" | .list _ => "list" | .tuple _ => "tuple" | .dict _ => "dict"
theorem dp_ty {v : V} {d : PyData} (h : Dp K H v d) : TyX K H v (.type (tyN d)) := by
  cases h with
  | non => exact .base .non
  | bl b => exact .base (.bl b)
  | int i => exact .base (.int i)
  | str x => exact .base (.str x)
  | lst s a =>
    rcases s with (s | ⟨o, s⟩) | ⟨o, its, n, e, c, _⟩
    · exact .base (.lst s)
    · exact .base (.frz s)
    · exact .kList e c
  | tup s a =>
    rcases s with (s | ⟨o, s⟩) | ⟨o, its, n, e, c, _⟩
    · exact .base (.tup s)
    · exact .fTuple s
    · exact .kTuple e c
end
/-- isinstance(x, n) of data -/
def isA (d : PyData) (n : String) : Bool := (kitB (tyN d) n).getD false
def rIsD (K : PySem.W.Frag) : List V → Hp → VK → Prop := fun xs H Q => ∃ (x : V) (n : String) (d : PyData), xs = [x, .ty n] ∧ Dp K H x d ∧ (kitB (tyN d) n).isSome = true ∧ Q (.bl (isA d n)) H
theorem call_isD {X : Cx} : CallR X (.builtin "isinstance") (rIsD X.K) := by
  intro pins s σ H xs us Q I r h
  obtain ⟨x, n, d, rfl, hd, hs, q⟩ := h
  refine call_isi pins s σ H _ us Q I r ⟨x, .ty n, _, _, isA d n, rfl, .ty n, dp_ty hd, ?_, q⟩
  apply kit_ty
  unfold isA
  cases e : kitB (tyN d) n with
  | none => rw [e] at hs; cases hs
  | some b => rfl
theorem kS (d : PyData) (n : String) (h : n = "int" ∨ n = "bool" ∨ n = "str" ∨ n = "list" ∨ n = "tuple") : (kitB (tyN d) n).isSome = true := by
  rcases h with rfl | rfl | rfl | rfl | rfl <;> cases d <;> simp only [tyN] <;> decide +kernel
theorem kInt (d : PyData) : (kitB (tyN d) "int").isSome = true := kS d _ (by simp)
theorem kBool (d : PyData) : (kitB (tyN d) "bool").isSome = true := kS d _ (by simp)
theorem kStr (d : PyData) : (kitB (tyN d) "str").isSome = true := kS d _ (by simp)
theorem kList (d : PyData) : (kitB (tyN d) "list").isSome = true := kS d _ (by simp)
theorem kTuple (d : PyData) : (kitB (tyN d) "tuple").isSome = true := kS d _ (by simp)
def isW : PyData → Bool | .int _ => true | _ => false
def isT : PyData → Bool | .tuple _ => true | _ => false
def isL : PyData → Bool | .list _ => true | _ => false
def isS : PyData → Bool | .str _ => true | _ => false
def isB : PyData → Bool | .bool _ => true | _ => false
def isIB : PyData → Bool | .bool _ => true | .int _ => true | _ => false
theorem isA_tuple (d : PyData) : isA d "tuple" = isT d := by cases d <;> simp only [isA, tyN, isT] <;> decide +kernel
theorem isA_list (d : PyData) : isA d "list" = isL d := by cases d <;> simp only [isA, tyN, isL] <;> decide +kernel
theorem isA_str (d : PyData) : isA d "str" = isS d := by cases d <;> simp only [isA, tyN, isS] <;> decide +kernel
theorem isA_bool (d : PyData) : isA d "bool" = isB d := by cases d <;> simp only [isA, tyN, isB] <;> decide +kernel
theorem isA_int (d : PyData) : isA d "int" = isIB d := by cases d <;> simp only [isA, tyN, isIB] <;> decide +kernel
/-! ### shapes -/
mutual
theorem dp_can {K : PySem.W.Frag} {H : Hp} : ∀ (d : PyData) (v : V), Dp K H v d → d.plain = true
  | .none, _, _ => rfl
  | .bool _, _, _ => rfl
  | .int _, _, _ => rfl
  | .str _, _, _ => rfl
  | .list ds, _, h => by
    cases h with
    | lst s a => simpa [PyData.plain] using dpAll_can ds _ a
  | .tuple ds, _, h => by
    cases h with
    | tup s a => simpa [PyData.plain] using dpAll_can ds _ a
  | .dict _, _, h => by cases h
theorem dpAll_can {K : PySem.W.Frag} {H : Hp} : ∀ (ds : List PyData) (vs : List V), DpAll K H vs ds → PyData.plainAll ds = true
  | [], _, _ => rfl
  | d :: ds, _, h => by
    cases h with
    | cons h1 h2 => simp [PyData.plainAll, dp_can d _ h1, dpAll_can ds _ h2]
end
/-- == and != of data, nested less than 65 deep on the left -/
def rEqP (K : PySem.W.Frag) : R2 := fun x y H Q => ∃ d e, Dp K H x d ∧ Dp K H y e ∧ d.depth ≤ 64 ∧ Q (.bl (PyData.eqv d e)) H
def rNeP (K : PySem.W.Frag) : R2 := fun x y H Q => ∃ d e, Dp K H x d ∧ Dp K H y e ∧ d.depth ≤ 64 ∧ Q (.bl (!PyData.eqv d e)) H
theorem op_eqP {X : Cx} (hu : X.A.units + 64 < cLine) : OpR X (compareOp .Eq) (rEqP X.K) := by
  intro pins s σ H x y v u Q I rx ry h
  obtain ⟨d, e, hd, he, hl, q⟩ := h
  obtain ⟨as, r1⟩ := Dp.reads I d x v hd rx
  obtain ⟨bs, r2⟩ := Dp.reads I e y u he ry
  exact SeqAt.eq_plain r1 r2 (dp_can d x hd) (dp_can e y he) (by omega) ⟨.bl _, H, I, rfl, q⟩
theorem op_neP {X : Cx} (hu : X.A.units + 64 < cLine) : OpR X (compareOp .NotEq) (rNeP X.K) := by
  intro pins s σ H x y v u Q I rx ry h
  obtain ⟨d, e, hd, he, hl, q⟩ := h
  obtain ⟨as, r1⟩ := Dp.reads I d x v hd rx
  obtain ⟨bs, r2⟩ := Dp.reads I e y u he ry
  exact SeqAt.ne_plain r1 r2 (dp_can d x hd) (dp_can e y he) (by omega) ⟨.bl _, H, I, rfl, q⟩
theorem eqv_self {K : PySem.W.Frag} {H : Hp} {d : PyData} {v : V} (h : Dp K H v d) : PyData.eqv d d = true := SeqAt.eqv_refl_plain d (dp_can d v h)
theorem depthAll_le {n : Nat} : ∀ (ds : List PyData), (∀ d ∈ ds, d.depth ≤ n) → PyData.depthAll ds ≤ n
  | [], _ => by simp [PyData.depthAll]
  | d :: ds, h => by
    rw [PyData.depthAll]
    exact Nat.max_le.mpr ⟨h d (by simp), depthAll_le ds fun x hx => h x (by simp [hx])⟩
theorem depth_of_all {n : Nat} : ∀ (ds : List PyData), PyData.depthAll ds ≤ n → ∀ d ∈ ds, d.depth ≤ n
  | [], _, d, h => by simp at h
  | x :: ds, h, d, hd => by
    rw [PyData.depthAll] at h
    obtain ⟨h1, h2⟩ := Nat.max_le.mp h
    rcases List.mem_cons.mp hd with rfl | hd
    · exact h1
    · exact depth_of_all ds h2 d hd
theorem depth_tI (ns : List Int) : (tI ns).depth ≤ 1 := by
  rw [PyData.depth]
  have : PyData.depthAll (iD ns) ≤ 0 := depthAll_le _ fun d hd => by
    obtain ⟨i, _, rfl⟩ := List.mem_map.mp hd
    simp [PyData.depth]
  omega
/-! ### the heap without one cell -/
def Off (k : Addr) (H : Hp) : Hp := fun b => if b = k then none else H b
theorem off_same (k : Addr) (H : Hp) : Same (Off k H) H := fun b o h => by
  unfold Off at h
  split at h
  · cases h
  · exact h
theorem off_mono {k : Addr} {H H' : Hp} (e : Same H H') : Same (Off k H) (Off k H') := fun b o h => by
  unfold Off at h ⊢
  split at h
  · cases h
  · rename_i n
    rw [if_neg n]
    exact e b o h
theorem off_of {k : Addr} {H H' : Hp} (e : ∀ b o, b ≠ k → H b = some o → H' b = some o) : Same (Off k H) (Off k H') := fun b o h => by
  unfold Off at h ⊢
  split at h
  · cases h
  · rename_i n
    rw [if_neg n]
    exact e b o n h
theorem off_back {k : Addr} {H H' : Hp} (e : Same (Off k H) (Off k H')) {b : Addr} {o : HO} (n : b ≠ k) (h : H b = some o) : H' b = some o := by
  have h1 : Off k H b = some o := by unfold Off; rw [if_neg n]; exact h
  have h2 := e b o h1
  unfold Off at h2
  rw [if_neg n] at h2
  exact h2
theorem off_at {k b : Addr} {H : Hp} {o : HO} (n : b ≠ k) (h : H b = some o) : Off k H b = some o := by
  unfold Off
  rw [if_neg n]
  exact h
theorem same_new {H : Hp} {p : Addr} {o : HO} (h : H p = none) : Same H (upd H p o) := fun b x e => by
  rw [upd_ne (ne_of_none e h)]
  exact e
/-! data without lists does not hold the cell of a list -/
mutual
def noL : PyData → Bool
  | .list _ => false
  | .tuple ds => noLs ds
  | .none | .bool _ | .int _ | .str _ | .dict _ => true
def noLs : List PyData → Bool
  | [] => true
  | d :: ds => noL d && noLs ds
end
theorem noLs_all : ∀ (ds : List PyData), (∀ d ∈ ds, noL d = true) → noLs ds = true
  | [], _ => rfl
  | d :: ds, h => by simp [noLs, h d (by simp), noLs_all ds fun x hx => h x (by simp [hx])]
theorem noL_tI (ns : List Int) : noL (tI ns) = true := by
  rw [noL]
  exact noLs_all _ fun d hd => by
    obtain ⟨i, _, rfl⟩ := List.mem_map.mp hd
    rfl
mutual
theorem dp_off {K : PySem.W.Frag} {H : Hp} {k : Addr} {l : List V} (hk : H k = some (.lst l)) : ∀ (d : PyData) (v : V), noL d = true → Dp K H v d → Dp K (Off k H) v d
  | .none, _, _, h => by cases h; exact .non
  | .bool b, _, _, h => by cases h; exact .bl b
  | .int i, _, _, h => by cases h; exact .int i
  | .str x, _, _, h => by cases h; exact .str x
  | .list ds, _, n, h => by simp [noL] at n
  | .tuple ds, _, n, h => by
    cases h with
    | @tup a xs _ s al =>
      refine .tup ?_ (dpAll_off hk ds _ (by simpa [noL] using n) al)
      rcases s with (s | ⟨o, s⟩) | s
      · exact .inl (.inl (off_at (ne_of s hk (by intro z; cases z)) s))
      · exact .inl (.inr ⟨o, off_at (ne_of s hk (by intro z; cases z)) s⟩)
      · exact .inr s
  | .dict _, _, _, h => by cases h
theorem dpAll_off {K : PySem.W.Frag} {H : Hp} {k : Addr} {l : List V} (hk : H k = some (.lst l)) : ∀ (ds : List PyData) (vs : List V), noLs ds = true → DpAll K H vs ds → DpAll K (Off k H) vs ds
  | [], _, _, h => by cases h; exact .nil
  | d :: ds, _, n, h => by
    cases h with
    | cons h1 h2 =>
      have n' : noL d = true ∧ noLs ds = true := by simpa [noLs] using n
      exact .cons (dp_off hk d _ n'.1 h1) (dpAll_off hk ds _ n'.2 h2)
end
/-! ### what a def gives back -/
abbrev RB (H : Hp) (Q : VK) (b : Bool) : Prop := ∀ H', Same H H' → Q (.bl b) H'
abbrev RI (H : Hp) (Q : VK) (n : Int) : Prop := ∀ H', Same H H' → Q (.int n) H'
abbrev RD (K : PySem.W.Frag) (H : Hp) (Q : VK) (d : PyData) : Prop := ∀ v H', Same H H' → Dp K H' v d → Q v H'
end PS

namespace PS
open PySem PySem.Spec PyProof.Rows L2
section
variable {X : Cx}
/-- an int or a truth as a number -/
def NumV (x : V) (i : Int) : Prop := x = .int i ∨ ∃ b : Bool, x = .bl b ∧ i = if b = true then 1 else 0
def rAddN : R2 := fun x y H Q => ∃ i j, NumV x i ∧ y = .int j ∧ Q (.int (i + j)) H
def rSubN : R2 := fun x y H Q => ∃ i j, NumV x i ∧ y = .int j ∧ Q (.int (i - j)) H
theorem op_addN : OpR X (binaryOp .Add) rAddN := by
  intro pins s σ H x y v u Q I rx ry h
  obtain ⟨i, j, n, rfl, q⟩ := h
  rcases n with rfl | ⟨b, rfl, rfl⟩
  · exact op_add pins s σ H _ _ v u Q I rx ry ⟨_, _, rfl, rfl, q⟩
  · cases rx
    obtain ⟨t, rfl⟩ := ry
    exact PySem.IntBool.add_bool_int ⟨.int _, H, I.tok _, ⟨_, rfl⟩, q⟩
theorem op_subN : OpR X (binaryOp .Sub) rSubN := by
  intro pins s σ H x y v u Q I rx ry h
  obtain ⟨i, j, n, rfl, q⟩ := h
  rcases n with rfl | ⟨b, rfl, rfl⟩
  · exact op_sub pins s σ H _ _ v u Q I rx ry ⟨_, _, rfl, rfl, q⟩
  · cases rx
    obtain ⟨t, rfl⟩ := ry
    exact PySem.IntBool.sub_bool_int ⟨.int _, H, I.tok _, ⟨_, rfl⟩, q⟩
theorem call_strN : CallR X (.type "str") (fun xs H Q => (∃ i : Int, xs = [.int i] ∧ i.natAbs.log2 < 1920 ∧ Q (.str (toString i)) H) ∨ ∃ b : Bool, xs = [.bl b] ∧ Q (.str (if b then "True" else "False")) H) := by
  intro pins s σ H xs us Q I r h
  rcases h with h | ⟨b, rfl, q⟩
  · exact call_str_int pins s σ H xs us Q I r h
  · obtain ⟨u, rfl, rx⟩ := vals1 r
    cases rx
    exact P.str_of_bool ⟨.str _, H, I.tok _, ⟨_, rfl⟩, q⟩
/-- two of one kind, one behind the other; a part of either -/
def rCatB (K : PySem.W.Frag) : R2 := fun x y H Q => rCatL K x y H Q ∨ rCatA K x y H Q ∨ rAddN x y H Q
theorem op_catB : OpR X (binaryOp .Add) (rCatB X.K) := by
  intro pins s σ H x y v u Q I rx ry h
  rcases h with h | h | h
  · exact op_catL pins s σ H x y v u Q I rx ry h
  · exact op_catA pins s σ H x y v u Q I rx ry h
  · exact op_addN pins s σ H x y v u Q I rx ry h
def rSlB (K : PySem.W.Frag) : V → Option Int → Option Int → Hp → VK → Prop := fun x lo hi H Q => rSlL K x lo hi H Q ∨ rSlA K x lo hi H Q
theorem sl_B : SlR X (rSlB X.K) := by
  intro pins s σ H x v vl vu lo hi sl Q I rx hs pl pu h
  rcases h with h | h
  · exact sl_list pins s σ H x v vl vu lo hi sl Q I rx hs pl pu h
  · exact sl_tupA pins s σ H x v vl vu lo hi sl Q I rx hs pl pu h
/-- isinstance(x, (tuple, list)), the classes' tuple laid just now -/
def isTL : PyData → Bool | .tuple _ => true | .list _ => true | _ => false
def rIsTL (K : PySem.W.Frag) : List V → Hp → VK → Prop := fun xs H Q => ∃ (x : V) (tp : Addr) (d : PyData), xs = [x, .ref tp] ∧ H tp = some (.tup [.ty "tuple", .ty "list"]) ∧ Dp K H x d ∧ Q (.bl (isTL d)) H
theorem call_isTL : CallR X (.builtin "isinstance") (rIsTL X.K) := by
  intro pins s σ H xs us Q I r h
  obtain ⟨x, tp, d, rfl, ht, hd, q⟩ := h
  refine call_isiT pins s σ H _ us Q I r ⟨x, tp, _, _, [.type "tuple", .type "list"], isTL d, rfl, ht, .cons (.ty _) (.cons (.ty _) .nil), dp_ty hd, ?_, q⟩
  have k1 : PySem.W.kitOne X.K (.type (tyN d)) (.type "tuple") = some (isT d) := by
    apply kit_ty
    cases d <;> simp only [tyN, isT] <;> decide +kernel
  have k2 : PySem.W.kitOne X.K (.type (tyN d)) (.type "list") = some (isL d) := by
    apply kit_ty
    cases d <;> simp only [tyN, isL] <;> decide +kernel
  refine kitAny_cons k1 (fun e => kitAny_cons k2 (fun e2 => ?_) (fun e2 => ?_)) (fun e => ?_)
  · rw [kitAny_nil]
    cases d <;> simp [isT, isL, isTL] at e e2 ⊢
  · cases d <;> simp [isL, isTL] at e2 ⊢
  · cases d <;> simp [isT, isTL] at e ⊢
end
/-! ### t[::-1] of a tuple -/
section
variable {prog : Program} {w : World} {A : Around} {E : Value → Shared → Prop} {s : Shared}
theorem rev_adjust (n : Nat) : Builtin.Slice.sliceAdjust none none (-1) (n : Int) = ((n : Int) - 1, -1) := by
  unfold Builtin.Slice.sliceAdjust
  simp
theorem rev_places (n : Nat) : Builtin.Slice.slicePlaces ((n : Int) - 1) (-1) (-1) = n := by
  unfold Builtin.Slice.slicePlaces
  simp
  by_cases h : n = 0
  · subst h; simp
  · rw [if_pos (by omega)]
    omega
theorem rev_applied {sl : Addr} {u : Tok} {n : Nat} {Q : Int × Int × Nat → Shared → Prop} (hs : s.heap.IsSliceOf sl .none .none (.int (-1) u)) (h : Q ((n : Int) - 1, -1, n) s) :
    wpAny (model prog w) A (Builtin.Slice.sliceApplied (.ref sl) (pure (n : Int))) Q E s := by
  obtain ⟨os, hos, hcs, hds⟩ := id hs
  unfold Builtin.Slice.sliceApplied Builtin.Slice.sliceFields
  refine wpAny_bind (wpAny_bind ?_)
  refine wpAny_field hos hds (x := .none) rfl (wpAny_bind ?_)
  refine wpAny_field hos hds (x := .none) rfl (wpAny_bind ?_)
  refine wpAny_field hos hds (x := .int (-1) u) rfl (wpAny_pure ?_)
  refine wpAny_bind (slicePart_int ?_)
  show wpAny _ _ (if ((-1 : Int) == 0) = true then _ else _) _ _ s
  rw [if_neg (by decide)]
  refine wpAny_bind (slicePart_none (wpAny_bind (slicePart_none (wpAny_bind (wpAny_pure ?_)))))
  show wpAny _ _ (match Builtin.Slice.sliceAdjust none none (-1) (n : Int) with | (lo, hi) => pure (lo, (-1 : Int), Builtin.Slice.slicePlaces lo hi (-1))) _ _ s
  rw [rev_adjust n]
  show wpAny _ _ (pure ((n : Int) - 1, (-1 : Int), Builtin.Slice.slicePlaces ((n : Int) - 1) (-1) (-1))) _ _ s
  rw [rev_places]
  exact wpAny_pure h
theorem rev_pick (xs : Array Value) : ((List.range xs.size).filterMap fun (m : Nat) => xs[((xs.size : Int) - 1 + (m : Int) * (-1)).toNat]?).toArray = xs.toList.reverse.toArray := by
  congr 1
  obtain ⟨l⟩ := xs
  simp only [List.size_toArray, List.getElem?_toArray]
  have e : (List.range l.length).filterMap (fun (m : Nat) => l[((l.length : Int) - 1 + (m : Int) * (-1)).toNat]?) = (List.range l.length).filterMap (fun m => l.reverse[m]?) := by
    have g : ∀ (ms : List Nat), (∀ m ∈ ms, m < l.length) → ms.filterMap (fun (m : Nat) => l[((l.length : Int) - 1 + (m : Int) * (-1)).toNat]?) = ms.filterMap (fun m => l.reverse[m]?) := by
      intro ms
      induction ms with
      | nil => intro _; rfl
      | cons m ms ih =>
        intro hm
        have hm' : m < l.length := hm m (by simp)
        rw [List.filterMap_cons, List.filterMap_cons, ih fun x hx => hm x (by simp [hx]), List.getElem?_reverse hm', show ((l.length : Int) - 1 + (m : Int) * (-1)).toNat = l.length - 1 - m from by omega]
    exact g _ fun m hm => List.mem_range.mp hm
  rw [e]
  have e2 : ∀ r : List Value, (List.range r.length).filterMap (fun m => r[m]?) = r := by
    intro r
    induction r with
    | nil => rfl
    | cons x r ih =>
      rw [List.length_cons, List.range_succ_eq_map, List.filterMap_cons]
      simp only [List.getElem?_cons_zero, List.filterMap_map]
      congr 1
  have := e2 l.reverse
  rw [List.length_reverse] at this
  exact this
theorem getItem_tuple_rev {t sl : Addr} {items : Array Value} {u : Tok} {Q : Value → Shared → Prop} (ht : IsTup s.heap t items) (hs : s.heap.IsSliceOf sl .none .none (.int (-1) u))
    (h : Q (.ref s.heap.objs.size) { s with heap := s.heap.push { cls := .type "tuple", data := .seq items.toList.reverse.toArray } }) (hsz : items.size ≤ sizeLine) : wpAny (model prog w) A (getItem (.ref t) (.ref sl)) Q E s := by
  have hr : sizeOk (.seq items.toList.reverse.toArray) := by
    show items.toList.reverse.toArray.size ≤ sizeLine
    simpa using hsz
  obtain ⟨os, hos, hcs, hds⟩ := id hs
  have hTs : s.TypeIs (.ref sl) "slice" := ⟨os, hos, hcs⟩
  unfold getItem
  try with_reducible refine wpAny_holding ?_
  first | skip | refine wpAny_bind (wpAny_pure ?_)
  refine wpAny_bind (wpAny_sequenceKey ht.typeIs (by decide) ?_)
  refine wpAny_bind (wpAny_callSpecial?_slot (name := Str.ofString "__getitem__") ht.typeIs PyProof.Rows.slot_tuple_getitem (wpAny_call_entry PyProof.Rows.slot_tuple_getitem ht.typeIs entry_tuple_getitem ?_ (args_tuple_getitem _ _)))
  show wpAny _ _ (Builtin.Tuple.tupleItemsOf (.ref t) >>= _) _ _ s
  refine wpAny_bind (tupleItemsOf_ ht ?_)
  refine wpAny_bind (wpAny_typeOf hTs ?_)
  rw [if_pos (by decide)]
  refine wpAny_bind (rev_applied hs ?_)
  show wpAny _ _ (if ((items.size : Int) - 1 == 0 && (-1 : Int) == 1 && items.size == items.size) = true then _ else _) _ _ s
  rw [if_neg (by simp), rev_pick]
  first
    | exact wpAny_bind (m := Builtin.Tuple.tupleExact _) (wpAny_newObj_type (wpAny_pure ⟨_, rfl, wpAny_pure h⟩) hr)
    | exact wpAny_bind (m := Builtin.Tuple.tupleExact _) (wpAny_newObj_type (wpAny_bind (wpAny_pure (wpAny_pure ⟨_, rfl, wpAny_pure h⟩))) hr)
    | exact wpAny_bind (wpAny_bind (m := Builtin.Tuple.tupleExact _) (wpAny_newObj_type (wpAny_pure (wpAny_pure ⟨_, rfl, wpAny_pure h⟩)) hr))
    | exact wpAny_bind (wpAny_bind (m := Builtin.Tuple.tupleExact _) (wpAny_newObj_type (wpAny_pure ⟨_, rfl, wpAny_pure h⟩) hr))
end
section
variable {X : Cx}
def tRevB (K : PySem.W.Frag) (te : TE) : TE := fun σ H Q => te σ H fun x H1 => (∃ a xs, x = .ref a ∧ SqL K H1 a xs ∧ ∀ p, H1 p = none → Q (.ref p) (upd H1 p (.lst xs.reverse))) ∨ ∃ a xs, x = .ref a ∧ SqT K H1 a xs ∧ ∀ p, H1 p = none → Q (.ref p) (upd H1 p (.tup xs.reverse))
theorem pe_revB {e : Expr} {te : TE} {k : Nat} {p1 p2 p3 pos : Pos} (he : PE X e te) : PE X (.Subscript e (.Slice none none (some (.UnaryOp .USub (.Constant (.int 1) k p1) p2)) p3) pos) (tRevB X.K te) := by
  constructor
  intro pins s σ H Q I h
  refine Subscript_ (thn (he.run pins s σ H _ I h) ?_)
  rintro v s1 ⟨x, H1, I1, r1, q1⟩
  have step : PO X (some (.UnaryOp .USub (.Constant (.int 1) k p1) p2)) (tPart (tUn (rU fun i => .int (-i)) (tC (.int 1)))) := po_some (pe_un un_neg pe_int)
  refine wpAny_Slice (thn (po_none.run pins s1 σ H1 (fun o H2 => o = none ∧ H2 = H1) I1 ⟨rfl, rfl⟩) ?_)
  rintro vl s2 ⟨l, H2, I2, pl, rfl, rfl⟩
  refine thn (po_none.run pins s2 σ H2 (fun o H3 => o = none ∧ H3 = H2) I2 ⟨rfl, rfl⟩) ?_
  rintro vu s3 ⟨u, H3, I3, pu, rfl, rfl⟩
  refine thn (step.run pins s3 σ H3 (fun o H4 => o = some (-1) ∧ H4 = H3) I3 ⟨1, rfl, -1, rfl, rfl, rfl⟩) ?_
  rintro vs s4 ⟨o, H4, I4, ps, rfl, rfl⟩
  have I5 := I4.kept (h' := s4.heap.push { cls := .type "slice", data := .fields #[vl, vu, vs] }) (t' := s4.toks) fun b ob q => Heap.get?_push_of_some _ q
  rcases q1 with ⟨a, xs, rfl, hx, q⟩ | ⟨a, xs, rfl, hx, q⟩
  · cases r1
    obtain ⟨its, r, ht, hz⟩ := I5.list hx
    have hlen := r.length
    refine tail_any (ops := [.ref a, .ref s4.heap.objs.size]) ht.isList.typeIs (PySem.slot_list_getitem.lookup) ?_ (by with_unfolding_all rfl)
    refine wpAny_getItem_list_slice ht.isList (Heap.IsSliceOf.new _ vl vu vs) pl pu ps (by decide) ?_ (by simp only [List.size_toArray]; omega)
    rw [PySem.W.krv_pick]
    have I6 := I5.laid (a := (s4.heap.push { cls := .type "slice", data := .fields #[vl, vu, vs] }).objs.size) (t' := s4.toks) (o := .lst xs.reverse) (fun b ob q => Heap.get?_push_of_some _ q) (Nat.le_refl _) ⟨by rw [List.length_reverse]; exact hz, _, 0, r.reverse, Heap.get?_push_size _ rfl⟩
    exact ⟨.ref _, _, I6, rfl, q _ (I5.hok.fresh (Nat.le_refl _))⟩
  · cases r1
    obtain ⟨its, r, ht, hz⟩ := I5.tuple hx
    have hlen := r.length
    cases pl
    cases pu
    cases ps
    rename_i tk
    refine tail_any (ops := [.ref a, .ref s4.heap.objs.size]) ht.typeIs (PyProof.Rows.slot_tuple_getitem.lookup) ?_ (by with_unfolding_all rfl)
    refine getItem_tuple_rev ht (Heap.IsSliceOf.new _ .none .none (.int (-1) tk)) ?_ (by simp only [List.size_toArray]; omega)
    have hg := Heap.get?_push_size (s4.heap.push { cls := .type "slice", data := .fields #[.none, .none, .int (-1) tk] }) (o := { cls := .type "tuple", data := .seq its.reverse.toArray }) rfl
    have I6 := I5.laid (a := (s4.heap.push { cls := .type "slice", data := .fields #[.none, .none, .int (-1) tk] }).objs.size) (t' := s4.toks) (o := .tup xs.reverse) (fun b ob q => Heap.get?_push_of_some _ q) (Nat.le_refl _) ⟨by rw [List.length_reverse]; exact hz, _, r.reverse, ⟨_, hg, rfl, _, rfl⟩⟩
    exact ⟨.ref _, _, I6, rfl, q _ (I5.hok.fresh (Nat.le_refl _))⟩
end
end PS

namespace PS
open PySem PySem.Spec PyProof.Rows L2
/-! ### l.count(x) of data -/
def rCountD (K : PySem.W.Frag) : V → List V → Hp → VK → Prop := fun x xs H Q => ∃ (a : Addr) (y : V) (d : PyData) (ds : List PyData), x = V.ref a ∧ xs = [y] ∧ Dp K H (V.ref a) (.list ds) ∧ Dp K H y d ∧
  SeqAt.shaped (.list ds) = true ∧ SeqAt.shaped d = true ∧ d.depth ≤ 60 ∧ Q (.int (ds.countP (fun z => PyData.eqv z d) : Nat)) H
theorem mt_lcountD {X : Cx} (hu : X.A.units + 64 < cLine) : MtR X "list.count" (rCountD X.K) := by
  intro pins s σ H x xs v us Q I rx rxs h
  obtain ⟨a, y, d, ds, rfl, rfl, hl, hy, sl, sd, d60, q⟩ := h
  cases rx
  cases rxs with
  | cons ry rt =>
    rename_i uy ut
    cases rt
    obtain ⟨bs, r1⟩ := Dp.reads I d y uy hy ry
    have hxs : PyData.canLayAll0 ds = true := SeqAt.canLay_of_shaped sl
    have hroom : X.A.units + 1 + min (PyData.depthAll ds) d.depth < cLine := by
      have := Nat.min_le_right (PyData.depthAll ds) d.depth
      omega
    cases hl with
    | lst hs ha =>
      obtain ⟨its, rv, ⟨⟨cls, dd, data, sls⟩, n, ho, hc, hdn, hdt⟩, hlen⟩ := I.list hs
      simp only at hc hdt
      subst hc hdt
      obtain ⟨as, h4⟩ := Dp.readsAll I ds _ its ha rv
      have hmap : its.map (SeqAt.readOf s.heap) = ds := SeqAt.readsAll_map ds its as hxs h4
      refine call_meets PySem.F.slot_list_count ⟨_, ho, rfl⟩ PySem.F.entry_list_count (PySem.F.args_list_count_2 _ _)
        (SeqAt.list_countAt a its.toArray n dd sls uy (fun u => PyData.eqv (SeqAt.readOf s.heap u) d)) ⟨ho, SeqAt.items_eqAt (vs := its.toArray) (show ReadsAll s.heap its.toArray.toList ds as from h4) r1 hxs (SeqAt.canLay_of_shaped sd) hroom, ?_⟩
      refine ⟨.int _, H, I.tok _, ⟨_, rfl⟩, ?_⟩
      rw [← hmap, List.countP_map] at q
      exact q
theorem canLay_iD : ∀ ns : List Int, PyData.canLayAll0 (iD ns) = true
  | [] => by simp [PyData.canLayAll0]
  | n :: ns => by
    show PyData.canLayAll0 (PyData.int n :: iD ns) = true
    simp [PyData.canLayAll0, PyData.canLay0]
    exact canLay_iD ns
theorem canLay_tI (ns : List Int) : (tI ns).canLay0 = true := by
  simp [PyData.canLay0]
  exact canLay_iD ns
theorem shaped_tI (ns : List Int) : SeqAt.shaped (tI ns) = true := by
  unfold SeqAt.shaped
  rw [canLay_tI, decide_eq_true (Nat.le_trans (depth_tI ns) (by decide))]
  rfl
theorem canLay_all : ∀ ds : List PyData, (∀ d ∈ ds, d.canLay0 = true) → PyData.canLayAll0 ds = true
  | [], _ => by simp [PyData.canLayAll0]
  | d :: ds, h => by
    simp only [PyData.canLayAll0, Bool.and_eq_true]
    exact ⟨h d (by simp), canLay_all ds fun x hx => h x (by simp [hx])⟩
theorem shaped_list {ds : List PyData} (h : ∀ d ∈ ds, d.canLay0 = true ∧ d.depth ≤ 63) : SeqAt.shaped (.list ds) = true := by
  unfold SeqAt.shaped
  have e1 : (PyData.list ds).canLay0 = true := by
    simp only [PyData.canLay0]
    exact canLay_all ds fun d hd => (h d hd).1
  have e2 : (PyData.list ds).depth ≤ 64 := by
    rw [PyData.depth]
    have := depthAll_le (n := 63) ds fun d hd => (h d hd).2
    omega
  rw [e1, decide_eq_true e2]
  rfl
end PS

namespace PS
open PySem PySem.Spec PyProof.Rows L2
/-! ### min(lists, key=len) -/
def tMinLen (K : PySem.W.Frag) (t : TA) : TE := fun σ H Q => t σ H fun vs H1 => ∃ (a : Addr) (xs : List V) (len : Nat → Nat), vs = [.ref a] ∧ SqL K H1 a xs ∧ 0 < xs.length ∧
  (∀ i v, xs[i]? = some v → ∃ c ys, v = .ref c ∧ SqL K H1 c ys ∧ ys.length = len i) ∧ ∀ i v, xs[i]? = some v → (∀ j, j < xs.length → len i ≤ len j) → Q v H1
theorem argBest_nat (num : Nat → Nat) : ∀ k, argBest (fun i j => decide ((num i : Int) < (num j : Int))) k ≤ k ∧ ∀ j, j ≤ k → num (argBest (fun i j => decide ((num i : Int) < (num j : Int))) k) ≤ num j
  | 0 => ⟨Nat.le_refl _, fun j hj => by
      have : j = 0 := by omega
      subst this; exact Nat.le_refl _⟩
  | k + 1 => by
    obtain ⟨h1, h2⟩ := argBest_nat num k
    simp only [argBest]
    by_cases hc : (num (k + 1) : Int) < (num (argBest (fun i j => decide ((num i : Int) < (num j : Int))) k) : Int)
    · rw [if_pos (decide_eq_true hc)]
      refine ⟨Nat.le_refl _, fun j hj => ?_⟩
      by_cases e : j = k + 1
      · subst e; exact Nat.le_refl _
      · have := h2 j (by omega)
        omega
    · rw [if_neg (by rw [decide_eq_false hc]; simp)]
      refine ⟨by omega, fun j hj => ?_⟩
      by_cases e : j = k + 1
      · subst e; omega
      · exact h2 j (by omega)
theorem call_minLen {X : Cx} (hc : X.calm = true) {pins : List (Addr × Obj)} {s : Shared} {σ : L2.St} {H : Hp} {Q : VK} (I : Inv X pins σ H s) {a : Addr} {xs : List V} {len : Nat → Nat} (hs : SqL X.K H a xs) (h0 : 0 < xs.length)
    (hl : ∀ i v, xs[i]? = some v → ∃ c ys, v = .ref c ∧ SqL X.K H c ys ∧ ys.length = len i) (q : ∀ i v, xs[i]? = some v → (∀ j, j < xs.length → len i ≤ len j) → Q v H) :
    wpAny (model X.prog X.w) X.A (call (.builtin "min") [.ref a] [(Str.ofString "key", .builtin "len")]) (EP X pins σ Q) X.xe s := by
  obtain ⟨its, rv, hil, _⟩ := I.list hs
  have hlen := rv.length
  refine call_min_walkKB (PySem.W.iter_listW (I.ok.hd hc) hil.isList fun s₂ e W st hfp hnew hold => ?_)
  refine ⟨_, _, _, _, _, _, _, fun s' => (∀ b o, s.heap.get? b = some o → s'.heap.get? b = some o) ∧ s'.gens = s.gens ∧ s'.drawn = s.drawn ∧ s'.os = s.os, fun i k _ => ∃ t, k = .int (len i : Nat) t, fun i j => decide ((len i : Int) < (len j : Int)), rfl, W, st, hfp, by simp; omega, ⟨?_, ?_, ?_, ?_⟩, ?_, ?_⟩
  · intro s1 s2 hJ hM
    refine ⟨fun b o hb => hM.heap b o (fun hm => ?_) (hJ.1 b o hb), ?_, hM.drawn.trans hJ.2.2.1, hM.os.trans hJ.2.2.2⟩
    · rcases List.mem_cons.mp hm with z | z
      · have hb' := Heap.lt_size (hold b o hb)
        rw [z] at hb'
        exact Nat.lt_irrefl _ hb'
      · exact hnew b o hb z
    · have := hM.gens
      exact this.trans hJ.2.1
  · intro i k s1 s2 hV _
    exact hV
  · intro i v s1 o Q1 E1 hi hP hJ hst hS hQ
    have hv : its[i]? = some v := by simpa using hP
    have hi' : i < its.length := (List.getElem?_eq_some_iff.mp hv).1
    have hx : xs[i]? = some xs[i] := List.getElem?_eq_getElem (by omega)
    obtain ⟨u, hu, ru⟩ := rv.get hx
    rw [hv] at hu
    cases Option.some.inj hu
    obtain ⟨c, ys, ec, hsc, hyl⟩ := hl i _ hx
    rw [ec] at ru
    cases ru
    obtain ⟨cits, cr, ⟨co, cn, ho, hcc, hcd, hcs⟩, hz⟩ := I.list hsc
    have hcl := cr.length
    have hil' : s1.heap.IsList c cits.toArray := ⟨co, hJ.1 _ _ ho, hcc, cn, hcs⟩
    have hn := line63
    have hsz := sizeLine_eq
    refine Calls.call_len_list hil' (by simp only [List.size_toArray]; omega) ?_
    refine hQ _ _ ⟨hJ.1, hJ.2.1, hJ.2.2.1, hJ.2.2.2⟩ ?_ hS ⟨s1.toks + 1, ?_⟩ (fun _ _ h => h)
    · exact W.frame (i + 1) s1 s1.heap _ hst (by omega) fun b _ o e => e
    · rw [List.size_toArray, ← hcl, hyl]
  · intro i j ki kj s1 Q1 E1 hJ hi hj hq
    obtain ⟨t, rfl⟩ := hi
    obtain ⟨u, rfl⟩ := hj
    exact richCompare_gives (op := .Lt) (typeIs_int s1 _ t) (typeIs_int s1 _ u) F.slot_int_lt F.entry_int_lt (F.args_int_lt_2 _ _) (gives_int_lt _ _ t u) (fun x => nomatch x) hq
  · subst e
    exact ⟨hold, rfl, rfl, rfl⟩
  · intro v s' hP hJ
    have hb := argBest_nat len (its.toArray.size - 1)
    have hits : its.toArray.size = its.length := by simp
    have hP' : its[argBest (fun i j => decide ((len i : Int) < (len j : Int))) (its.toArray.size - 1)]? = some v := by simpa using hP
    have hidx : argBest (fun i j => decide ((len i : Int) < (len j : Int))) (its.toArray.size - 1) < xs.length := by
      have := (List.getElem?_eq_some_iff.mp hP').1
      omega
    have hx := List.getElem?_eq_getElem hidx
    obtain ⟨u, hu, ru⟩ := rv.get hx
    rw [hP'] at hu
    cases Option.some.inj hu
    have hs' : s' = { s with heap := s'.heap, toks := s'.toks } := by
      obtain ⟨h1, h2, h3, h4⟩ := hJ
      cases s'
      cases s
      simp only at h2 h3 h4
      subst h2 h3 h4
      rfl
    rw [hs']
    exact ⟨_, H, I.kept hJ.1, ru, q _ _ hx fun j hj => hb.2 j (by omega)⟩
theorem pe_minLen {X : Cx} {e : Expr} {t : TA} {p p2 kp pos : Pos} (hc : X.calm = true) (hg : Gl X "min") (hm : X.mg "min" = none) (hgl : Gl X "len") (hml : X.mg "len" = none) (ha : PA X [e] t)
    (he : backTo pos (starEach [e] X.env) = (false, eval e X.env) :: backTo pos (starEach [] X.env) := by rfl) (hpl : (backTo pos (starEach [e] X.env)).any (·.1) = false := by rfl) :
    PE X (.Call (.Name "min" p) [e] [⟨some "key", .Name "len" p2, kp⟩] pos) (tMinLen X.K t) := by
  refine ⟨fun pins s σ H Q I h => ?_⟩
  refine wpAny_Call_Name_kw (ld_blt I hg hm PyProof.Rows.boot_min ?_)
  refine PyProof.Rows.callWith_kw (thn (ha.run pos pins s σ H _ I h) ?_) he hpl rfl rfl
  rintro us s1 ⟨vs, H1, I1, r1, a, xs, len, rfl, hs, h0, hl, q⟩
  rw [Vals.ref1 r1]
  show wpAny _ _ (evalAll [do let v ← eval (.Name "len" p2) X.env; standAt pos; pure v]) _ _ s1
  refine wpAny_evalAll_cons (wpAny_bind (ld_blt I1 hgl hml PySem.boot_len (wpAny_bind (wpAny_standAt (wpAny_pure ?_)))))
  exact wpAny_evalAll_nil (call_minLen hc I1 hs h0 hl q)
end PS

namespace PS
open PySem PySem.Spec PyProof.Rows L2
theorem tuple_mul1 (l : Addr) (items : Array Value) (n : Nat) (dd : Option Addr) (sl : Array (Option Value)) (u : Tok) :
    Meets (Builtin.«tuple.__mul__» ⟨[.ref l, .int 1 u], []⟩) (fun _ R s => s.heap.get? l = some { cls := .type "tuple", dict := dd, data := .seq items n, slots := sl } ∧
      R (.ok (.ret (Value.ref l))) s) :=
  .of_wp fun prog w A R s h => by
    obtain ⟨hp, g, d, tk, os⟩ := s
    obtain ⟨hl, h⟩ := h
    have f1 := AutoSeq1.idx_int
    have c0 : (decide ((1 : Int) < -(2 ^ 63)) || decide ((1 : Int) ≥ 2 ^ 63)) = false := by decide
    have c1 : (items.isEmpty || (1 : Int) == 1) = true := by simp
    wp_walk using wpAny_loadPart' hl
    repeat (first
      | (refine wpAny_ite_false (decide_eq_false (by rw [c0]; exact Bool.false_ne_true)) ?_; wp_walk using wpAny_loadPart' hl)
      | (refine wpAny_ite_true (decide_eq_true c1) ?_; wp_walk using wpAny_loadPart' hl))
    exact ⟨_, rfl, h⟩
def rRepA (K : PySem.W.Frag) : R2 := fun x y H Q => ∃ l k xs, x = .ref l ∧ y = .int k ∧ SqT K H l xs ∧ xs ≠ [] ∧ 1 ≤ k ∧ k ≤ 1000 ∧ xs.length ≤ 1000 ∧ (k = 1 → Q (.ref l) H) ∧ ∀ p, H p = none → Q (.ref p) (upd H p (.tup (List.replicate k.toNat xs).flatten))
theorem op_repA {X : Cx} : OpR X (binaryOp .Mult) (rRepA X.K) := by
  intro pins s σ H x y v u Q I rx ry h
  obtain ⟨l, k, xs, rfl, rfl, hT, hne, h1, h2, hz, q1, q⟩ := h
  by_cases c : 2 ≤ k
  · exact op_repT pins s σ H _ _ v u Q I rx ry ⟨l, k, xs, rfl, rfl, hT, hne, c, h2, hz, q⟩
  · have ek : k = 1 := by omega
    subst ek
    cases rx
    obtain ⟨t, rfl⟩ := ry
    obtain ⟨its, r, ⟨⟨cls, dd, data, sl⟩, ho, hc, n, hd⟩, hs⟩ := I.tuple hT
    simp only at hc hd
    subst hc hd
    refine wpAny_binaryOp_repeat_ref (T := "tuple") (U := "int") (by decide) ⟨_, ho, rfl⟩ (fun s' => typeIs_int s' 1 t) noFill_tuple_mul F.fills_int_mul F.slot_int_rmul repeat_tuple F.slot_int_index.lookup
      (call_meets F.slot_int_rmul (typeIs_int s 1 t) F.entry_int_rmul (F.args_int_rmul_2 _ _) (int_rmul_tuple 1 t l its.toArray n dd sl)
        ⟨ho, rfl, ⟨_, ho, rfl⟩, call_meets F.slot_tuple_mul ⟨_, ho, rfl⟩ F.entry_tuple_mul (F.args_tuple_mul_2 _ _) (tuple_mul1 l its.toArray n dd sl t) ⟨ho, ?_⟩⟩)
    exact ⟨.ref l, H, I, rfl, q1 rfl⟩
end PS

namespace PS
open PySem PySem.Spec PyProof.Rows L2
/-! ### what the defs tell, over data -/
def within (d : PyData) (lo hi : Int) : Bool := match d with
  | .int i => if lo ≤ i then decide (i ≤ hi) else false
  | _ => false
def tupOf (d : PyData) (n : Int) : Bool := match d with
  | .tuple ds => decide ((ds.length : Int) = n)
  | _ => false
def areBlocks (d : PyData) : Bool := match d with
  | .tuple ds => if 1 ≤ (ds.length : Int) ∧ (ds.length : Int) ≤ 8 then ds.all (fun x => within x 1 50) else false
  | _ => false
def intOf : PyData → Int
  | .int i => i
  | _ => 0
def isShelf (d : PyData) : Bool := match d with
  | .tuple [r, .tuple bs] => if areBlocks (.tuple bs) = true then within r (bs.map intOf).sum ((bs.map intOf).sum + 400) else false
  | _ => false
theorem within_ints : ∀ {ds : List PyData} {lo hi : Int}, ds.all (fun x => within x lo hi) = true → ∃ ns : List Int, ds = iD ns ∧ ∀ n ∈ ns, lo ≤ n ∧ n ≤ hi
  | [], _, _, _ => ⟨[], rfl, by simp⟩
  | d :: ds, lo, hi, h => by
    rw [List.all_cons, Bool.and_eq_true] at h
    obtain ⟨ns, e, q⟩ := within_ints h.2
    cases d with
    | int i =>
      have h1 := h.1
      unfold within at h1
      simp only at h1
      by_cases hl : lo ≤ i
      · rw [if_pos hl] at h1
        have h2 := of_decide_eq_true h1
        exact ⟨i :: ns, by rw [e]; rfl, fun n hn => by
          rcases List.mem_cons.mp hn with rfl | hn
          · exact ⟨hl, h2⟩
          · exact q n hn⟩
      · rw [if_neg hl] at h1; cases h1
    | _ => simp [within] at h
theorem intOf_iD : ∀ ns : List Int, (iD ns).map intOf = ns
  | [] => rfl
  | n :: ns => by
    show n :: (iD ns).map intOf = n :: ns
    rw [intOf_iD ns]
/-- a shelf -/
abbrev shD (room : Int) (ls : List Int) : PyData := .tuple [.int room, tI ls]
structure ShOk (room : Int) (ls : List Int) : Prop where
  n1 : 1 ≤ ls.length
  n8 : ls.length ≤ 8
  l1 : ∀ l ∈ ls, 1 ≤ l ∧ l ≤ 50
  lo : ls.sum ≤ room
  hi : room ≤ ls.sum + 400
theorem areBlocks_ints {ds : List PyData} (h : areBlocks (.tuple ds) = true) : ∃ ls : List Int, ds = iD ls ∧ 1 ≤ ls.length ∧ ls.length ≤ 8 ∧ ∀ l ∈ ls, 1 ≤ l ∧ l ≤ 50 := by
  unfold areBlocks at h
  simp only at h
  split at h
  · rename_i hc
    obtain ⟨ls, rfl, q⟩ := within_ints h
    rw [List.length_map] at hc
    exact ⟨ls, rfl, by omega, by omega, q⟩
  · cases h
theorem all_within {ls : List Int} {lo hi : Int} (h : ∀ l ∈ ls, lo ≤ l ∧ l ≤ hi) : (iD ls).all (fun x => within x lo hi) = true := by
  rw [List.all_eq_true]
  intro x hx
  obtain ⟨l, hl, rfl⟩ := List.mem_map.mp hx
  unfold within
  simp only
  rw [if_pos (h l hl).1]
  exact decide_eq_true (h l hl).2
theorem areBlocks_ok {ls : List Int} (h1 : 1 ≤ ls.length) (h8 : ls.length ≤ 8) (h : ∀ l ∈ ls, 1 ≤ l ∧ l ≤ 50) : areBlocks (tI ls) = true := by
  unfold areBlocks
  simp only
  rw [if_pos ⟨by rw [List.length_map]; omega, by rw [List.length_map]; omega⟩]
  exact all_within h
theorem isShelf_ok {room : Int} {ls : List Int} (h : ShOk room ls) : isShelf (shD room ls) = true := by
  unfold isShelf
  simp only
  rw [if_pos (areBlocks_ok h.n1 h.n8 h.l1), intOf_iD]
  unfold within
  simp only
  rw [if_pos h.lo]
  exact decide_eq_true h.hi
end PS

namespace PS
open PySem PySem.Spec PyProof.Rows L2
/-! ### slices, walks -/
theorem cut_to (xs : List V) (k : Nat) : cutV xs none (some (k : Int)) = xs.take k := by
  unfold cutV
  rw [HT.sIx_none, HT.sIx_nat, List.drop_zero, Nat.sub_zero]
  by_cases h : k ≤ xs.length
  · rw [Nat.min_eq_left h]
  · rw [Nat.min_eq_right (by omega), List.take_length, List.take_of_length_le (by omega)]
theorem cut_from (xs : List V) (k : Nat) : cutV xs (some (k : Int)) none = xs.drop k := by
  unfold cutV
  rw [HT.sIx_none, HT.sIx_nat]
  by_cases h : k ≤ xs.length
  · rw [Nat.min_eq_left h, List.take_of_length_le (by rw [List.length_drop]; omega)]
  · rw [Nat.min_eq_right (by omega), Nat.sub_self, List.take_zero, List.drop_of_length_le (by omega)]
/-- t[:k] of a tuple, whatever it is -/
theorem slT_to {K : PySem.W.Frag} {H : Hp} {Q : VK} {a : Addr} {xs : List V} {k : Nat} (s : SqT K H a xs) (q : ∀ p H', Same H H' → SqT K H' p (xs.take k) → Q (.ref p) H') : rSlA K (.ref a) none (some (k : Int)) H Q := by
  refine ⟨a, xs, rfl, s, fun h => ?_, fun h p np => ?_⟩
  · have e : xs.take k = xs := List.take_of_length_le (by
      have := h.2
      rw [HT.sIx_nat] at this
      omega)
    exact q a H (Same.refl H) (by rw [e]; exact s)
  · rw [cut_to]
    exact q p _ (same_new np) (.inl (.inl upd_same))
theorem slT_from {K : PySem.W.Frag} {H : Hp} {Q : VK} {a : Addr} {xs : List V} {k : Nat} (s : SqT K H a xs) (q : ∀ p H', Same H H' → SqT K H' p (xs.drop k) → Q (.ref p) H') : rSlA K (.ref a) (some (k : Int)) none H Q := by
  refine ⟨a, xs, rfl, s, fun h => ?_, fun h p np => ?_⟩
  · have e : xs.drop k = xs := by
      have := h.1
      rw [HT.sIx_nat] at this
      by_cases hk : k = 0
      · subst hk; rfl
      · have : xs.length = 0 := by omega
        rw [List.length_eq_zero_iff.mp this]; simp
    exact q a H (Same.refl H) (by rw [e]; exact s)
  · rw [cut_from]
    exact q p _ (same_new np) (.inl (.inl upd_same))
theorem walk_2 {b1 b2 : Bool} {K : PySem.W.Frag} {a1 a2 : Addr} {xs ys : List V} {n : Nat} (hn : n = min xs.length ys.length) :
    Walk (It2 b1 b2 K a1 a2) n (fun H => SqK b1 K H a1 xs ∧ SqK b2 K H a2 ys) (fun i H v H' => ∃ T x y, v = .ref T ∧ H T = none ∧ H' = upd H T (.tup [x, y]) ∧ xs[i]? = some x ∧ ys[i]? = some y) where
  goes := fun i H hi g => ⟨xs, ys, xs[i], ys[i], g.1, g.2, List.getElem?_eq_getElem (by omega), List.getElem?_eq_getElem (by omega)⟩
  stops := fun H g => ⟨xs, ys, g.1, g.2, hn⟩
  yields := fun i H x H' hi g y => by
    obtain ⟨T, x, y, rfl, nT, rfl, f1, f2⟩ := y
    exact ⟨T, x, y, rfl, nT, rfl, f1 xs g.1, f2 ys g.2⟩
theorem walk_3 {b1 b2 b3 : Bool} {K : PySem.W.Frag} {a1 a2 a3 : Addr} {xs ys zs : List V} {n : Nat} (hn : n = min (min xs.length ys.length) zs.length) :
    Walk (It3 b1 b2 b3 K a1 a2 a3) n (fun H => SqK b1 K H a1 xs ∧ SqK b2 K H a2 ys ∧ SqK b3 K H a3 zs) (fun i H v H' => ∃ T x y z, v = .ref T ∧ H T = none ∧ H' = upd H T (.tup [x, y, z]) ∧ xs[i]? = some x ∧ ys[i]? = some y ∧ zs[i]? = some z) where
  goes := fun i H hi g => ⟨xs, ys, zs, xs[i], ys[i], zs[i], g.1, g.2.1, g.2.2, List.getElem?_eq_getElem (by omega), List.getElem?_eq_getElem (by omega), List.getElem?_eq_getElem (by omega)⟩
  stops := fun H g => ⟨xs, ys, zs, g.1, g.2.1, g.2.2, hn⟩
  yields := fun i H x H' hi g y => by
    obtain ⟨T, x, y, z, rfl, nT, rfl, f1, f2, f3⟩ := y
    exact ⟨T, x, y, z, rfl, nT, rfl, f1 xs g.1, f2 ys g.2.1, f3 zs g.2.2⟩
theorem walk_1 {b : Bool} {K : PySem.W.Frag} {a : Addr} {xs : List V} {n : Nat} (hn : n = xs.length) :
    Walk (It1 b K a) n (fun H => SqK b K H a xs) (fun i H v H' => ∃ T x, v = .ref T ∧ H T = none ∧ H' = upd H T (.tup [.int (i : Nat), x]) ∧ xs[i]? = some x) where
  goes := fun i H hi g => ⟨xs, xs[i], g, List.getElem?_eq_getElem (by omega)⟩
  stops := fun H g => ⟨xs, g, hn⟩
  yields := fun i H x H' hi g y => by
    obtain ⟨T, x, rfl, nT, rfl, f⟩ := y
    exact ⟨T, x, rfl, nT, rfl, f xs g⟩
theorem ixN_at {n j : Nat} {z : Int} (e : z = (j : Int)) (h : j < n) : ixN n z = some j := by
  subst e
  unfold ixN
  rw [if_pos (by omega), if_pos (by omega)]
  simp
theorem iV_get {ns : List Int} {j : Nat} {v : Int} (h : ns[j]? = some v) : (iV ns)[j]? = some (.int v) := by
  rw [List.getElem?_map, h]
  rfl
theorem iV_set (ns : List Int) (j : Nat) (v : Int) : (iV ns).set j (.int v) = iV (ns.set j v) := List.map_set.symm
theorem iV_len (ns : List Int) : (iV ns).length = ns.length := List.length_map ..
/-! ### stands by their places -/
def pre (ls : List Int) (j : Nat) : Int := (ls.take j).sum
def stL (ls : List Int) (y : Nat → Int) : List Int := (List.range ls.length).map fun j => y j + pre ls j
structure Rise (n : Nat) (pl : Int) (y : Nat → Int) : Prop where
  lo : ∀ j, j < n → 0 ≤ y j
  hi : ∀ j, j < n → y j ≤ pl
  up : ∀ j, j + 1 < n → y j ≤ y (j + 1)
theorem pre_zero (ls : List Int) : pre ls 0 = 0 := by simp [pre]
theorem pre_succ {ls : List Int} {j : Nat} (h : j < ls.length) : pre ls (j + 1) = pre ls j + ls[j] := by
  unfold pre
  exact L2.sum_take (List.getElem?_eq_getElem h)
theorem pre_all (ls : List Int) {j : Nat} (h : ls.length ≤ j) : pre ls j = ls.sum := by
  unfold pre
  rw [List.take_of_length_le h]
theorem stL_len (ls : List Int) (y : Nat → Int) : (stL ls y).length = ls.length := by simp [stL]
theorem stL_get {ls : List Int} {y : Nat → Int} {j : Nat} (h : j < ls.length) : (stL ls y)[j]? = some (y j + pre ls j) := by
  simp [stL, h]
theorem stL_congr {ls : List Int} {y z : Nat → Int} (h : ∀ j, j < ls.length → y j = z j) : stL ls y = stL ls z := by
  apply List.ext_getElem?
  intro j
  by_cases hj : j < ls.length
  · rw [stL_get hj, stL_get hj, h j hj]
  · rw [List.getElem?_eq_none (by rw [stL_len]; omega), List.getElem?_eq_none (by rw [stL_len]; omega)]
theorem stL_inj {ls : List Int} {y z : Nat → Int} (h : stL ls y = stL ls z) : ∀ j, j < ls.length → y j = z j := fun j hj => by
  have e := congrArg (fun l : List Int => l[j]?) h
  simp only [stL_get hj] at e
  have := Option.some.inj e
  omega
theorem stL_set {ls : List Int} {y : Nat → Int} {k : Nat} {v : Int} (h : k < ls.length) : (stL ls y).set k v = stL ls (fun j => if j = k then v - pre ls k else y j) := by
  apply List.ext_getElem?
  intro j
  by_cases hj : j < ls.length
  · rw [stL_get hj, List.getElem?_set, stL_len]
    by_cases e : k = j
    · subst e
      rw [if_pos rfl, if_pos h, if_pos rfl]
      congr 1
      omega
    · rw [if_neg e, stL_get hj, if_neg (Ne.symm e)]
  · rw [List.getElem?_eq_none (by rw [List.length_set, stL_len]; omega), List.getElem?_eq_none (by rw [stL_len]; omega)]
def pR (g : Nat) (b : Int) (y : Nat → Int) : Nat → Int := fun j => if g ≤ j then max (y j) b else y j
def pL (g : Nat) (b : Int) (y : Nat → Int) : Nat → Int := fun j => if j < g then min (y j) b else y j
theorem pR_rise {n g : Nat} {pl b : Int} {y : Nat → Int} (h : Rise n pl y) (b0 : 0 ≤ b) (b1 : b ≤ pl) : Rise n pl (pR g b y) where
  lo := fun j hj => by
    have := h.lo j hj
    unfold pR; split <;> omega
  hi := fun j hj => by
    have := h.hi j hj
    unfold pR; split <;> omega
  up := fun j hj => by
    have := h.up j hj
    unfold pR; split <;> split <;> omega
theorem pL_rise {n g : Nat} {pl b : Int} {y : Nat → Int} (h : Rise n pl y) (b0 : 0 ≤ b) (b1 : b ≤ pl) : Rise n pl (pL g b y) where
  lo := fun j hj => by
    have := h.lo j hj
    unfold pL; split <;> omega
  hi := fun j hj => by
    have := h.hi j hj
    unfold pL; split <;> omega
  up := fun j hj => by
    have := h.up j hj
    unfold pL; split <;> split <;> omega
/-! ### is it a stand -/
def standG (room : Int) : Int → List PyData → List Int → Bool
  | e, d :: ds, l :: ls => match d with
    | .int i => if i < e then false else standG room (i + l) ds ls
    | _ => false
  | e, _, _ => decide (e ≤ room)
def isStand (room : Int) (ls : List Int) (d : PyData) : Bool := match d with
  | .tuple ds => if (ds.length : Int) = ls.length then standG room 0 ds ls else false
  | _ => false
theorem standG_ok {room : Int} {ls : List Int} {y : Nat → Int} (h : Rise ls.length (room - ls.sum) y) : ∀ (m k : Nat) (e : Int), m + k = ls.length → (k < ls.length → e ≤ y k + pre ls k) → (k = ls.length → e ≤ room) → standG room e ((iD (stL ls y)).drop k) (ls.drop k) = true
  | 0, k, e, hk, _, h2 => by
    rw [List.drop_of_length_le (by rw [List.length_map, stL_len]; omega), List.drop_of_length_le (by omega)]
    exact decide_eq_true (h2 (by omega))
  | m + 1, k, e, hk, h1, h2 => by
    have hlt : k < ls.length := by omega
    have e1 : (iD (stL ls y))[k]? = some (.int (y k + pre ls k)) := by
      rw [List.getElem?_map, stL_get hlt]
      rfl
    have hl : k < (iD (stL ls y)).length := by rw [List.length_map, stL_len]; exact hlt
    rw [List.drop_eq_getElem_cons hl, List.drop_eq_getElem_cons hlt]
    rw [List.getElem?_eq_getElem hl] at e1
    rw [Option.some.inj e1]
    unfold standG
    simp only
    rw [if_neg (by have := h1 hlt; omega)]
    have hp := pre_succ hlt
    refine standG_ok h m (k + 1) _ (by omega) (fun hq => ?_) (fun hq => ?_)
    · have := h.up k hq
      omega
    · have := h.hi k hlt
      have := pre_all ls (j := k + 1) (by omega)
      omega
theorem isStand_ok {room : Int} {ls : List Int} {y : Nat → Int} (h : Rise ls.length (room - ls.sum) y) (h0 : ls.sum ≤ room) : isStand room ls (tI (stL ls y)) = true := by
  unfold isStand
  simp only
  rw [if_pos (by rw [List.length_map, stL_len])]
  have := standG_ok h ls.length 0 0 (by omega) (fun hq => by
    have := h.lo 0 hq
    rw [pre_zero]
    omega) (fun hq => by
      have : ls = [] := List.length_eq_zero_iff.mp hq.symm
      subst this
      simpa using h0)
  simpa using this
/-! ### pushes, rows -/
/-- right or left, the gap, the place less the gap's length -/
abbrev Push := Bool × Nat × Int
def sideS (r : Bool) : Str := if r = true then "right" else "left"
def puD (ls : List Int) (p : Push) : PyData := .tuple [.str (sideS p.1), .int p.2.1, .int (p.2.2 + pre ls p.2.1)]
def roD (ls : List Int) (r : List Push) : PyData := .list (r.map (puD ls))
structure PuOk (n : Nat) (pl : Int) (p : Push) : Prop where
  g0 : p.1 = true → p.2.1 < n
  g1 : p.1 = false → 1 ≤ p.2.1 ∧ p.2.1 ≤ n
  b0 : 0 ≤ p.2.2
  b1 : p.2.2 ≤ pl
def doP (y : Nat → Int) (p : Push) : Nat → Int := if p.1 = true then pR p.2.1 p.2.2 y else pL p.2.1 p.2.2 y
def doR (y : Nat → Int) (r : List Push) : Nat → Int := r.foldl doP y
theorem doP_rise {n : Nat} {pl : Int} {y : Nat → Int} {p : Push} (h : Rise n pl y) (k : PuOk n pl p) : Rise n pl (doP y p) := by
  unfold doP
  split
  · exact pR_rise h k.b0 k.b1
  · exact pL_rise h k.b0 k.b1
theorem doR_rise {n : Nat} {pl : Int} : ∀ {r : List Push} {y : Nat → Int}, Rise n pl y → (∀ p ∈ r, PuOk n pl p) → Rise n pl (doR y r)
  | [], y, h, _ => h
  | p :: r, y, h, k => doR_rise (r := r) (doP_rise h (k p (by simp))) fun q hq => k q (by simp [hq])
theorem doR_app (y : Nat → Int) (r s : List Push) : doR y (r ++ s) = doR (doR y r) s := by simp [doR, List.foldl_append]
def isGap (n : Int) (s g : PyData) : Bool := if PyData.eqv s (.str "right") = true then within g 0 (n - 1) else if PyData.eqv s (.str "left") = true then within g 1 n else false
def isPush (room : Int) (ls : List Int) (d : PyData) : Bool := match d with
  | .tuple [s, g, p] => if isGap ls.length s g = true then within p (pre ls (intOf g).toNat) (pre ls (intOf g).toNat + (room - ls.sum)) else false
  | _ => false
def isRow (room : Int) (ls : List Int) (d : PyData) : Bool := match d with
  | .list ds => if (ds.length : Int) > 200 then false else ds.all (isPush room ls)
  | _ => false
theorem within_ok {i lo hi : Int} (h1 : lo ≤ i) (h2 : i ≤ hi) : within (.int i) lo hi = true := by
  unfold within
  simp only
  rw [if_pos h1]
  exact decide_eq_true h2
theorem isPush_ok {room : Int} {ls : List Int} {p : Push} (h : PuOk ls.length (room - ls.sum) p) : isPush room ls (puD ls p) = true := by
  obtain ⟨r, g, b⟩ := p
  obtain ⟨g0, g1, b0, b1⟩ := h
  simp only at g0 g1 b0 b1
  unfold isPush puD
  simp only
  have hg : isGap ls.length (.str (sideS r)) (.int (g : Int)) = true := by
    unfold isGap
    cases r with
    | true =>
      have := g0 rfl
      rw [if_pos (by decide +kernel)]
      exact within_ok (by omega) (by omega)
    | false =>
      have := g1 rfl
      rw [if_neg (by decide +kernel), if_pos (by decide +kernel)]
      exact within_ok (by omega) (by omega)
  rw [if_pos hg]
  exact within_ok (by simp [intOf]; omega) (by simp [intOf]; omega)
theorem isRow_ok {room : Int} {ls : List Int} {r : List Push} (hl : r.length ≤ 200) (h : ∀ p ∈ r, PuOk ls.length (room - ls.sum) p) : isRow room ls (roD ls r) = true := by
  unfold isRow roD
  simp only
  rw [if_neg (by rw [List.length_map]; omega), List.all_eq_true]
  intro d hd
  obtain ⟨p, hp, rfl⟩ := List.mem_map.mp hd
  exact isPush_ok (h p hp)
theorem puD_depth (ls : List Int) (p : Push) : (puD ls p).depth ≤ 1 := by
  unfold puD
  simp [PyData.depth, PyData.depthAll]
theorem noL_puD (ls : List Int) (p : Push) : noL (puD ls p) = true := rfl
end PS

namespace PS
open PySem PySem.Spec PyProof.Rows L2
/-! ### what a row does to one block -/
def clamp (l h x : Int) : Int := min (max x l) h
/-- one push at the j-th block -/
def act (j : Nat) (x : Int) (p : Push) : Int := if p.1 = true then (if p.2.1 ≤ j then max x p.2.2 else x) else (if j < p.2.1 then min x p.2.2 else x)
theorem doP_at (y : Nat → Int) (p : Push) (j : Nat) : doP y p j = act j (y j) p := by
  unfold doP act
  split <;> rfl
theorem doR_at : ∀ (r : List Push) (y : Nat → Int) (j : Nat), doR y r j = r.foldl (act j) (y j)
  | [], y, j => rfl
  | p :: r, y, j => by
    show doR (doP y p) r j = r.foldl (act j) (act j (y j) p)
    rw [doR_at r, doP_at]
theorem act_mono {j : Nat} {x z : Int} (h : x ≤ z) (p : Push) : act j x p ≤ act j z p := by
  unfold act
  split <;> split <;> omega
theorem fold_mono {j : Nat} : ∀ (r : List Push) {x z : Int}, x ≤ z → r.foldl (act j) x ≤ r.foldl (act j) z
  | [], x, z, h => h
  | p :: r, x, z, h => fold_mono r (act_mono h p)
theorem act_in {j : Nat} {x pl : Int} {p : Push} (b0 : 0 ≤ p.2.2) (b1 : p.2.2 ≤ pl) (h0 : 0 ≤ x) (h1 : x ≤ pl) : 0 ≤ act j x p ∧ act j x p ≤ pl := by
  unfold act
  split <;> split <;> omega
theorem fold_clamp {j : Nat} {pl : Int} (hp : 0 ≤ pl) : ∀ (r : List Push), (∀ p ∈ r, 0 ≤ p.2.2 ∧ p.2.2 ≤ pl) → ∀ x, 0 ≤ x → x ≤ pl → r.foldl (act j) x = clamp (r.foldl (act j) 0) (r.foldl (act j) pl) x
  | [], _, x, h0, h1 => by
    show x = min (max x 0) pl
    omega
  | p :: r, hb, x, h0, h1 => by
    have hp1 := hb p (by simp)
    have ih := fold_clamp (j := j) hp r fun q hq => hb q (by simp [hq])
    have m := fold_mono (j := j) r hp
    have a1 := act_in (j := j) hp1.1 hp1.2 h0 h1
    have a2 := act_in (j := j) hp1.1 hp1.2 (Int.le_refl 0) hp
    have a3 := act_in (j := j) hp1.1 hp1.2 hp (Int.le_refl pl)
    show r.foldl (act j) (act j x p) = clamp (r.foldl (act j) (act j 0 p)) (r.foldl (act j) (act j pl p)) x
    rw [ih _ a1.1 a1.2, ih _ a2.1 a2.2, ih _ a3.1 a3.2]
    generalize r.foldl (act j) 0 = l at m ⊢
    generalize r.foldl (act j) pl = h at m ⊢
    unfold clamp act
    split <;> split <;> omega
def loR (r : List Push) : Nat → Int := doR (fun _ => 0) r
def hiR (pl : Int) (r : List Push) : Nat → Int := doR (fun _ => pl) r
theorem rise_const {n : Nat} {pl c : Int} (h0 : 0 ≤ c) (h1 : c ≤ pl) : Rise n pl (fun _ => c) := ⟨fun _ _ => h0, fun _ _ => h1, fun _ _ => Int.le_refl c⟩
theorem lo_le_hi {pl : Int} (hp : 0 ≤ pl) (r : List Push) (j : Nat) : loR r j ≤ hiR pl r j := by
  unfold loR hiR
  rw [doR_at, doR_at]
  exact fold_mono r hp
theorem doR_clamp {n : Nat} {pl : Int} {y : Nat → Int} {r : List Push} (hp : 0 ≤ pl) (hy : Rise n pl y) (hr : ∀ p ∈ r, PuOk n pl p) {j : Nat} (hj : j < n) : doR y r j = clamp (loR r j) (hiR pl r j) (y j) := by
  unfold loR hiR
  rw [doR_at, doR_at, doR_at]
  exact fold_clamp hp r (fun p h => ⟨(hr p h).b0, (hr p h).b1⟩) _ (hy.lo j hj) (hy.hi j hj)
theorem clamp_twice {l h x : Int} (e : l ≤ h) : clamp l h (clamp l h x) = clamp l h x := by
  unfold clamp
  omega
theorem doR_twice {n : Nat} {pl : Int} {y : Nat → Int} {r : List Push} (hp : 0 ≤ pl) (hy : Rise n pl y) (hr : ∀ p ∈ r, PuOk n pl p) {j : Nat} (hj : j < n) : doR (doR y r) r j = doR y r j := by
  rw [doR_clamp hp (doR_rise hy hr) hr hj, doR_clamp hp hy hr hj, clamp_twice (lo_le_hi hp r j)]
/-- a doing done by places -/
def ledF (lo hi y : Nat → Int) : Nat → Int := fun j => clamp (lo j) (hi j) (y j)
theorem led_rise {n : Nat} {pl : Int} {lo hi y : Nat → Int} (h1 : Rise n pl lo) (h2 : Rise n pl hi) (h3 : Rise n pl y) : Rise n pl (ledF lo hi y) where
  lo := fun j hj => by
    have := h1.lo j hj; have := h2.lo j hj; have := h3.lo j hj
    unfold ledF clamp; omega
  hi := fun j hj => by
    have := h1.hi j hj; have := h2.hi j hj; have := h3.hi j hj
    unfold ledF clamp; omega
  up := fun j hj => by
    have := h1.up j hj; have := h2.up j hj; have := h3.up j hj
    unfold ledF clamp; omega
/-- a doing -/
abbrev dgD (ls : List Int) (lo hi : Nat → Int) : PyData := .tuple [tI (stL ls lo), tI (stL ls hi)]
structure DoOk (n : Nat) (pl : Int) (lo hi : Nat → Int) : Prop where
  l : Rise n pl lo
  h : Rise n pl hi
  le : ∀ j, j < n → lo j ≤ hi j
theorem row_doOk {n : Nat} {pl : Int} {r : List Push} (hp : 0 ≤ pl) (hr : ∀ p ∈ r, PuOk n pl p) : DoOk n pl (loR r) (hiR pl r) :=
  ⟨doR_rise (rise_const (Int.le_refl 0) hp) hr, doR_rise (rise_const hp (Int.le_refl pl)) hr, fun j _ => lo_le_hi hp r j⟩
/-! ### is it a doing -/
def allLe : List PyData → List PyData → Bool
  | .int a :: ds, .int b :: es => if a ≤ b then allLe ds es else false
  | _, _ => true
def isDoing (room : Int) (ls : List Int) (d : PyData) : Bool := match d with
  | .tuple [.tuple a, .tuple b] => if isStand room ls (.tuple a) = true then (if isStand room ls (.tuple b) = true then allLe a b else false) else false
  | _ => false
theorem standG_ints {room : Int} : ∀ {ds : List PyData} {ls : List Int} {e : Int}, ds.length = ls.length → standG room e ds ls = true → ∃ ns : List Int, ds = iD ns
  | [], [], e, _, _ => ⟨[], rfl⟩
  | [], l :: ls, e, h, _ => by simp at h
  | d :: ds, [], e, h, _ => by simp at h
  | d :: ds, l :: ls, e, h, hg => by
    cases d with
    | int i =>
      have hg : (if i < e then false else standG room (i + l) ds ls) = true := hg
      split at hg
      · cases hg
      · obtain ⟨ns, rfl⟩ := standG_ints (by simpa using h) hg
        exact ⟨i :: ns, rfl⟩
    | _ => cases hg
theorem isStand_ints {room : Int} {ls : List Int} {d : PyData} (h : isStand room ls d = true) : ∃ ns : List Int, d = tI ns ∧ ns.length = ls.length := by
  cases d with
  | tuple ds =>
    have h : (if (ds.length : Int) = ls.length then standG room 0 ds ls else false) = true := h
    split at h
    · rename_i e
      obtain ⟨ns, rfl⟩ := standG_ints (by omega) h
      exact ⟨ns, rfl, by rw [List.length_map] at e; omega⟩
    · cases h
  | _ => cases h
theorem allLe_ints : ∀ (ns ms : List Int), allLe (iD ns) (iD ms) = (List.zipWith (fun a b => decide (a ≤ b)) ns ms).all id
  | [], _ => by cases ‹List Int› <;> rfl
  | _ :: _, [] => rfl
  | n :: ns, m :: ms => by
    show (if n ≤ m then allLe (iD ns) (iD ms) else false) = (decide (n ≤ m) && (List.zipWith (fun a b => decide (a ≤ b)) ns ms).all id)
    rw [allLe_ints ns ms]
    by_cases h : n ≤ m
    · rw [if_pos h, decide_eq_true h]; simp
    · rw [if_neg h, decide_eq_false h]; simp
theorem allLe_stL {ls : List Int} {lo hi : Nat → Int} (h : ∀ j, j < ls.length → lo j ≤ hi j) : allLe (iD (stL ls lo)) (iD (stL ls hi)) = true := by
  rw [allLe_ints, List.all_eq_true]
  intro b hb
  obtain ⟨i, hi', e⟩ := List.mem_iff_getElem.mp hb
  have hi2 : i < ls.length := by simpa [stL_len] using hi'
  have e1 := stL_get (y := lo) hi2
  have e2 := stL_get (y := hi) hi2
  have g1 : i < (stL ls lo).length := by rw [stL_len]; exact hi2
  have g2 : i < (stL ls hi).length := by rw [stL_len]; exact hi2
  rw [List.getElem?_eq_getElem g1] at e1
  rw [List.getElem?_eq_getElem g2] at e2
  rw [List.getElem_zipWith, Option.some.inj e1, Option.some.inj e2] at e
  rw [← e]
  have := h i hi2
  simp only [id]
  exact decide_eq_true (by omega)
theorem isDoing_ok {room : Int} {ls : List Int} {lo hi : Nat → Int} (sh : ls.sum ≤ room) (h : DoOk ls.length (room - ls.sum) lo hi) : isDoing room ls (dgD ls lo hi) = true := by
  show (if isStand room ls (tI (stL ls lo)) = true then (if isStand room ls (tI (stL ls hi)) = true then allLe (iD (stL ls lo)) (iD (stL ls hi)) else false) else false) = true
  rw [if_pos (isStand_ok h.l sh), if_pos (isStand_ok h.h sh)]
  exact allLe_stL h.le
end PS

namespace PS
open PySem PySem.Spec PyProof.Rows L2
/-! ### a row for a doing -/
def rowF (lo hi : Nat → Int) : Nat → List Push
  | 0 => []
  | k + 1 => rowF lo hi k ++ [(true, k, lo k), (false, k + 1, hi k)]
theorem rowF_len (lo hi : Nat → Int) : ∀ k, (rowF lo hi k).length = 2 * k
  | 0 => rfl
  | k + 1 => by
    rw [rowF, List.length_append, rowF_len lo hi k]
    simp
    omega
theorem rowF_ok {n : Nat} {pl : Int} {lo hi : Nat → Int} (h : DoOk n pl lo hi) : ∀ k, k ≤ n → ∀ p ∈ rowF lo hi k, PuOk n pl p
  | 0, _, p, hp => by simp [rowF] at hp
  | k + 1, hk, p, hp => by
    rw [rowF] at hp
    rcases List.mem_append.mp hp with z | z
    · exact rowF_ok h k (by omega) p z
    · have : p = (true, k, lo k) ∨ p = (false, k + 1, hi k) := by simpa using z
      rcases this with rfl | rfl
      · exact ⟨fun _ => (show k < n by omega), fun z => (nomatch z), h.l.lo k (by omega), h.l.hi k (by omega)⟩
      · exact ⟨fun z => (nomatch z), fun _ => (show 1 ≤ k + 1 ∧ k + 1 ≤ n by omega), h.h.lo k (by omega), h.h.hi k (by omega)⟩
theorem rise_le {n : Nat} {pl : Int} {y : Nat → Int} (h : Rise n pl y) : ∀ (d i : Nat), i + d < n → y i ≤ y (i + d)
  | 0, i, _ => Int.le_refl _
  | d + 1, i, hd => by
    have h1 := rise_le h d i (by omega)
    have h2 := h.up (i + d) (by omega)
    rw [show i + d + 1 = i + (d + 1) from by omega] at h2
    omega
theorem rise_le' {n : Nat} {pl : Int} {y : Nat → Int} (h : Rise n pl y) {i j : Nat} (hij : i ≤ j) (hj : j < n) : y i ≤ y j := by
  have := rise_le h (j - i) i (by omega)
  rw [show i + (j - i) = j from by omega] at this
  exact this
theorem rowF_fold {n : Nat} {pl : Int} {lo hi : Nat → Int} (h : DoOk n pl lo hi) {j : Nat} (hj : j < n) (x : Int) : ∀ k, k ≤ n → (rowF lo hi k).foldl (act j) x = if k = 0 then x else if k ≤ j then max x (lo (k - 1)) else clamp (lo j) (hi j) x
  | 0, _ => rfl
  | k + 1, hk => by
    rw [rowF, List.foldl_append, rowF_fold h hj x k (by omega)]
    show act j (act j _ (true, k, lo k)) (false, k + 1, hi k) = _
    rw [if_neg (show ¬ k + 1 = 0 by omega), show k + 1 - 1 = k from by omega]
    have hle := h.le j hj
    have u1 := rise_le' h.l (i := k - 1) (j := k) (by omega) (by omega)
    have u2 : j ≤ k → hi j ≤ hi k := fun e => rise_le' h.h e (by omega)
    unfold act clamp
    by_cases h2 : k = j
    · subst h2
      simp only [if_true, Bool.false_eq_true, if_false]
      repeat' split
      all_goals omega
    · simp only [if_true, Bool.false_eq_true, if_false]
      repeat' split
      all_goals omega
theorem rowF_lo {n : Nat} {pl : Int} {lo hi : Nat → Int} (h : DoOk n pl lo hi) {j : Nat} (hj : j < n) : loR (rowF lo hi n) j = lo j := by
  unfold loR
  rw [doR_at, rowF_fold h hj 0 n (Nat.le_refl n), if_neg (by omega), if_neg (by omega)]
  have := h.le j hj
  have := h.l.lo j hj
  unfold clamp
  omega
theorem rowF_hi {n : Nat} {pl : Int} {lo hi : Nat → Int} (h : DoOk n pl lo hi) {j : Nat} (hj : j < n) : hiR pl (rowF lo hi n) j = hi j := by
  unfold hiR
  rw [doR_at, rowF_fold h hj pl n (Nat.le_refl n), if_neg (by omega), if_neg (by omega)]
  have := h.le j hj
  have := h.l.hi j hj
  have := h.h.hi j hj
  unfold clamp
  omega
theorem eqv_ints : ∀ (ns ms : List Int), PyData.eqvAll (iD ns) (iD ms) = decide (ns = ms)
  | [], [] => rfl
  | [], m :: ms => rfl
  | n :: ns, [] => rfl
  | n :: ns, m :: ms => by
    show (PyData.eqv (.int n) (.int m) && PyData.eqvAll (iD ns) (iD ms)) = decide (n :: ns = m :: ms)
    rw [eqv_ints ns ms]
    have : PyData.eqv (.int n) (.int m) = (n == m) := by simp [PyData.eqv]
    rw [this]
    by_cases h : n = m
    · subst h
      simp
    · rw [beq_eq_false_iff_ne.mpr h]
      simp [h]
theorem eqv_tI (ns ms : List Int) : PyData.eqv (tI ns) (tI ms) = decide (ns = ms) := by
  rw [PyData.eqv]
  exact eqv_ints ns ms
theorem eqv_dgD {ls : List Int} {a b c d : Nat → Int} : PyData.eqv (dgD ls a b) (dgD ls c d) = decide (stL ls a = stL ls c ∧ stL ls b = stL ls d) := by
  have e : PyData.eqv (dgD ls a b) (dgD ls c d) = (PyData.eqv (tI (stL ls a)) (tI (stL ls c)) && (PyData.eqv (tI (stL ls b)) (tI (stL ls d)) && true)) := by
    rw [PyData.eqv, PyData.eqvAll, PyData.eqvAll, PyData.eqvAll]
  rw [e, eqv_tI, eqv_tI]
  by_cases h1 : stL ls a = stL ls c
  · by_cases h2 : stL ls b = stL ls d
    · simp [h1, h2]
    · simp [h1, h2]
  · simp [h1]
end PS

namespace PS
/-! ### bands, by what they want: up, down; the ways to part them -/
abbrev Fl := Bool × Bool
def bad (g : List Fl) : Nat := ((g.head?.map (·.1)).getD false && (g.getLast?.map (·.2)).getD false).toNat
def gc : List Fl → Nat
  | [] => 0
  | [b] => b.1.toNat + b.2.toNat
  | b :: c :: g => (b :: c :: g).length + bad (b :: c :: g)
theorem bad_le (g : List Fl) : bad g ≤ 1 := by
  unfold bad
  exact Bool.toNat_le _
theorem gc_two {g : List Fl} (h : 2 ≤ g.length) : gc g = g.length + bad g := by
  match g, h with
  | b :: c :: g, _ => rfl
theorem gc_one (b : Fl) : gc [b] = b.1.toNat + b.2.toNat := rfl
inductive Way : List Fl → Nat → Prop
  | nil : Way [] 0
  | grp {g bs : List Fl} {c : Nat} : g ≠ [] → Way bs c → Way (g ++ bs) (gc g + c)
theorem Way.app {a b : List Fl} {c d : Nat} (h : Way a c) (k : Way b d) : Way (a ++ b) (c + d) := by
  induction h with
  | nil => simpa using k
  | grp hg _ ih =>
    rw [List.append_assoc, Nat.add_assoc]
    exact .grp hg ih
theorem Way.single {g : List Fl} (h : g ≠ []) : Way g (gc g) := by
  have := Way.grp h .nil
  simpa using this
def mir (g : List Fl) : List Fl := (g.map Prod.swap).reverse
theorem mir_mir (g : List Fl) : mir (mir g) = g := by
  unfold mir
  rw [List.map_reverse, List.reverse_reverse, List.map_map]
  simp
theorem mir_app (a b : List Fl) : mir (a ++ b) = mir b ++ mir a := by
  unfold mir
  rw [List.map_append, List.reverse_append]
theorem mir_len (a : List Fl) : (mir a).length = a.length := by simp [mir]
theorem bad_mir (g : List Fl) : bad (mir g) = bad g := by
  unfold bad mir
  rw [List.head?_reverse, List.getLast?_reverse, List.getLast?_map, List.head?_map, Option.map_map, Option.map_map, Bool.and_comm]
  rfl
theorem gc_mir (g : List Fl) : gc (mir g) = gc g := by
  match g with
  | [] => rfl
  | [b] =>
    show b.2.toNat + b.1.toNat = b.1.toNat + b.2.toNat
    omega
  | b :: c :: g =>
    rw [gc_two (by rw [mir_len]; simp), gc_two (by simp), bad_mir, mir_len]
theorem Way.mir {a : List Fl} {c : Nat} (h : Way a c) : Way (mir a) c := by
  induction h with
  | nil => exact .nil
  | @grp g bs c hg _ ih =>
    rw [mir_app, Nat.add_comm]
    refine Way.app ih ?_
    rw [← gc_mir]
    refine Way.single (fun z => hg ?_)
    have := congrArg List.length z
    rw [mir_len] at this
    exact List.length_eq_zero_iff.mp (by simpa using this)
theorem gc_ge {g : List Fl} (h : ∀ x ∈ g, x.2 = true) : g.length ≤ gc g := by
  match g, h with
  | [], _ => simp
  | [b], h =>
    have := h b (by simp)
    rw [gc_one, this]
    simp
  | b :: c :: g, _ =>
    rw [gc_two (by simp)]
    omega
theorem way_mid {L : List Fl} {c : Nat} (h : Way L c) : ∀ (J : List Fl) (t : Fl) (B : List Fl), L = J ++ t :: B → (∀ x ∈ J, x.2 = true) →
    ∃ B0 B1 cB, B = B0 ++ B1 ∧ Way B1 cB ∧ (J.length + 1 + B0.length + cB ≤ c ∨ (B0 = [] ∧ t.2 = false ∧ J.length + cB ≤ c)) := by
  induction h with
  | nil => intro J t B e; simp at e
  | @grp g bs c hg hw ih =>
    intro J t B e hJ
    by_cases hl : g.length ≤ J.length
    · obtain ⟨J2, rfl⟩ : ∃ J2, J = g ++ J2 := by
        refine ⟨J.drop g.length, ?_⟩
        have := congrArg (List.take g.length) e
        rw [List.take_left, List.take_append_of_le_length hl] at this
        have h2 := List.take_append_drop g.length J
        rw [← this] at h2
        exact h2.symm
      rw [List.append_assoc] at e
      have e2 := List.append_cancel_left e
      obtain ⟨B0, B1, cB, h1, h2, h3⟩ := ih J2 t B e2 (fun x hx => hJ x (by simp [hx]))
      have hge := gc_ge (g := g) (fun x hx => hJ x (by simp [hx]))
      refine ⟨B0, B1, cB, h1, h2, ?_⟩
      rw [List.length_append]
      rcases h3 with h3 | ⟨h3, h4, h5⟩
      · exact .inl (by omega)
      · exact .inr ⟨h3, h4, by omega⟩
    · obtain ⟨B0, rfl⟩ : ∃ B0, g = J ++ t :: B0 := by
        refine ⟨g.drop (J.length + 1), ?_⟩
        have := congrArg (List.take (J.length + 1)) e
        rw [List.take_append_of_le_length (by omega), List.take_length_add_append] at this
        simp only [List.take_succ_cons, List.take_zero] at this
        have h2 := List.take_append_drop (J.length + 1) g
        rw [this] at h2
        rw [← h2]
        simp
      rw [List.append_assoc] at e
      have e2 := List.append_cancel_left e
      have e3 : B0 ++ bs = B := by simpa using e2
      refine ⟨B0, bs, c, e3.symm, hw, ?_⟩
      by_cases h2 : 2 ≤ (J ++ t :: B0).length
      · rw [gc_two h2]
        simp only [List.length_append, List.length_cons] at h2 ⊢
        exact .inl (by omega)
      · simp only [List.length_append, List.length_cons] at h2
        have hJ0 : J = [] := List.length_eq_zero_iff.mp (by omega)
        have hB0 : B0 = [] := List.length_eq_zero_iff.mp (by omega)
        subst hJ0 hB0
        rw [List.nil_append, gc_one]
        cases ht : t.2 with
        | true => exact .inl (by simp)
        | false => exact .inr ⟨rfl, rfl, by simp⟩
theorem gc_le {g : List Fl} (h : 2 ≤ g.length) : gc g ≤ g.length + 1 := by
  rw [gc_two h]
  have := bad_le g
  omega
theorem way_push {L : List Fl} {c : Nat} (h : Way L c) : ∀ (A I' : List Fl) (t' : Fl) (B : List Fl), L = A ++ (I' ++ t' :: B) → (∀ x ∈ I', x.2 = true) → ∀ (I : List Fl) (t : Fl), I.length = I'.length → (t'.2 = true ∨ t'.2 = t.2) →
    ∃ c2, Way (A ++ (I ++ t :: B)) c2 ∧ c2 ≤ c + 1 := by
  induction h with
  | nil => intro A I' t' B e; simp at e
  | @grp g bs c hg hw ih =>
    intro A I' t' B e hI I t hl ht
    by_cases hA : g.length ≤ A.length
    · obtain ⟨A2, rfl⟩ : ∃ A2, A = g ++ A2 := by
        refine ⟨A.drop g.length, ?_⟩
        have := congrArg (List.take g.length) e
        rw [List.take_left, List.take_append_of_le_length hA] at this
        have h2 := List.take_append_drop g.length A
        rw [← this] at h2
        exact h2.symm
      rw [List.append_assoc] at e
      obtain ⟨c2, w2, l2⟩ := ih A2 I' t' B (List.append_cancel_left e) hI I t hl ht
      refine ⟨gc g + c2, ?_, by omega⟩
      rw [List.append_assoc]
      exact .grp hg w2
    · obtain ⟨R, rfl⟩ : ∃ R, g = A ++ R := by
        refine ⟨g.drop A.length, ?_⟩
        have := congrArg (List.take A.length) e
        rw [List.take_left, List.take_append_of_le_length (by omega)] at this
        have h2 := List.take_append_drop A.length g
        rw [this] at h2
        exact h2.symm
      rw [List.append_assoc] at e
      have e2 := List.append_cancel_left e
      rw [List.length_append] at hA
      by_cases hR : R.length ≤ I'.length
      · obtain ⟨J, rfl⟩ : ∃ J, I' = R ++ J := by
          refine ⟨I'.drop R.length, ?_⟩
          have := congrArg (List.take R.length) e2
          rw [List.take_left, List.take_append_of_le_length hR] at this
          have h2 := List.take_append_drop R.length I'
          rw [← this] at h2
          exact h2.symm
        rw [List.append_assoc] at e2
        have e3 := List.append_cancel_left e2
        obtain ⟨B0, B1, cB, rfl, w1, h3⟩ := way_mid hw J t' B e3 (fun x hx => hI x (by simp [hx]))
        have hge : A.length + R.length ≤ gc (A ++ R) := by
          by_cases h2 : 2 ≤ (A ++ R).length
          · rw [gc_two h2, List.length_append]
            omega
          · have h4 : A = [] := List.length_eq_zero_iff.mp (by rw [List.length_append] at h2; omega)
            subst h4
            have := gc_ge (g := R) (fun x hx => hI x (by simp [hx]))
            simpa using this
        rw [List.length_append] at hl
        have hG : 2 ≤ (A ++ (I ++ t :: B0)).length := by
          simp only [List.length_append, List.length_cons]
          omega
        refine ⟨gc (A ++ (I ++ t :: B0)) + cB, ?_, ?_⟩
        · have := Way.grp (g := A ++ (I ++ t :: B0)) (by simp) w1
          simpa using this
        · rcases h3 with h3 | ⟨rfl, h4, h5⟩
          · have := gc_le hG
            simp only [List.length_append, List.length_cons] at this
            omega
          · have ht2 : t.2 = false := by
              rcases ht with z | z
              · rw [h4] at z; cases z
              · rw [← z]; exact h4
            have hb : bad (A ++ (I ++ [t])) = 0 := by
              unfold bad
              rw [← List.append_assoc, List.getLast?_append]
              simp [ht2]
            rw [gc_two hG, hb]
            simp only [List.length_append, List.length_cons, List.length_nil]
            omega
      · obtain ⟨B0, rfl⟩ : ∃ B0, R = I' ++ t' :: B0 := by
          refine ⟨R.drop (I'.length + 1), ?_⟩
          have := congrArg (List.take (I'.length + 1)) e2
          rw [List.take_append_of_le_length (by omega), List.take_length_add_append] at this
          simp only [List.take_succ_cons, List.take_zero] at this
          have h2 := List.take_append_drop (I'.length + 1) R
          rw [this] at h2
          rw [← h2]
          simp
        rw [List.append_assoc] at e2
        have e3 : B0 ++ bs = B := by simpa using List.append_cancel_left e2
        subst e3
        refine ⟨gc (A ++ (I ++ t :: B0)) + c, ?_, ?_⟩
        · have := Way.grp (g := A ++ (I ++ t :: B0)) (by simp) hw
          simpa using this
        · by_cases h2 : 2 ≤ (A ++ (I' ++ t' :: B0)).length
          · have hG : 2 ≤ (A ++ (I ++ t :: B0)).length := by
              simp only [List.length_append, List.length_cons] at h2 ⊢
              omega
            have := gc_le hG
            rw [gc_two h2]
            simp only [List.length_append, List.length_cons] at this ⊢
            omega
          · simp only [List.length_append, List.length_cons] at h2
            have h4 : A = [] := List.length_eq_zero_iff.mp (by omega)
            have h5 : I' = [] := List.length_eq_zero_iff.mp (by omega)
            have h6 : B0 = [] := List.length_eq_zero_iff.mp (by omega)
            have h7 : I = [] := List.length_eq_zero_iff.mp (by rw [hl, h5]; rfl)
            subst h4 h5 h6 h7
            simp only [List.nil_append, gc_one]
            have := Bool.toNat_le t.1
            rcases ht with z | z
            · have := Bool.toNat_le t.2
              rw [z]
              simp only [Bool.toNat_true]
              omega
            · rw [z]
              omega
/-! ### the least of all ways -/
def Least (bs : List Fl) (c : Nat) : Prop := Way bs c ∧ ∀ c', Way bs c' → c ≤ c'
theorem Least.uniq {bs : List Fl} {c d : Nat} (h : Least bs c) (k : Least bs d) : c = d := Nat.le_antisymm (h.2 _ k.1) (k.2 _ h.1)
theorem way_first {bs : List Fl} {c : Nat} (h : Way bs c) (hb : bs ≠ []) : ∃ m c', 1 ≤ m ∧ m ≤ bs.length ∧ Way (bs.drop m) c' ∧ c = gc (bs.take m) + c' := by
  cases h with
  | nil => exact absurd rfl hb
  | @grp g bs c hg hw =>
    refine ⟨g.length, c, ?_, ?_, ?_, ?_⟩
    · have := List.length_pos_iff.mpr hg
      omega
    · simp
    · simpa using hw
    · simp
theorem first_way {bs : List Fl} {m c : Nat} (h1 : 1 ≤ m) (h2 : m ≤ bs.length) (h : Way (bs.drop m) c) : Way bs (gc (bs.take m) + c) := by
  have := Way.grp (g := bs.take m) (fun z => by
    have := congrArg List.length z
    rw [List.length_take] at this
    simp at this
    rcases this with h | h
    · omega
    · subst h; simp at h2; omega) h
  rwa [List.take_append_drop] at this
theorem way_nil {bs : List Fl} {c : Nat} (h : Way bs c) (e : bs = []) : c = 0 := by
  cases h with
  | nil => rfl
  | grp hg _ => exact absurd (List.append_eq_nil_iff.mp e).1 hg
theorem way_last {bs : List Fl} {c : Nat} (h : Way bs c) : bs ≠ [] → ∃ a c', a < bs.length ∧ Way (bs.take a) c' ∧ c = c' + gc (bs.drop a) := by
  induction h with
  | nil => intro z; exact absurd rfl z
  | @grp g bs c hg hw ih =>
    intro _
    by_cases hb : bs = []
    · subst hb
      have hc := way_nil hw rfl
      subst hc
      refine ⟨0, 0, ?_, ?_, ?_⟩
      · simpa using List.length_pos_iff.mpr hg
      · simpa using Way.nil
      · simp
    · obtain ⟨a, c', h1, h2, h3⟩ := ih hb
      refine ⟨g.length + a, gc g + c', ?_, ?_, ?_⟩
      · rw [List.length_append]; omega
      · rw [List.take_length_add_append]
        exact .grp hg h2
      · rw [List.drop_length_add_append, h3]
        omega
theorem last_way {bs : List Fl} {a c : Nat} (h1 : a < bs.length) (h : Way (bs.take a) c) : Way bs (c + gc (bs.drop a)) := by
  have := h.app (Way.single (g := bs.drop a) (fun z => by
    have := congrArg List.length z
    rw [List.length_drop] at this
    simp at this
    omega))
  rwa [List.take_append_drop] at this
end PS

namespace PS
/-! ### runs of alike places -/
inductive Runs (w : Nat → Int) (n : Nat) : Nat → List (Nat × Nat) → Prop
  | nil : Runs w n n []
  | cons {f e : Nat} {rs : List (Nat × Nat)} : f < e → e ≤ n → (∀ j, f ≤ j → j < e → w j = w f) → (e < n → w f < w e) → Runs w n e rs → Runs w n f ((f, e) :: rs)
def fl (y w : Nat → Int) (r : Nat × Nat) : Fl := (decide (y r.1 < w r.1), decide (w r.1 < y (r.2 - 1)))
def fls (y w : Nat → Int) (rs : List (Nat × Nat)) : List Fl := rs.map (fl y w)
theorem fls_cons (y w : Nat → Int) (r : Nat × Nat) (rs : List (Nat × Nat)) : fls y w (r :: rs) = fl y w r :: fls y w rs := rfl
theorem fl_eq {y z w : Nat → Int} {r : Nat × Nat} (h1 : y r.1 < w r.1 ↔ z r.1 < w r.1) (h2 : w r.1 < y (r.2 - 1) ↔ w r.1 < z (r.2 - 1)) : fl y w r = fl z w r := by
  unfold fl
  rw [decide_eq_decide.mpr h1, decide_eq_decide.mpr h2]
theorem runs_head {w : Nat → Int} {n k : Nat} {rs : List (Nat × Nat)} (h : Runs w n k rs) (hk : rs ≠ []) : k < n := by
  cases h with
  | nil => exact absurd rfl hk
  | cons h1 h2 _ _ _ => omega
/-! a push to the right -/
theorem right_above {y w : Nat → Int} {n g : Nat} {b : Int} : ∀ {k : Nat} {rs : List (Nat × Nat)}, Runs w n k rs → (k < n → b < w k) → fls (pR g b y) w rs = fls y w rs
  | _, _, .nil, _ => rfl
  | k, _, .cons (e := e) (rs := rs) h1 h2 h3 h4 h5, hb => by
    have hb := hb (by omega)
    rw [fls_cons, fls_cons, right_above h5 (fun z => by have := h4 z; omega)]
    congr 1
    apply fl_eq
    · unfold pR
      simp only
      split <;> omega
    · unfold pR
      simp only
      split <;> omega
theorem right_from {y w : Nat → Int} {n g : Nat} {b : Int} : ∀ {k : Nat} {rs : List (Nat × Nat)}, Runs w n k rs → (∀ r ∈ rs, g < r.2) →
    fls (pR g b y) w rs = fls y w rs ∨ ∃ I I' t t' B, fls y w rs = I ++ t :: B ∧ fls (pR g b y) w rs = I' ++ t' :: B ∧ I.length = I'.length ∧ (∀ x ∈ I', x.2 = true) ∧ (t'.2 = true ∨ t'.2 = t.2)
  | _, _, .nil, _ => .inl rfl
  | k, _, .cons (e := e) (rs := rs) h1 h2 h3 h4 h5, hg => by
    have hge : g < e := hg (k, e) (by simp)
    by_cases c1 : b < w k
    · exact .inl (right_above (.cons h1 h2 h3 h4 h5) (fun _ => c1))
    by_cases c2 : w k = b
    · have hr := right_above (y := y) (g := g) (b := b) h5 (fun z => by have := h4 z; omega)
      refine .inr ⟨[], [], fl y w (k, e), fl (pR g b y) w (k, e), fls y w rs, rfl, ?_, rfl, by simp, .inr ?_⟩
      · rw [fls_cons, hr]
        rfl
      · unfold fl
        simp only
        apply decide_eq_decide.mpr
        unfold pR
        split <;> omega
    · have hd : (fl (pR g b y) w (k, e)).2 = true := by
        unfold fl
        simp only
        apply decide_eq_true
        unfold pR
        rw [if_pos (by omega)]
        omega
      rcases right_from (y := y) (b := b) h5 (fun r hr => hg r (by simp [hr])) with hs | ⟨I, I', t, t', B, e1, e2, e3, e4, e5⟩
      · refine .inr ⟨[], [], fl y w (k, e), fl (pR g b y) w (k, e), fls y w rs, rfl, ?_, rfl, by simp, .inl hd⟩
        rw [fls_cons, hs]
        rfl
      · refine .inr ⟨fl y w (k, e) :: I, fl (pR g b y) w (k, e) :: I', t, t', B, ?_, ?_, by simp [e3], ?_, e5⟩
        · rw [fls_cons, e1]; rfl
        · rw [fls_cons, e2]; rfl
        · intro x hx
          rcases List.mem_cons.mp hx with z | z
          · rw [z]; exact hd
          · exact e4 x z
theorem runs_ge {w : Nat → Int} {n : Nat} : ∀ {k : Nat} {rs : List (Nat × Nat)}, Runs w n k rs → ∀ r ∈ rs, k < r.2
  | _, _, .nil, r, h => by simp at h
  | k, _, .cons (e := e) (rs := rs) h1 h2 h3 h4 h5, r, h => by
    rcases List.mem_cons.mp h with z | z
    · rw [z]; exact h1
    · have := runs_ge h5 r z
      omega
theorem right_all {y w : Nat → Int} {n g : Nat} {b : Int} : ∀ {k : Nat} {rs : List (Nat × Nat)}, Runs w n k rs →
    fls (pR g b y) w rs = fls y w rs ∨ ∃ A I I' t t' B, fls y w rs = A ++ (I ++ t :: B) ∧ fls (pR g b y) w rs = A ++ (I' ++ t' :: B) ∧ I.length = I'.length ∧ (∀ x ∈ I', x.2 = true) ∧ (t'.2 = true ∨ t'.2 = t.2)
  | _, _, .nil => .inl rfl
  | k, _, .cons (e := e) (rs := rs) h1 h2 h3 h4 h5 => by
    by_cases c : e ≤ g
    · have hh : fl (pR g b y) w (k, e) = fl y w (k, e) := by
        apply fl_eq
        · unfold pR
          simp only
          rw [if_neg (by omega)]
        · unfold pR
          simp only
          rw [if_neg (by omega)]
      rcases right_all (y := y) (g := g) (b := b) h5 with hs | ⟨A, I, I', t, t', B, e1, e2, e3, e4, e5⟩
      · exact .inl (by rw [fls_cons, fls_cons, hs, hh])
      · exact .inr ⟨fl y w (k, e) :: A, I, I', t, t', B, by rw [fls_cons, e1]; rfl, by rw [fls_cons, e2, hh]; rfl, e3, e4, e5⟩
    · rcases right_from (y := y) (g := g) (b := b) (.cons h1 h2 h3 h4 h5) (fun r hr => by
        rcases List.mem_cons.mp hr with z | z
        · rw [z]; show g < e; omega
        · have := runs_ge h5 r z
          omega) with hs | ⟨I, I', t, t', B, e1, e2, e3, e4, e5⟩
      · exact .inl hs
      · exact .inr ⟨[], I, I', t, t', B, e1, e2, e3, e4, e5⟩
/-! a push to the left -/
theorem left_beyond {y w : Nat → Int} {n g : Nat} {b : Int} : ∀ {k : Nat} {rs : List (Nat × Nat)}, Runs w n k rs → g ≤ k → fls (pL g b y) w rs = fls y w rs
  | _, _, .nil, _ => rfl
  | k, _, .cons (e := e) (rs := rs) h1 h2 h3 h4 h5, hg => by
    rw [fls_cons, fls_cons, left_beyond h5 (by omega)]
    congr 1
    apply fl_eq
    · unfold pL
      simp only
      rw [if_neg (by omega)]
    · unfold pL
      simp only
      rw [if_neg (by omega)]
theorem left_above {y w : Nat → Int} {n g : Nat} {b : Int} : ∀ {k : Nat} {rs : List (Nat × Nat)}, Runs w n k rs → (k < n → b < w k) →
    ∃ I I' B, fls y w rs = I ++ B ∧ fls (pL g b y) w rs = I' ++ B ∧ I.length = I'.length ∧ (∀ x ∈ I', x.1 = true)
  | _, _, .nil, _ => ⟨[], [], [], rfl, rfl, rfl, by simp⟩
  | k, _, .cons (e := e) (rs := rs) h1 h2 h3 h4 h5, hb => by
    have hb := hb (by omega)
    by_cases c : g ≤ k
    · exact ⟨[], [], fls y w ((k, e) :: rs), rfl, left_beyond (.cons h1 h2 h3 h4 h5) c, rfl, by simp⟩
    · obtain ⟨I, I', B, e1, e2, e3, e4⟩ := left_above (y := y) (g := g) (b := b) h5 (fun z => by have := h4 z; omega)
      refine ⟨fl y w (k, e) :: I, fl (pL g b y) w (k, e) :: I', B, by rw [fls_cons, e1]; rfl, by rw [fls_cons, e2]; rfl, by simp [e3], fun x hx => ?_⟩
      rcases List.mem_cons.mp hx with z | z
      · rw [z]
        unfold fl
        simp only
        apply decide_eq_true
        unfold pL
        rw [if_pos (by omega)]
        omega
      · exact e4 x z
theorem left_all {y w : Nat → Int} {n g : Nat} {b : Int} : ∀ {k : Nat} {rs : List (Nat × Nat)}, Runs w n k rs →
    fls (pL g b y) w rs = fls y w rs ∨ ∃ A I I' t t' B, fls y w rs = A ++ (t :: I ++ B) ∧ fls (pL g b y) w rs = A ++ (t' :: I' ++ B) ∧ I.length = I'.length ∧ (∀ x ∈ I', x.1 = true) ∧ (t'.1 = true ∨ t'.1 = t.1)
  | _, _, .nil => .inl rfl
  | k, _, .cons (e := e) (rs := rs) h1 h2 h3 h4 h5 => by
    by_cases c1 : w k < b
    · have hh : fl (pL g b y) w (k, e) = fl y w (k, e) := by
        apply fl_eq
        · unfold pL
          simp only
          split <;> omega
        · unfold pL
          simp only
          split <;> omega
      rcases left_all (y := y) (g := g) (b := b) h5 with hs | ⟨A, I, I', t, t', B, e1, e2, e3, e4, e5⟩
      · exact .inl (by rw [fls_cons, fls_cons, hs, hh])
      · exact .inr ⟨fl y w (k, e) :: A, I, I', t, t', B, by rw [fls_cons, e1]; rfl, by rw [fls_cons, e2, hh]; rfl, e3, e4, e5⟩
    by_cases c2 : w k = b
    · obtain ⟨I, I', B, e1, e2, e3, e4⟩ := left_above (y := y) (g := g) (b := b) h5 (fun z => by have := h4 z; omega)
      refine .inr ⟨[], I, I', fl y w (k, e), fl (pL g b y) w (k, e), B, by rw [fls_cons, e1]; rfl, by rw [fls_cons, e2]; rfl, e3, e4, .inr ?_⟩
      unfold fl
      simp only
      apply decide_eq_decide.mpr
      unfold pL
      split <;> omega
    · obtain ⟨I, I', B, e1, e2, e3, e4⟩ := left_above (y := y) (g := g) (b := b) (.cons h1 h2 h3 h4 h5) (fun z => by omega)
      match I, I', e1, e2, e3, e4 with
      | [], [], e1, e2, _, _ => exact .inl (by rw [e1, e2])
      | t :: I, t' :: I', e1, e2, e3, e4 => exact .inr ⟨[], I, I', t, t', B, e1, e2, by simpa using e3, fun x hx => e4 x (by simp [hx]), .inl (e4 t' (by simp))⟩
/-! one push does no more than one -/
theorem low_one {y w : Nat → Int} {n : Nat} {rs : List (Nat × Nat)} (h : Runs w n 0 rs) (p : Push) {c : Nat} (hw : Way (fls (doP y p) w rs) c) : ∃ c2, Way (fls y w rs) c2 ∧ c2 ≤ c + 1 := by
  obtain ⟨r, g, b⟩ := p
  cases r with
  | true =>
    have hw : Way (fls (pR g b y) w rs) c := hw
    rcases right_all (y := y) (g := g) (b := b) h with hs | ⟨A, I, I', t, t', B, e1, e2, e3, e4, e5⟩
    · exact ⟨c, by rw [← hs]; exact hw, by omega⟩
    · rw [e1]
      exact way_push hw A I' t' B e2 e4 I t e3 e5
  | false =>
    have hw : Way (fls (pL g b y) w rs) c := hw
    rcases left_all (y := y) (g := g) (b := b) h with hs | ⟨A, I, I', t, t', B, e1, e2, e3, e4, e5⟩
    · exact ⟨c, by rw [← hs]; exact hw, by omega⟩
    · rw [e1]
      rw [e2] at hw
      have hm := hw.mir
      have split : ∀ (t : Fl) (I : List Fl), mir (A ++ (t :: I ++ B)) = mir B ++ (mir I ++ t.swap :: mir A) := fun t I => by
        rw [mir_app, mir_app, show t :: I = [t] ++ I from rfl, mir_app]
        simp [mir]
      rw [split] at hm
      obtain ⟨c2, w2, l2⟩ := way_push hm (mir B) (mir I') t'.swap (mir A) rfl (fun x hx => by
        obtain ⟨z, hz, rfl⟩ := List.mem_map.mp (List.mem_reverse.mp hx)
        exact e4 z hz) (mir I) t.swap (by rw [mir_len, mir_len, e3]) e5
      refine ⟨c2, ?_, l2⟩
      have := w2.mir
      rw [← split, mir_mir] at this
      exact this
theorem fls_end {y w : Nat → Int} {n : Nat} : ∀ {k : Nat} {rs : List (Nat × Nat)}, Runs w n k rs → (∀ j, k ≤ j → j < n → y j = w j) → Way (fls y w rs) 0
  | _, _, .nil, _ => .nil
  | k, _, .cons (e := e) (rs := rs) h1 h2 h3 h4 h5, hy => by
    have ih := fls_end h5 (fun j hj hn => hy j (by omega) hn)
    have e0 : fl y w (k, e) = (false, false) := by
      unfold fl
      simp only
      rw [hy k (by omega) (by omega), hy (e - 1) (by omega) (by omega), h3 (e - 1) (by omega) (by omega)]
      simp
    rw [fls_cons, e0]
    exact Way.grp (g := [(false, false)]) (by simp) ih
/-- no fewer pushes lead there -/
theorem low_row {w : Nat → Int} {n : Nat} {rs : List (Nat × Nat)} (h : Runs w n 0 rs) : ∀ (r : List Push) (y : Nat → Int), (∀ j, j < n → doR y r j = w j) → ∃ c, Way (fls y w rs) c ∧ c ≤ r.length
  | [], y, hy => ⟨0, fls_end h (fun j _ hj => hy j hj), Nat.le_refl _⟩
  | p :: r, y, hy => by
    obtain ⟨c, hc, hl⟩ := low_row h r (doP y p) hy
    obtain ⟨c2, h2, l2⟩ := low_one h p hc
    exact ⟨c2, h2, by simp; omega⟩
end PS

namespace PS
/-! ### the rows that the program tells: one group of bands -/
/-- runs from k to e -/
inductive RunsTo (w : Nat → Int) (n : Nat) : Nat → Nat → List (Nat × Nat) → Prop
  | nil {k : Nat} : RunsTo w n k k []
  | cons {f e m : Nat} {rs : List (Nat × Nat)} : f < e → e ≤ n → (∀ j, f ≤ j → j < e → w j = w f) → (e < n → w f < w e) → RunsTo w n e m rs → RunsTo w n f m ((f, e) :: rs)
theorem RunsTo.le {w : Nat → Int} {n : Nat} : ∀ {k m : Nat} {rs : List (Nat × Nat)}, RunsTo w n k m rs → k ≤ m
  | _, _, _, .nil => Nat.le_refl _
  | _, _, _, .cons h1 _ _ _ h5 => by have := h5.le; omega
theorem RunsTo.lt {w : Nat → Int} {n k m : Nat} {rs : List (Nat × Nat)} (h : RunsTo w n k m rs) (hn : rs ≠ []) : k < m := by
  cases h with
  | nil => exact absurd rfl hn
  | cons h1 _ _ _ h5 => have := h5.le; omega
theorem RunsTo.len {w : Nat → Int} {n : Nat} : ∀ {k m : Nat} {rs : List (Nat × Nat)}, RunsTo w n k m rs → k + rs.length ≤ m
  | _, _, _, .nil => by simp
  | _, _, _, .cons h1 _ _ _ h5 => by
    have := h5.len
    simp
    omega
theorem RunsTo.le_n {w : Nat → Int} {n : Nat} : ∀ {k m : Nat} {rs : List (Nat × Nat)}, RunsTo w n k m rs → rs ≠ [] → m ≤ n
  | _, _, _, .nil, h => absurd rfl h
  | _, m, _, .cons (rs := rs) h1 h2 _ _ h5, _ => by
    cases rs with
    | nil => cases h5; exact h2
    | cons r rs => exact h5.le_n (by simp)
theorem RunsTo.app {w : Nat → Int} {n : Nat} : ∀ {k m l : Nat} {rs qs : List (Nat × Nat)}, RunsTo w n k m rs → RunsTo w n m l qs → RunsTo w n k l (rs ++ qs)
  | _, _, _, _, _, .nil, h => h
  | _, _, _, _, _, .cons h1 h2 h3 h4 h5, h => .cons h1 h2 h3 h4 (h5.app h)
theorem RunsTo.split {w : Nat → Int} {n : Nat} : ∀ {rs qs : List (Nat × Nat)} {k l : Nat}, RunsTo w n k l (rs ++ qs) → ∃ m, RunsTo w n k m rs ∧ RunsTo w n m l qs
  | [], qs, k, l, h => ⟨k, .nil, h⟩
  | r :: rs, qs, k, l, h => by
    cases h with
    | cons h1 h2 h3 h4 h5 =>
      obtain ⟨m, a, b⟩ := RunsTo.split h5
      exact ⟨m, .cons h1 h2 h3 h4 a, b⟩
theorem RunsTo.runs {w : Nat → Int} {n : Nat} : ∀ {k : Nat} {rs : List (Nat × Nat)}, RunsTo w n k n rs → Runs w n k rs
  | _, _, .nil => .nil
  | _, _, .cons h1 h2 h3 h4 h5 => .cons h1 h2 h3 h4 h5.runs
/-- rising -/
def Up (n : Nat) (w : Nat → Int) : Prop := ∀ i j, i ≤ j → j < n → w i ≤ w j
theorem Rise.mono {n : Nat} {pl : Int} {y : Nat → Int} (h : Rise n pl y) : Up n y := by
  intro i j hij
  induction j with
  | zero =>
    intro _
    have : i = 0 := by omega
    subst this
    exact Int.le_refl _
  | succ j ih =>
    intro hj
    by_cases e : i = j + 1
    · subst e; exact Int.le_refl _
    · have := ih (by omega) (by omega)
      have := h.up j hj
      omega
/-- the last run -/
theorem RunsTo.last {w : Nat → Int} {n : Nat} : ∀ {k m : Nat} {rs : List (Nat × Nat)} {r : Nat × Nat}, RunsTo w n k m (rs ++ [r]) → r.2 = m ∧ r.1 < m ∧ m ≤ n ∧ (∀ j, r.1 ≤ j → j < m → w j = w r.1) ∧ (m < n → w r.1 < w m) ∧ RunsTo w n k r.1 rs := by
  intro k m rs r h
  obtain ⟨l, a, b⟩ := h.split
  cases b with
  | cons h1 h2 h3 h4 h5 =>
    cases h5
    exact ⟨rfl, h1, h2, h3, h4, a⟩
/-! what a push leaves as it is -/
def Sim (n : Nat) (w : Nat → Int) (k : Nat) (z y : Nat → Int) : Prop := ∀ j, k ≤ j → j < n → (z j < w j ↔ y j < w j) ∧ (w j < z j ↔ w j < y j)
theorem Sim.refl {n : Nat} {w : Nat → Int} {k : Nat} {y : Nat → Int} : Sim n w k y y := fun _ _ _ => ⟨Iff.rfl, Iff.rfl⟩
theorem Sim.trans {n : Nat} {w : Nat → Int} {k : Nat} {x y z : Nat → Int} (h : Sim n w k x y) (g : Sim n w k y z) : Sim n w k x z := fun j h1 h2 => ⟨(h j h1 h2).1.trans (g j h1 h2).1, (h j h1 h2).2.trans (g j h1 h2).2⟩
theorem Sim.le {n : Nat} {w : Nat → Int} {k m : Nat} {x y : Nat → Int} (h : Sim n w k x y) (e : k ≤ m) : Sim n w m x y := fun j h1 h2 => h j (by omega) h2
theorem sim_pR {n : Nat} {w z : Nat → Int} {k g : Nat} {b : Int} (h : ∀ j, k ≤ j → j < n → b < w j) : Sim n w k (pR g b z) z := fun j h1 h2 => by
  have := h j h1 h2
  unfold pR
  split <;> omega
theorem sim_pL {n : Nat} {w z : Nat → Int} {k g : Nat} {b : Int} (h : g ≤ k) : Sim n w k (pL g b z) z := fun j h1 h2 => by
  unfold pL
  rw [if_neg (by omega)]
  exact ⟨Iff.rfl, Iff.rfl⟩
theorem above {n : Nat} {w : Nat → Int} {r m : Nat} (up : Up n w) (h : m < n → w r < w m) : ∀ j, m ≤ j → j < n → w r < w j := fun j h1 h2 => by
  have := up m j h1 h2
  have := h (by omega)
  omega
/-! all from the left, down to their places -/
theorem low_all {n : Nat} {w : Nat → Int} (up : Up n w) : ∀ {k m : Nat} {rs : List (Nat × Nat)}, RunsTo w n k m rs → ∀ (z : Nat → Int) (P : Int), (∀ j, j < k → z j = w j) → (∀ j, k ≤ j → j < m → z j = P) → (∀ j, k ≤ j → j < m → w j ≤ P) →
    (∀ j, j < m → doR z (rs.map fun r => (false, r.2, w r.1)) j = w j) ∧ ∀ j, m ≤ j → doR z (rs.map fun r => (false, r.2, w r.1)) j = z j
  | k, _, _, .nil, z, P, h1, h2, h3 => ⟨h1, fun _ _ => rfl⟩
  | k, m, _, .cons (e := e) (rs := rs) c1 c2 c3 c4 c5, z, P, h1, h2, h3 => by
    have hle := c5.le
    have ih := low_all up c5 (pL e (w k) z) P (fun j hj => by
      unfold pL
      rw [if_pos hj]
      by_cases hk : j < k
      · rw [h1 j hk]
        have := up j k (by omega) (by omega)
        omega
      · rw [h2 j (by omega) (by omega), c3 j (by omega) hj]
        have := h3 k (by omega) (by omega)
        omega) (fun j a b => by
        unfold pL
        rw [if_neg (by omega)]
        exact h2 j (by omega) b) (fun j a b => h3 j (by omega) b)
    refine ⟨ih.1, fun j hj => ?_⟩
    have := ih.2 j hj
    show doR (pL e (w k) z) (rs.map fun r => (false, r.2, w r.1)) j = z j
    rw [this]
    unfold pL
    rw [if_neg (by omega)]
/-! all from the left, up to their places -/
theorem raise_all {n : Nat} {w : Nat → Int} (up : Up n w) : ∀ {k m : Nat} {rs : List (Nat × Nat)}, RunsTo w n k m rs → ∀ (z : Nat → Int) (P : Int), (∀ j, j < k → z j = w j) → (∀ j, k ≤ j → j < m → z j = P) → (∀ j, k ≤ j → j < m → P ≤ w j) →
    (∀ j, j < m → doR z (rs.map fun r => (true, r.1, w r.1)) j = w j) ∧ Sim n w m (doR z (rs.map fun r => (true, r.1, w r.1))) z
  | k, _, _, .nil, z, P, h1, h2, h3 => ⟨h1, Sim.refl⟩
  | k, m, _, .cons (e := e) (rs := rs) c1 c2 c3 c4 c5, z, P, h1, h2, h3 => by
    have hle := c5.le
    have ih := raise_all up c5 (pR k (w k) z) (w k) (fun j hj => by
      unfold pR
      by_cases hk : j < k
      · rw [if_neg (by omega)]
        exact h1 j hk
      · rw [if_pos (by omega), h2 j (by omega) (by omega), c3 j (by omega) hj]
        have := h3 k (by omega) (by omega)
        omega) (fun j a b => by
        unfold pR
        rw [if_pos (by omega), h2 j (by omega) b]
        have := h3 k (by omega) (by omega)
        omega) (fun j a b => by
          by_cases hmn : j < n
          · exact up k j (by omega) hmn
          · exfalso
            cases rs with
            | nil => cases c5; omega
            | cons r rs =>
              have := c5.le_n (by simp)
              omega)
    refine ⟨ih.1, ih.2.trans (sim_pR fun j a b => ?_)⟩
    exact above up c4 j (by omega) b
def rowAlone (y w : Nat → Int) (r : Nat × Nat) : List Push := (if y r.1 < w r.1 then [(true, r.1, w r.1)] else []) ++ (if w r.1 < y (r.2 - 1) then [(false, r.2, w r.1)] else [])
def rowLast (w : Nat → Int) (G : List (Nat × Nat)) (f l : Nat × Nat) : List Push := (true, f.1, w l.1) :: G.dropLast.map fun r => (false, r.2, w r.1)
def rowFirst (y w : Nat → Int) (G : List (Nat × Nat)) (f l : Nat × Nat) : List Push := (false, l.2, w f.1) :: ((if y f.1 < w f.1 then [(true, f.1, w f.1)] else []) ++ G.tail.map fun r => (true, r.1, w r.1))
def rowT (y w : Nat → Int) (G : List (Nat × Nat)) : List Push :=
  if G.length = 1 then rowAlone y w (G.headD (0, 0)) else
  if ¬ w (G.getLastD (0, 0)).1 < y ((G.getLastD (0, 0)).2 - 1) then rowLast w G (G.headD (0, 0)) (G.getLastD (0, 0)) else rowFirst y w G (G.headD (0, 0)) (G.getLastD (0, 0))
/-- where the row of a group leads -/
theorem alone_ok {n : Nat} {w y z : Nat → Int} (up : Up n w) (uz : Up n z) {k e : Nat} (h1 : k < e) (h2 : e ≤ n) (h3 : ∀ j, k ≤ j → j < e → w j = w k) (h4 : e < n → w k < w e) (hz : ∀ j, j < k → z j = w j) (sm : Sim n w k z y) :
    (∀ j, j < e → doR z (rowAlone y w (k, e)) j = w j) ∧ Sim n w e (doR z (rowAlone y w (k, e))) z := by
  have ab := above up h4
  have s1 := (sm k (by omega) (by omega)).1
  have s2 := (sm (e - 1) (by omega) (by omega)).2
  rw [h3 (e - 1) (by omega) (by omega)] at s2
  have below : ∀ j, j < k → w j ≤ w k := fun j hj => up j k (by omega) (by omega)
  have zlo : ∀ j, k ≤ j → j < e → z k ≤ z j := fun j a b => uz k j a (by omega)
  have zhi : ∀ j, k ≤ j → j < e → z j ≤ z (e - 1) := fun j a b => uz j (e - 1) (by omega) (by omega)
  unfold rowAlone
  by_cases u : y k < w k
  · by_cases d : w k < y (e - 1)
    · rw [if_pos u, if_pos d]
      show (∀ j, j < e → pL e (w k) (pR k (w k) z) j = w j) ∧ Sim n w e (pL e (w k) (pR k (w k) z)) z
      refine ⟨fun j hj => ?_, (sim_pL (Nat.le_refl _)).trans (sim_pR fun j a b => ab j (by omega) b)⟩
      unfold pL pR
      rw [if_pos hj]
      by_cases hk : j < k
      · rw [if_neg (by omega), hz j hk]
        have := below j hk
        omega
      · rw [if_pos (by omega), h3 j (by omega) hj]
        omega
    · rw [if_pos u, if_neg d]
      show (∀ j, j < e → pR k (w k) z j = w j) ∧ Sim n w e (pR k (w k) z) z
      refine ⟨fun j hj => ?_, sim_pR fun j a b => ab j (by omega) b⟩
      unfold pR
      by_cases hk : j < k
      · rw [if_neg (by omega), hz j hk]
      · rw [if_pos (by omega), h3 j (by omega) hj]
        have := zhi j (by omega) hj
        omega
  · by_cases d : w k < y (e - 1)
    · rw [if_neg u, if_pos d]
      show (∀ j, j < e → pL e (w k) z j = w j) ∧ Sim n w e (pL e (w k) z) z
      refine ⟨fun j hj => ?_, sim_pL (Nat.le_refl _)⟩
      unfold pL
      rw [if_pos hj]
      by_cases hk : j < k
      · rw [hz j hk]
        have := below j hk
        omega
      · rw [h3 j (by omega) hj]
        have := zlo j (by omega) hj
        omega
    · rw [if_neg u, if_neg d]
      show (∀ j, j < e → z j = w j) ∧ Sim n w e z z
      refine ⟨fun j hj => ?_, Sim.refl⟩
      by_cases hk : j < k
      · exact hz j hk
      · rw [h3 j (by omega) hj]
        have := zlo j (by omega) hj
        have := zhi j (by omega) hj
        omega
theorem last_ok {n : Nat} {w y z : Nat → Int} (up : Up n w) (uz : Up n z) {k e : Nat} {G : List (Nat × Nat)} {f l : Nat × Nat} (h : RunsTo w n k e (G ++ [l])) (hf : f.1 = k) (hd : ¬ w l.1 < y (l.2 - 1)) (hz : ∀ j, j < k → z j = w j) (sm : Sim n w k z y) :
    (∀ j, j < e → doR z (rowLast w (G ++ [l]) f l) j = w j) ∧ Sim n w e (doR z (rowLast w (G ++ [l]) f l)) z := by
  obtain ⟨e1, e2, e3, e4, e5, e6⟩ := h.last
  have hk : k ≤ l.1 := e6.le
  have s2 := (sm (e - 1) (by omega) (by omega)).2
  rw [e4 (e - 1) (by omega) (by omega)] at s2
  rw [e1] at hd
  have zP : ∀ j, k ≤ j → j < e → z j ≤ w l.1 := fun j a b => by
    have := uz j (e - 1) (by omega) (by omega)
    omega
  unfold rowLast
  rw [List.dropLast_concat]
  show (∀ j, j < e → doR (pR f.1 (w l.1) z) (G.map fun r => (false, r.2, w r.1)) j = w j) ∧ Sim n w e (doR (pR f.1 (w l.1) z) (G.map fun r => (false, r.2, w r.1))) z
  rw [hf]
  have la := low_all up e6 (pR k (w l.1) z) (w l.1) (fun j hj => by
    unfold pR
    rw [if_neg (by omega)]
    exact hz j hj) (fun j a b => by
      unfold pR
      rw [if_pos a]
      have := zP j a (by omega)
      omega) (fun j a b => up j l.1 (by omega) (by omega))
  refine ⟨fun j hj => ?_, fun j a b => ?_⟩
  · by_cases c : j < l.1
    · exact la.1 j c
    · rw [la.2 j (by omega)]
      unfold pR
      rw [if_pos (by omega), e4 j (by omega) hj]
      have := zP j (by omega) hj
      omega
  · have e8 := la.2 j (by omega)
    rw [e8]
    exact sim_pR (z := z) (g := k) (b := w l.1) (fun i a' b' => above up e5 i a' b') j a b
theorem first_ok {n : Nat} {w y z : Nat → Int} (up : Up n w) (uz : Up n z) {k e : Nat} {G : List (Nat × Nat)} {f l : Nat × Nat} (h : RunsTo w n k e (f :: G)) (hl : l.2 = e) (hz : ∀ j, j < k → z j = w j) (sm : Sim n w k z y) :
    (∀ j, j < e → doR z (rowFirst y w (f :: G) f l) j = w j) ∧ Sim n w e (doR z (rowFirst y w (f :: G) f l)) z := by
  have hen := h.le_n (by simp)
  cases h with
  | @cons _ e1 _ _ h1 h2 h3 h4 h5 =>
    have hle := h5.le
    have s1 := (sm k (by omega) (by omega)).1
    have zlo : ∀ j, k ≤ j → j < e → z k ≤ z j := fun j a b => uz k j a (by omega)
    unfold rowFirst
    simp only [List.tail_cons, hl]
    have fin : ∀ x : Nat → Int, (∀ j, j < k → x j = w j) → (∀ j, k ≤ j → j < e → x j = w k) → Sim n w e x z → (∀ j, j < e → doR x (G.map fun r => (true, r.1, w r.1)) j = w j) ∧ Sim n w e (doR x (G.map fun r => (true, r.1, w r.1))) z := fun x a b s => by
      have ra := raise_all up h5 x (w k) (fun j hj => by
        by_cases c : j < k
        · exact a j c
        · rw [b j (by omega) (by omega), h3 j (by omega) hj]) (fun j p q => b j (by omega) q) (fun j p q => up k j (by omega) (by omega))
      exact ⟨ra.1, ra.2.trans s⟩
    have lo : ∀ j, j < k → pL e (w k) z j = w j := fun j hj => by
      unfold pL
      rw [if_pos (by omega), hz j hj]
      have := up j k (by omega) (by omega)
      omega
    by_cases u : y k < w k
    · rw [if_pos u]
      show (∀ j, j < e → doR (pR k (w k) (pL e (w k) z)) (G.map fun r => (true, r.1, w r.1)) j = w j) ∧ Sim n w e (doR (pR k (w k) (pL e (w k) z)) (G.map fun r => (true, r.1, w r.1))) z
      apply fin
      · intro j hj
        unfold pR
        rw [if_neg (by omega)]
        exact lo j hj
      · intro j a b
        unfold pR pL
        rw [if_pos a, if_pos b]
        omega
      · exact (sim_pR fun j a b => above up h4 j (by omega) b).trans (sim_pL (Nat.le_refl _))
    · rw [if_neg u]
      show (∀ j, j < e → doR (pL e (w k) z) (G.map fun r => (true, r.1, w r.1)) j = w j) ∧ Sim n w e (doR (pL e (w k) z) (G.map fun r => (true, r.1, w r.1))) z
      apply fin
      · exact lo
      · intro j a b
        unfold pL
        rw [if_pos b]
        have := zlo j a b
        omega
      · exact sim_pL (Nat.le_refl _)
theorem lastD_ne {α : Type} {l : List α} {d : α} (h : l ≠ []) : l.getLastD d = l.getLast h := by
  cases l with
  | nil => exact absurd rfl h
  | cons a l => rw [List.getLastD_cons, List.getLast_eq_getLastD]
theorem rowT_ok {n : Nat} {w y z : Nat → Int} (up : Up n w) (uz : Up n z) {k e : Nat} {G : List (Nat × Nat)} (h : RunsTo w n k e G) (hG : G ≠ []) (hz : ∀ j, j < k → z j = w j) (sm : Sim n w k z y) :
    (∀ j, j < e → doR z (rowT y w G) j = w j) ∧ Sim n w e (doR z (rowT y w G)) z := by
  unfold rowT
  match G, hG with
  | [r], _ =>
    rw [if_pos (show [r].length = 1 from rfl)]
    cases h with
    | cons h1 h2 h3 h4 h5 =>
      cases h5
      exact alone_ok up uz h1 h2 h3 h4 hz sm
  | r :: q :: G, _ =>
    rw [if_neg (by simp)]
    have hr : r.1 = k := by cases h; rfl
    have hs : r :: q :: G = (r :: q :: G).dropLast ++ [(r :: q :: G).getLastD (0, 0)] := by
      rw [lastD_ne (by simp)]
      exact (List.dropLast_concat_getLast (by simp)).symm
    split
    · rename_i hd
      generalize hll : (r :: q :: G).getLastD (0, 0) = l at *
      rw [hs] at h ⊢
      exact last_ok up uz h hr hd hz sm
    · refine first_ok up uz h ?_ hz sm
      rw [hs] at h
      exact h.last.1
/-! the length -/
theorem rowT_len {w y : Nat → Int} {G : List (Nat × Nat)} (hG : G ≠ []) : (rowT y w G).length = gc (fls y w G) := by
  unfold rowT
  match G, hG with
  | [r], _ =>
    rw [if_pos (show [r].length = 1 from rfl)]
    show (rowAlone y w r).length = (decide (y r.1 < w r.1)).toNat + (decide (w r.1 < y (r.2 - 1))).toNat
    unfold rowAlone
    rw [List.length_append]
    congr 1
    · by_cases c : y r.1 < w r.1
      · rw [if_pos c, decide_eq_true c]; rfl
      · rw [if_neg c, decide_eq_false c]; rfl
    · by_cases c : w r.1 < y (r.2 - 1)
      · rw [if_pos c, decide_eq_true c]; rfl
      · rw [if_neg c, decide_eq_false c]; rfl
  | r :: q :: G, _ =>
    rw [if_neg (by simp), gc_two (by simp [fls])]
    have hlen : (fls y w (r :: q :: G)).length = G.length + 2 := by simp [fls]
    have hl : (fls y w (r :: q :: G)).getLast? = some (fl y w ((r :: q :: G).getLastD (0, 0))) := by
      unfold fls
      rw [List.getLast?_map, List.getLast?_eq_some_getLast (by simp), lastD_ne (by simp)]
      rfl
    have hb : bad (fls y w (r :: q :: G)) = (decide (y r.1 < w r.1) && decide (w ((r :: q :: G).getLastD (0, 0)).1 < y (((r :: q :: G).getLastD (0, 0)).2 - 1))).toNat := by
      unfold bad
      rw [hl]
      rfl
    rw [hlen, hb]
    generalize (r :: q :: G).getLastD (0, 0) = l
    split
    · rename_i hd
      rw [decide_eq_false hd]
      unfold rowLast
      simp
    · rename_i hd
      rw [decide_eq_true (Decidable.not_not.mp hd)]
      unfold rowFirst
      simp only [List.headD_cons, List.length_cons, List.length_append, List.length_map, List.tail_cons, Bool.and_true]
      by_cases u : y r.1 < w r.1
      · simp [u]; omega
      · simp [u]
/-! the pushes are good ones -/
theorem rowT_pu {n : Nat} {pl : Int} {w y : Nat → Int} (ri : Rise n pl w) {k e : Nat} {G : List (Nat × Nat)} (h : RunsTo w n k e G) (hG : G ≠ []) : ∀ p ∈ rowT y w G, PuOk n pl p := by
  have hr : ∀ {k e : Nat} {G : List (Nat × Nat)}, RunsTo w n k e G → ∀ r ∈ G, r.1 < r.2 ∧ r.2 ≤ n := by
    intro k e G h
    induction h with
    | nil => intro r hr; simp at hr
    | cons h1 h2 _ _ _ ih =>
      intro r hr
      rcases List.mem_cons.mp hr with z | z
      · rw [z]; exact ⟨h1, h2⟩
      · exact ih r z
  have hr := hr h
  have R : ∀ r ∈ G, ∀ q ∈ G, PuOk n pl (true, r.1, w q.1) := fun r a q b => by
    have := hr r a
    have := hr q b
    exact ⟨fun _ => by simp only; omega, fun z => by simp at z, ri.lo q.1 (by omega), ri.hi q.1 (by omega)⟩
  have L : ∀ r ∈ G, ∀ q ∈ G, PuOk n pl (false, r.2, w q.1) := fun r a q b => by
    have := hr r a
    have := hr q b
    exact ⟨fun z => by simp at z, fun _ => by simp only; omega, ri.lo q.1 (by omega), ri.hi q.1 (by omega)⟩
  have hf : G.headD (0, 0) ∈ G := by
    cases G with
    | nil => exact absurd rfl hG
    | cons r G => simp
  have hl : G.getLastD (0, 0) ∈ G := by
    cases G with
    | nil => exact absurd rfl hG
    | cons r G =>
      rw [lastD_ne (by simp)]
      exact List.getLast_mem _
  intro p hp
  unfold rowT at hp
  split at hp
  · unfold rowAlone at hp
    rcases List.mem_append.mp hp with z | z
    · split at z
      · rw [List.mem_singleton.mp z]; exact R _ hf _ hf
      · simp at z
    · split at z
      · rw [List.mem_singleton.mp z]; exact L _ hf _ hf
      · simp at z
  · split at hp
    · unfold rowLast at hp
      rcases List.mem_cons.mp hp with z | z
      · rw [z]; exact R _ hf _ hl
      · obtain ⟨r, hr, rfl⟩ := List.mem_map.mp z
        exact L _ (List.dropLast_subset _ hr) _ (List.dropLast_subset _ hr)
    · unfold rowFirst at hp
      rcases List.mem_cons.mp hp with z | z
      · rw [z]; exact L _ hl _ hf
      · rcases List.mem_append.mp z with z | z
        · split at z
          · rw [List.mem_singleton.mp z]; exact R _ hf _ hf
          · simp at z
        · obtain ⟨r, hr, rfl⟩ := List.mem_map.mp z
          exact R _ (List.mem_of_mem_tail hr) _ (List.mem_of_mem_tail hr)
/-! ### one group behind the other: what the program has for the first m bands -/
structure Told (n : Nat) (pl : Int) (y w : Nat → Int) (rs : List (Nat × Nat)) (m : Nat) (r : List Push) : Prop where
  ok : ∀ p ∈ r, PuOk n pl p
  least : Least (fls y w (rs.take m)) r.length
  lead : ∀ k, RunsTo w n 0 k (rs.take m) → (∀ j, j < k → doR y r j = w j) ∧ Sim n w k (doR y r) y
theorem told_nil {n : Nat} {pl : Int} {y w : Nat → Int} {rs : List (Nat × Nat)} : Told n pl y w rs 0 [] where
  ok := by simp
  least := by
    simp only [List.take_zero]
    exact ⟨.nil, fun c _ => Nat.zero_le _⟩
  lead := fun k h => by
    simp only [List.take_zero] at h
    cases h
    exact ⟨fun j hj => by omega, Sim.refl⟩
theorem told_next {n : Nat} {pl : Int} {y w : Nat → Int} {rs : List (Nat × Nat)} {m : Nat} (rw' : Rise n pl w) (ry : Rise n pl y) (h : RunsTo w n 0 n rs) (hm : m < rs.length) (f : Nat → List Push) (hf : ∀ a, a ≤ m → Told n pl y w rs a (f a))
    {a : Nat} (ha : a ≤ m) (r : List Push) (hr : r = f a ++ rowT y w ((rs.take (m + 1)).drop a)) (hmin : ∀ b, b ≤ m → r.length ≤ (f b ++ rowT y w ((rs.take (m + 1)).drop b)).length) : Told n pl y w rs (m + 1) r := by
  have hne : ∀ b, b ≤ m → (rs.take (m + 1)).drop b ≠ [] := fun b hb z => by
    have := congrArg List.length z
    rw [List.length_drop, List.length_take] at this
    simp at this
    omega
  have tk : ∀ b, b ≤ m → (rs.take (m + 1)).take b = rs.take b := fun b hb => by rw [List.take_take, Nat.min_eq_left (by omega)]
  have sp : ∀ b, b ≤ m → ∀ k, RunsTo w n 0 k (rs.take (m + 1)) → ∃ l, RunsTo w n 0 l (rs.take b) ∧ RunsTo w n l k ((rs.take (m + 1)).drop b) := fun b hb k hk => by
    rw [← List.take_append_drop b (rs.take (m + 1)), tk b hb] at hk
    exact hk.split
  obtain ⟨K, hK, _⟩ : ∃ K, RunsTo w n 0 K (rs.take (m + 1)) ∧ RunsTo w n K n (rs.drop (m + 1)) := by
    rw [← List.take_append_drop (m + 1) rs] at h
    exact h.split
  have flt : ∀ b, b ≤ m → (fls y w (rs.take (m + 1))).take b = fls y w (rs.take b) := fun b hb => by
    unfold fls
    rw [← List.map_take, tk b hb]
  have fld : ∀ b, (fls y w (rs.take (m + 1))).drop b = fls y w ((rs.take (m + 1)).drop b) := fun b => by
    unfold fls
    rw [List.map_drop]
  have fll : (fls y w (rs.take (m + 1))).length = m + 1 := by
    unfold fls
    rw [List.length_map, List.length_take]
    omega
  refine ⟨fun p hp => ?_, ⟨?_, fun c hc => ?_⟩, fun k hk => ?_⟩
  · rw [hr] at hp
    rcases List.mem_append.mp hp with z | z
    · exact (hf a ha).ok p z
    · obtain ⟨l, _, h2⟩ := sp a ha K hK
      exact rowT_pu rw' h2 (hne a ha) p z
  · rw [hr, List.length_append, rowT_len (hne a ha), ← fld]
    refine last_way (by omega) ?_
    rw [flt a ha]
    exact (hf a ha).least.1
  · obtain ⟨b, c', h1, h2, h3⟩ := way_last hc (fun z => by rw [z] at fll; simp at fll)
    rw [fll] at h1
    rw [flt b (by omega)] at h2
    have h4 := (hf b (by omega)).least.2 c' h2
    have h5 := hmin b (by omega)
    rw [List.length_append, rowT_len (hne b (by omega)), ← fld] at h5
    omega
  · obtain ⟨l, h1, h2⟩ := sp a ha k hk
    obtain ⟨l1, l2⟩ := (hf a ha).lead l h1
    have uz : Up n (doR y (f a)) := (doR_rise ry (hf a ha).ok).mono
    have := rowT_ok (y := y) rw'.mono uz h2 (hne a ha) l1 l2
    rw [hr, doR_app]
    exact ⟨this.1, this.2.trans (l2.le (by have := h2.le; omega))⟩
/-- all bands -/
theorem told_all {n : Nat} {pl : Int} {y w : Nat → Int} {rs : List (Nat × Nat)} {r : List Push} (h : RunsTo w n 0 n rs) (t : Told n pl y w rs rs.length r) : Least (fls y w rs) r.length ∧ (∀ p ∈ r, PuOk n pl p) ∧ (∀ j, j < n → doR y r j = w j) ∧ ∀ q : List Push, (∀ j, j < n → doR y q j = w j) → r.length ≤ q.length := by
  have hl := t.least
  rw [List.take_length] at hl
  refine ⟨hl, t.ok, (t.lead n (by rw [List.take_length]; exact h)).1, fun q hq => ?_⟩
  obtain ⟨c, hc, hle⟩ := low_row h.runs q y hq
  exact Nat.le_trans (hl.2 c hc) hle
end PS

namespace PS
/-! ### how long a run is, counted -/
theorem sorted_run : ∀ (l : List Int) (a : Int), (a :: l).Pairwise (· ≤ ·) → ∀ j, j < l.length + 1 → ((a :: l).getD j 0 = a ↔ j < (a :: l).count a)
  | [], a, _, j, hj => by
    have : j = 0 := by simpa using hj
    subst this
    simp
  | b :: l, a, h, j, hj => by
    have hab : a ≤ b := (List.pairwise_cons.mp h).1 b (by simp)
    by_cases e : b = a
    · subst e
      rw [List.count_cons_self]
      cases j with
      | zero => simp
      | succ j =>
        have ih := sorted_run l b (List.pairwise_cons.mp h).2 j (by simpa using hj)
        rw [List.getD_cons_succ]
        omega
    · have hgt : ∀ x ∈ b :: l, a < x := fun x hx => by
        have h2 := (List.pairwise_cons.mp h).2
        rcases List.mem_cons.mp hx with z | z
        · omega
        · have := (List.pairwise_cons.mp h2).1 x z
          omega
      have hc : (a :: b :: l).count a = 1 := by
        rw [List.count_cons_self, List.count_eq_zero.mpr]
        intro hm
        have := hgt a hm
        omega
      rw [hc]
      cases j with
      | zero => simp
      | succ j =>
        rw [List.getD_cons_succ]
        have hj' : j < (b :: l).length := by simpa using hj
        have : (b :: l).getD j 0 = (b :: l)[j] := by
          rw [List.getD_eq_getElem?_getD, List.getElem?_eq_getElem hj']
          rfl
        rw [this]
        have := hgt _ (List.getElem_mem hj')
        omega
theorem run_count {n : Nat} {w : Nat → Int} {f : Nat} (up : Up n w) (hf : f < n) (hb : f = 0 ∨ w (f - 1) < w f) :
    1 ≤ ((List.range n).map w).count (w f) ∧ f + ((List.range n).map w).count (w f) ≤ n ∧ (∀ j, f ≤ j → j < f + ((List.range n).map w).count (w f) → w j = w f) ∧ (f + ((List.range n).map w).count (w f) < n → w f < w (f + ((List.range n).map w).count (w f))) := by
  have h0 : (((List.range n).map w).take f).count (w f) = 0 := by
    rw [List.count_eq_zero]
    intro hm
    rw [← List.map_take, List.take_range] at hm
    obtain ⟨j, hj, e⟩ := List.mem_map.mp hm
    rw [List.mem_range] at hj
    rcases hb with z | z
    · omega
    · have := up j (f - 1) (by omega) (by omega)
      omega
  have hlen : ((List.range n).map w).length = n := by simp
  have hsplit : ((List.range n).map w).count (w f) = (((List.range n).map w).drop f).count (w f) := by
    have := List.take_append_drop f ((List.range n).map w)
    rw [← this, List.count_append, h0, Nat.zero_add, this]
  have hd : ((List.range n).map w).drop f = w f :: ((List.range n).map w).drop (f + 1) := by
    rw [List.drop_eq_getElem_cons (by omega)]
    simp
  have hget : ∀ j, j < n - f → (((List.range n).map w).drop f).getD j 0 = w (f + j) := fun j hj => by
    rw [List.getD_eq_getElem?_getD, List.getElem?_drop, List.getElem?_map, List.getElem?_range (by omega)]
    rfl
  have hs : (((List.range n).map w).drop f).Pairwise (· ≤ ·) := by
    apply List.Pairwise.drop
    rw [List.pairwise_iff_getElem]
    intro i j hi hj hij
    simp only [List.getElem_map, List.getElem_range]
    simp at hi hj
    exact up i j (by omega) hj
  rw [hsplit]
  have hl2 : (((List.range n).map w).drop f).length = n - f := by rw [List.length_drop, hlen]
  have key : ∀ j, j < n - f → (w (f + j) = w f ↔ j < (((List.range n).map w).drop f).count (w f)) := fun j hj => by
    have := sorted_run (((List.range n).map w).drop (f + 1)) (w f) (by rw [← hd]; exact hs) j (by rw [hd] at hl2; simp at hl2 ⊢; omega)
    rw [← hd, hget j hj] at this
    exact this
  have hle : (((List.range n).map w).drop f).count (w f) ≤ n - f := by
    rw [← hl2]
    exact List.count_le_length
  refine ⟨?_, by omega, fun j h1 h2 => ?_, fun h => ?_⟩
  · have := (key 0 (by omega)).mp rfl
    omega
  · have := (key (j - f) (by omega)).mpr (by omega)
    rw [show f + (j - f) = j from by omega] at this
    exact this
  · have h1 := mt (key _ (show (((List.range n).map w).drop f).count (w f) < n - f by omega)).mp (Nat.lt_irrefl _)
    have h2 := up f (f + (((List.range n).map w).drop f).count (w f)) (by omega) h
    omega
/-- the end of the last run so far, and what is next -/
theorem RunsTo.front {w : Nat → Int} {n : Nat} : ∀ {k m : Nat} {rs : List (Nat × Nat)}, RunsTo w n k m rs → rs ≠ [] → m < n → w (m - 1) < w m
  | _, _, _, .nil, h, _ => absurd rfl h
  | k, m, _, .cons (e := e) (rs := rs) h1 h2 h3 h4 h5, _, hm => by
    cases rs with
    | nil =>
      cases h5
      have := h4 hm
      rw [h3 (m - 1) (by omega) (by omega)]
      exact this
    | cons r rs => exact h5.front (by simp) hm
/-! ### lengths -/
theorem way_singles : ∀ l : List Fl, ∃ c, Way l c ∧ c ≤ 2 * l.length
  | [] => ⟨0, .nil, by simp⟩
  | b :: l => by
    obtain ⟨c, h1, h2⟩ := way_singles l
    refine ⟨gc [b] + c, Way.grp (g := [b]) (by simp) h1, ?_⟩
    rw [gc_one, List.length_cons]
    have := Bool.toNat_le b.1
    have := Bool.toNat_le b.2
    omega
theorem Told.len {n : Nat} {pl : Int} {y w : Nat → Int} {rs : List (Nat × Nat)} {m : Nat} {r : List Push} (t : Told n pl y w rs m r) : r.length ≤ 2 * m := by
  obtain ⟨c, h1, h2⟩ := way_singles (fls y w (rs.take m))
  have h3 := t.least.2 c h1
  unfold fls at h2
  rw [List.length_map, List.length_take] at h2
  omega
theorem rowT_le {w y : Nat → Int} {G : List (Nat × Nat)} (hG : G ≠ []) : (rowT y w G).length ≤ G.length + 1 := by
  rw [rowT_len hG]
  by_cases h : 2 ≤ (fls y w G).length
  · have := gc_le h
    have e : (fls y w G).length = G.length := by simp [fls]
    omega
  · have e : (fls y w G).length = G.length := by simp [fls]
    match G, hG with
    | [r], _ =>
      show gc [fl y w r] ≤ 2
      rw [gc_one]
      have := Bool.toNat_le (fl y w r).1
      have := Bool.toNat_le (fl y w r).2
      omega
    | _ :: _ :: _, _ => simp [fls] at h
/-- what is told of two stands: a row of the fewest pushes -/
structure Best (n : Nat) (pl : Int) (y w : Nat → Int) (r : List Push) : Prop where
  ok : ∀ p ∈ r, PuOk n pl p
  lead : ∀ j, j < n → doR y r j = w j
  least : ∃ rs, RunsTo w n 0 n rs ∧ Least (fls y w rs) r.length
  few : ∀ q : List Push, (∀ j, j < n → doR y q j = w j) → r.length ≤ q.length
  len : r.length ≤ 2 * n
theorem best_of {n : Nat} {pl : Int} {y w : Nat → Int} {rs : List (Nat × Nat)} {r : List Push} (h : RunsTo w n 0 n rs) (t : Told n pl y w rs rs.length r) : Best n pl y w r := by
  obtain ⟨h1, h2, h3, h4⟩ := told_all h t
  have h5 := t.len
  have h6 := h.len
  exact ⟨h2, h3, ⟨rs, h, h1⟩, h4, by omega⟩
theorem Best.same {n : Nat} {pl : Int} {y w : Nat → Int} {r q : List Push} (h : Best n pl y w r) (k : Best n pl y w q) : r.length = q.length := Nat.le_antisymm (h.few q k.lead) (k.few r h.lead)
end PS

namespace PS
/-! ### bands as the law sees them -/
def lawB (y w : Nat → Int) : Nat → List Fl
  | 0 => []
  | k + 1 =>
    let L := if k = 0 ∨ w k ≠ w (k - 1) then lawB y w k ++ [(false, false)] else lawB y w k
    L.dropLast ++ [((L.getLastD (false, false)).1 || decide (y k < w k), (L.getLastD (false, false)).2 || decide (w k < y k))]
theorem lastD_sn (L : List Fl) (x : Fl) : (L ++ [x]).getLastD (false, false) = x := by
  rw [lastD_ne (by simp)]
  simp
theorem lawB_run {n : Nat} {y w : Nat → Int} (up : Up n y) {f k : Nat} (hk : k ≤ n) (hc : ∀ j, f ≤ j → j < k → w j = w f) (hf : f = 0 ∨ w (f - 1) < w f) :
    ∀ i, f + (i + 1) ≤ k → lawB y w (f + (i + 1)) = lawB y w f ++ [(decide (y f < w f), decide (w f < y (f + i)))]
  | 0, hi => by
    show (let L := if f = 0 ∨ w f ≠ w (f - 1) then lawB y w f ++ [(false, false)] else lawB y w f; L.dropLast ++ [((L.getLastD (false, false)).1 || decide (y f < w f), (L.getLastD (false, false)).2 || decide (w f < y f))]) = _
    rw [if_pos (by rcases hf with z | z; exact .inl z; exact .inr (by omega))]
    simp only [List.dropLast_concat, lastD_sn, Bool.false_or]
    rfl
  | i + 1, hi => by
    have ih := lawB_run up hk hc hf i (by omega)
    show (let L := if f + (i + 1) = 0 ∨ w (f + (i + 1)) ≠ w (f + (i + 1) - 1) then lawB y w (f + (i + 1)) ++ [(false, false)] else lawB y w (f + (i + 1)); L.dropLast ++ [((L.getLastD (false, false)).1 || decide (y (f + (i + 1)) < w (f + (i + 1))), (L.getLastD (false, false)).2 || decide (w (f + (i + 1)) < y (f + (i + 1))))]) = _
    have e1 := hc (f + (i + 1)) (by omega) (by omega)
    have e2 := hc (f + i) (by omega) (by omega)
    rw [if_neg (by
      rintro (z | z)
      · omega
      · rw [show f + (i + 1) - 1 = f + i from by omega, e1, e2] at z
        exact z rfl), ih]
    simp only [List.dropLast_concat, lastD_sn]
    have u1 := up f (f + (i + 1)) (by omega) (by omega)
    have u2 := up (f + i) (f + (i + 1)) (by omega) (by omega)
    rw [e1]
    congr 3
    · by_cases c : y f < w f
      · simp [c]
      · rw [decide_eq_false c, decide_eq_false (by omega)]; rfl
    · by_cases c : w f < y (f + i)
      · rw [decide_eq_true c, decide_eq_true (by omega)]; rfl
      · rw [decide_eq_false c, Bool.false_or]
theorem runs_nil {w : Nat → Int} {n k m : Nat} (h : RunsTo w n k m []) : k = m := by
  cases h
  rfl
theorem lawB_runs {n : Nat} {y w : Nat → Int} (up : Up n y) : ∀ (m : Nat) (rs : List (Nat × Nat)) (k : Nat), rs.length = m → k ≤ n → RunsTo w n 0 k rs → lawB y w k = fls y w rs
  | 0, rs, k, hm, _, h => by
    have : rs = [] := List.length_eq_zero_iff.mp hm
    subst this
    cases h
    rfl
  | m + 1, rs, k, hm, hk, h => by
    obtain ⟨rs0, r, rfl⟩ : ∃ rs0 r, rs = rs0 ++ [r] := by
      cases List.eq_nil_or_concat rs with
      | inl h' => rw [h'] at hm; simp at hm
      | inr h' =>
        obtain ⟨a, b, h'⟩ := h'
        exact ⟨a, b, by rw [h']; simp⟩
    obtain ⟨e1, e2, e3, e4, e5, e6⟩ := h.last
    have ih := lawB_runs up m rs0 r.1 (by simpa using hm) (by omega) e6
    have hf : r.1 = 0 ∨ w (r.1 - 1) < w r.1 := by
      by_cases c : rs0 = []
      · subst c
        exact .inl (runs_nil e6).symm
      · exact .inr (e6.front c (by omega))
    have := lawB_run up hk e4 hf (k - r.1 - 1) (by omega)
    rw [show r.1 + (k - r.1 - 1 + 1) = k from by omega, show r.1 + (k - r.1 - 1) = k - 1 from by omega, ih] at this
    rw [this]
    unfold fls
    rw [List.map_append]
    show _ = _ ++ [fl y w r]
    unfold fl
    rw [e1]
theorem lawB_len {y w : Nat → Int} : ∀ k, (lawB y w k).length ≤ k ∧ (0 < k → 0 < (lawB y w k).length)
  | 0 => ⟨Nat.le_refl _, fun h => by omega⟩
  | k + 1 => by
    have ih := lawB_len (y := y) (w := w) k
    refine ⟨?_, fun _ => by simp [lawB]⟩
    show (let L := if k = 0 ∨ w k ≠ w (k - 1) then lawB y w k ++ [(false, false)] else lawB y w k; L.dropLast ++ [((L.getLastD (false, false)).1 || decide (y k < w k), (L.getLastD (false, false)).2 || decide (w k < y k))]).length ≤ k + 1
    simp only [List.length_append, List.length_dropLast, List.length_cons, List.length_nil]
    split
    · rw [List.length_append]
      simp
      omega
    · rename_i c
      have : 0 < k := by
        by_cases e : k = 0
        · exact absurd (.inl e) c
        · omega
      have := ih.2 this
      omega
/-! ### the least, from the first group on -/
theorem least_ex (l : List Fl) : ∃ c, Least l c := by
  obtain ⟨c0, h0, _⟩ := way_singles l
  have : ∀ n c, c ≤ n → Way l c → ∃ d, Least l d := fun n => by
    induction n with
    | zero =>
      intro c hc hw
      have : c = 0 := by omega
      subst this
      exact ⟨0, hw, fun _ _ => Nat.zero_le _⟩
    | succ n ih =>
      intro c hc hw
      by_cases h : ∃ d, d < c ∧ Way l d
      · obtain ⟨d, hd, hw'⟩ := h
        exact ih d (by omega) hw'
      · exact ⟨c, hw, fun d hd => by
          by_cases e : c ≤ d
          · exact e
          · exact absurd ⟨d, by omega, hd⟩ h⟩
  exact this c0 c0 (Nat.le_refl _) h0
structure BestTo (l : List Fl) (m b : Nat) : Prop where
  at_ : ∃ j c, 1 ≤ j ∧ j < m ∧ Least (l.drop j) c ∧ b = gc (l.take j) + c
  le : ∀ j c, 1 ≤ j → j < m → Least (l.drop j) c → b ≤ gc (l.take j) + c
theorem BestTo.first {l : List Fl} {c : Nat} (h : Least (l.drop 1) c) : BestTo l 2 (gc (l.take 1) + c) where
  at_ := ⟨1, c, by omega, by omega, h, rfl⟩
  le := fun j d h1 h2 hd => by
    have : j = 1 := by omega
    subst this
    rw [h.uniq hd]
    exact Nat.le_refl _
theorem BestTo.next {l : List Fl} {m b c : Nat} (h : BestTo l m b) (hm : 1 ≤ m) (hc : Least (l.drop m) c) : BestTo l (m + 1) (min b (gc (l.take m) + c)) where
  at_ := by
    by_cases e : b ≤ gc (l.take m) + c
    · obtain ⟨j, d, h1, h2, h3, h4⟩ := h.at_
      exact ⟨j, d, h1, by omega, h3, by omega⟩
    · exact ⟨m, c, hm, by omega, hc, by omega⟩
  le := fun j d h1 h2 hd => by
    by_cases e : j = m
    · subst e
      rw [hc.uniq hd]
      exact Nat.min_le_right _ _
    · have := h.le j d h1 (by omega) hd
      omega
theorem BestTo.least {l : List Fl} {b : Nat} (hl : l ≠ []) (h : BestTo l (l.length + 1) b) : Least l b := by
  obtain ⟨j, c, h1, h2, h3, h4⟩ := h.at_
  refine ⟨by rw [h4]; exact first_way h1 (by omega) h3.1, fun c' hc' => ?_⟩
  obtain ⟨m, d, m1, m2, hd, e⟩ := way_first hc' hl
  obtain ⟨c0, hc0⟩ := least_ex (l.drop m)
  have := h.le m c0 m1 (by omega) hc0
  have := hc0.2 d hd
  omega
def ownS (l : List Fl) (m s : Nat) : Nat := if (s = m - 1 ∧ (l.getD s (false, false)).2 = false) ∨ (s = 0 ∧ (l.getD s (false, false)).1 = false) then 1 else 2
theorem bad_take {l : List Fl} {m : Nat} (h2 : 2 ≤ m) (hm : m ≤ l.length) : bad (l.take m) = ((l.getD 0 (false, false)).1 && (l.getD (m - 1) (false, false)).2).toNat := by
  unfold bad
  have e1 : (l.take m).head? = some (l.getD 0 (false, false)) := by
    rw [List.head?_eq_getElem?, List.getElem?_take, if_pos (by omega), List.getElem?_eq_getElem (by omega)]
    simp [show 0 < l.length by omega]
  have e2 : (l.take m).getLast? = some (l.getD (m - 1) (false, false)) := by
    rw [List.getLast?_eq_getElem?, List.length_take, Nat.min_eq_left hm, List.getElem?_take, if_pos (by omega), List.getElem?_eq_getElem (by omega)]
    simp [show m - 1 < l.length by omega]
  rw [e1, e2]
  rfl
theorem own_le {l : List Fl} {m s : Nat} (h2 : 2 ≤ m) (hm : m ≤ l.length) (hs : s < m) : gc (l.take m) ≤ m - 1 + ownS l m s := by
  rw [gc_two (by rw [List.length_take]; omega), bad_take h2 hm, List.length_take, Nat.min_eq_left hm]
  unfold ownS
  split
  · rename_i c
    rcases c with ⟨e, z⟩ | ⟨e, z⟩
    · rw [e] at z
      rw [z]
      simp
      omega
    · rw [e] at z
      rw [z]
      simp
      omega
  · have := Bool.toNat_le ((l.getD 0 (false, false)).1 && (l.getD (m - 1) (false, false)).2)
    omega
theorem own_at {l : List Fl} {m : Nat} (h2 : 2 ≤ m) (hm : m ≤ l.length) : ∃ s, s < m ∧ gc (l.take m) = m - 1 + ownS l m s := by
  rw [gc_two (by rw [List.length_take]; omega), bad_take h2 hm, List.length_take, Nat.min_eq_left hm]
  cases e1 : (l.getD 0 (false, false)).1 with
  | false =>
    refine ⟨0, by omega, ?_⟩
    unfold ownS
    rw [if_pos (.inr ⟨rfl, e1⟩)]
    simp
    omega
  | true =>
    cases e2 : (l.getD (m - 1) (false, false)).2 with
    | false =>
      refine ⟨m - 1, by omega, ?_⟩
      unfold ownS
      rw [if_pos (.inl ⟨rfl, e2⟩)]
      simp
      omega
    | true =>
      refine ⟨0, by omega, ?_⟩
      unfold ownS
      rw [if_neg (by
        rintro (⟨z, _⟩ | ⟨_, z⟩)
        · omega
        · rw [e1] at z; cases z)]
      simp
      omega
/-! ### rows as data -/
theorem nat_inj {a b : Nat} (h : (a : Int) = (b : Int)) : a = b := by omega
end PS

namespace PS
/-! ### choices -/
def ch : Nat → Nat → Nat
  | _, 0 => 1
  | 0, _ + 1 => 0
  | n + 1, k + 1 => ch n k + ch n (k + 1)
theorem ch_zero (n : Nat) : ch n 0 = 1 := by cases n <;> rfl
theorem ch_succ (n k : Nat) : ch (n + 1) (k + 1) = ch n k + ch n (k + 1) := rfl
theorem ch_over : ∀ (n k : Nat), n < k → ch n k = 0
  | 0, k + 1, _ => rfl
  | n + 1, k + 1, h => by rw [ch_succ, ch_over n k (by omega), ch_over n (k + 1) (by omega)]
theorem ch_self : ∀ n : Nat, ch n n = 1
  | 0 => rfl
  | n + 1 => by rw [ch_succ, ch_self n, ch_over n (n + 1) (by omega)]
theorem ch_absorb : ∀ (n k : Nat), ch (n + 1) (k + 1) * (k + 1) = (n + 1) * ch n k
  | 0, 0 => rfl
  | 0, k + 1 => by
    rw [ch_over 1 (k + 2) (by omega), ch_over 0 (k + 1) (by omega)]
    simp
  | n + 1, 0 => by
    have := ch_absorb n 0
    rw [ch_zero] at this
    rw [ch_succ (n + 1) 0, ch_zero]
    simp only [Nat.zero_add, Nat.mul_one] at this ⊢
    omega
  | n + 1, k + 1 => by
    have h1 := ch_absorb n (k + 1)
    have h2 := ch_absorb n k
    rw [ch_succ (n + 1) (k + 1)]
    have e : (ch (n + 1) (k + 1) + ch (n + 1) (k + 2)) * (k + 1 + 1) = ch (n + 1) (k + 1) * (k + 1) + ch (n + 1) (k + 1) + ch (n + 1) (k + 2) * (k + 1 + 1) := by
      rw [Nat.add_mul, Nat.mul_add (ch (n + 1) (k + 1)) (k + 1) 1, Nat.mul_one]
    rw [e, h1, h2]
    have e2 : (n + 1 + 1) * ch (n + 1) (k + 1) = (n + 1) * (ch n k + ch n (k + 1)) + ch (n + 1) (k + 1) := by
      rw [Nat.add_mul (n + 1) 1, Nat.one_mul, ← ch_succ]
    rw [e2, Nat.mul_add]
    omega
theorem ch_step {t s : Nat} (h : s ≤ t) : ch t (s + 1) * (s + 1) = ch t s * (t - s) := by
  have h1 := ch_absorb t s
  rw [ch_succ, Nat.add_mul] at h1
  have e : (t + 1) * ch t s = ch t s * (s + 1) + ch t s * (t - s) := by
    rw [← Nat.mul_add, Nat.mul_comm]
    congr 1
    omega
  omega
theorem ch_le : ∀ (n k : Nat), ch n k ≤ 2 ^ n
  | n, 0 => by rw [ch_zero]; exact Nat.one_le_two_pow
  | 0, k + 1 => by simp [ch]
  | n + 1, k + 1 => by
    have := ch_le n k
    have := ch_le n (k + 1)
    rw [ch_succ, Nat.pow_succ]
    omega
/-! ### rising rows within boxes, counted place by place -/
def sumTo (W : Nat → Nat) : Nat → Nat
  | 0 => 0
  | m + 1 => sumTo W m + W m
theorem sumTo_congr {W V : Nat → Nat} : ∀ {m : Nat}, (∀ q, q < m → W q = V q) → sumTo W m = sumTo V m
  | 0, _ => rfl
  | m + 1, h => by rw [sumTo, sumTo, sumTo_congr (fun q hq => h q (by omega)), h m (by omega)]
theorem sumTo_add (W V : Nat → Nat) : ∀ m : Nat, sumTo (fun q => W q + V q) m = sumTo W m + sumTo V m
  | 0 => rfl
  | m + 1 => by
    rw [sumTo, sumTo, sumTo, sumTo_add W V m]
    omega
theorem sumTo_zero : ∀ m : Nat, sumTo (fun _ => 0) m = 0
  | 0 => rfl
  | m + 1 => by rw [sumTo, sumTo_zero m]
def stp (b : Int × Int) (W : Nat → Nat) : Nat → Nat := fun p => if b.1 ≤ (p : Int) ∧ (p : Int) ≤ b.2 then sumTo W (p + 1) else 0
def W0 : Nat → Nat := fun p => if p = 0 then 1 else 0
def dpW (bs : List (Int × Int)) : Nat → Nat := bs.foldl (fun W b => stp b W) W0
def cnt (pl : Nat) (bs : List (Int × Int)) : Nat := sumTo (dpW bs) (pl + 1)
theorem dpW_snoc (bs : List (Int × Int)) (b : Int × Int) : dpW (bs ++ [b]) = stp b (dpW bs) := by simp [dpW]
/-! full boxes -/
theorem hockey (k : Nat) : ∀ p : Nat, sumTo (fun q => ch (q + k) k) (p + 1) = ch (p + k + 1) (k + 1)
  | 0 => by
    show 0 + ch (0 + k) k = ch (0 + k + 1) (k + 1)
    rw [Nat.zero_add, Nat.zero_add, ch_self, ch_self]
  | p + 1 => by
    rw [sumTo, hockey k p, show p + 1 + k = p + k + 1 from by omega, ch_succ (p + k + 1) k, Nat.add_comm]
theorem full_W (pl : Nat) : ∀ k p : Nat, p ≤ pl → sumTo (dpW (List.replicate k (0, (pl : Int)))) (p + 1) = ch (p + k) k
  | 0, p, _ => by
    have : ∀ m, sumTo W0 (m + 1) = 1 := fun m => by
      induction m with
      | zero => rfl
      | succ m ih => rw [sumTo, ih]; rfl
    show sumTo W0 (p + 1) = ch (p + 0) 0
    rw [this, ch_zero]
  | k + 1, p, hp => by
    rw [List.replicate_succ', dpW_snoc, show p + (k + 1) = p + k + 1 from rfl, ← hockey]
    apply sumTo_congr
    intro q hq
    unfold stp
    rw [if_pos ⟨by simp, by simp only; omega⟩]
    exact full_W pl k q (by omega)
theorem cnt_full (pl n : Nat) : cnt pl (List.replicate n (0, (pl : Int))) = ch (pl + n) n := full_W pl n pl (Nat.le_refl _)
/-! one by one -/
def lastJ : List Int → Int
  | [] => 0
  | n :: ns => (n :: ns).getLast (List.cons_ne_nil n ns)
theorem lastJ_snoc (r : List Int) (z : Int) : lastJ (r ++ [z]) = z := by
  cases h : r ++ [z] with
  | nil => simp at h
  | cons a l =>
    show (a :: l).getLast _ = z
    have : (r ++ [z]).getLast (by simp) = z := by simp
    rw [← this]
    congr 1
    exact h.symm
def ext (pl : Nat) (r : List Int) : List (List Int) := (List.range ((pl : Int) + 1 - lastJ r).toNat).map fun q : Nat => r ++ [lastJ r + (q : Int)]
def allY (pl : Nat) : Nat → List (List Int)
  | 0 => [[]]
  | k + 1 => (allY pl k).flatMap (ext pl)
theorem allY_len {pl : Nat} : ∀ {k : Nat} {r : List Int}, r ∈ allY pl k → r.length = k
  | 0, r, h => by
    have : r = [] := by simpa [allY] using h
    rw [this]; rfl
  | k + 1, r, h => by
    obtain ⟨r', h1, h2⟩ := List.mem_flatMap.mp h
    obtain ⟨q, _, rfl⟩ := List.mem_map.mp h2
    rw [List.length_append, allY_len h1]
    rfl
theorem allY_last {pl : Nat} : ∀ {k : Nat} {r : List Int}, r ∈ allY pl k → 0 ≤ lastJ r ∧ lastJ r ≤ pl
  | 0, r, h => by
    have : r = [] := by simpa [allY] using h
    rw [this]
    exact ⟨Int.le_refl _, Int.natCast_nonneg _⟩
  | k + 1, r, h => by
    obtain ⟨r', h1, h2⟩ := List.mem_flatMap.mp h
    obtain ⟨q, hq, rfl⟩ := List.mem_map.mp h2
    have := allY_last h1
    rw [List.mem_range] at hq
    rw [lastJ_snoc]
    omega
def inB : List (Int × Int) → List Int → Bool
  | b :: bs, x :: xs => decide (b.1 ≤ x ∧ x ≤ b.2) && inB bs xs
  | _, _ => true
theorem inB_snoc : ∀ (bs : List (Int × Int)) (xs : List Int) (b : Int × Int) (x : Int), bs.length = xs.length → inB (bs ++ [b]) (xs ++ [x]) = (inB bs xs && decide (b.1 ≤ x ∧ x ≤ b.2))
  | [], [], b, x, _ => by simp [inB]
  | c :: bs, y :: xs, b, x, h => by
    show (decide (c.1 ≤ y ∧ y ≤ c.2) && inB (bs ++ [b]) (xs ++ [x])) = (decide (c.1 ≤ y ∧ y ≤ c.2) && inB bs xs && decide (b.1 ≤ x ∧ x ≤ b.2))
    rw [inB_snoc bs xs b x (by simpa using h), Bool.and_assoc]
  | [], _ :: _, _, _, h => by simp at h
  | _ :: _, [], _, _, h => by simp at h
theorem count_range (a p : Int) (C : Bool) : ∀ n : Nat, (List.range n).countP (fun q : Nat => decide (a + (q : Int) = p) && C) = if (a ≤ p ∧ p < a + (n : Int)) ∧ C = true then 1 else 0
  | 0 => by
    rw [if_neg (by omega)]
    rfl
  | n + 1 => by
    rw [List.range_succ, List.countP_append, count_range a p C n, List.countP_singleton]
    by_cases c : C = true
    · by_cases h1 : a ≤ p ∧ p < a + (n : Int)
      · rw [if_pos ⟨h1, c⟩, if_neg (show ¬ (decide (a + (n : Int) = p) && C) = true by simp [c]; omega), if_pos ⟨by omega, c⟩]
      · rw [if_neg (fun z => h1 z.1)]
        by_cases h2 : a + (n : Int) = p
        · rw [if_pos (by simp [c, h2]), if_pos ⟨by omega, c⟩]
        · rw [if_neg (by simp [h2]), if_neg (by omega)]
    · rw [if_neg (fun z => c z.2), if_neg (show ¬ (decide (a + (n : Int) = p) && C) = true by simp [c]), if_neg (fun z => c z.2)]
theorem count_up (A : List Int → Bool) (p : Nat) : ∀ l : List (List Int), (∀ r ∈ l, 0 ≤ lastJ r) → (l.map fun r => if A r = true ∧ lastJ r ≤ (p : Int) then 1 else 0).sum = sumTo (fun q : Nat => l.countP fun r => A r && decide (lastJ r = (q : Int))) (p + 1)
  | [], _ => by
    show 0 = _
    rw [show (fun q : Nat => ([] : List (List Int)).countP fun r => A r && decide (lastJ r = (q : Int))) = fun _ => 0 from rfl, sumTo_zero]
  | r :: l, h => by
    rw [List.map_cons, List.sum_cons, count_up A p l (fun x hx => h x (by simp [hx]))]
    have e : (fun q : Nat => (r :: l).countP fun r => A r && decide (lastJ r = (q : Int))) = fun q : Nat => (if A r = true ∧ lastJ r = (q : Int) then 1 else 0) + l.countP fun r => A r && decide (lastJ r = (q : Int)) := by
      funext q
      rw [List.countP_cons, Nat.add_comm]
      congr 1
      by_cases c1 : A r = true
      · by_cases c2 : lastJ r = (q : Int)
        · rw [if_pos (by simp [c1, c2]), if_pos ⟨c1, c2⟩]
        · rw [if_neg (by simp [c2]), if_neg (fun z => c2 z.2)]
      · rw [if_neg (by simp [c1]), if_neg (fun z => c1 z.1)]
    rw [e, sumTo_add]
    congr 1
    have h0 := h r (by simp)
    have one : ∀ m : Nat, sumTo (fun q : Nat => if A r = true ∧ lastJ r = (q : Int) then 1 else 0) m = if A r = true ∧ lastJ r < (m : Int) then 1 else 0 := fun m => by
      induction m with
      | zero =>
        rw [if_neg (by omega)]
        rfl
      | succ m ih =>
        rw [sumTo, ih]
        by_cases c1 : A r = true
        · by_cases c2 : lastJ r < (m : Int)
          · rw [if_pos ⟨c1, c2⟩, if_neg (by omega), if_pos ⟨c1, by omega⟩]
          · by_cases c3 : lastJ r = (m : Int)
            · rw [if_neg (fun z => c2 z.2), if_pos ⟨c1, c3⟩, if_pos ⟨c1, by omega⟩]
            · rw [if_neg (fun z => c2 z.2), if_neg (fun z => c3 z.2), if_neg (by omega)]
        · rw [if_neg (fun z => c1 z.1), if_neg (fun z => c1 z.1), if_neg (fun z => c1 z.1)]
    rw [one]
    by_cases c1 : A r = true ∧ lastJ r ≤ (p : Int)
    · rw [if_pos c1, if_pos ⟨c1.1, by omega⟩]
    · rw [if_neg c1, if_neg (fun z => c1 ⟨z.1, by have := z.2; omega⟩)]
theorem count_dp (pl : Nat) : ∀ (k : Nat) (bs : List (Int × Int)), bs.length = k → ∀ p : Nat, p ≤ pl → (allY pl k).countP (fun r => inB bs r && decide (lastJ r = (p : Int))) = dpW bs p
  | 0, bs, hb, p, hp => by
    have : bs = [] := List.length_eq_zero_iff.mp hb
    subst this
    show ([[]] : List (List Int)).countP (fun r => inB [] r && decide (lastJ r = (p : Int))) = if p = 0 then 1 else 0
    rw [List.countP_singleton]
    by_cases c : p = 0
    · subst c; rfl
    · rw [if_neg c, if_neg]
      show ¬ (true && decide ((0 : Int) = (p : Int))) = true
      simp
      omega
  | k + 1, bs, hb, p, hp => by
    obtain ⟨cs, b, rfl⟩ : ∃ cs b, bs = cs ++ [b] := by
      cases List.eq_nil_or_concat bs with
      | inl h => rw [h] at hb; simp at hb
      | inr h =>
        obtain ⟨cs, b, h⟩ := h
        exact ⟨cs, b, by rw [h]; simp⟩
    have hc : cs.length = k := by simpa using hb
    rw [dpW_snoc]
    show ((allY pl k).flatMap (ext pl)).countP _ = _
    rw [List.countP_flatMap]
    have e : (allY pl k).map (List.countP (fun r => inB (cs ++ [b]) r && decide (lastJ r = (p : Int))) ∘ ext pl) = (allY pl k).map fun r => if (inB cs r && decide (b.1 ≤ (p : Int) ∧ (p : Int) ≤ b.2)) = true ∧ lastJ r ≤ (p : Int) then 1 else 0 := by
      apply List.map_congr_left
      intro r hr
      have hl := allY_last hr
      have hn := allY_len hr
      show (ext pl r).countP _ = _
      unfold ext
      rw [List.countP_map]
      have e1 : ((fun r => inB (cs ++ [b]) r && decide (lastJ r = (p : Int))) ∘ fun q : Nat => r ++ [lastJ r + (q : Int)]) = fun q : Nat => decide (lastJ r + (q : Int) = (p : Int)) && (inB cs r && decide (b.1 ≤ (p : Int) ∧ (p : Int) ≤ b.2)) := by
        funext q
        show (inB (cs ++ [b]) (r ++ [lastJ r + (q : Int)]) && decide (lastJ (r ++ [lastJ r + (q : Int)]) = (p : Int))) = _
        rw [inB_snoc _ _ _ _ (by omega), lastJ_snoc]
        by_cases c : lastJ r + (q : Int) = (p : Int)
        · rw [c, decide_eq_true (show (p : Int) = (p : Int) from rfl)]
          simp
        · rw [decide_eq_false c]
          simp
      rw [e1, count_range]
      by_cases c1 : (inB cs r && decide (b.1 ≤ (p : Int) ∧ (p : Int) ≤ b.2)) = true
      · by_cases c2 : lastJ r ≤ (p : Int)
        · rw [if_pos ⟨⟨c2, by omega⟩, c1⟩, if_pos ⟨c1, c2⟩]
        · rw [if_neg (fun z => c2 z.1.1), if_neg (fun z => c2 z.2)]
      · rw [if_neg (fun z => c1 z.2), if_neg (fun z => c1 z.1)]
    rw [e]
    unfold stp
    by_cases c : b.1 ≤ (p : Int) ∧ (p : Int) ≤ b.2
    · rw [if_pos c]
      have e2 : (fun r : List Int => if (inB cs r && decide (b.1 ≤ (p : Int) ∧ (p : Int) ≤ b.2)) = true ∧ lastJ r ≤ (p : Int) then 1 else 0) = fun r => if inB cs r = true ∧ lastJ r ≤ (p : Int) then 1 else 0 := by
        funext r
        rw [decide_eq_true c, Bool.and_true]
      rw [e2, count_up _ _ _ (fun r hr => (allY_last hr).1)]
      exact sumTo_congr fun q hq => count_dp pl k cs hc q (by omega)
    · rw [if_neg c]
      have e2 : (fun r : List Int => if (inB cs r && decide (b.1 ≤ (p : Int) ∧ (p : Int) ≤ b.2)) = true ∧ lastJ r ≤ (p : Int) then 1 else 0) = fun r => 0 := by
        funext r
        rw [decide_eq_false c, Bool.and_false, if_neg (by simp)]
      rw [e2]
      generalize allY pl k = l
      induction l with
      | nil => rfl
      | cons r l ih => rw [List.map_cons, List.sum_cons, ih]
theorem count_all (pl : Nat) (bs : List (Int × Int)) : (allY pl bs.length).countP (inB bs) = cnt pl bs := by
  unfold cnt
  have h := count_up (inB bs) pl (allY pl bs.length) (fun r hr => (allY_last hr).1)
  rw [sumTo_congr (V := dpW bs) (fun q hq => count_dp pl bs.length bs rfl q (by omega))] at h
  rw [← h]
  have : ∀ l : List (List Int), (∀ r ∈ l, lastJ r ≤ (pl : Int)) → l.countP (inB bs) = (l.map fun r => if inB bs r = true ∧ lastJ r ≤ (pl : Int) then 1 else 0).sum := fun l => by
    induction l with
    | nil => intro _; rfl
    | cons r l ih =>
      intro hl
      rw [List.countP_cons, List.map_cons, List.sum_cons, ih (fun x hx => hl x (by simp [hx])), Nat.add_comm]
      congr 1
      by_cases c : inB bs r = true
      · rw [if_pos c, if_pos ⟨c, hl r (by simp)⟩]
      · rw [if_neg c, if_neg (fun z => c z.1)]
  exact this _ fun r hr => (allY_last hr).2
end PS

namespace PS
open PySem PySem.Spec PyProof.Rows L2
/-! ### where a block comes from -/
def srcF (pl lo hi s : Int) : Int × Int := (if s = lo then 0 else s, if s = hi then pl else s)
def boxF (n : Nat) (pl : Int) (lo hi s : Nat → Int) : List (Int × Int) := (List.range n).map fun j => srcF pl (lo j) (hi j) (s j)
theorem boxF_len (n : Nat) (pl : Int) (lo hi s : Nat → Int) : (boxF n pl lo hi s).length = n := by simp [boxF]
theorem boxF_succ (n : Nat) (pl : Int) (lo hi s : Nat → Int) : boxF (n + 1) pl lo hi s = boxF n pl lo hi s ++ [srcF pl (lo n) (hi n) (s n)] := by simp [boxF, List.range_succ]
def leadN (n : Nat) (pl : Int) (lo hi s : Nat → Int) : Nat := if ∀ j, j < n → lo j ≤ s j ∧ s j ≤ hi j then cnt pl.toNat (boxF n pl lo hi s) else 0
theorem inB_iff : ∀ (n : Nat) (f : Nat → Int × Int) (r : List Int), r.length = n → (inB ((List.range n).map f) r = true ↔ ∀ j, j < n → (f j).1 ≤ r.getD j 0 ∧ r.getD j 0 ≤ (f j).2)
  | 0, f, r, h => by simp [inB]
  | n + 1, f, r, h => by
    obtain ⟨q, z, rfl⟩ : ∃ q z, r = q ++ [z] := by
      cases List.eq_nil_or_concat r with
      | inl h' => rw [h'] at h; simp at h
      | inr h' =>
        obtain ⟨q, z, h'⟩ := h'
        exact ⟨q, z, by rw [h']; simp⟩
    have hq : q.length = n := by simpa using h
    rw [List.range_succ, List.map_append, List.map_singleton, inB_snoc _ _ _ _ (by simp [hq]), Bool.and_eq_true, inB_iff n f q hq]
    have e1 : ∀ j, j < n → (q ++ [z]).getD j 0 = q.getD j 0 := fun j hj => by
      rw [List.getD_eq_getElem?_getD, List.getD_eq_getElem?_getD, List.getElem?_append_left (by omega)]
    have e2 : (q ++ [z]).getD n 0 = z := by
      rw [List.getD_eq_getElem?_getD, List.getElem?_append_right (by omega), hq]
      simp
    constructor
    · rintro ⟨h1, h2⟩ j hj
      by_cases c : j < n
      · rw [e1 j c]; exact h1 j c
      · have : j = n := by omega
        subst this
        rw [e2]
        exact of_decide_eq_true h2
    · intro h1
      refine ⟨fun j hj => ?_, ?_⟩
      · have := h1 j (by omega)
        rw [e1 j hj] at this
        exact this
      · have := h1 n (by omega)
        rw [e2] at this
        exact decide_eq_true this
theorem allY_rise {pl : Nat} : ∀ {k : Nat} {r : List Int}, r ∈ allY pl k → r.Pairwise (· ≤ ·) ∧ (∀ z ∈ r, 0 ≤ z ∧ z ≤ (pl : Int)) ∧ ∀ z ∈ r, z ≤ lastJ r
  | 0, r, h => by
    have : r = [] := by simpa [allY] using h
    rw [this]
    simp
  | k + 1, r, h => by
    obtain ⟨r', h1, h2⟩ := List.mem_flatMap.mp h
    obtain ⟨q, hq, rfl⟩ := List.mem_map.mp h2
    rw [List.mem_range] at hq
    have hl := allY_last h1
    obtain ⟨i1, i2, i3⟩ := allY_rise h1
    refine ⟨?_, fun z hz => ?_, fun z hz => ?_⟩
    · rw [List.pairwise_append]
      exact ⟨i1, by simp, fun x hx y hy => by
        have : y = lastJ r' + (q : Int) := by simpa using hy
        have := i3 x hx
        omega⟩
    · rcases List.mem_append.mp hz with c | c
      · exact i2 z c
      · have : z = lastJ r' + (q : Int) := by simpa using c
        omega
    · rw [lastJ_snoc]
      rcases List.mem_append.mp hz with c | c
      · have := i3 z c
        omega
      · have : z = lastJ r' + (q : Int) := by simpa using c
        omega
theorem getD_bd {pl : Nat} {r : List Int} {n j : Nat} (hl : r.length = n) (h : ∀ z ∈ r, 0 ≤ z ∧ z ≤ (pl : Int)) (hj : j < n) : 0 ≤ r.getD j 0 ∧ r.getD j 0 ≤ (pl : Int) := by
  have hj' : j < r.length := by omega
  have : r.getD j 0 = r[j] := by simp [hj']
  rw [this]
  exact h _ (List.getElem_mem hj')
/-- as many stands as told come there -/
theorem lead_count {n : Nat} {pl : Nat} {lo hi s : Nat → Int} (dok : DoOk n pl lo hi) : leadN n pl lo hi s = (allY pl n).countP (fun r => decide (∀ j, j < n → ledF lo hi (fun j => r.getD j 0) j = s j)) := by
  unfold leadN
  by_cases c : ∀ j, j < n → lo j ≤ s j ∧ s j ≤ hi j
  · rw [if_pos c, Int.toNat_natCast, ← count_all, boxF_len]
    apply List.countP_congr
    intro r hr
    have hn := allY_len hr
    have hb := (allY_rise hr).2.1
    rw [decide_eq_true_eq, boxF, inB_iff n _ r hn]
    constructor
    · intro h j hj
      have h1 := h j hj
      have h2 := c j hj
      have h3 := dok.le j hj
      have h4 := getD_bd hn hb hj
      show clamp (lo j) (hi j) (r.getD j 0) = s j
      unfold clamp
      unfold srcF at h1
      simp only at h1
      split at h1 <;> split at h1 <;> omega
    · intro h j hj
      have h1 := h j hj
      have h2 := c j hj
      have h3 := dok.le j hj
      have h4 := getD_bd hn hb hj
      have h1 : clamp (lo j) (hi j) (r.getD j 0) = s j := h1
      unfold clamp at h1
      unfold srcF
      simp only
      split <;> split <;> omega
  · rw [if_neg c]
    symm
    rw [List.countP_eq_zero]
    intro r hr h
    apply c
    intro j hj
    have h1 := of_decide_eq_true h j hj
    have h3 := dok.le j hj
    have h1 : clamp (lo j) (hi j) (r.getD j 0) = s j := h1
    unfold clamp at h1
    omega
end PS

namespace PS
/-- the least cost, told by a def -/
def leastG : Nat → List Fl → Nat
  | 0, _ => 0
  | _ + 1, [] => 0
  | n + 1, b :: l => (List.range l.length).foldl (fun x i => min x (gc ((b :: l).take (i + 2)) + leastG n ((b :: l).drop (i + 2)))) (gc [b] + leastG n l)
theorem least_nil : Least [] 0 := ⟨.nil, fun _ _ => Nat.zero_le _⟩
theorem leastG_ok : ∀ (n : Nat) (l : List Fl), l.length ≤ n → Least l (leastG n l)
  | 0, [], _ => least_nil
  | 0, _ :: _, h => by simp at h
  | n + 1, [], _ => least_nil
  | n + 1, b :: l, h => by
    have hl : l.length ≤ n := by simpa using h
    have h1 : BestTo (b :: l) 2 (gc [b] + leastG n l) := BestTo.first (l := b :: l) (leastG_ok n l hl)
    have step : ∀ m, m ≤ l.length → BestTo (b :: l) (m + 2) ((List.range m).foldl (fun x i => min x (gc ((b :: l).take (i + 2)) + leastG n ((b :: l).drop (i + 2)))) (gc [b] + leastG n l)) := by
      intro m
      induction m with
      | zero => intro _; exact h1
      | succ m ih =>
        intro hm
        rw [List.range_succ, List.foldl_append]
        exact (ih (by omega)).next (by omega) (leastG_ok n _ (by simp; omega))
    exact BestTo.least (by simp) (step l.length (Nat.le_refl _))
theorem best_is {n : Nat} {pl : Int} {y w : Nat → Int} {r : List Push} (up : Up n y) (b : Best n pl y w r) : r.length = leastG n (lawB y w n) := by
  obtain ⟨rs, h1, h2⟩ := b.least
  rw [← lawB_runs up rs.length rs n rfl (Nat.le_refl _) h1] at h2
  exact h2.uniq (leastG_ok n _ (lawB_len n).1)
/-- places by a list -/
def gF (zs : List Int) : Nat → Int := fun j => zs.getD j 0
theorem gF_list (zs : List Int) : (List.range zs.length).map (gF zs) = zs := by
  apply List.ext_getElem?
  intro i
  by_cases h : i < zs.length
  · simp [gF, h]
  · rw [List.getElem?_eq_none (by simp; omega), List.getElem?_eq_none (by omega)]
def riseB (n : Nat) (pl : Int) (y : Nat → Int) : Bool := (List.range n).all fun j => decide (0 ≤ y j) && decide (y j ≤ pl) && (decide (n ≤ j + 1) || decide (y j ≤ y (j + 1)))
theorem rise_by {n : Nat} {pl : Int} {y : Nat → Int} (h : riseB n pl y = true) : Rise n pl y := by
  have h1 : ∀ j, j < n → 0 ≤ y j ∧ y j ≤ pl ∧ (n ≤ j + 1 ∨ y j ≤ y (j + 1)) := fun j hj => by
    have := List.all_eq_true.mp h j (List.mem_range.mpr hj)
    simp only [Bool.and_eq_true, Bool.or_eq_true, decide_eq_true_eq] at this
    exact ⟨this.1.1, this.1.2, this.2⟩
  exact ⟨fun j hj => (h1 j hj).1, fun j hj => (h1 j hj).2.1, fun j hj => (h1 j (by omega)).2.2.resolve_left (by omega)⟩
abbrev zA : List Int := [0, 3, 3, 6, 6, 9]
abbrev zB : List Int := [2, 2, 5, 5, 8, 8]
abbrev zC : List Int := [2, 2, 3, 3, 8, 8]
abbrev zD : List Int := [0, 3, 5, 5, 6, 9]
abbrev zK (c : Int) : List Int := [c, c, c, c, c, c]
theorem fw1 : leastG 6 (lawB (gF zA) (gF zB) 6) = 4 := by decide
theorem fw2 : leastG 6 (lawB (gF zB) (gF zA) 6) = 4 := by decide
theorem fw3 : leastG 6 (lawB (gF zA) (gF (zK 1)) 6) = 2 := by decide
theorem fw4 : leastG 6 (lawB (gF zA) (gF zA) 6) = 0 := by decide
theorem fw5 : leastG 6 (lawB (gF (zK 0)) (gF zB) 6) = 3 := by decide
theorem fw6 : leastG 6 (lawB (gF (zK 9)) (gF zB) 6) = 3 := by decide
theorem fw7 : leastG 6 (lawB (gF zA) (gF zC) 6) = 4 := by decide
theorem fw8 : leastG 6 (lawB (gF zD) (gF zB) 6) = 4 := by decide
theorem fw9 : leastG 1 (lawB (gF [4]) (gF [2]) 1) = 1 := by decide
theorem fw10 : leastG 1 (lawB (doP (gF [4]) (false, 1, 2)) (gF [2]) 1) = 0 := by decide
theorem ri_z : Rise 6 9 (gF zA) ∧ Rise 6 9 (gF zB) ∧ Rise 6 9 (gF zC) ∧ Rise 6 9 (gF zD) ∧ Rise 6 9 (gF (zK 0)) ∧ Rise 6 9 (gF (zK 1)) ∧ Rise 6 9 (gF (zK 9)) :=
  ⟨rise_by (by decide), rise_by (by decide), rise_by (by decide), rise_by (by decide), rise_by (by decide), rise_by (by decide), rise_by (by decide)⟩
theorem stL1 (b : Int) (y : Nat → Int) : stL [b] y = [y 0] := by
  show [y 0 + pre [b] 0] = _
  rw [pre_zero, Int.add_zero]
theorem pre1 (b : Int) : pre [b] 1 = b := by
  rw [pre_succ (by simp), pre_zero]
  simp
theorem ld0 : leadN 1 4 (gF [1]) (gF [3]) (gF [0]) = 0 := by decide
theorem ld1 : leadN 1 4 (gF [1]) (gF [3]) (gF [1]) = 2 := by decide
theorem ld2 : leadN 1 4 (gF [1]) (gF [3]) (gF [2]) = 1 := by decide
theorem ld3 : leadN 1 4 (gF [1]) (gF [3]) (gF [3]) = 2 := by decide
theorem ld4 : leadN 1 4 (gF [1]) (gF [3]) (gF [4]) = 0 := by decide
theorem lo_a : loR [(true, 0, 3), (false, 1, 1)] 0 = 1 := by decide
theorem hi_a : hiR 4 [(true, 0, 3), (false, 1, 1)] 0 = 1 := by decide
theorem lo_b : loR [(false, 1, 3), (true, 0, 1)] 0 = 1 := by decide
theorem hi_b : hiR 4 [(false, 1, 3), (true, 0, 1)] 0 = 3 := by decide
theorem lo_c : loR [(true, 0, 2)] 0 = loR [(true, 0, 1), (true, 0, 2)] 0 := by decide
theorem hi_c : hiR 4 [(true, 0, 2)] 0 = hiR 4 [(true, 0, 1), (true, 0, 2)] 0 := by decide
theorem do_n : doP (gF [4]) (false, 1, 2) 0 = 2 := by decide
theorem do_l : doP (fun _ => 0) (false, 1, 2) 0 = 0 := by decide
theorem do_h : doP (fun _ => 4) (false, 1, 2) 0 = 2 := by decide
theorem chs : (ch (4 + 1) 1 : Int) * (ch (4 + 1) 1 : Int) - (ch (4 + 1) 0 : Int) * (ch (4 + 1) 2 : Int) = 15 := by decide
end PS

namespace PS
open PySem PySem.Spec PyProof.Rows L2
/-! ### data does not hold the cell of an instance -/
mutual
theorem dp_offI {K : PySem.W.Frag} {H : Hp} {k C dx : Addr} {fs : List (Str × V)} (hk : H k = some (.ins C dx fs)) : ∀ (d : PyData) (v : V), Dp K H v d → Dp K (Off k H) v d
  | .none, _, h => by cases h; exact .non
  | .bool b, _, h => by cases h; exact .bl b
  | .int i, _, h => by cases h; exact .int i
  | .str x, _, h => by cases h; exact .str x
  | .list ds, _, h => by
    cases h with
    | lst s al =>
      refine .lst ?_ (dpAll_offI hk ds _ al)
      rcases s with (s | ⟨o, s⟩) | s
      · exact .inl (.inl (off_at (ne_of s hk (by intro z; cases z)) s))
      · exact .inl (.inr ⟨o, off_at (ne_of s hk (by intro z; cases z)) s⟩)
      · exact .inr s
  | .tuple ds, _, h => by
    cases h with
    | tup s al =>
      refine .tup ?_ (dpAll_offI hk ds _ al)
      rcases s with (s | ⟨o, s⟩) | s
      · exact .inl (.inl (off_at (ne_of s hk (by intro z; cases z)) s))
      · exact .inl (.inr ⟨o, off_at (ne_of s hk (by intro z; cases z)) s⟩)
      · exact .inr s
  | .dict _, _, h => by cases h
theorem dpAll_offI {K : PySem.W.Frag} {H : Hp} {k C dx : Addr} {fs : List (Str × V)} (hk : H k = some (.ins C dx fs)) : ∀ (ds : List PyData) (vs : List V), DpAll K H vs ds → DpAll K (Off k H) vs ds
  | [], _, h => by cases h; exact .nil
  | d :: ds, _, h => by
    cases h with
    | cons h1 h2 => exact .cons (dp_offI hk d _ h1) (dpAll_offI hk ds _ h2)
end
theorem offI_upd (k : Addr) (H : Hp) (o : HO) : Same (Off k H) (upd H k o) := fun b x h => by
  unfold Off at h
  split at h
  · cases h
  · rename_i n
    rw [upd_ne n]
    exact h
theorem offI_upd2 (k : Addr) (H : Hp) (o : HO) : Same (Off k H) (Off k (upd H k o)) := off_of fun b x n h => by
  rw [upd_ne n]
  exact h
/-! ### a bench -/
abbrev benL (v1 v2 v3 v4 v5 v6 : V) : List (Str × V) := [("shelf", v1), ("now", v2), ("least", v3), ("greatest", v4), ("many", v5), ("wish", v6)]
theorem ben_put (v1 v2 v3 v4 v5 v6 : V) : putF "wish" v6 (putF "many" v5 (putF "greatest" v4 (putF "least" v3 (putF "now" v2 (putF "shelf" v1 []))))) = benL v1 v2 v3 v4 v5 v6 := rfl
theorem ben_now (v1 v2 v3 v4 v5 v6 v : V) : putF "now" v (benL v1 v2 v3 v4 v5 v6) = benL v1 v v3 v4 v5 v6 := rfl
theorem ben_least (v1 v2 v3 v4 v5 v6 v : V) : putF "least" v (benL v1 v2 v3 v4 v5 v6) = benL v1 v2 v v4 v5 v6 := rfl
theorem ben_greatest (v1 v2 v3 v4 v5 v6 v : V) : putF "greatest" v (benL v1 v2 v3 v4 v5 v6) = benL v1 v2 v3 v v5 v6 := rfl
theorem ben_many (v1 v2 v3 v4 v5 v6 v : V) : putF "many" v (benL v1 v2 v3 v4 v5 v6) = benL v1 v2 v3 v4 v v6 := rfl
theorem ben_wish (v1 v2 v3 v4 v5 v6 v : V) : putF "wish" v (benL v1 v2 v3 v4 v5 v6) = benL v1 v2 v3 v4 v5 v := rfl
end PS

namespace PS
open PySem PySem.Spec PyProof.Rows L2
def topS (i : Nat) : Stmt := PySem.Challenge.pw_pushshelf_k13_whole_small_shelves_by_wor.main.body.getD i (.Pass ⟨0, 0, 0, 0⟩)
abbrev s_is_whole : Stmt := topS 13
theorem sc_is_whole : FnScope ["thing"] ["thing"] (defScope s_is_whole) := ⟨rfl, rfl, rfl, by decide +kernel, rfl, by decide +kernel, by decide +kernel⟩
abbrev s_is_within : Stmt := topS 14
theorem sc_is_within : FnScope ["thing", "low", "high"] ["thing", "low", "high"] (defScope s_is_within) := ⟨rfl, rfl, rfl, by decide +kernel, rfl, by decide +kernel, by decide +kernel⟩
abbrev s_is_tuple_of : Stmt := topS 15
theorem sc_is_tuple_of : FnScope ["thing", "many"] ["thing", "many"] (defScope s_is_tuple_of) := ⟨rfl, rfl, rfl, by decide +kernel, rfl, by decide +kernel, by decide +kernel⟩
abbrev s_are_blocks : Stmt := topS 16
theorem sc_are_blocks : FnScope ["thing", "length"] ["thing"] (defScope s_are_blocks) := ⟨rfl, rfl, rfl, by decide +kernel, rfl, by decide +kernel, by decide +kernel⟩
abbrev s_is_shelf : Stmt := topS 17
theorem sc_is_shelf : FnScope ["thing", "room", "blocks", "total"] ["thing"] (defScope s_is_shelf) := ⟨rfl, rfl, rfl, by decide +kernel, rfl, by decide +kernel, by decide +kernel⟩
abbrev s_need_shelf : Stmt := topS 18
theorem sc_need_shelf : FnScope ["thing"] ["thing"] (defScope s_need_shelf) := ⟨rfl, rfl, rfl, by decide +kernel, rfl, by decide +kernel, by decide +kernel⟩
abbrev s_play_of : Stmt := topS 19
theorem sc_play_of : FnScope ["shelf", "room", "blocks"] ["shelf"] (defScope s_play_of) := ⟨rfl, rfl, rfl, by decide +kernel, rfl, by decide +kernel, by decide +kernel⟩
abbrev s_gap_length : Stmt := topS 20
theorem sc_gap_length : FnScope ["shelf", "gap"] ["shelf", "gap"] (defScope s_gap_length) := ⟨rfl, rfl, rfl, by decide +kernel, rfl, by decide +kernel, by decide +kernel⟩
abbrev s_places_of : Stmt := topS 21
theorem sc_places_of : FnScope ["shelf", "stand", "at", "left"] ["shelf", "stand"] (defScope s_places_of) := ⟨rfl, rfl, rfl, by decide +kernel, rfl, by decide +kernel, by decide +kernel⟩
abbrev s_packed : Stmt := topS 22
theorem sc_packed : FnScope ["shelf", "start", "at"] ["shelf", "start"] (defScope s_packed) := ⟨rfl, rfl, rfl, by decide +kernel, rfl, by decide +kernel, by decide +kernel⟩
abbrev s_leftmost : Stmt := topS 23
theorem sc_leftmost : FnScope ["shelf"] ["shelf"] (defScope s_leftmost) := ⟨rfl, rfl, rfl, by decide +kernel, rfl, by decide +kernel, by decide +kernel⟩
abbrev s_rightmost : Stmt := topS 24
theorem sc_rightmost : FnScope ["shelf"] ["shelf"] (defScope s_rightmost) := ⟨rfl, rfl, rfl, by decide +kernel, rfl, by decide +kernel, by decide +kernel⟩
abbrev s_is_stand : Stmt := topS 25
theorem sc_is_stand : FnScope ["shelf", "thing", "room", "blocks", "edge", "left", "length"] ["shelf", "thing"] (defScope s_is_stand) := ⟨rfl, rfl, rfl, by decide +kernel, rfl, by decide +kernel, by decide +kernel⟩
abbrev s_need_stand : Stmt := topS 26
theorem sc_need_stand : FnScope ["shelf", "thing"] ["shelf", "thing"] (defScope s_need_stand) := ⟨rfl, rfl, rfl, by decide +kernel, rfl, by decide +kernel, by decide +kernel⟩
abbrev s_is_gap : Stmt := topS 27
theorem sc_is_gap : FnScope ["shelf", "side", "thing", "many"] ["shelf", "side", "thing"] (defScope s_is_gap) := ⟨rfl, rfl, rfl, by decide +kernel, rfl, by decide +kernel, by decide +kernel⟩
abbrev s_is_push : Stmt := topS 28
theorem sc_is_push : FnScope ["shelf", "thing", "side", "gap", "place", "length"] ["shelf", "thing"] (defScope s_is_push) := ⟨rfl, rfl, rfl, by decide +kernel, rfl, by decide +kernel, by decide +kernel⟩
abbrev s_is_row : Stmt := topS 29
theorem sc_is_row : FnScope ["shelf", "thing", "push"] ["shelf", "thing"] (defScope s_is_row) := ⟨rfl, rfl, rfl, by decide +kernel, rfl, by decide +kernel, by decide +kernel⟩
abbrev s_need_row : Stmt := topS 30
theorem sc_need_row : FnScope ["shelf", "thing"] ["shelf", "thing"] (defScope s_need_row) := ⟨rfl, rfl, rfl, by decide +kernel, rfl, by decide +kernel, by decide +kernel⟩
abbrev s_pushed_right : Stmt := topS 31
theorem sc_pushed_right : FnScope ["blocks", "stand", "gap", "place", "lefts", "edge", "at"] ["blocks", "stand", "gap", "place"] (defScope s_pushed_right) := ⟨rfl, rfl, rfl, by decide +kernel, rfl, by decide +kernel, by decide +kernel⟩
abbrev s_pushed_left : Stmt := topS 32
theorem sc_pushed_left : FnScope ["blocks", "stand", "gap", "place", "lefts", "edge", "at"] ["blocks", "stand", "gap", "place"] (defScope s_pushed_left) := ⟨rfl, rfl, rfl, by decide +kernel, rfl, by decide +kernel, by decide +kernel⟩
abbrev s_pushed : Stmt := topS 33
theorem sc_pushed : FnScope ["shelf", "stand", "push", "side", "gap", "place"] ["shelf", "stand", "push"] (defScope s_pushed) := ⟨rfl, rfl, rfl, by decide +kernel, rfl, by decide +kernel, by decide +kernel⟩
abbrev s_done : Stmt := topS 34
theorem sc_done : FnScope ["shelf", "stand", "row", "push"] ["shelf", "stand", "row"] (defScope s_done) := ⟨rfl, rfl, rfl, by decide +kernel, rfl, by decide +kernel, by decide +kernel⟩
abbrev s_Band_init : Stmt := inClass (topS 36) 0
theorem sc_Band_init : FnScope ["self", "first", "beyond", "place", "up", "down"] ["self", "first", "beyond", "place", "up", "down"] (defScope s_Band_init) := ⟨rfl, rfl, rfl, by decide +kernel, rfl, by decide +kernel, by decide +kernel⟩
abbrev s_band_from : Stmt := topS 37
theorem sc_band_from : FnScope ["now", "wished", "first", "place", "beyond"] ["now", "wished", "first"] (defScope s_band_from) := ⟨rfl, rfl, rfl, by decide +kernel, rfl, by decide +kernel, by decide +kernel⟩
abbrev s_bands_of : Stmt := topS 38
theorem sc_bands_of : FnScope ["shelf", "stand", "wish", "now", "wished", "bands", "first", "band"] ["shelf", "stand", "wish"] (defScope s_bands_of) := ⟨rfl, rfl, rfl, by decide +kernel, rfl, by decide +kernel, by decide +kernel⟩
abbrev s_raised : Stmt := topS 39
theorem sc_raised : FnScope ["shelf", "gap", "place"] ["shelf", "gap", "place"] (defScope s_raised) := ⟨rfl, rfl, rfl, by decide +kernel, rfl, by decide +kernel, by decide +kernel⟩
abbrev s_lowered : Stmt := topS 40
theorem sc_lowered : FnScope ["shelf", "gap", "place"] ["shelf", "gap", "place"] (defScope s_lowered) := ⟨rfl, rfl, rfl, by decide +kernel, rfl, by decide +kernel, by decide +kernel⟩
abbrev s_row_alone : Stmt := topS 41
theorem sc_row_alone : FnScope ["shelf", "band", "row"] ["shelf", "band"] (defScope s_row_alone) := ⟨rfl, rfl, rfl, by decide +kernel, rfl, by decide +kernel, by decide +kernel⟩
abbrev s_row_served_by_last : Stmt := topS 42
theorem sc_row_served_by_last : FnScope ["shelf", "bands", "row", "band"] ["shelf", "bands"] (defScope s_row_served_by_last) := ⟨rfl, rfl, rfl, by decide +kernel, rfl, by decide +kernel, by decide +kernel⟩
abbrev s_row_served_by_first : Stmt := topS 43
theorem sc_row_served_by_first : FnScope ["shelf", "bands", "server", "row", "band"] ["shelf", "bands"] (defScope s_row_served_by_first) := ⟨rfl, rfl, rfl, by decide +kernel, rfl, by decide +kernel, by decide +kernel⟩
abbrev s_row_together : Stmt := topS 44
theorem sc_row_together : FnScope ["shelf", "bands"] ["shelf", "bands"] (defScope s_row_together) := ⟨rfl, rfl, rfl, by decide +kernel, rfl, by decide +kernel, by decide +kernel⟩
abbrev s_shortest_row : Stmt := topS 45
theorem sc_shortest_row : FnScope ["shelf", "stand", "wish", "bands", "rows", "many", "ways", "ahead"] ["shelf", "stand", "wish"] (defScope s_shortest_row) := ⟨rfl, rfl, rfl, by decide +kernel, rfl, by decide +kernel, by decide +kernel⟩
abbrev s_need_both : Stmt := topS 46
theorem sc_need_both : FnScope ["shelf", "stand", "wish"] ["shelf", "stand", "wish"] (defScope s_need_both) := ⟨rfl, rfl, rfl, by decide +kernel, rfl, by decide +kernel, by decide +kernel⟩
abbrev s_fewest : Stmt := topS 47
theorem sc_fewest : FnScope ["shelf", "stand", "wish"] ["shelf", "stand", "wish"] (defScope s_fewest) := ⟨rfl, rfl, rfl, by decide +kernel, rfl, by decide +kernel, by decide +kernel⟩
abbrev s_doing_of : Stmt := topS 49
theorem sc_doing_of : FnScope ["shelf", "row"] ["shelf", "row"] (defScope s_doing_of) := ⟨rfl, rfl, rfl, by decide +kernel, rfl, by decide +kernel, by decide +kernel⟩
abbrev s_is_doing : Stmt := topS 50
theorem sc_is_doing : FnScope ["shelf", "thing", "least", "greatest", "low", "high"] ["shelf", "thing"] (defScope s_is_doing) := ⟨rfl, rfl, rfl, by decide +kernel, rfl, by decide +kernel, by decide +kernel⟩
abbrev s_need_doing : Stmt := topS 51
theorem sc_need_doing : FnScope ["shelf", "thing"] ["shelf", "thing"] (defScope s_need_doing) := ⟨rfl, rfl, rfl, by decide +kernel, rfl, by decide +kernel, by decide +kernel⟩
abbrev s_parted : Stmt := topS 52
theorem sc_parted : FnScope ["shelf", "row", "other", "stand"] ["shelf", "row", "other"] (defScope s_parted) := ⟨rfl, rfl, rfl, by decide +kernel, rfl, by decide +kernel, by decide +kernel⟩
abbrev s_alike : Stmt := topS 53
theorem sc_alike : FnScope ["shelf", "row", "other"] ["shelf", "row", "other"] (defScope s_alike) := ⟨rfl, rfl, rfl, by decide +kernel, rfl, by decide +kernel, by decide +kernel⟩
abbrev s_choices : Stmt := topS 55
theorem sc_choices : FnScope ["total", "many", "ways", "step"] ["total", "many"] (defScope s_choices) := ⟨rfl, rfl, rfl, by decide +kernel, rfl, by decide +kernel, by decide +kernel⟩
abbrev s_doings : Stmt := topS 56
theorem sc_doings : FnScope ["shelf", "many", "total", "crossing"] ["shelf"] (defScope s_doings) := ⟨rfl, rfl, rfl, by decide +kernel, rfl, by decide +kernel, by decide +kernel⟩
abbrev s_sources : Stmt := topS 57
theorem sc_sources : FnScope ["low", "place", "high", "play", "first", "last"] ["low", "place", "high", "play"] (defScope s_sources) := ⟨rfl, rfl, rfl, by decide +kernel, rfl, by decide +kernel, by decide +kernel⟩
abbrev s_with_next_block : Stmt := topS 58
theorem sc_with_next_block : FnScope ["ways", "first", "last", "told", "total", "place", "many"] ["ways", "first", "last"] (defScope s_with_next_block) := ⟨rfl, rfl, rfl, by decide +kernel, rfl, by decide +kernel, by decide +kernel⟩
abbrev s_leading : Stmt := topS 59
theorem sc_leading : FnScope ["shelf", "doing", "stand", "play", "least", "greatest", "ways", "low", "place", "high", "first", "last"] ["shelf", "doing", "stand"] (defScope s_leading) := ⟨rfl, rfl, rfl, by decide +kernel, rfl, by decide +kernel, by decide +kernel⟩
abbrev s_copied : Stmt := topS 61
theorem sc_copied : FnScope ["numbers"] ["numbers"] (defScope s_copied) := ⟨rfl, rfl, rfl, by decide +kernel, rfl, by decide +kernel, by decide +kernel⟩
abbrev s_Bench_init : Stmt := inClass (topS 62) 0
theorem sc_Bench_init : FnScope ["self", "shelf", "stand", "room", "blocks"] ["self", "shelf", "stand"] (defScope s_Bench_init) := ⟨rfl, rfl, rfl, by decide +kernel, rfl, by decide +kernel, by decide +kernel⟩
abbrev s_Bench_push : Stmt := inClass (topS 62) 1
theorem sc_Bench_push : FnScope ["self", "thing"] ["self", "thing"] (defScope s_Bench_push) := ⟨rfl, rfl, rfl, by decide +kernel, rfl, by decide +kernel, by decide +kernel⟩
abbrev s_Bench_set_wish : Stmt := inClass (topS 62) 2
theorem sc_Bench_set_wish : FnScope ["self", "wish"] ["self", "wish"] (defScope s_Bench_set_wish) := ⟨rfl, rfl, rfl, by decide +kernel, rfl, by decide +kernel, by decide +kernel⟩
abbrev s_Bench_stand : Stmt := inClass (topS 62) 3
theorem sc_Bench_stand : FnScope ["self"] ["self"] (defScope s_Bench_stand) := ⟨rfl, rfl, rfl, by decide +kernel, rfl, by decide +kernel, by decide +kernel⟩
abbrev s_Bench_doing : Stmt := inClass (topS 62) 4
theorem sc_Bench_doing : FnScope ["self"] ["self"] (defScope s_Bench_doing) := ⟨rfl, rfl, rfl, by decide +kernel, rfl, by decide +kernel, by decide +kernel⟩
abbrev s_Bench_pushes : Stmt := inClass (topS 62) 5
theorem sc_Bench_pushes : FnScope ["self"] ["self"] (defScope s_Bench_pushes) := ⟨rfl, rfl, rfl, by decide +kernel, rfl, by decide +kernel, by decide +kernel⟩
abbrev s_Bench_fewest : Stmt := inClass (topS 62) 6
theorem sc_Bench_fewest : FnScope ["self"] ["self"] (defScope s_Bench_fewest) := ⟨rfl, rfl, rfl, by decide +kernel, rfl, by decide +kernel, by decide +kernel⟩
abbrev s_Bench_len : Stmt := inClass (topS 62) 7
theorem sc_Bench_len : FnScope ["self"] ["self"] (defScope s_Bench_len) := ⟨rfl, rfl, rfl, by decide +kernel, rfl, by decide +kernel, by decide +kernel⟩
abbrev s_Bench_eq : Stmt := inClass (topS 62) 8
theorem sc_Bench_eq : FnScope ["self", "other"] ["self", "other"] (defScope s_Bench_eq) := ⟨rfl, rfl, rfl, by decide +kernel, rfl, by decide +kernel, by decide +kernel⟩
abbrev s_law_deck : Stmt := topS 64
theorem sc_law_deck : FnScope ["cell", "turn"] ["cell", "turn"] (defScope s_law_deck) := ⟨rfl, rfl, rfl, by decide +kernel, rfl, by decide +kernel, by decide +kernel⟩
abbrev s_law_pick : Stmt := topS 65
theorem sc_law_pick : FnScope ["deck", "size", "found", "number"] ["deck", "size"] (defScope s_law_pick) := ⟨rfl, rfl, rfl, by decide +kernel, rfl, by decide +kernel, by decide +kernel⟩
abbrev s_law_stand_of : Stmt := topS 66
theorem sc_law_stand_of : FnScope ["shelf", "places", "found", "ahead", "place", "long"] ["shelf", "places"] (defScope s_law_stand_of) := ⟨rfl, rfl, rfl, by decide +kernel, rfl, by decide +kernel, by decide +kernel⟩
abbrev s_law_stood : Stmt := topS 67
theorem sc_law_stood : FnScope ["shelf", "places"] ["shelf", "places"] (defScope s_law_stood) := ⟨rfl, rfl, rfl, by decide +kernel, rfl, by decide +kernel, by decide +kernel⟩
abbrev s_law_fewest_right : Stmt := topS 68
theorem sc_law_fewest_right : FnScope ["shelf", "stand", "wish", "still"] ["shelf"] (defScope s_law_fewest_right) := ⟨rfl, rfl, rfl, by decide +kernel, rfl, by decide +kernel, by decide +kernel⟩
abbrev s_law : Stmt := topS 69
theorem sc_law : FnScope ["script", "cell", "deck", "blocks", "shelf", "one", "bench", "k", "place"] ["script"] (defScope s_law) := ⟨rfl, rfl, rfl, by decide +kernel, rfl, by decide +kernel, by decide +kernel⟩
/-- what the top has left -/
structure Tx (K : PySem.W.Frag) (mg : Str → Option Value) where
  {f_is_whole : Addr}
  {fd_is_whole : FuncData}
  F_is_whole : Fun K "is_whole" "is_whole" s_is_whole f_is_whole fd_is_whole
  g_is_whole : mg "is_whole" = some (.ref f_is_whole)
  {f_is_within : Addr}
  {fd_is_within : FuncData}
  F_is_within : Fun K "is_within" "is_within" s_is_within f_is_within fd_is_within
  g_is_within : mg "is_within" = some (.ref f_is_within)
  {f_is_tuple_of : Addr}
  {fd_is_tuple_of : FuncData}
  F_is_tuple_of : Fun K "is_tuple_of" "is_tuple_of" s_is_tuple_of f_is_tuple_of fd_is_tuple_of
  g_is_tuple_of : mg "is_tuple_of" = some (.ref f_is_tuple_of)
  {f_are_blocks : Addr}
  {fd_are_blocks : FuncData}
  F_are_blocks : Fun K "are_blocks" "are_blocks" s_are_blocks f_are_blocks fd_are_blocks
  g_are_blocks : mg "are_blocks" = some (.ref f_are_blocks)
  {f_is_shelf : Addr}
  {fd_is_shelf : FuncData}
  F_is_shelf : Fun K "is_shelf" "is_shelf" s_is_shelf f_is_shelf fd_is_shelf
  g_is_shelf : mg "is_shelf" = some (.ref f_is_shelf)
  {f_need_shelf : Addr}
  {fd_need_shelf : FuncData}
  F_need_shelf : Fun K "need_shelf" "need_shelf" s_need_shelf f_need_shelf fd_need_shelf
  g_need_shelf : mg "need_shelf" = some (.ref f_need_shelf)
  {f_play_of : Addr}
  {fd_play_of : FuncData}
  F_play_of : Fun K "play_of" "play_of" s_play_of f_play_of fd_play_of
  g_play_of : mg "play_of" = some (.ref f_play_of)
  {f_gap_length : Addr}
  {fd_gap_length : FuncData}
  F_gap_length : Fun K "gap_length" "gap_length" s_gap_length f_gap_length fd_gap_length
  g_gap_length : mg "gap_length" = some (.ref f_gap_length)
  {f_places_of : Addr}
  {fd_places_of : FuncData}
  F_places_of : Fun K "places_of" "places_of" s_places_of f_places_of fd_places_of
  g_places_of : mg "places_of" = some (.ref f_places_of)
  {f_packed : Addr}
  {fd_packed : FuncData}
  F_packed : Fun K "packed" "packed" s_packed f_packed fd_packed
  g_packed : mg "packed" = some (.ref f_packed)
  {f_leftmost : Addr}
  {fd_leftmost : FuncData}
  F_leftmost : Fun K "leftmost" "leftmost" s_leftmost f_leftmost fd_leftmost
  g_leftmost : mg "leftmost" = some (.ref f_leftmost)
  {f_rightmost : Addr}
  {fd_rightmost : FuncData}
  F_rightmost : Fun K "rightmost" "rightmost" s_rightmost f_rightmost fd_rightmost
  g_rightmost : mg "rightmost" = some (.ref f_rightmost)
  {f_is_stand : Addr}
  {fd_is_stand : FuncData}
  F_is_stand : Fun K "is_stand" "is_stand" s_is_stand f_is_stand fd_is_stand
  g_is_stand : mg "is_stand" = some (.ref f_is_stand)
  {f_need_stand : Addr}
  {fd_need_stand : FuncData}
  F_need_stand : Fun K "need_stand" "need_stand" s_need_stand f_need_stand fd_need_stand
  g_need_stand : mg "need_stand" = some (.ref f_need_stand)
  {f_is_gap : Addr}
  {fd_is_gap : FuncData}
  F_is_gap : Fun K "is_gap" "is_gap" s_is_gap f_is_gap fd_is_gap
  g_is_gap : mg "is_gap" = some (.ref f_is_gap)
  {f_is_push : Addr}
  {fd_is_push : FuncData}
  F_is_push : Fun K "is_push" "is_push" s_is_push f_is_push fd_is_push
  g_is_push : mg "is_push" = some (.ref f_is_push)
  {f_is_row : Addr}
  {fd_is_row : FuncData}
  F_is_row : Fun K "is_row" "is_row" s_is_row f_is_row fd_is_row
  g_is_row : mg "is_row" = some (.ref f_is_row)
  {f_need_row : Addr}
  {fd_need_row : FuncData}
  F_need_row : Fun K "need_row" "need_row" s_need_row f_need_row fd_need_row
  g_need_row : mg "need_row" = some (.ref f_need_row)
  {f_pushed_right : Addr}
  {fd_pushed_right : FuncData}
  F_pushed_right : Fun K "pushed_right" "pushed_right" s_pushed_right f_pushed_right fd_pushed_right
  g_pushed_right : mg "pushed_right" = some (.ref f_pushed_right)
  {f_pushed_left : Addr}
  {fd_pushed_left : FuncData}
  F_pushed_left : Fun K "pushed_left" "pushed_left" s_pushed_left f_pushed_left fd_pushed_left
  g_pushed_left : mg "pushed_left" = some (.ref f_pushed_left)
  {f_pushed : Addr}
  {fd_pushed : FuncData}
  F_pushed : Fun K "pushed" "pushed" s_pushed f_pushed fd_pushed
  g_pushed : mg "pushed" = some (.ref f_pushed)
  {f_done : Addr}
  {fd_done : FuncData}
  F_done : Fun K "done" "done" s_done f_done fd_done
  g_done : mg "done" = some (.ref f_done)
  {f_Band_init : Addr}
  {fd_Band_init : FuncData}
  F_Band_init : Fun K "__init__" "Band.__init__" s_Band_init f_Band_init fd_Band_init
  {f_band_from : Addr}
  {fd_band_from : FuncData}
  F_band_from : Fun K "band_from" "band_from" s_band_from f_band_from fd_band_from
  g_band_from : mg "band_from" = some (.ref f_band_from)
  {f_bands_of : Addr}
  {fd_bands_of : FuncData}
  F_bands_of : Fun K "bands_of" "bands_of" s_bands_of f_bands_of fd_bands_of
  g_bands_of : mg "bands_of" = some (.ref f_bands_of)
  {f_raised : Addr}
  {fd_raised : FuncData}
  F_raised : Fun K "raised" "raised" s_raised f_raised fd_raised
  g_raised : mg "raised" = some (.ref f_raised)
  {f_lowered : Addr}
  {fd_lowered : FuncData}
  F_lowered : Fun K "lowered" "lowered" s_lowered f_lowered fd_lowered
  g_lowered : mg "lowered" = some (.ref f_lowered)
  {f_row_alone : Addr}
  {fd_row_alone : FuncData}
  F_row_alone : Fun K "row_alone" "row_alone" s_row_alone f_row_alone fd_row_alone
  g_row_alone : mg "row_alone" = some (.ref f_row_alone)
  {f_row_served_by_last : Addr}
  {fd_row_served_by_last : FuncData}
  F_row_served_by_last : Fun K "row_served_by_last" "row_served_by_last" s_row_served_by_last f_row_served_by_last fd_row_served_by_last
  g_row_served_by_last : mg "row_served_by_last" = some (.ref f_row_served_by_last)
  {f_row_served_by_first : Addr}
  {fd_row_served_by_first : FuncData}
  F_row_served_by_first : Fun K "row_served_by_first" "row_served_by_first" s_row_served_by_first f_row_served_by_first fd_row_served_by_first
  g_row_served_by_first : mg "row_served_by_first" = some (.ref f_row_served_by_first)
  {f_row_together : Addr}
  {fd_row_together : FuncData}
  F_row_together : Fun K "row_together" "row_together" s_row_together f_row_together fd_row_together
  g_row_together : mg "row_together" = some (.ref f_row_together)
  {f_shortest_row : Addr}
  {fd_shortest_row : FuncData}
  F_shortest_row : Fun K "shortest_row" "shortest_row" s_shortest_row f_shortest_row fd_shortest_row
  g_shortest_row : mg "shortest_row" = some (.ref f_shortest_row)
  {f_need_both : Addr}
  {fd_need_both : FuncData}
  F_need_both : Fun K "need_both" "need_both" s_need_both f_need_both fd_need_both
  g_need_both : mg "need_both" = some (.ref f_need_both)
  {f_fewest : Addr}
  {fd_fewest : FuncData}
  F_fewest : Fun K "fewest" "fewest" s_fewest f_fewest fd_fewest
  g_fewest : mg "fewest" = some (.ref f_fewest)
  {f_doing_of : Addr}
  {fd_doing_of : FuncData}
  F_doing_of : Fun K "doing_of" "doing_of" s_doing_of f_doing_of fd_doing_of
  g_doing_of : mg "doing_of" = some (.ref f_doing_of)
  {f_is_doing : Addr}
  {fd_is_doing : FuncData}
  F_is_doing : Fun K "is_doing" "is_doing" s_is_doing f_is_doing fd_is_doing
  g_is_doing : mg "is_doing" = some (.ref f_is_doing)
  {f_need_doing : Addr}
  {fd_need_doing : FuncData}
  F_need_doing : Fun K "need_doing" "need_doing" s_need_doing f_need_doing fd_need_doing
  g_need_doing : mg "need_doing" = some (.ref f_need_doing)
  {f_parted : Addr}
  {fd_parted : FuncData}
  F_parted : Fun K "parted" "parted" s_parted f_parted fd_parted
  g_parted : mg "parted" = some (.ref f_parted)
  {f_alike : Addr}
  {fd_alike : FuncData}
  F_alike : Fun K "alike" "alike" s_alike f_alike fd_alike
  g_alike : mg "alike" = some (.ref f_alike)
  {f_choices : Addr}
  {fd_choices : FuncData}
  F_choices : Fun K "choices" "choices" s_choices f_choices fd_choices
  g_choices : mg "choices" = some (.ref f_choices)
  {f_doings : Addr}
  {fd_doings : FuncData}
  F_doings : Fun K "doings" "doings" s_doings f_doings fd_doings
  g_doings : mg "doings" = some (.ref f_doings)
  {f_sources : Addr}
  {fd_sources : FuncData}
  F_sources : Fun K "sources" "sources" s_sources f_sources fd_sources
  g_sources : mg "sources" = some (.ref f_sources)
  {f_with_next_block : Addr}
  {fd_with_next_block : FuncData}
  F_with_next_block : Fun K "with_next_block" "with_next_block" s_with_next_block f_with_next_block fd_with_next_block
  g_with_next_block : mg "with_next_block" = some (.ref f_with_next_block)
  {f_leading : Addr}
  {fd_leading : FuncData}
  F_leading : Fun K "leading" "leading" s_leading f_leading fd_leading
  g_leading : mg "leading" = some (.ref f_leading)
  {f_copied : Addr}
  {fd_copied : FuncData}
  F_copied : Fun K "copied" "copied" s_copied f_copied fd_copied
  g_copied : mg "copied" = some (.ref f_copied)
  {f_Bench_init : Addr}
  {fd_Bench_init : FuncData}
  F_Bench_init : Fun K "__init__" "Bench.__init__" s_Bench_init f_Bench_init fd_Bench_init
  {f_Bench_push : Addr}
  {fd_Bench_push : FuncData}
  F_Bench_push : Fun K "push" "Bench.push" s_Bench_push f_Bench_push fd_Bench_push
  {f_Bench_set_wish : Addr}
  {fd_Bench_set_wish : FuncData}
  F_Bench_set_wish : Fun K "set_wish" "Bench.set_wish" s_Bench_set_wish f_Bench_set_wish fd_Bench_set_wish
  {f_Bench_stand : Addr}
  {fd_Bench_stand : FuncData}
  F_Bench_stand : Fun K "stand" "Bench.stand" s_Bench_stand f_Bench_stand fd_Bench_stand
  {f_Bench_doing : Addr}
  {fd_Bench_doing : FuncData}
  F_Bench_doing : Fun K "doing" "Bench.doing" s_Bench_doing f_Bench_doing fd_Bench_doing
  {f_Bench_pushes : Addr}
  {fd_Bench_pushes : FuncData}
  F_Bench_pushes : Fun K "pushes" "Bench.pushes" s_Bench_pushes f_Bench_pushes fd_Bench_pushes
  {f_Bench_fewest : Addr}
  {fd_Bench_fewest : FuncData}
  F_Bench_fewest : Fun K "fewest" "Bench.fewest" s_Bench_fewest f_Bench_fewest fd_Bench_fewest
  {f_Bench_len : Addr}
  {fd_Bench_len : FuncData}
  F_Bench_len : Fun K "__len__" "Bench.__len__" s_Bench_len f_Bench_len fd_Bench_len
  {f_Bench_eq : Addr}
  {fd_Bench_eq : FuncData}
  F_Bench_eq : Fun K "__eq__" "Bench.__eq__" s_Bench_eq f_Bench_eq fd_Bench_eq
  {f_law_deck : Addr}
  {fd_law_deck : FuncData}
  F_law_deck : Fun K "_law_deck" "_law_deck" s_law_deck f_law_deck fd_law_deck
  g_law_deck : mg "_law_deck" = some (.ref f_law_deck)
  {f_law_pick : Addr}
  {fd_law_pick : FuncData}
  F_law_pick : Fun K "_law_pick" "_law_pick" s_law_pick f_law_pick fd_law_pick
  g_law_pick : mg "_law_pick" = some (.ref f_law_pick)
  {f_law_stand_of : Addr}
  {fd_law_stand_of : FuncData}
  F_law_stand_of : Fun K "_law_stand_of" "_law_stand_of" s_law_stand_of f_law_stand_of fd_law_stand_of
  g_law_stand_of : mg "_law_stand_of" = some (.ref f_law_stand_of)
  {f_law_stood : Addr}
  {fd_law_stood : FuncData}
  F_law_stood : Fun K "_law_stood" "_law_stood" s_law_stood f_law_stood fd_law_stood
  g_law_stood : mg "_law_stood" = some (.ref f_law_stood)
  {f_law_fewest_right : Addr}
  {fd_law_fewest_right : FuncData}
  F_law_fewest_right : Fun K "_law_fewest_right" "_law_fewest_right" s_law_fewest_right f_law_fewest_right fd_law_fewest_right
  g_law_fewest_right : mg "_law_fewest_right" = some (.ref f_law_fewest_right)
  {C_Band : Addr}
  cl_Band : Cls K C_Band
  g_Band : mg "Band" = some (.ref C_Band)
  mk_Band : Mk K C_Band f_Band_init
  na_Band_first : NoAttr K C_Band "first"
  na_Band_beyond : NoAttr K C_Band "beyond"
  na_Band_place : NoAttr K C_Band "place"
  na_Band_up : NoAttr K C_Band "up"
  na_Band_down : NoAttr K C_Band "down"
  {C_Bench : Addr}
  cl_Bench : Cls K C_Bench
  g_Bench : mg "Bench" = some (.ref C_Bench)
  mk_Bench : Mk K C_Bench f_Bench_init
  me_Bench_push : Meth K C_Bench "push" f_Bench_push
  me_Bench_set_wish : Meth K C_Bench "set_wish" f_Bench_set_wish
  me_Bench_stand : Meth K C_Bench "stand" f_Bench_stand
  me_Bench_doing : Meth K C_Bench "doing" f_Bench_doing
  me_Bench_pushes : Meth K C_Bench "pushes" f_Bench_pushes
  me_Bench_fewest : Meth K C_Bench "fewest" f_Bench_fewest
  me_Bench_len : Meth K C_Bench "__len__" f_Bench_len
  me_Bench_eq : Meth K C_Bench "__eq__" f_Bench_eq
  na_Bench_shelf : NoAttr K C_Bench "shelf"
  na_Bench_now : NoAttr K C_Bench "now"
  na_Bench_least : NoAttr K C_Bench "least"
  na_Bench_greatest : NoAttr K C_Bench "greatest"
  na_Bench_many : NoAttr K C_Bench "many"
  na_Bench_wish : NoAttr K C_Bench "wish"
  n_all : mg "all" = none
  n_bool : mg "bool" = none
  n_enumerate : mg "enumerate" = none
  n_int : mg "int" = none
  n_isinstance : mg "isinstance" = none
  n_len : mg "len" = none
  n_list : mg "list" = none
  n_max : mg "max" = none
  n_min : mg "min" = none
  n_range : mg "range" = none
  n_reversed : mg "reversed" = none
  n_sum : mg "sum" = none
  n_tuple : mg "tuple" = none
  n_zip : mg "zip" = none
  {cu_MOST_BLOCKS : Value}
  c_MOST_BLOCKS : RelV (.int 8) cu_MOST_BLOCKS ∧ mg "MOST_BLOCKS" = some cu_MOST_BLOCKS
  {cu_MOST_LENGTH : Value}
  c_MOST_LENGTH : RelV (.int 50) cu_MOST_LENGTH ∧ mg "MOST_LENGTH" = some cu_MOST_LENGTH
  {cu_MOST_PLAY : Value}
  c_MOST_PLAY : RelV (.int 400) cu_MOST_PLAY ∧ mg "MOST_PLAY" = some cu_MOST_PLAY
  {cu_MOST_PUSHES : Value}
  c_MOST_PUSHES : RelV (.int 200) cu_MOST_PUSHES ∧ mg "MOST_PUSHES" = some cu_MOST_PUSHES
variable {P : Program} {w : World} {K : PySem.W.Frag} {mg : Str → Option Value} {base : Heap}
theorem Tx.b_is_whole (T : Tx K mg) : Binds K T.fd_is_whole ["thing"] [] := T.F_is_whole.binds fun _ _ _ _ _ _ us hl => match us, hl with | [_], _ => rfl
theorem Tx.b_is_within (T : Tx K mg) : Binds K T.fd_is_within ["thing", "low", "high"] [] := T.F_is_within.binds fun _ _ _ _ _ _ us hl => match us, hl with | [_, _, _], _ => rfl
theorem Tx.b_is_tuple_of (T : Tx K mg) : Binds K T.fd_is_tuple_of ["thing", "many"] [] := T.F_is_tuple_of.binds fun _ _ _ _ _ _ us hl => match us, hl with | [_, _], _ => rfl
theorem Tx.b_are_blocks (T : Tx K mg) : Binds K T.fd_are_blocks ["thing"] [] := T.F_are_blocks.binds fun _ _ _ _ _ _ us hl => match us, hl with | [_], _ => rfl
theorem Tx.b_is_shelf (T : Tx K mg) : Binds K T.fd_is_shelf ["thing"] [] := T.F_is_shelf.binds fun _ _ _ _ _ _ us hl => match us, hl with | [_], _ => rfl
theorem Tx.b_need_shelf (T : Tx K mg) : Binds K T.fd_need_shelf ["thing"] [] := T.F_need_shelf.binds fun _ _ _ _ _ _ us hl => match us, hl with | [_], _ => rfl
theorem Tx.b_play_of (T : Tx K mg) : Binds K T.fd_play_of ["shelf"] [] := T.F_play_of.binds fun _ _ _ _ _ _ us hl => match us, hl with | [_], _ => rfl
theorem Tx.b_gap_length (T : Tx K mg) : Binds K T.fd_gap_length ["shelf", "gap"] [] := T.F_gap_length.binds fun _ _ _ _ _ _ us hl => match us, hl with | [_, _], _ => rfl
theorem Tx.b_places_of (T : Tx K mg) : Binds K T.fd_places_of ["shelf", "stand"] [] := T.F_places_of.binds fun _ _ _ _ _ _ us hl => match us, hl with | [_, _], _ => rfl
theorem Tx.b_packed (T : Tx K mg) : Binds K T.fd_packed ["shelf", "start"] [] := T.F_packed.binds fun _ _ _ _ _ _ us hl => match us, hl with | [_, _], _ => rfl
theorem Tx.b_leftmost (T : Tx K mg) : Binds K T.fd_leftmost ["shelf"] [] := T.F_leftmost.binds fun _ _ _ _ _ _ us hl => match us, hl with | [_], _ => rfl
theorem Tx.b_rightmost (T : Tx K mg) : Binds K T.fd_rightmost ["shelf"] [] := T.F_rightmost.binds fun _ _ _ _ _ _ us hl => match us, hl with | [_], _ => rfl
theorem Tx.b_is_stand (T : Tx K mg) : Binds K T.fd_is_stand ["shelf", "thing"] [] := T.F_is_stand.binds fun _ _ _ _ _ _ us hl => match us, hl with | [_, _], _ => rfl
theorem Tx.b_need_stand (T : Tx K mg) : Binds K T.fd_need_stand ["shelf", "thing"] [] := T.F_need_stand.binds fun _ _ _ _ _ _ us hl => match us, hl with | [_, _], _ => rfl
theorem Tx.b_is_gap (T : Tx K mg) : Binds K T.fd_is_gap ["shelf", "side", "thing"] [] := T.F_is_gap.binds fun _ _ _ _ _ _ us hl => match us, hl with | [_, _, _], _ => rfl
theorem Tx.b_is_push (T : Tx K mg) : Binds K T.fd_is_push ["shelf", "thing"] [] := T.F_is_push.binds fun _ _ _ _ _ _ us hl => match us, hl with | [_, _], _ => rfl
theorem Tx.b_is_row (T : Tx K mg) : Binds K T.fd_is_row ["shelf", "thing"] [] := T.F_is_row.binds fun _ _ _ _ _ _ us hl => match us, hl with | [_, _], _ => rfl
theorem Tx.b_need_row (T : Tx K mg) : Binds K T.fd_need_row ["shelf", "thing"] [] := T.F_need_row.binds fun _ _ _ _ _ _ us hl => match us, hl with | [_, _], _ => rfl
theorem Tx.b_pushed_right (T : Tx K mg) : Binds K T.fd_pushed_right ["blocks", "stand", "gap", "place"] [] := T.F_pushed_right.binds fun _ _ _ _ _ _ us hl => match us, hl with | [_, _, _, _], _ => rfl
theorem Tx.b_pushed_left (T : Tx K mg) : Binds K T.fd_pushed_left ["blocks", "stand", "gap", "place"] [] := T.F_pushed_left.binds fun _ _ _ _ _ _ us hl => match us, hl with | [_, _, _, _], _ => rfl
theorem Tx.b_pushed (T : Tx K mg) : Binds K T.fd_pushed ["shelf", "stand", "push"] [] := T.F_pushed.binds fun _ _ _ _ _ _ us hl => match us, hl with | [_, _, _], _ => rfl
theorem Tx.b_done (T : Tx K mg) : Binds K T.fd_done ["shelf", "stand", "row"] [] := T.F_done.binds fun _ _ _ _ _ _ us hl => match us, hl with | [_, _, _], _ => rfl
theorem Tx.b_Band_init (T : Tx K mg) : Binds K T.fd_Band_init ["self", "first", "beyond", "place", "up", "down"] [] := T.F_Band_init.binds fun _ _ _ _ _ _ us hl => match us, hl with | [_, _, _, _, _, _], _ => rfl
theorem Tx.b_band_from (T : Tx K mg) : Binds K T.fd_band_from ["now", "wished", "first"] [] := T.F_band_from.binds fun _ _ _ _ _ _ us hl => match us, hl with | [_, _, _], _ => rfl
theorem Tx.b_bands_of (T : Tx K mg) : Binds K T.fd_bands_of ["shelf", "stand", "wish"] [] := T.F_bands_of.binds fun _ _ _ _ _ _ us hl => match us, hl with | [_, _, _], _ => rfl
theorem Tx.b_raised (T : Tx K mg) : Binds K T.fd_raised ["shelf", "gap", "place"] [] := T.F_raised.binds fun _ _ _ _ _ _ us hl => match us, hl with | [_, _, _], _ => rfl
theorem Tx.b_lowered (T : Tx K mg) : Binds K T.fd_lowered ["shelf", "gap", "place"] [] := T.F_lowered.binds fun _ _ _ _ _ _ us hl => match us, hl with | [_, _, _], _ => rfl
theorem Tx.b_row_alone (T : Tx K mg) : Binds K T.fd_row_alone ["shelf", "band"] [] := T.F_row_alone.binds fun _ _ _ _ _ _ us hl => match us, hl with | [_, _], _ => rfl
theorem Tx.b_row_served_by_last (T : Tx K mg) : Binds K T.fd_row_served_by_last ["shelf", "bands"] [] := T.F_row_served_by_last.binds fun _ _ _ _ _ _ us hl => match us, hl with | [_, _], _ => rfl
theorem Tx.b_row_served_by_first (T : Tx K mg) : Binds K T.fd_row_served_by_first ["shelf", "bands"] [] := T.F_row_served_by_first.binds fun _ _ _ _ _ _ us hl => match us, hl with | [_, _], _ => rfl
theorem Tx.b_row_together (T : Tx K mg) : Binds K T.fd_row_together ["shelf", "bands"] [] := T.F_row_together.binds fun _ _ _ _ _ _ us hl => match us, hl with | [_, _], _ => rfl
theorem Tx.b_shortest_row (T : Tx K mg) : Binds K T.fd_shortest_row ["shelf", "stand", "wish"] [] := T.F_shortest_row.binds fun _ _ _ _ _ _ us hl => match us, hl with | [_, _, _], _ => rfl
theorem Tx.b_need_both (T : Tx K mg) : Binds K T.fd_need_both ["shelf", "stand", "wish"] [] := T.F_need_both.binds fun _ _ _ _ _ _ us hl => match us, hl with | [_, _, _], _ => rfl
theorem Tx.b_fewest (T : Tx K mg) : Binds K T.fd_fewest ["shelf", "stand", "wish"] [] := T.F_fewest.binds fun _ _ _ _ _ _ us hl => match us, hl with | [_, _, _], _ => rfl
theorem Tx.b_doing_of (T : Tx K mg) : Binds K T.fd_doing_of ["shelf", "row"] [] := T.F_doing_of.binds fun _ _ _ _ _ _ us hl => match us, hl with | [_, _], _ => rfl
theorem Tx.b_is_doing (T : Tx K mg) : Binds K T.fd_is_doing ["shelf", "thing"] [] := T.F_is_doing.binds fun _ _ _ _ _ _ us hl => match us, hl with | [_, _], _ => rfl
theorem Tx.b_need_doing (T : Tx K mg) : Binds K T.fd_need_doing ["shelf", "thing"] [] := T.F_need_doing.binds fun _ _ _ _ _ _ us hl => match us, hl with | [_, _], _ => rfl
theorem Tx.b_parted (T : Tx K mg) : Binds K T.fd_parted ["shelf", "row", "other"] [] := T.F_parted.binds fun _ _ _ _ _ _ us hl => match us, hl with | [_, _, _], _ => rfl
theorem Tx.b_alike (T : Tx K mg) : Binds K T.fd_alike ["shelf", "row", "other"] [] := T.F_alike.binds fun _ _ _ _ _ _ us hl => match us, hl with | [_, _, _], _ => rfl
theorem Tx.b_choices (T : Tx K mg) : Binds K T.fd_choices ["total", "many"] [] := T.F_choices.binds fun _ _ _ _ _ _ us hl => match us, hl with | [_, _], _ => rfl
theorem Tx.b_doings (T : Tx K mg) : Binds K T.fd_doings ["shelf"] [] := T.F_doings.binds fun _ _ _ _ _ _ us hl => match us, hl with | [_], _ => rfl
theorem Tx.b_sources (T : Tx K mg) : Binds K T.fd_sources ["low", "place", "high", "play"] [] := T.F_sources.binds fun _ _ _ _ _ _ us hl => match us, hl with | [_, _, _, _], _ => rfl
theorem Tx.b_with_next_block (T : Tx K mg) : Binds K T.fd_with_next_block ["ways", "first", "last"] [] := T.F_with_next_block.binds fun _ _ _ _ _ _ us hl => match us, hl with | [_, _, _], _ => rfl
theorem Tx.b_leading (T : Tx K mg) : Binds K T.fd_leading ["shelf", "doing", "stand"] [] := T.F_leading.binds fun _ _ _ _ _ _ us hl => match us, hl with | [_, _, _], _ => rfl
theorem Tx.b_copied (T : Tx K mg) : Binds K T.fd_copied ["numbers"] [] := T.F_copied.binds fun _ _ _ _ _ _ us hl => match us, hl with | [_], _ => rfl
theorem Tx.b_Bench_init (T : Tx K mg) : Binds K T.fd_Bench_init ["self", "shelf", "stand"] [] := T.F_Bench_init.binds fun _ _ _ _ _ _ us hl => match us, hl with | [_, _, _], _ => rfl
theorem Tx.b_Bench_push (T : Tx K mg) : Binds K T.fd_Bench_push ["self", "thing"] [] := T.F_Bench_push.binds fun _ _ _ _ _ _ us hl => match us, hl with | [_, _], _ => rfl
theorem Tx.b_Bench_set_wish (T : Tx K mg) : Binds K T.fd_Bench_set_wish ["self", "wish"] [] := T.F_Bench_set_wish.binds fun _ _ _ _ _ _ us hl => match us, hl with | [_, _], _ => rfl
theorem Tx.b_Bench_stand (T : Tx K mg) : Binds K T.fd_Bench_stand ["self"] [] := T.F_Bench_stand.binds fun _ _ _ _ _ _ us hl => match us, hl with | [_], _ => rfl
theorem Tx.b_Bench_doing (T : Tx K mg) : Binds K T.fd_Bench_doing ["self"] [] := T.F_Bench_doing.binds fun _ _ _ _ _ _ us hl => match us, hl with | [_], _ => rfl
theorem Tx.b_Bench_pushes (T : Tx K mg) : Binds K T.fd_Bench_pushes ["self"] [] := T.F_Bench_pushes.binds fun _ _ _ _ _ _ us hl => match us, hl with | [_], _ => rfl
theorem Tx.b_Bench_fewest (T : Tx K mg) : Binds K T.fd_Bench_fewest ["self"] [] := T.F_Bench_fewest.binds fun _ _ _ _ _ _ us hl => match us, hl with | [_], _ => rfl
theorem Tx.b_Bench_len (T : Tx K mg) : Binds K T.fd_Bench_len ["self"] [] := T.F_Bench_len.binds fun _ _ _ _ _ _ us hl => match us, hl with | [_], _ => rfl
theorem Tx.b_Bench_eq (T : Tx K mg) : Binds K T.fd_Bench_eq ["self", "other"] [] := T.F_Bench_eq.binds fun _ _ _ _ _ _ us hl => match us, hl with | [_, _], _ => rfl
theorem Tx.b_law_deck (T : Tx K mg) : Binds K T.fd_law_deck ["cell", "turn"] [] := T.F_law_deck.binds fun _ _ _ _ _ _ us hl => match us, hl with | [_, _], _ => rfl
theorem Tx.b_law_pick (T : Tx K mg) : Binds K T.fd_law_pick ["deck", "size"] [] := T.F_law_pick.binds fun _ _ _ _ _ _ us hl => match us, hl with | [_, _], _ => rfl
theorem Tx.b_law_stand_of (T : Tx K mg) : Binds K T.fd_law_stand_of ["shelf", "places"] [] := T.F_law_stand_of.binds fun _ _ _ _ _ _ us hl => match us, hl with | [_, _], _ => rfl
theorem Tx.b_law_stood (T : Tx K mg) : Binds K T.fd_law_stood ["shelf", "places"] [] := T.F_law_stood.binds fun _ _ _ _ _ _ us hl => match us, hl with | [_, _], _ => rfl
theorem Tx.b_law_fewest_right (T : Tx K mg) : Binds K T.fd_law_fewest_right ["shelf"] [] := T.F_law_fewest_right.binds fun _ _ _ _ _ _ us hl => match us, hl with | [_], _ => rfl

end PS

namespace PS
open PySem PySem.Spec PyProof.Rows L2
variable {P : Program} {w : World} {K : PySem.W.Frag} {mg : Str → Option Value} {base : Heap}
def sp_is_whole (K : PySem.W.Frag) : Sp := fun vs H Q _ => ∃ v d, vs = [v] ∧ Dp K H v d ∧ Q (.bl (isW d)) H
theorem ok_is_whole (T : Tx K mg) : FnOk P w K mg base CX0 1 T.f_is_whole T.fd_is_whole ["thing"] (sp_is_whole K) := by
  refine T.F_is_whole.ok sc_is_whole (fun vs H Q E h => ?_) (fun cdv A outer s H vs Q E hr h => ?_)
  · obtain ⟨v, d, rfl, _⟩ := h
    rfl
  · obtain ⟨v, d, rfl, hd, q⟩ := h
    refine ⟨_, (pss_one (ps_ret (pe_and (pe_callB call_isD (by rfl) T.n_isinstance (by decide +kernel) (pa_cons (pv 0) (pa_cons (pe_bltn (v := .ty "int") (by rfl) T.n_int (by decide +kernel) rfl) pa_nil))) (pe_one (pe_not (pe_callB call_isD (by rfl) T.n_isinstance (by decide +kernel) (pa_cons (pv 0) (pa_cons (pe_bltn (v := .ty "bool") (by rfl) T.n_bool (by decide +kernel) rfl) pa_nil)))))))), ?_⟩
    refine ⟨v, rfl, v, _, d, rfl, hd, kInt d, _, rfl, ?_⟩
    rw [isA_int]
    cases hd with
    | bl b => exact iteT ⟨_, rfl, _, _, _, rfl, .bl b, kBool _, _, rfl, by rw [isA_bool]; exact q⟩
    | int b => exact iteT ⟨_, rfl, _, _, _, rfl, .int b, kBool _, _, rfl, by rw [isA_bool]; exact q⟩
    | _ => exact iteF q
def sp_is_within (K : PySem.W.Frag) : Sp := fun vs H Q _ => ∃ v d lo hi, vs = [v, .int lo, .int hi] ∧ Dp K H v d ∧ Q (.bl (within d lo hi)) H
theorem ok_is_within (T : Tx K mg) : FnOk P w K mg base CX0 2 T.f_is_within T.fd_is_within ["thing", "low", "high"] (sp_is_within K) := by
  have G_is_whole := ok_is_whole (P := P) (w := w) (base := base) T
  refine T.F_is_within.ok sc_is_within (fun vs H Q E h => ?_) (fun cdv A outer s H vs Q E hr h => ?_)
  · obtain ⟨v, d, lo, hi, rfl, _⟩ := h
    rfl
  · obtain ⟨v, d, lo, hi, rfl, hd, q⟩ := h
    refine ⟨_, (pss_one (ps_ret (pe_and (pe_call (G_is_whole.mono (by first | decide | omega)) hr (by rfl) T.g_is_whole T.F_is_whole.kp T.b_is_whole .nil pass0 (pa_cons (pv 0) pa_nil)) (pe_one (pe_chain op_le op_le (pv 1) (pv 0) (pv 2)))))), ?_⟩
    refine ⟨v, rfl, v, d, rfl, hd, _, rfl, ?_⟩
    cases hd with
    | int i =>
      refine iteT ⟨_, rfl, _, rfl, _, _, rfl, rfl, _, rfl, ?_⟩
      unfold within at q
      simp only at q
      by_cases hl : lo ≤ i
      · rw [if_pos hl] at q
        rw [if_pos (decide_eq_true hl)]
        exact ⟨_, rfl, _, _, rfl, rfl, q⟩
      · rw [if_neg hl] at q
        rw [if_neg (by simp [hl])]
        exact q
    | _ => exact iteF q
def sp_is_tuple_of (K : PySem.W.Frag) : Sp := fun vs H Q _ => ∃ v d n, vs = [v, .int n] ∧ Dp K H v d ∧ Q (.bl (tupOf d n)) H
theorem ok_is_tuple_of (T : Tx K mg) : FnOk P w K mg base CX0 1 T.f_is_tuple_of T.fd_is_tuple_of ["thing", "many"] (sp_is_tuple_of K) := by
  refine T.F_is_tuple_of.ok sc_is_tuple_of (fun vs H Q E h => ?_) (fun cdv A outer s H vs Q E hr h => ?_)
  · obtain ⟨v, d, n, rfl, _⟩ := h
    rfl
  · obtain ⟨v, d, n, rfl, hd, q⟩ := h
    refine ⟨_, (pss_one (ps_ret (pe_and (pe_callB call_isD (by rfl) T.n_isinstance (by decide +kernel) (pa_cons (pv 0) (pa_cons (pe_bltn (v := .ty "tuple") (by rfl) T.n_tuple (by decide +kernel) rfl) pa_nil))) (pe_one (pe_cmpR op_eq (pe_callB call_len_seq (by rfl) T.n_len (by decide +kernel) (pa_cons (pv 0) pa_nil)) (pv 1) (nomark _)))))), ?_⟩
    refine ⟨v, rfl, v, _, d, rfl, hd, kTuple d, _, rfl, ?_⟩
    rw [isA_tuple]
    cases hd with
    | @tup a xs ds s al =>
      refine iteT ⟨_, rfl, a, xs, rfl, .inr s, _, rfl, rfl, ?_⟩
      rw [dpAll_len al]
      unfold tupOf at q
      simp only at q
      have e : decide (V.int (ds.length : Int) = V.int n) = decide ((ds.length : Int) = n) := by
        by_cases h : (ds.length : Int) = n
        · rw [h]; simp
        · rw [decide_eq_false h, decide_eq_false (fun z => h (V.int.inj z))]
      rw [e]
      exact q
    | _ => exact iteF q
def sp_are_blocks (K : PySem.W.Frag) : Sp := fun vs H Q _ => ∃ v d, vs = [v] ∧ Dp K H v d ∧ RB H Q (areBlocks d)
theorem ok_are_blocks (T : Tx K mg) : FnOk P w K mg base CX0 3 T.f_are_blocks T.fd_are_blocks ["thing"] (sp_are_blocks K) := by
  have G_is_within := ok_is_within (P := P) (w := w) (base := base) T
  refine T.F_are_blocks.ok sc_are_blocks (fun vs H Q E h => ?_) (fun cdv A outer s H vs Q E hr h => ?_)
  · obtain ⟨v, d, rfl, _⟩ := h
    rfl
  · obtain ⟨v, d, rfl, hd, q⟩ := h
    refine ⟨_, (pss_cons (ps_if (PW.pt (pw_or (pt_not (pt_val (pe_callB call_isD (by rfl) T.n_isinstance (by decide +kernel) (pa_cons (pv 0) (pa_cons (pe_bltn (v := .ty "tuple") (by rfl) T.n_tuple (by decide +kernel) rfl) pa_nil))))) (pw_or1 (pt_not (pt_chain op_le op_le pe_int (pe_callB call_len_seq (by rfl) T.n_len (by decide +kernel) (pa_cons (pv 0) pa_nil)) (pe_glob (by rfl) T.c_MOST_BLOCKS.2 T.c_MOST_BLOCKS.1)))))) (pss_one (ps_ret pe_bl)) pss_nil)
      (pss_one (ps_ret (pe_callB (cr_all rfl) (by rfl) T.n_all (by decide +kernel) (pa_cons (pe_lc (own := [("length", 1)]) (g := gName 1) (tt := tYes) rfl sc_are_blocks.nd (pi_tup (pv 0)) (blkOk_by (own := [("length", 1)]) (N := ["thing", "length"]) (sc := defScope s_are_blocks) (by decide +kernel)) (fun _ _ _ _ _ => (pg_name (i := 1) sc_are_blocks.nd rfl (.inl rfl))) (fun _ _ _ _ _ => pts_nil) (fun _ _ _ _ _ => (pe_call (G_is_within.mono (by first | decide | omega)) hr (by rfl) T.g_is_within T.F_is_within.kp T.b_is_within .nil pass0 (pa_cons (pv 1) (pa_cons pe_int (pa_cons (pe_glob (by rfl) T.c_MOST_LENGTH.2 T.c_MOST_LENGTH.1) pa_nil)))))) pa_nil))))), ?_⟩
    refine ⟨v, rfl, v, _, d, rfl, hd, kTuple d, _, rfl, ?_⟩
    rw [isA_tuple]
    cases hd with
    | @tup a xs ds s al =>
      have hl := dpAll_len al
      refine iteF ⟨.ref a, rfl, a, xs, rfl, .inr s, _, _, rfl, rfl, _, rfl, ?_⟩
      have hn : xs.length ≤ sizeLine → True := fun _ => trivial
      unfold areBlocks at q
      simp only at q
      by_cases h1 : 1 ≤ (xs.length : Int)
      · rw [if_pos (decide_eq_true h1)]
        refine ⟨_, _, rfl, rfl, _, rfl, ?_⟩
        by_cases h8 : (xs.length : Int) ≤ 8
        · rw [if_pos ⟨by rw [← hl]; exact h1, by rw [← hl]; exact h8⟩] at q
          rw [decide_eq_true h8]
          refine iteF ?_
          -- all([..])
          refine ⟨.ref a, rfl, a, rfl, ⟨xs, s⟩, fun D nD => ?_⟩
          refine lc_tup (K := K) (a := a) (xs := xs) (fun i H' => Same H H' ∧ H' D = some (.lst ((ds.take i).map fun x => V.bl (within x 1 50)))) ⟨same_new nD, by rw [upd_same]; rfl⟩ (fun i H' _ p => seqT_mono p.1 s) (fun i x H' hx p => ?_) (fun H' p => ?_)
          · obtain ⟨d, e1, e2⟩ := dpAll_get al hx
            have hi : i < xs.length := (List.getElem?_eq_some_iff.mp hx).1
            refine ⟨rfl, x, rfl, x, d, _, _, rfl, Dpm p.1 e2, ?_⟩
            refine ⟨_, p.2, ?_, ?_, ?_⟩
            · rw [List.length_map, List.length_take]
              exact small1000 (by omega)
            · intro b o hb
              have nb : b ≠ D := ne_of_none hb nD
              rw [upd_ne nb]
              exact p.1 b o hb
            · rw [upd_same, List.take_add_one, e1, List.map_append]
              rfl
          · refine ⟨D, (ds.map fun x => within x 1 50), rfl, .inl (.inl ?_), ?_⟩
            · rw [p.2, hl, List.take_length, List.map_map]
              rfl
            · rw [show (ds.map fun x => within x 1 50).all id = ds.all (fun x => within x 1 50) from by rw [List.all_map]; rfl]
              exact q H' p.1
        · rw [if_neg (by rw [← hl]; exact fun z => h8 z.2)] at q
          rw [decide_eq_false h8]
          exact iteT (q H (Same.refl H))
      · rw [if_neg (by rw [← hl]; exact fun z => h1 z.1)] at q
        rw [if_neg (by simp [h1])]
        exact ⟨_, rfl, iteT (q H (Same.refl H))⟩
    | _ => exact iteT (q H (Same.refl H))
end PS

namespace PS
open PySem PySem.Spec PyProof.Rows L2
variable {P : Program} {w : World} {K : PySem.W.Frag} {mg : Str → Option Value} {base : Heap}
theorem tupOf2 {d : PyData} (h : tupOf d 2 = true) : ∃ r b, d = .tuple [r, b] := by
  cases d with
  | tuple ds =>
    have h1 : (ds.length : Int) = 2 := of_decide_eq_true h
    match ds, h1 with
    | [r, b], _ => exact ⟨r, b, rfl⟩
    | [], h => simp at h
    | [_], h => simp at h
    | _ :: _ :: _ :: _, h => simp at h; omega
  | _ => simp [tupOf] at h
theorem tupOf3 {d : PyData} (h : tupOf d 3 = true) : ∃ r b c, d = .tuple [r, b, c] := by
  cases d with
  | tuple ds =>
    have h1 : (ds.length : Int) = 3 := of_decide_eq_true h
    match ds, h1 with
    | [r, b, c], _ => exact ⟨r, b, c, rfl⟩
    | [], h => simp at h
    | [_], h => simp at h
    | [_, _], h => simp at h
    | _ :: _ :: _ :: _ :: _, h => simp at h; omega
  | _ => simp [tupOf] at h
theorem dp_two {H : Hp} {v : V} {r b : PyData} (h : Dp K H v (.tuple [r, b])) : ∃ a x y, v = .ref a ∧ SqT K H a [x, y] ∧ Dp K H x r ∧ Dp K H y b := by
  obtain ⟨a, xs, rfl, s, al⟩ := dp_tup h
  cases al with
  | cons h1 h2 =>
    cases h2 with
    | cons h3 h4 => cases h4; exact ⟨a, _, _, rfl, s, h1, h3⟩
theorem dp_three {H : Hp} {v : V} {r b c : PyData} (h : Dp K H v (.tuple [r, b, c])) : ∃ a x y z, v = .ref a ∧ SqT K H a [x, y, z] ∧ Dp K H x r ∧ Dp K H y b ∧ Dp K H z c := by
  obtain ⟨a, xs, rfl, s, al⟩ := dp_tup h
  cases al with
  | cons h1 h2 =>
    cases h2 with
    | cons h3 h4 =>
      cases h4 with
      | cons h5 h6 => cases h6; exact ⟨a, _, _, _, rfl, s, h1, h3, h5⟩
theorem dp_shelf {H : Hp} {v : V} {room : Int} {ls : List Int} (h : Dp K H v (shD room ls)) : ∃ a b, v = .ref a ∧ SqT K H a [.int room, .ref b] ∧ SqT K H b (iV ls) := by
  obtain ⟨a, x, y, rfl, s, h1, h2⟩ := dp_two h
  obtain ⟨b, rfl, t⟩ := dp_tI h2
  cases dp_int h1
  exact ⟨a, b, rfl, s, t⟩
/-! ### is_shelf, need_shelf -/
def sp_is_shelf (K : PySem.W.Frag) : Sp := fun vs H Q _ => ∃ v d, vs = [v] ∧ Dp K H v d ∧ RB H Q (isShelf d)
theorem ok_is_shelf (T : Tx K mg) : FnOk P w K mg base CX0 4 T.f_is_shelf T.fd_is_shelf ["thing"] (sp_is_shelf K) := by
  have G_is_tuple_of := ok_is_tuple_of (P := P) (w := w) (base := base) T
  have G_are_blocks := ok_are_blocks (P := P) (w := w) (base := base) T
  have G_is_within := ok_is_within (P := P) (w := w) (base := base) T
  refine T.F_is_shelf.ok sc_is_shelf (fun vs H Q E h => ?_) (fun cdv A outer s H vs Q E hr h => ?_)
  · obtain ⟨v, d, rfl, _⟩ := h
    rfl
  · obtain ⟨v, d, rfl, hd, q⟩ := h
    refine ⟨_, (pss_cons (ps_if (pt_not (pt_val (pe_call (G_is_tuple_of.mono (by first | decide | omega)) hr (by rfl) T.g_is_tuple_of T.F_is_tuple_of.kp T.b_is_tuple_of .nil pass0 (pa_cons (pv 0) (pa_cons pe_int pa_nil))))) (pss_one (ps_ret pe_bl)) pss_nil)
      (pss_cons (ps_asg (pv 0) (pg_tup rfl (pgs_cons (pg_name (i := 1) sc_is_shelf.nd rfl (.inl rfl)) (pgs_cons (pg_name (i := 2) sc_is_shelf.nd rfl (.inl rfl)) pgs_nil))))
      (pss_cons (ps_if (pt_not (pt_val (pe_call (G_are_blocks.mono (by first | decide | omega)) hr (by rfl) T.g_are_blocks T.F_are_blocks.kp T.b_are_blocks .nil pass0 (pa_cons (pv 2) pa_nil)))) (pss_one (ps_ret pe_bl)) pss_nil)
      (pss_cons (ps_set (i := 3) sc_is_shelf.nd rfl (.inl rfl) (pe_callB (cr_sumT rfl) (by rfl) T.n_sum (by decide +kernel) (pa_cons (pv 2) pa_nil)))
      (pss_one (ps_ret (pe_call (G_is_within.mono (by first | decide | omega)) hr (by rfl) T.g_is_within T.F_is_within.kp T.b_is_within .nil pass0 (pa_cons (pv 1) (pa_cons (pv 3) (pa_cons (pe_op op_add (pv 3) (pe_glob (by rfl) T.c_MOST_PLAY.2 T.c_MOST_PLAY.1)) pa_nil)))))))))), ?_⟩
    refine ⟨v, rfl, v, d, _, rfl, hd, _, rfl, ?_⟩
    cases e : tupOf d 2 with
    | false =>
      have ef : isShelf d = false := by
        unfold isShelf
        split
        · simp [tupOf] at e
        · rfl
      rw [ef] at q
      exact iteT (q H (Same.refl H))
    | true =>
      refine iteF ?_
      obtain ⟨r, b, rfl⟩ := tupOf2 e
      obtain ⟨a, x, y, rfl, s, h1, h2⟩ := dp_two hd
      refine ⟨.ref a, rfl, a, [x, y], rfl, s, rfl, x, [y], rfl, y, [], rfl, rfl, ?_⟩
      refine ⟨y, rfl, y, b, rfl, h2, fun H' sm => ⟨_, rfl, ?_⟩⟩
      cases e2 : areBlocks b with
      | false =>
        have ef : isShelf (.tuple [r, b]) = false := by
          unfold isShelf
          split
          · rename_i h; cases h
            rw [e2]; rfl
          · rfl
        rw [ef] at q
        exact iteT (q H' sm)
      | true =>
        refine iteF ?_
        cases b with
        | tuple bs =>
          obtain ⟨ls, rfl, n1, n8, l1⟩ := areBlocks_ints e2
          obtain ⟨c, rfl, t⟩ := dp_tI h2
          refine ⟨.ref c, rfl, c, ls, rfl, seqT_mono sm t, ?_⟩
          refine ⟨x, rfl, _, rfl, _, rfl, _, _, rfl, rfl, x, r, _, _, rfl, Dpm sm h1, ?_⟩
          unfold isShelf at q
          simp only at q
          rw [if_pos e2, intOf_iD] at q
          exact q H' sm
        | _ => simp [areBlocks] at e2
def sp_need_shelf (K : PySem.W.Frag) : Sp := fun vs H Q _ => ∃ v d, vs = [v] ∧ Dp K H v d ∧ isShelf d = true ∧ ∀ H', Same H H' → Q .non H'
theorem ok_need_shelf (T : Tx K mg) : FnOk P w K mg base CX0 5 T.f_need_shelf T.fd_need_shelf ["thing"] (sp_need_shelf K) := by
  have G_is_shelf := ok_is_shelf (P := P) (w := w) (base := base) T
  refine T.F_need_shelf.ok sc_need_shelf (fun vs H Q E h => ?_) (fun cdv A outer s H vs Q E hr h => ?_)
  · obtain ⟨v, d, rfl, _⟩ := h
    rfl
  · obtain ⟨v, d, rfl, hd, e, q⟩ := h
    refine ⟨_, (pss_one (ps_if (pt_not (pt_val (pe_call (G_is_shelf.mono (by first | decide | omega)) hr (by rfl) T.g_is_shelf T.F_is_shelf.kp T.b_is_shelf .nil pass0 (pa_cons (pv 0) pa_nil)))) (pss_one ps_never) pss_nil)), ?_⟩
    refine ⟨v, rfl, v, d, rfl, hd, fun H' sm => ⟨_, rfl, ?_⟩⟩
    rw [e]
    exact iteF (q H' sm)
/-! ### play_of, gap_length -/
def sp_play_of (K : PySem.W.Frag) : Sp := fun vs H Q _ => ∃ v room ls, vs = [v] ∧ Dp K H v (shD room ls) ∧ Q (.int (room - ls.sum)) H
theorem ok_play_of (T : Tx K mg) : FnOk P w K mg base CX0 1 T.f_play_of T.fd_play_of ["shelf"] (sp_play_of K) := by
  refine T.F_play_of.ok sc_play_of (fun vs H Q E h => ?_) (fun cdv A outer s H vs Q E hr h => ?_)
  · obtain ⟨v, d, _, rfl, _⟩ := h
    rfl
  · obtain ⟨v, room, ls, rfl, hd, q⟩ := h
    obtain ⟨a, b, rfl, s, t⟩ := dp_shelf hd
    refine ⟨_, (pss_cons (ps_asg (pv 0) (pg_tup rfl (pgs_cons (pg_name (i := 1) sc_play_of.nd rfl (.inl rfl)) (pgs_cons (pg_name (i := 2) sc_play_of.nd rfl (.inl rfl)) pgs_nil))))
      (pss_one (ps_ret (pe_op op_sub (pv 1) (pe_callB (cr_sumT rfl) (by rfl) T.n_sum (by decide +kernel) (pa_cons (pv 2) pa_nil)))))), ?_⟩
    exact ⟨.ref a, rfl, a, _, rfl, s, rfl, _, _, rfl, _, [], rfl, rfl, _, rfl, _, rfl, b, ls, rfl, t, _, _, rfl, rfl, q⟩
def sp_gap_length (K : PySem.W.Frag) : Sp := fun vs H Q _ => ∃ v room ls g, vs = [v, .int (g : Nat)] ∧ Dp K H v (shD room ls) ∧ RI H Q (pre ls g)
theorem ok_gap_length (T : Tx K mg) : FnOk P w K mg base CX0 1 T.f_gap_length T.fd_gap_length ["shelf", "gap"] (sp_gap_length K) := by
  refine T.F_gap_length.ok sc_gap_length (fun vs H Q E h => ?_) (fun cdv A outer s H vs Q E hr h => ?_)
  · obtain ⟨v, d, _, _, rfl, _⟩ := h
    rfl
  · obtain ⟨v, room, ls, g, rfl, hd, q⟩ := h
    obtain ⟨a, b, rfl, s, t⟩ := dp_shelf hd
    refine ⟨_, (pss_one (ps_ret (pe_callB (cr_sumT rfl) (by rfl) T.n_sum (by decide +kernel) (pa_cons (pe_slice sl_tupA (pe_ix ix_tup (pv 0) pe_int (fun _ _ => rfl)) po_none (po_some (pv 1))) pa_nil)))), ?_⟩
    refine ⟨.ref a, rfl, a, _, 1, _, rfl, rfl, s, atI_nat (j := 1) rfl, _, rfl, _, rfl, ?_⟩
    refine slT_to (k := g) t fun p H' sm st => ⟨p, ls.take g, rfl, ?_, q H' sm⟩
    rw [← List.map_take] at st
    exact st
/-! ### is_stand, need_stand -/
def sp_is_stand (K : PySem.W.Frag) : Sp := fun vs H Q _ => ∃ v u room ls d, vs = [v, u] ∧ Dp K H v (shD room ls) ∧ ShOk room ls ∧ Dp K H u d ∧ RB H Q (isStand room ls d)
theorem ok_is_stand (T : Tx K mg) : FnOk P w K mg base CX0 6 T.f_is_stand T.fd_is_stand ["shelf", "thing"] (sp_is_stand K) := by
  have G_need_shelf := ok_need_shelf (P := P) (w := w) (base := base) T
  have G_is_tuple_of := ok_is_tuple_of (P := P) (w := w) (base := base) T
  have G_is_whole := ok_is_whole (P := P) (w := w) (base := base) T
  refine T.F_is_stand.ok sc_is_stand (fun vs H Q E h => ?_) (fun cdv A outer s H vs Q E hr h => ?_)
  · obtain ⟨v, u, _, _, d, rfl, _⟩ := h
    rfl
  · obtain ⟨v, u, room, ls, d, rfl, hs, sh, hd, q⟩ := h
    refine ⟨_, (pss_cons (ps_expr (pe_call (G_need_shelf.mono (by first | decide | omega)) hr (by rfl) T.g_need_shelf T.F_need_shelf.kp T.b_need_shelf .nil pass0 (pa_cons (pv 0) pa_nil)))
      (pss_cons (ps_asg (pv 0) (pg_tup rfl (pgs_cons (pg_name (i := 2) sc_is_stand.nd rfl (.inl rfl)) (pgs_cons (pg_name (i := 3) sc_is_stand.nd rfl (.inl rfl)) pgs_nil))))
      (pss_cons (ps_if (pt_not (pt_val (pe_call (G_is_tuple_of.mono (by first | decide | omega)) hr (by rfl) T.g_is_tuple_of T.F_is_tuple_of.kp T.b_is_tuple_of .nil pass0 (pa_cons (pv 1) (pa_cons (pe_callB call_len_seq (by rfl) T.n_len (by decide +kernel) (pa_cons (pv 3) pa_nil)) pa_nil))))) (pss_one (ps_ret pe_bl)) pss_nil)
      (pss_cons (ps_set (i := 4) sc_is_stand.nd rfl (.inl rfl) pe_int)
      (pss_cons (ps_for PassesOwn.never rfl (pi_zip2 false false (by rfl) T.n_zip (pa_cons (pv 1) (pa_cons (pv 3) pa_nil))) (pg_tup rfl (pgs_cons (pg_name (i := 5) sc_is_stand.nd rfl (.inl rfl)) (pgs_cons (pg_name (i := 6) sc_is_stand.nd rfl (.inl rfl)) pgs_nil)))
      (pss_cons (ps_if (PW.pt (pw_or (pt_not (pt_val (pe_call (G_is_whole.mono (by first | decide | omega)) hr (by rfl) T.g_is_whole T.F_is_whole.kp T.b_is_whole .nil pass0 (pa_cons (pv 5) pa_nil)))) (pw_or1 (pt_cmpR op_lt (pv 5) (pv 4) (nomark _))))) (pss_one (ps_ret pe_bl)) pss_nil)
      (pss_one (ps_set (i := 4) sc_is_stand.nd rfl (.inl rfl) (pe_op op_add (pv 5) (pv 6))))))
      (pss_one (ps_ret (pe_cmpR op_le (pv 4) (pv 2) (nomark _))))))))), ?_⟩
    refine ⟨v, rfl, v, _, rfl, hs, isShelf_ok sh, fun H1 s1 => ?_⟩
    obtain ⟨a, b, rfl, sa, sb⟩ := dp_shelf (Dpm s1 hs)
    refine ⟨.ref a, rfl, a, _, rfl, sa, rfl, _, _, rfl, _, [], rfl, rfl, ?_⟩
    refine ⟨u, rfl, .ref b, rfl, b, _, rfl, .inr sb, u, d, _, rfl, Dpm s1 hd, _, rfl, ?_⟩
    rw [List.length_map]
    cases e : tupOf d ls.length with
    | false =>
      have ef : isStand room ls d = false := by
        unfold isStand
        cases d with
        | tuple ds =>
          simp only
          rw [if_neg (of_decide_eq_false e)]
        | _ => rfl
      rw [ef] at q
      exact iteT (q H1 s1)
    | true =>
      refine iteF ?_
      cases d with
      | tuple ds =>
        have el : (ds.length : Int) = ls.length := of_decide_eq_true e
        unfold isStand at q
        simp only at q
        rw [if_pos el] at q
        obtain ⟨c, xs, rfl, sc, al⟩ := dp_tup (Dpm s1 hd)
        have hxl := dpAll_len al
        refine ⟨.ref c, rfl, .ref b, rfl, c, b, xs, iV ls, rfl, sc, sb, ?_⟩
        refine for_it (walk_2 (n := ls.length) (xs := xs) (ys := iV ls) (by rw [List.length_map]; omega)) (fun i σ H' => Same H1 H' ∧ ∃ e y5 y6, σ = [some (.ref a), some (.ref c), some (.int room), some (.ref b), some (.int e), y5, y6] ∧ standG room e (ds.drop i) (ls.drop i) = standG room 0 ds ls)
          ⟨Same.refl H1, 0, none, none, rfl, rfl⟩ (fun i σ H' _ p => ⟨seqT_mono p.1 sc, seqT_mono p.1 sb⟩) (fun i x σ H' H2 hi p y => ?_) (fun σ H' p => ?_)
        · obtain ⟨s2, e0, y5, y6, rfl, eq⟩ := p
          obtain ⟨Tt, x, y, rfl, nT, rfl, hx, hy⟩ := y
          have s3 : Same H1 (upd H' Tt (.tup [x, y])) := s2.trans (same_new nT)
          obtain ⟨dx, e1, e2⟩ := dpAll_get al hx
          have hy' : y = .int ls[i] := by
            rw [List.getElem?_map, List.getElem?_eq_getElem hi] at hy
            exact (Option.some.inj hy).symm
          subst hy'
          refine ⟨Tt, _, rfl, .inl (.inl upd_same), rfl, _, _, rfl, _, [], rfl, rfl, ?_⟩
          refine ⟨x, rfl, x, dx, rfl, Dpm s3 e2, _, rfl, ?_⟩
          have hd1 : i < ds.length := by omega
          have e1' : ds[i] = dx := by
            rw [List.getElem?_eq_getElem hd1] at e1
            exact Option.some.inj e1
          rw [List.drop_eq_getElem_cons hd1, List.drop_eq_getElem_cons hi, e1'] at eq
          cases e2 with
          | int k =>
            refine iteF ⟨_, rfl, _, rfl, _, _, rfl, rfl, _, rfl, ?_⟩
            have eq : (if k < e0 then false else standG room (k + ls[i]) (ds.drop (i + 1)) (ls.drop (i + 1))) = standG room 0 ds ls := eq
            by_cases hk : k < e0
            · rw [if_pos hk] at eq
              rw [← eq] at q
              rw [decide_eq_true hk]
              exact iteT (q _ (s1.trans s3))
            · rw [if_neg hk] at eq
              rw [decide_eq_false hk]
              exact iteF ⟨_, rfl, _, rfl, _, _, rfl, rfl, s3, _, _, _, rfl, eq⟩
          | _ =>
            refine iteT ?_
            have eq : false = standG room 0 ds ls := eq
            rw [← eq] at q
            exact q _ (s1.trans s3)
        · obtain ⟨s2, e0, y5, y6, rfl, eq⟩ := p
          rw [List.drop_of_length_le (by omega), List.drop_of_length_le (Nat.le_refl _)] at eq
          refine ⟨_, rfl, _, rfl, _, _, rfl, rfl, ?_⟩
          rw [← eq] at q
          exact q _ (s1.trans s2)
      | _ => simp [tupOf] at e
def sp_need_stand (K : PySem.W.Frag) : Sp := fun vs H Q _ => ∃ v u room ls d, vs = [v, u] ∧ Dp K H v (shD room ls) ∧ ShOk room ls ∧ Dp K H u d ∧ isStand room ls d = true ∧ ∀ H', Same H H' → Q .non H'
theorem ok_need_stand (T : Tx K mg) : FnOk P w K mg base CX0 7 T.f_need_stand T.fd_need_stand ["shelf", "thing"] (sp_need_stand K) := by
  have G_is_stand := ok_is_stand (P := P) (w := w) (base := base) T
  refine T.F_need_stand.ok sc_need_stand (fun vs H Q E h => ?_) (fun cdv A outer s H vs Q E hr h => ?_)
  · obtain ⟨v, u, _, _, d, rfl, _⟩ := h
    rfl
  · obtain ⟨v, u, room, ls, d, rfl, hs, sh, hd, e, q⟩ := h
    refine ⟨_, (pss_one (ps_if (pt_not (pt_val (pe_call (G_is_stand.mono (by first | decide | omega)) hr (by rfl) T.g_is_stand T.F_is_stand.kp T.b_is_stand .nil pass0 (pa_cons (pv 0) (pa_cons (pv 1) pa_nil))))) (pss_one ps_never) pss_nil)), ?_⟩
    refine ⟨v, rfl, u, rfl, v, u, room, ls, d, rfl, hs, sh, hd, fun H' sm => ⟨_, rfl, ?_⟩⟩
    rw [e]
    exact iteF (q H' sm)
end PS

namespace PS
open PySem PySem.Spec PyProof.Rows L2
variable {P : Program} {w : World} {K : PySem.W.Frag} {mg : Str → Option Value} {base : Heap}
/-! ### is_gap, is_push, is_row -/
def sp_is_gap (K : PySem.W.Frag) : Sp := fun vs H Q _ => ∃ v s g room ls sd gd, vs = [v, s, g] ∧ Dp K H v (shD room ls) ∧ Dp K H s sd ∧ sd.depth ≤ 64 ∧ Dp K H g gd ∧ Q (.bl (isGap ls.length sd gd)) H
theorem ok_is_gap (T : Tx K mg) : FnOk P w K mg base CX0 3 T.f_is_gap T.fd_is_gap ["shelf", "side", "thing"] (sp_is_gap K) := by
  have G_is_within := ok_is_within (P := P) (w := w) (base := base) T
  refine T.F_is_gap.ok sc_is_gap (fun vs H Q E h => ?_) (fun cdv A outer s H vs Q E hr h => ?_)
  · obtain ⟨v, s, g, _, _, _, _, rfl, _⟩ := h
    rfl
  · obtain ⟨v, s, g, room, ls, sd, gd, rfl, hv, hs, dep, hg, q⟩ := h
    obtain ⟨a, b, rfl, sa, sb⟩ := dp_shelf hv
    refine ⟨_, (pss_cons (ps_set (i := 3) sc_is_gap.nd rfl (.inl rfl) (pe_callB call_len_seq (by rfl) T.n_len (by decide +kernel) (pa_cons (pe_ix ix_tup (pv 0) pe_int (fun _ _ => rfl)) pa_nil)))
      (pss_cons (ps_if (pt_cmpR (op_eqP hr.units) (pv 1) pe_str (nomark _)) (pss_one (ps_ret (pe_call (G_is_within.mono (by first | decide | omega)) hr (by rfl) T.g_is_within T.F_is_within.kp T.b_is_within .nil pass0 (pa_cons (pv 2) (pa_cons pe_int (pa_cons (pe_op op_sub (pv 3) pe_int) pa_nil)))))) pss_nil)
      (pss_cons (ps_if (pt_cmpR (op_eqP hr.units) (pv 1) pe_str (nomark _)) (pss_one (ps_ret (pe_call (G_is_within.mono (by first | decide | omega)) hr (by rfl) T.g_is_within T.F_is_within.kp T.b_is_within .nil pass0 (pa_cons (pv 2) (pa_cons pe_int (pa_cons (pv 3) pa_nil)))))) pss_nil)
      (pss_one (ps_ret pe_bl))))), ?_⟩
    have hl : (iV ls).length = ls.length := List.length_map ..
    refine ⟨.ref a, rfl, a, _, 1, _, rfl, rfl, sa, atI_nat (j := 1) rfl, b, _, rfl, .inr sb, ?_⟩
    rw [hl]
    refine ⟨s, rfl, sd, _, hs, .str _, dep, _, rfl, ?_⟩
    unfold isGap at q
    cases e : PyData.eqv sd (.str "right") with
    | true =>
      rw [if_pos e] at q
      exact iteT ⟨g, rfl, _, rfl, _, _, rfl, rfl, g, gd, _, _, rfl, hg, q⟩
    | false =>
      rw [if_neg (by simp [e])] at q
      refine iteF ⟨s, rfl, sd, _, hs, .str _, dep, _, rfl, ?_⟩
      cases e2 : PyData.eqv sd (.str "left") with
      | true =>
        rw [if_pos e2] at q
        exact iteT ⟨g, rfl, _, rfl, g, gd, _, _, rfl, hg, q⟩
      | false =>
        rw [if_neg (by simp [e2])] at q
        exact iteF q
theorem within_int {d : PyData} {lo hi : Int} (h : within d lo hi = true) : ∃ i, d = .int i ∧ lo ≤ i ∧ i ≤ hi := by
  cases d with
  | int i =>
    have h : (if lo ≤ i then decide (i ≤ hi) else false) = true := h
    by_cases hl : lo ≤ i
    · rw [if_pos hl] at h
      exact ⟨i, rfl, hl, of_decide_eq_true h⟩
    · rw [if_neg hl] at h; cases h
  | _ => simp [within] at h
theorem isGap_int {n : Int} {s g : PyData} (h : isGap n s g = true) : ∃ k : Nat, g = .int (k : Int) := by
  unfold isGap at h
  split at h
  · obtain ⟨i, rfl, h0, _⟩ := within_int h
    exact ⟨i.toNat, by rw [Int.toNat_of_nonneg h0]⟩
  · split at h
    · obtain ⟨i, rfl, h0, _⟩ := within_int h
      exact ⟨i.toNat, by rw [Int.toNat_of_nonneg (by omega)]⟩
    · cases h
def sp_is_push (K : PySem.W.Frag) : Sp := fun vs H Q _ => ∃ v u room ls d, vs = [v, u] ∧ Dp K H v (shD room ls) ∧ Dp K H u d ∧ d.depth ≤ 64 ∧ RB H Q (isPush room ls d)
theorem ok_is_push (T : Tx K mg) : FnOk P w K mg base CX0 4 T.f_is_push T.fd_is_push ["shelf", "thing"] (sp_is_push K) := by
  have G_is_tuple_of := ok_is_tuple_of (P := P) (w := w) (base := base) T
  have G_is_gap := ok_is_gap (P := P) (w := w) (base := base) T
  have G_gap_length := ok_gap_length (P := P) (w := w) (base := base) T
  have G_is_within := ok_is_within (P := P) (w := w) (base := base) T
  have G_play_of := ok_play_of (P := P) (w := w) (base := base) T
  refine T.F_is_push.ok sc_is_push (fun vs H Q E h => ?_) (fun cdv A outer s H vs Q E hr h => ?_)
  · obtain ⟨v, u, _, _, d, rfl, _⟩ := h
    rfl
  · obtain ⟨v, u, room, ls, d, rfl, hv, hd, dep, q⟩ := h
    refine ⟨_, (pss_cons (ps_if (pt_not (pt_val (pe_call (G_is_tuple_of.mono (by first | decide | omega)) hr (by rfl) T.g_is_tuple_of T.F_is_tuple_of.kp T.b_is_tuple_of .nil pass0 (pa_cons (pv 1) (pa_cons pe_int pa_nil))))) (pss_one (ps_ret pe_bl)) pss_nil)
      (pss_cons (ps_asg (pv 1) (pg_tup rfl (pgs_cons (pg_name (i := 2) sc_is_push.nd rfl (.inl rfl)) (pgs_cons (pg_name (i := 3) sc_is_push.nd rfl (.inl rfl)) (pgs_cons (pg_name (i := 4) sc_is_push.nd rfl (.inl rfl)) pgs_nil)))))
      (pss_cons (ps_if (pt_not (pt_val (pe_call (G_is_gap.mono (by first | decide | omega)) hr (by rfl) T.g_is_gap T.F_is_gap.kp T.b_is_gap .nil pass0 (pa_cons (pv 0) (pa_cons (pv 2) (pa_cons (pv 3) pa_nil)))))) (pss_one (ps_ret pe_bl)) pss_nil)
      (pss_cons (ps_set (i := 5) sc_is_push.nd rfl (.inl rfl) (pe_call (G_gap_length.mono (by first | decide | omega)) hr (by rfl) T.g_gap_length T.F_gap_length.kp T.b_gap_length .nil pass0 (pa_cons (pv 0) (pa_cons (pv 3) pa_nil))))
      (pss_one (ps_ret (pe_call (G_is_within.mono (by first | decide | omega)) hr (by rfl) T.g_is_within T.F_is_within.kp T.b_is_within .nil pass0 (pa_cons (pv 4) (pa_cons (pv 5) (pa_cons (pe_op op_add (pv 5) (pe_call (G_play_of.mono (by first | decide | omega)) hr (by rfl) T.g_play_of T.F_play_of.kp T.b_play_of .nil pass0 (pa_cons (pv 0) pa_nil))) pa_nil)))))))))), ?_⟩
    refine ⟨u, rfl, u, d, _, rfl, hd, _, rfl, ?_⟩
    cases e : tupOf d 3 with
    | false =>
      have ef : isPush room ls d = false := by
        unfold isPush
        split
        · simp [tupOf] at e
        · rfl
      rw [ef] at q
      exact iteT (q H (Same.refl H))
    | true =>
      refine iteF ?_
      obtain ⟨s, g, p, rfl⟩ := tupOf3 e
      obtain ⟨a, x, y, z, rfl, sq, h1, h2, h3⟩ := dp_three hd
      have dall : PyData.depthAll [s, g, p] + 1 ≤ 64 := by simpa [PyData.depth] using dep
      have ds : s.depth ≤ 64 := Nat.le_trans (depth_of_all (n := 63) [s, g, p] (by omega) s (by simp)) (by decide)
      refine ⟨.ref a, rfl, a, _, rfl, sq, rfl, _, _, rfl, _, _, rfl, _, [], rfl, rfl, ?_⟩
      refine ⟨v, rfl, x, rfl, y, rfl, v, x, y, room, ls, s, g, rfl, hv, h1, ds, h2, _, rfl, ?_⟩
      unfold isPush at q
      simp only at q
      cases e2 : isGap ls.length s g with
      | false =>
        rw [if_neg (by simp [e2])] at q
        exact iteT (q H (Same.refl H))
      | true =>
        rw [if_pos e2] at q
        refine iteF ?_
        obtain ⟨k, rfl⟩ := isGap_int e2
        cases dp_int h2
        refine ⟨v, rfl, _, rfl, v, room, ls, k, rfl, hv, fun H' sm => ?_⟩
        refine ⟨z, rfl, _, rfl, _, rfl, v, rfl, v, room, ls, rfl, Dpm sm hv, _, _, rfl, rfl, z, p, _, _, rfl, Dpm sm h3, ?_⟩
        simpa [intOf] using q H' sm
def sp_is_row (K : PySem.W.Frag) : Sp := fun vs H Q _ => ∃ v u room ls d, vs = [v, u] ∧ Dp K H v (shD room ls) ∧ ShOk room ls ∧ Dp K H u d ∧ d.depth ≤ 64 ∧ RB H Q (isRow room ls d)
theorem ok_is_row (T : Tx K mg) : FnOk P w K mg base CX0 6 T.f_is_row T.fd_is_row ["shelf", "thing"] (sp_is_row K) := by
  have G_need_shelf := ok_need_shelf (P := P) (w := w) (base := base) T
  have G_is_push := ok_is_push (P := P) (w := w) (base := base) T
  refine T.F_is_row.ok sc_is_row (fun vs H Q E h => ?_) (fun cdv A outer s H vs Q E hr h => ?_)
  · obtain ⟨v, u, _, _, d, rfl, _⟩ := h
    rfl
  · obtain ⟨v, u, room, ls, d, rfl, hv, sh, hd, dep, q⟩ := h
    refine ⟨_, (pss_cons (ps_expr (pe_call (G_need_shelf.mono (by first | decide | omega)) hr (by rfl) T.g_need_shelf T.F_need_shelf.kp T.b_need_shelf .nil pass0 (pa_cons (pv 0) pa_nil)))
      (pss_cons (ps_if (PW.pt (pw_or (pt_not (pt_val (pe_callB call_isD (by rfl) T.n_isinstance (by decide +kernel) (pa_cons (pv 1) (pa_cons (pe_bltn (v := .ty "list") (by rfl) T.n_list (by decide +kernel) rfl) pa_nil))))) (pw_or1 (pt_cmpR op_gt (pe_callB call_len_seq (by rfl) T.n_len (by decide +kernel) (pa_cons (pv 1) pa_nil)) (pe_glob (by rfl) T.c_MOST_PUSHES.2 T.c_MOST_PUSHES.1) (nomark _))))) (pss_one (ps_ret pe_bl)) pss_nil)
      (pss_one (ps_ret (pe_callB (cr_all rfl) (by rfl) T.n_all (by decide +kernel) (pa_cons (pe_lc (own := [("push", 2)]) (g := gName 2) (tt := tYes) rfl sc_is_row.nd (pi_list (pv 1)) (blkOk_by (own := [("push", 2)]) (N := ["shelf", "thing", "push"]) (sc := defScope s_is_row) (by decide +kernel)) (fun _ _ _ _ _ => (pg_name (i := 2) sc_is_row.nd rfl (.inl rfl))) (fun _ _ _ _ _ => pts_nil) (fun _ _ _ _ _ => (pe_call (G_is_push.mono (by first | decide | omega)) hr (by rfl) T.g_is_push T.F_is_push.kp T.b_is_push .nil pass0 (pa_cons (pv 0) (pa_cons (pv 2) pa_nil))))) pa_nil)))))), ?_⟩
    refine ⟨v, rfl, v, _, rfl, hv, isShelf_ok sh, fun H1 s1 => ?_⟩
    refine ⟨u, rfl, u, _, d, rfl, Dpm s1 hd, kList d, _, rfl, ?_⟩
    rw [isA_list]
    cases hd with
    | @lst a xs ds s al =>
      have hl := dpAll_len al
      have s' := s1.seq s
      refine iteF ⟨.ref a, rfl, a, xs, rfl, .inl s', _, _, rfl, rfl, _, rfl, ?_⟩
      have q : RB H Q (if (ds.length : Int) > 200 then false else ds.all (isPush room ls)) := q
      rw [hl]
      by_cases h2 : (ds.length : Int) > 200
      · rw [if_pos h2] at q
        rw [decide_eq_true h2]
        exact iteT (q H1 s1)
      · rw [if_neg h2] at q
        rw [decide_eq_false h2]
        refine iteF ?_
        have dall : PyData.depthAll ds + 1 ≤ 64 := by simpa [PyData.depth] using dep
        refine ⟨.ref a, rfl, a, rfl, ⟨xs, s'⟩, fun D nD => ?_⟩
        refine lc_list (K := K) (a := a) (xs := xs) (fun i H' => Same H1 H' ∧ H' D = some (.lst ((ds.take i).map fun x => V.bl (isPush room ls x)))) ⟨same_new nD, by rw [upd_same]; rfl⟩ (fun i H' _ p => p.1.seq s') (fun i x H' hx p => ?_) (fun H' p => ?_)
        · obtain ⟨d, e1, e2⟩ := dpAll_get al hx
          have hi : i < xs.length := (List.getElem?_eq_some_iff.mp hx).1
          have hm : d ∈ ds := List.mem_of_getElem? e1
          refine ⟨rfl, v, rfl, x, rfl, v, x, room, ls, d, rfl, Dpm (s1.trans p.1) hv, Dpm (s1.trans p.1) e2, Nat.le_trans (depth_of_all (n := 63) _ (by omega) d hm) (by decide), fun H3 s3 => ?_⟩
          refine ⟨_, s3 _ _ p.2, ?_, ?_, ?_⟩
          · rw [List.length_map, List.length_take]
            exact small1000 (by omega)
          · intro b o hb
            have nb : b ≠ D := ne_of_none hb nD
            rw [upd_ne nb]
            exact s3 _ _ (p.1 b o hb)
          · rw [upd_same, List.take_add_one, e1, List.map_append]
            rfl
        · refine ⟨D, (ds.map (isPush room ls)), rfl, .inl (.inl ?_), ?_⟩
          · rw [p.2, hl, List.take_length, List.map_map]
            rfl
          · rw [show (ds.map (isPush room ls)).all id = ds.all (isPush room ls) from by rw [List.all_map]; rfl]
            exact q H' (s1.trans p.1)
    | _ => exact iteT (q H1 s1)
def sp_need_row (K : PySem.W.Frag) : Sp := fun vs H Q _ => ∃ v u room ls d, vs = [v, u] ∧ Dp K H v (shD room ls) ∧ ShOk room ls ∧ Dp K H u d ∧ d.depth ≤ 64 ∧ isRow room ls d = true ∧ ∀ H', Same H H' → Q .non H'
theorem ok_need_row (T : Tx K mg) : FnOk P w K mg base CX0 7 T.f_need_row T.fd_need_row ["shelf", "thing"] (sp_need_row K) := by
  have G_is_row := ok_is_row (P := P) (w := w) (base := base) T
  refine T.F_need_row.ok sc_need_row (fun vs H Q E h => ?_) (fun cdv A outer s H vs Q E hr h => ?_)
  · obtain ⟨v, u, _, _, d, rfl, _⟩ := h
    rfl
  · obtain ⟨v, u, room, ls, d, rfl, hs, sh, hd, dep, e, q⟩ := h
    refine ⟨_, (pss_one (ps_if (pt_not (pt_val (pe_call (G_is_row.mono (by first | decide | omega)) hr (by rfl) T.g_is_row T.F_is_row.kp T.b_is_row .nil pass0 (pa_cons (pv 0) (pa_cons (pv 1) pa_nil))))) (pss_one ps_never) pss_nil)), ?_⟩
    refine ⟨v, rfl, u, rfl, v, u, room, ls, d, rfl, hs, sh, hd, dep, fun H' sm => ⟨_, rfl, ?_⟩⟩
    rw [e]
    exact iteF (q H' sm)
end PS

namespace PS
open PySem PySem.Spec PyProof.Rows L2
variable {P : Program} {w : World} {K : PySem.W.Frag} {mg : Str → Option Value} {base : Heap}
/-- what is known of the places while a push to the right goes on -/
def zR (g : Nat) (b : Int) (y : Nat → Int) (i : Nat) : Nat → Int := fun j => if g ≤ j ∧ j < g + i then max (y j) b else y j
def zL (g : Nat) (b : Int) (y : Nat → Int) (i : Nat) : Nat → Int := fun j => if g - i ≤ j ∧ j < g then min (y j) b else y j
def eR (g : Nat) (b : Int) (y : Nat → Int) (i : Nat) : Int := if i = 0 then b else max (y (g + i - 1)) b
def eL (g : Nat) (b : Int) (y : Nat → Int) (i : Nat) : Int := if i = 0 then b else min (y (g - i)) b
theorem zR_step {n g i : Nat} {pl b : Int} {y : Nat → Int} (h : Rise n pl y) (hi : g + i < n) : max (zR g b y i (g + i)) (eR g b y i) = max (y (g + i)) b := by
  have e1 : zR g b y i (g + i) = y (g + i) := by unfold zR; rw [if_neg (by omega)]
  rw [e1]
  unfold eR
  split
  · rfl
  · have := h.up (g + i - 1) (by omega)
    rw [show g + i - 1 + 1 = g + i from by omega] at this
    omega
theorem zL_step {n g i : Nat} {pl b : Int} {y : Nat → Int} (h : Rise n pl y) (hg : g ≤ n) (hi : i < g) : min (zL g b y i (g - 1 - i)) (eL g b y i) = min (y (g - 1 - i)) b := by
  have e1 : zL g b y i (g - 1 - i) = y (g - 1 - i) := by unfold zL; rw [if_neg (by omega)]
  rw [e1]
  unfold eL
  split
  · rfl
  · have := h.up (g - 1 - i) (by omega)
    rw [show g - 1 - i + 1 = g - i from by omega] at this
    omega
theorem zR_next {ls : List Int} {g i : Nat} {b : Int} {y : Nat → Int} (hi : g + i < ls.length) : (stL ls (zR g b y i)).set (g + i) (max (y (g + i)) b + pre ls (g + i)) = stL ls (zR g b y (i + 1)) := by
  rw [stL_set hi]
  apply stL_congr
  intro j hj
  unfold zR
  by_cases e : j = g + i
  · rw [if_pos e, if_pos (by omega)]
    subst e
    omega
  · rw [if_neg e]
    by_cases h2 : g ≤ j ∧ j < g + i
    · rw [if_pos h2, if_pos (by omega)]
    · rw [if_neg h2, if_neg (by omega)]
theorem zL_next {ls : List Int} {g i : Nat} {b : Int} {y : Nat → Int} (hg : g ≤ ls.length) (hi : i < g) : (stL ls (zL g b y i)).set (g - 1 - i) (min (y (g - 1 - i)) b + pre ls (g - 1 - i)) = stL ls (zL g b y (i + 1)) := by
  rw [stL_set (by omega)]
  apply stL_congr
  intro j hj
  unfold zL
  by_cases e : j = g - 1 - i
  · rw [if_pos e, if_pos (by omega)]
    subst e
    omega
  · rw [if_neg e]
    by_cases h2 : g - i ≤ j ∧ j < g
    · rw [if_pos h2, if_pos (by omega)]
    · rw [if_neg h2, if_neg (by omega)]
/-! ### pushed_right, pushed_left -/
def sp_pushed_right (K : PySem.W.Frag) : Sp := fun vs H Q _ => ∃ v u ls y g b pl, vs = [v, u, .int (g : Nat), .int (b + pre ls g)] ∧ Dp K H v (tI ls) ∧ Dp K H u (tI (stL ls y)) ∧ Rise ls.length pl y ∧ ls.length ≤ 8 ∧ g ≤ ls.length ∧ RD K H Q (tI (stL ls (pR g b y)))
theorem ok_pushed_right (T : Tx K mg) : FnOk P w K mg base CX0 1 T.f_pushed_right T.fd_pushed_right ["blocks", "stand", "gap", "place"] (sp_pushed_right K) := by
  refine T.F_pushed_right.ok sc_pushed_right (fun vs H Q E h => ?_) (fun cdv A outer s H vs Q E hr h => ?_)
  · obtain ⟨_, _, _, _, _, _, _, rfl, _⟩ := h
    rfl
  · obtain ⟨v, u, ls, y, g, b, pl, rfl, hv, hu, ri, n8, hg, q⟩ := h
    obtain ⟨a, rfl, sa⟩ := dp_tI hv
    obtain ⟨c, rfl, sc⟩ := dp_tI hu
    refine ⟨_, (pss_cons (ps_set (i := 4) sc_pushed_right.nd rfl (.inl rfl) (pe_callTy call_list_of (by rfl) T.n_list (by decide +kernel) (pa_cons (pv 1) pa_nil)))
      (pss_cons (ps_set (i := 5) sc_pushed_right.nd rfl (.inl rfl) (pv 3))
      (pss_cons (ps_for PassesOwn.never rfl (pi_range2 (by rfl) T.n_range (pa_cons (pv 2) (pa_cons (pe_callB call_len_seq (by rfl) T.n_len (by decide +kernel) (pa_cons (pv 0) pa_nil)) pa_nil))) (pg_name (i := 6) sc_pushed_right.nd rfl (.inl rfl))
      (pss_cons (ps_asg (pe_callB (call_max2 rfl) (by rfl) T.n_max (by decide +kernel) (pa_cons (pe_ix ix_list (pv 4) (pv 6) (fun _ _ => rfl)) (pa_cons (pv 5) pa_nil))) (pg_sub (pv 4) (pv 6) set_list))
      (pss_one (ps_set (i := 5) sc_pushed_right.nd rfl (.inl rfl) (pe_op op_add (pe_ix ix_list (pv 4) (pv 6) (fun _ _ => rfl)) (pe_ix ix_tup (pv 0) (pv 6) (fun _ _ => rfl)))))))
      (pss_one (ps_ret (pe_callTy call_tuple_of (by rfl) T.n_tuple (by decide +kernel) (pa_cons (pv 4) pa_nil))))))), ?_⟩
    refine ⟨.ref c, rfl, c, _, rfl, .inr sc, fun l nl => ?_⟩
    refine ⟨_, rfl, ?_⟩
    refine ⟨_, rfl, .ref a, rfl, a, _, rfl, .inr (seqT_mono (same_new nl) sa), _, _, rfl, ⟨by omega, by omega, by omega, by rw [iV_len]; omega⟩, ?_⟩
    refine for_range (lo := (g : Int)) (n := (((iV ls).length : Int) - (g : Int)).toNat) (fun i σ H' => Same H H' ∧ H' l = some (.lst (iV (stL ls (zR g b y i)))) ∧ ∃ y6, σ = [some (.ref a), some (.ref c), some (.int (g : Nat)), some (.int (b + pre ls g)), some (.ref l), some (.int (eR g b y i + pre ls (g + i))), y6])
      ⟨same_new nl, ?_, none, ?_⟩ (fun i σ H' hi p => ?_) (fun σ H' p => ?_)
    · rw [upd_same]
      congr 3
      apply stL_congr
      intro j hj
      unfold zR
      rw [if_neg (by omega)]
    · rfl
    · obtain ⟨s1, hl, y6, rfl⟩ := p
      rw [iV_len] at hi
      have hgi : g + i < ls.length := by omega
      have eat : (g : Int) + (i : Int) = ((g + i : Nat) : Int) := by omega
      have g1 := iV_get (stL_get (y := zR g b y i) hgi)
      have e1 : (if eR g b y i + pre ls (g + i) > zR g b y i (g + i) + pre ls (g + i) then eR g b y i + pre ls (g + i) else zR g b y i (g + i) + pre ls (g + i)) = max (y (g + i)) b + pre ls (g + i) := by
        rw [← zR_step ri hgi]
        split <;> omega
      refine ⟨.ref l, rfl, _, rfl, l, _, _, _, rfl, rfl, .inl (.inl hl), at_of eat g1, _, rfl, _, _, rfl, ?_⟩
      rw [e1]
      refine ⟨.ref l, rfl, _, rfl, l, _, _, g + i, rfl, rfl, hl, ixN_at eat (by rw [iV_len, stL_len]; exact hgi), ?_⟩
      rw [iV_set, zR_next hgi]
      have g2 := iV_get (stL_get (y := zR g b y (i + 1)) hgi)
      have e2 : zR g b y (i + 1) (g + i) = max (y (g + i)) b := by unfold zR; rw [if_pos (by omega)]
      have s2 : Same H (upd H' l (.lst (iV (stL ls (zR g b y (i + 1)))))) := fun b o hb => by
        rw [upd_ne (ne_of_none hb nl)]
        exact s1 b o hb
      refine ⟨.ref l, rfl, _, rfl, l, _, _, _, rfl, rfl, .inl (.inl upd_same), at_of eat g2, .ref a, rfl, _, rfl, a, _, _, _, rfl, rfl, seqT_mono s2 sa, at_of eat (iV_get (List.getElem?_eq_getElem hgi)), _, _, rfl, rfl, s2, upd_same, some (.int ((g : Int) + (i : Int))), ?_⟩
      have e3 : eR g b y (i + 1) + pre ls (g + (i + 1)) = zR g b y (i + 1) (g + i) + pre ls (g + i) + ls[g + i] := by
        rw [e2, show g + (i + 1) = g + i + 1 from by omega, pre_succ hgi]
        unfold eR
        rw [if_neg (by omega), show g + (i + 1) - 1 = g + i from by omega]
        omega
      rw [e3]
      rfl
    · obtain ⟨s1, hl, y6, rfl⟩ := p
      refine ⟨.ref l, rfl, l, _, rfl, .inl ⟨.inl (.inl hl), fun t nt => ?_⟩⟩
      have e : stL ls (zR g b y (((iV ls).length : Int) - (g : Int)).toNat) = stL ls (pR g b y) := by
        rw [iV_len]
        apply stL_congr
        intro j hj
        unfold zR pR
        by_cases h2 : g ≤ j
        · rw [if_pos h2, if_pos (by omega)]
        · rw [if_neg h2, if_neg (by omega)]
      rw [e]
      exact q _ _ (s1.trans (same_new nt)) (tI_dp (.inl (.inl upd_same)))
def sp_pushed_left (K : PySem.W.Frag) : Sp := fun vs H Q _ => ∃ v u ls y g b pl, vs = [v, u, .int (g : Nat), .int (b + pre ls g)] ∧ Dp K H v (tI ls) ∧ Dp K H u (tI (stL ls y)) ∧ Rise ls.length pl y ∧ ls.length ≤ 8 ∧ g ≤ ls.length ∧ RD K H Q (tI (stL ls (pL g b y)))
theorem ok_pushed_left (T : Tx K mg) : FnOk P w K mg base CX0 1 T.f_pushed_left T.fd_pushed_left ["blocks", "stand", "gap", "place"] (sp_pushed_left K) := by
  refine T.F_pushed_left.ok sc_pushed_left (fun vs H Q E h => ?_) (fun cdv A outer s H vs Q E hr h => ?_)
  · obtain ⟨_, _, _, _, _, _, _, rfl, _⟩ := h
    rfl
  · obtain ⟨v, u, ls, y, g, b, pl, rfl, hv, hu, ri, n8, hg, q⟩ := h
    obtain ⟨a, rfl, sa⟩ := dp_tI hv
    obtain ⟨c, rfl, sc⟩ := dp_tI hu
    refine ⟨_, (pss_cons (ps_set (i := 4) sc_pushed_left.nd rfl (.inl rfl) (pe_callTy call_list_of (by rfl) T.n_list (by decide +kernel) (pa_cons (pv 1) pa_nil)))
      (pss_cons (ps_set (i := 5) sc_pushed_left.nd rfl (.inl rfl) (pv 3))
      (pss_cons (ps_for PassesOwn.never rfl (pi_revR (by rfl) T.n_reversed (prg_1 (by rfl) T.n_range (pv 2))) (pg_name (i := 6) sc_pushed_left.nd rfl (.inl rfl))
      (pss_cons (ps_asg (pe_callB (call_min2 rfl) (by rfl) T.n_min (by decide +kernel) (pa_cons (pe_ix ix_list (pv 4) (pv 6) (fun _ _ => rfl)) (pa_cons (pe_op op_sub (pv 5) (pe_ix ix_tup (pv 0) (pv 6) (fun _ _ => rfl))) pa_nil))) (pg_sub (pv 4) (pv 6) set_list))
      (pss_one (ps_set (i := 5) sc_pushed_left.nd rfl (.inl rfl) (pe_ix ix_list (pv 4) (pv 6) (fun _ _ => rfl))))))
      (pss_one (ps_ret (pe_callTy call_tuple_of (by rfl) T.n_tuple (by decide +kernel) (pa_cons (pv 4) pa_nil))))))), ?_⟩
    refine ⟨.ref c, rfl, c, _, rfl, .inr sc, fun l nl => ?_⟩
    refine ⟨_, rfl, ?_⟩
    refine ⟨_, rfl, _, rfl, by omega, by omega, by omega, by omega, ?_⟩
    have en : ((g : Int) - 0).toNat = g := by omega
    rw [en]
    refine for_rangeC (lo := 0 + ((g : Nat) : Int) - 1) (c := -1) (n := g) (fun i σ H' => Same H H' ∧ H' l = some (.lst (iV (stL ls (zL g b y i)))) ∧ ∃ y6, σ = [some (.ref a), some (.ref c), some (.int (g : Nat)), some (.int (b + pre ls g)), some (.ref l), some (.int (eL g b y i + pre ls (g - i))), y6])
      ⟨same_new nl, ?_, none, ?_⟩ (fun i σ H' hi p => ?_) (fun σ H' p => ?_)
    · rw [upd_same]
      congr 3
      apply stL_congr
      intro j hj
      unfold zL
      rw [if_neg (by omega)]
    · rfl
    · obtain ⟨s1, hl, y6, rfl⟩ := p
      have hgi : g - 1 - i < ls.length := by omega
      have eat : 0 + ((g : Nat) : Int) - 1 + (i : Nat) * (-1) = ((g - 1 - i : Nat) : Int) := by omega
      have g1 := iV_get (stL_get (y := zL g b y i) hgi)
      have epre : pre ls (g - i) = pre ls (g - 1 - i) + ls[g - 1 - i] := by
        have := pre_succ hgi
        rw [show g - 1 - i + 1 = g - i from by omega] at this
        exact this
      have e1 : (if eL g b y i + pre ls (g - i) - ls[g - 1 - i] < zL g b y i (g - 1 - i) + pre ls (g - 1 - i) then eL g b y i + pre ls (g - i) - ls[g - 1 - i] else zL g b y i (g - 1 - i) + pre ls (g - 1 - i)) = min (y (g - 1 - i)) b + pre ls (g - 1 - i) := by
        rw [← zL_step ri hg hi, epre]
        split <;> omega
      refine ⟨.ref l, rfl, _, rfl, l, _, _, _, rfl, rfl, .inl (.inl hl), at_of eat g1, _, rfl, .ref a, rfl, _, rfl, a, _, _, _, rfl, rfl, seqT_mono s1 sa, at_of eat (iV_get (List.getElem?_eq_getElem hgi)), _, _, rfl, rfl, _, _, rfl, ?_⟩
      rw [e1]
      refine ⟨.ref l, rfl, _, rfl, l, _, _, g - 1 - i, rfl, rfl, hl, ixN_at eat (by rw [iV_len, stL_len]; exact hgi), ?_⟩
      rw [iV_set, zL_next hg hi]
      have g2 := iV_get (stL_get (y := zL g b y (i + 1)) hgi)
      have e2 : zL g b y (i + 1) (g - 1 - i) = min (y (g - 1 - i)) b := by unfold zL; rw [if_pos (by omega)]
      have s2 : Same H (upd H' l (.lst (iV (stL ls (zL g b y (i + 1)))))) := fun b o hb => by
        rw [upd_ne (ne_of_none hb nl)]
        exact s1 b o hb
      refine ⟨.ref l, rfl, _, rfl, l, _, _, _, rfl, rfl, .inl (.inl upd_same), at_of eat g2, s2, upd_same, some (.int (0 + ((g : Nat) : Int) - 1 + (i : Nat) * (-1))), ?_⟩
      have e3 : eL g b y (i + 1) + pre ls (g - (i + 1)) = zL g b y (i + 1) (g - 1 - i) + pre ls (g - 1 - i) := by
        rw [e2, show g - (i + 1) = g - 1 - i from by omega]
        unfold eL
        rw [if_neg (by omega), show g - (i + 1) = g - 1 - i from by omega]
      rw [e3]
      rfl
    · obtain ⟨s1, hl, y6, rfl⟩ := p
      refine ⟨.ref l, rfl, l, _, rfl, .inl ⟨.inl (.inl hl), fun t nt => ?_⟩⟩
      have e : stL ls (zL g b y g) = stL ls (pL g b y) := by
        apply stL_congr
        intro j hj
        unfold zL pL
        by_cases h2 : j < g
        · rw [if_pos h2, if_pos (by omega)]
        · rw [if_neg h2, if_neg (by omega)]
      rw [e]
      exact q _ _ (s1.trans (same_new nt)) (tI_dp (.inl (.inl upd_same)))
/-! ### pushed, done, behind -/
def sp_pushed (K : PySem.W.Frag) : Sp := fun vs H Q _ => ∃ v u t room ls y p pl, vs = [v, u, t] ∧ Dp K H v (shD room ls) ∧ Dp K H u (tI (stL ls y)) ∧ Dp K H t (puD ls p) ∧ Rise ls.length pl y ∧ ls.length ≤ 8 ∧ PuOk ls.length pl p ∧ RD K H Q (tI (stL ls (doP y p)))
theorem ok_pushed (T : Tx K mg) : FnOk P w K mg base CX0 2 T.f_pushed T.fd_pushed ["shelf", "stand", "push"] (sp_pushed K) := by
  have G_pushed_right := ok_pushed_right (P := P) (w := w) (base := base) T
  have G_pushed_left := ok_pushed_left (P := P) (w := w) (base := base) T
  refine T.F_pushed.ok sc_pushed (fun vs H Q E h => ?_) (fun cdv A outer s H vs Q E hr h => ?_)
  · obtain ⟨_, _, _, _, _, _, _, _, rfl, _⟩ := h
    rfl
  · obtain ⟨v, u, t, room, ls, y, ⟨r, g, b⟩, pl, rfl, hv, hu, ht, ri, n8, pk, q⟩ := h
    obtain ⟨a, ba, rfl, sa, sb⟩ := dp_shelf hv
    obtain ⟨c, x1, x2, x3, rfl, sc, h1, h2, h3⟩ := dp_three ht
    cases dp_str h1
    cases dp_int h2
    cases dp_int h3
    refine ⟨_, (pss_cons (ps_asg (pv 2) (pg_tup rfl (pgs_cons (pg_name (i := 3) sc_pushed.nd rfl (.inl rfl)) (pgs_cons (pg_name (i := 4) sc_pushed.nd rfl (.inl rfl)) (pgs_cons (pg_name (i := 5) sc_pushed.nd rfl (.inl rfl)) pgs_nil)))))
      (pss_cons (ps_if (pt_cmpR op_eq (pv 3) pe_str (nomark _)) (pss_one (ps_ret (pe_call (G_pushed_right.mono (by first | decide | omega)) hr (by rfl) T.g_pushed_right T.F_pushed_right.kp T.b_pushed_right .nil pass0 (pa_cons (pe_ix ix_tup (pv 0) pe_int (fun _ _ => rfl)) (pa_cons (pv 1) (pa_cons (pv 4) (pa_cons (pv 5) pa_nil))))))) pss_nil)
      (pss_one (ps_ret (pe_call (G_pushed_left.mono (by first | decide | omega)) hr (by rfl) T.g_pushed_left T.F_pushed_left.kp T.b_pushed_left .nil pass0 (pa_cons (pe_ix ix_tup (pv 0) pe_int (fun _ _ => rfl)) (pa_cons (pv 1) (pa_cons (pv 4) (pa_cons (pv 5) pa_nil))))))))), ?_⟩
    refine ⟨.ref c, rfl, c, _, rfl, sc, rfl, _, _, rfl, _, _, rfl, _, [], rfl, rfl, ?_⟩
    cases r with
    | true =>
      have := pk.g0 rfl
      refine ⟨_, rfl, rfl, _, rfl, ?_⟩
      rw [decide_eq_true (show V.str (sideS true) = V.str "right" from rfl)]
      refine iteT ⟨.ref a, rfl, a, _, 1, _, rfl, rfl, sa, atI_nat (j := 1) rfl, u, rfl, _, rfl, _, rfl, _, u, ls, y, g, b, pl, rfl, tI_dp sb, hu, ri, n8, Nat.le_of_lt this, ?_⟩
      exact q
    | false =>
      have := pk.g1 rfl
      refine ⟨_, rfl, rfl, _, rfl, ?_⟩
      rw [decide_eq_false (show ¬ V.str (sideS false) = V.str "right" from by decide +kernel)]
      refine iteF ⟨.ref a, rfl, a, _, 1, _, rfl, rfl, sa, atI_nat (j := 1) rfl, u, rfl, _, rfl, _, rfl, _, u, ls, y, g, b, pl, rfl, tI_dp sb, hu, ri, n8, this.2, ?_⟩
      exact q
def sp_done (K : PySem.W.Frag) : Sp := fun vs H Q _ => ∃ v u t room ls y r pl, vs = [v, u, t] ∧ Dp K H v (shD room ls) ∧ Dp K H u (tI (stL ls y)) ∧ Dp K H t (roD ls r) ∧ Rise ls.length pl y ∧ ls.length ≤ 8 ∧ (∀ p ∈ r, PuOk ls.length pl p) ∧ RD K H Q (tI (stL ls (doR y r)))
theorem ok_done (T : Tx K mg) : FnOk P w K mg base CX0 3 T.f_done T.fd_done ["shelf", "stand", "row"] (sp_done K) := by
  have G_pushed := ok_pushed (P := P) (w := w) (base := base) T
  refine T.F_done.ok sc_done (fun vs H Q E h => ?_) (fun cdv A outer s H vs Q E hr h => ?_)
  · obtain ⟨_, _, _, _, _, _, _, _, rfl, _⟩ := h
    rfl
  · obtain ⟨v, u, t, room, ls, y, r, pl, rfl, hv, hu, ht, ri, n8, pk, q⟩ := h
    obtain ⟨c, xs, rfl, sc, al⟩ := dp_lst ht
    have hl := dpAll_len al
    rw [List.length_map] at hl
    refine ⟨_, (pss_cons (ps_for PassesOwn.never rfl (pi_list (pv 2)) (pg_name (i := 3) sc_done.nd rfl (.inl rfl))
      (pss_one (ps_set (i := 1) sc_done.nd rfl (.inl rfl) (pe_call (G_pushed.mono (by first | decide | omega)) hr (by rfl) T.g_pushed T.F_pushed.kp T.b_pushed .nil pass0 (pa_cons (pv 0) (pa_cons (pv 1) (pa_cons (pv 3) pa_nil)))))))
      (pss_one (ps_ret (pv 1)))), ?_⟩
    refine ⟨.ref c, rfl, c, rfl, ⟨xs, sc⟩, ?_⟩
    refine for_list (K := K) (a := c) (xs := xs) (fun i σ H' => Same H H' ∧ ∃ u' y3, σ = [some v, some u', some (.ref c), y3] ∧ Dp K H' u' (tI (stL ls (doR y (r.take i))))) ⟨Same.refl H, u, none, rfl, hu⟩ (fun i σ H' _ p => p.1.seq sc) (fun i x σ H' hx p => ?_) (fun σ H' p => ?_)
    · obtain ⟨s1, u', y3, rfl, hu'⟩ := p
      obtain ⟨d, e1, e2⟩ := dpAll_get al hx
      rw [List.getElem?_map] at e1
      obtain ⟨p, ep, rfl⟩ := Option.map_eq_some_iff.mp e1
      have hp : p ∈ r := List.mem_of_getElem? ep
      refine ⟨v, rfl, u', rfl, x, rfl, v, u', x, room, ls, doR y (r.take i), p, pl, rfl, Dpm s1 hv, hu', Dpm s1 e2, doR_rise ri (fun z hz => pk z (List.mem_of_mem_take hz)), n8, pk p hp, fun v' H2 s2 h2 => ?_⟩
      refine ⟨s1.trans s2, v', _, rfl, ?_⟩
      rw [List.take_add_one, ep]
      show Dp K H2 v' (tI (stL ls (doR y (r.take i ++ [p]))))
      rw [doR_app]
      exact h2
    · obtain ⟨s1, u', y3, rfl, hu'⟩ := p
      rw [hl, List.take_length] at hu'
      exact ⟨u', rfl, q _ _ s1 hu'⟩
def sp_behind (K : PySem.W.Frag) : Sp := fun vs H Q _ => ∃ v u t room ls y r, vs = [v, u, t] ∧ Dp K H v (shD room ls) ∧ ShOk room ls ∧ Dp K H u (tI (stL ls y)) ∧ Dp K H t (roD ls r) ∧ Rise ls.length (room - ls.sum) y ∧ r.length ≤ 200 ∧ (∀ p ∈ r, PuOk ls.length (room - ls.sum) p) ∧ RD K H Q (tI (stL ls (doR y r)))
theorem roD_depth (ls : List Int) (r : List Push) : (roD ls r).depth ≤ 2 := by
  unfold roD
  rw [PyData.depth]
  have : PyData.depthAll (r.map (puD ls)) ≤ 1 := depthAll_le _ fun d hd => by
    obtain ⟨p, _, rfl⟩ := List.mem_map.mp hd
    exact puD_depth ls p
  omega
end PS

namespace PS
open PySem PySem.Spec PyProof.Rows L2
variable {P : Program} {w : World} {K : PySem.W.Frag} {mg : Str → Option Value} {base : Heap}
/-! ### the outermost stands -/
def sp_packed (K : PySem.W.Frag) : Sp := fun vs H Q _ => ∃ v room ls c, vs = [v, .int c] ∧ Dp K H v (shD room ls) ∧ ls.length ≤ 8 ∧ RD K H Q (tI (stL ls (fun _ => c)))
theorem ok_packed (T : Tx K mg) : FnOk P w K mg base CX0 2 T.f_packed T.fd_packed ["shelf", "start"] (sp_packed K) := by
  have G_gap_length := ok_gap_length (P := P) (w := w) (base := base) T
  refine T.F_packed.ok sc_packed (fun vs H Q E h => ?_) (fun cdv A outer s H vs Q E hr h => ?_)
  · obtain ⟨v, _, _, c, rfl, _⟩ := h
    rfl
  · obtain ⟨v, room, ls, c, rfl, hv, n8, q⟩ := h
    obtain ⟨a, b, rfl, sa, sb⟩ := dp_shelf hv
    refine ⟨_, (pss_one (ps_ret (pe_callTy call_tuple_of (by rfl) T.n_tuple (by decide +kernel) (pa_cons (pe_lc (own := [("at", 2)]) (g := gName 2) (tt := tYes) rfl sc_packed.nd (pi_range1 (by rfl) T.n_range (pa_cons (pe_callB call_len_seq (by rfl) T.n_len (by decide +kernel) (pa_cons (pe_ix ix_tup (pv 0) pe_int (fun _ _ => rfl)) pa_nil)) pa_nil)) (blkOk_by (own := [("at", 2)]) (N := ["shelf", "start", "at"]) (sc := defScope s_packed) (by decide +kernel)) (fun _ _ _ _ _ => (pg_name (i := 2) sc_packed.nd rfl (.inl rfl))) (fun _ _ _ _ _ => pts_nil) (fun _ _ _ _ _ => (pe_op op_add (pv 1) (pe_call (G_gap_length.mono (by first | decide | omega)) hr (by rfl) T.g_gap_length T.F_gap_length.kp T.b_gap_length .nil pass0 (pa_cons (pv 0) (pa_cons (pv 2) pa_nil)))))) pa_nil)))), ?_⟩
    refine ⟨.ref a, rfl, a, _, 1, _, rfl, rfl, sa, atI_nat (j := 1) rfl, b, _, rfl, .inr sb, _, rfl, by omega, by rw [iV_len]; omega, fun D nD => ?_⟩
    have en : (((iV ls).length : Nat) : Int).toNat = ls.length := by rw [iV_len]; omega
    rw [en]
    refine lc_range (lo := 0) (n := ls.length) (fun i H' => Same H H' ∧ H' D = some (.lst (iV ((stL ls (fun _ => c)).take i)))) ⟨same_new nD, upd_same⟩ (fun i H' hi p => ?_) (fun H' p => ?_)
    · refine ⟨rfl, _, rfl, .ref a, rfl, _, rfl, .ref a, room, ls, i, by rw [Int.zero_add]; rfl, Dpm p.1 hv, fun H3 s3 => ?_⟩
      refine ⟨_, _, rfl, rfl, _, s3 _ _ p.2, ?_, fun b o hb => ?_, ?_⟩
      · rw [List.length_map, List.length_take]
        exact small1000 (by omega)
      · rw [upd_ne (ne_of_none hb nD)]
        exact s3 _ _ (p.1 b o hb)
      · rw [upd_same, List.take_add_one, stL_get hi]
        simp
    · obtain ⟨s1, hD⟩ := p
      rw [List.take_of_length_le (by rw [stL_len]; exact Nat.le_refl _)] at hD
      refine ⟨D, _, rfl, .inl ⟨.inl (.inl hD), fun t nt => ?_⟩⟩
      exact q _ _ (s1.trans (same_new nt)) (tI_dp (.inl (.inl upd_same)))
def sp_leftmost (K : PySem.W.Frag) : Sp := fun vs H Q _ => ∃ v room ls, vs = [v] ∧ Dp K H v (shD room ls) ∧ ls.length ≤ 8 ∧ RD K H Q (tI (stL ls (fun _ => 0)))
theorem ok_leftmost (T : Tx K mg) : FnOk P w K mg base CX0 3 T.f_leftmost T.fd_leftmost ["shelf"] (sp_leftmost K) := by
  have G_packed := ok_packed (P := P) (w := w) (base := base) T
  refine T.F_leftmost.ok sc_leftmost (fun vs H Q E h => ?_) (fun cdv A outer s H vs Q E hr h => ?_)
  · obtain ⟨v, _, _, rfl, _⟩ := h
    rfl
  · obtain ⟨v, room, ls, rfl, hv, n8, q⟩ := h
    refine ⟨_, (pss_one (ps_ret (pe_call (G_packed.mono (by first | decide | omega)) hr (by rfl) T.g_packed T.F_packed.kp T.b_packed .nil pass0 (pa_cons (pv 0) (pa_cons pe_int pa_nil))))), ?_⟩
    exact ⟨v, rfl, v, room, ls, 0, rfl, hv, n8, q⟩
def sp_rightmost (K : PySem.W.Frag) : Sp := fun vs H Q _ => ∃ v room ls, vs = [v] ∧ Dp K H v (shD room ls) ∧ ls.length ≤ 8 ∧ RD K H Q (tI (stL ls (fun _ => room - ls.sum)))
theorem ok_rightmost (T : Tx K mg) : FnOk P w K mg base CX0 3 T.f_rightmost T.fd_rightmost ["shelf"] (sp_rightmost K) := by
  have G_packed := ok_packed (P := P) (w := w) (base := base) T
  have G_play_of := ok_play_of (P := P) (w := w) (base := base) T
  refine T.F_rightmost.ok sc_rightmost (fun vs H Q E h => ?_) (fun cdv A outer s H vs Q E hr h => ?_)
  · obtain ⟨v, _, _, rfl, _⟩ := h
    rfl
  · obtain ⟨v, room, ls, rfl, hv, n8, q⟩ := h
    refine ⟨_, (pss_one (ps_ret (pe_call (G_packed.mono (by first | decide | omega)) hr (by rfl) T.g_packed T.F_packed.kp T.b_packed .nil pass0 (pa_cons (pv 0) (pa_cons (pe_call (G_play_of.mono (by first | decide | omega)) hr (by rfl) T.g_play_of T.F_play_of.kp T.b_play_of .nil pass0 (pa_cons (pv 0) pa_nil)) pa_nil))))), ?_⟩
    exact ⟨v, rfl, v, rfl, v, room, ls, rfl, hv, v, room, ls, _, rfl, hv, n8, q⟩
def sp_doing_of (K : PySem.W.Frag) : Sp := fun vs H Q _ => ∃ v t room ls r, vs = [v, t] ∧ Dp K H v (shD room ls) ∧ ShOk room ls ∧ Dp K H t (roD ls r) ∧ r.length ≤ 200 ∧ (∀ p ∈ r, PuOk ls.length (room - ls.sum) p) ∧ RD K H Q (dgD ls (loR r) (hiR (room - ls.sum) r))
theorem ok_doing_of (T : Tx K mg) : FnOk P w K mg base CX0 8 T.f_doing_of T.fd_doing_of ["shelf", "row"] (sp_doing_of K) := by
  have G_need_row := ok_need_row (P := P) (w := w) (base := base) T
  have G_done := ok_done (P := P) (w := w) (base := base) T
  have G_leftmost := ok_leftmost (P := P) (w := w) (base := base) T
  have G_rightmost := ok_rightmost (P := P) (w := w) (base := base) T
  refine T.F_doing_of.ok sc_doing_of (fun vs H Q E h => ?_) (fun cdv A outer s H vs Q E hr h => ?_)
  · obtain ⟨v, t, _, _, _, rfl, _⟩ := h
    rfl
  · obtain ⟨v, t, room, ls, r, rfl, hv, sh, ht, hr2, pk, q⟩ := h
    refine ⟨_, (pss_cons (ps_expr (pe_call (G_need_row.mono (by first | decide | omega)) hr (by rfl) T.g_need_row T.F_need_row.kp T.b_need_row .nil pass0 (pa_cons (pv 0) (pa_cons (pv 1) pa_nil))))
      (pss_one (ps_ret (pe_tup (pa_cons (pe_call (G_done.mono (by first | decide | omega)) hr (by rfl) T.g_done T.F_done.kp T.b_done .nil pass0 (pa_cons (pv 0) (pa_cons (pe_call (G_leftmost.mono (by first | decide | omega)) hr (by rfl) T.g_leftmost T.F_leftmost.kp T.b_leftmost .nil pass0 (pa_cons (pv 0) pa_nil)) (pa_cons (pv 1) pa_nil)))) (pa_cons (pe_call (G_done.mono (by first | decide | omega)) hr (by rfl) T.g_done T.F_done.kp T.b_done .nil pass0 (pa_cons (pv 0) (pa_cons (pe_call (G_rightmost.mono (by first | decide | omega)) hr (by rfl) T.g_rightmost T.F_rightmost.kp T.b_rightmost .nil pass0 (pa_cons (pv 0) pa_nil)) (pa_cons (pv 1) pa_nil)))) pa_nil)))))), ?_⟩
    refine ⟨v, rfl, t, rfl, v, t, room, ls, _, rfl, hv, sh, ht, Nat.le_trans (roD_depth ls r) (by decide), isRow_ok hr2 pk, fun H1 s1 => ?_⟩
    have p0 : 0 ≤ room - ls.sum := by have := sh.lo; omega
    refine ⟨v, rfl, v, rfl, v, room, ls, rfl, Dpm s1 hv, sh.n8, fun u1 H2 s2 h2 => ?_⟩
    have s12 := s1.trans s2
    refine ⟨t, rfl, v, u1, t, room, ls, _, r, _, rfl, Dpm s12 hv, h2, Dpm s12 ht, rise_const (Int.le_refl 0) p0, sh.n8, pk, fun d1 H3 s3 h3 => ?_⟩
    have s13 := s12.trans s3
    refine ⟨v, rfl, v, rfl, v, room, ls, rfl, Dpm s13 hv, sh.n8, fun u2 H4 s4 h4 => ?_⟩
    have s14 := s13.trans s4
    refine ⟨t, rfl, v, u2, t, room, ls, _, r, _, rfl, Dpm s14 hv, h4, Dpm s14 ht, rise_const p0 (Int.le_refl _), sh.n8, pk, fun d2 H5 s5 h5 => ?_⟩
    refine ⟨by show 2 ≤ sizeLine; decide, fun p np => ?_⟩
    have s6 := same_new (o := .tup [d1, d2]) np
    exact q _ _ ((s14.trans s5).trans s6) (.tup (.inl (.inl upd_same)) (.cons (Dpm ((s4.trans s5).trans s6) h3) (.cons (Dpm s6 h5) .nil)))
/-! ### is_doing, need_doing, led -/
def sp_is_doing (K : PySem.W.Frag) : Sp := fun vs H Q _ => ∃ v u room ls d, vs = [v, u] ∧ Dp K H v (shD room ls) ∧ ShOk room ls ∧ Dp K H u d ∧ RB H Q (isDoing room ls d)
theorem zip_all (ns ms : List Int) (i : Nat) (n m : Int) (e1 : ns[i]? = some n) (e2 : ms[i]? = some m) : (List.zipWith (fun a b => decide (a ≤ b)) ns ms)[i]? = some (decide (n ≤ m)) := by
  rw [List.getElem?_zipWith, e1, e2]
theorem ok_is_doing (T : Tx K mg) : FnOk P w K mg base CX0 7 T.f_is_doing T.fd_is_doing ["shelf", "thing"] (sp_is_doing K) := by
  have G_need_shelf := ok_need_shelf (P := P) (w := w) (base := base) T
  have G_is_tuple_of := ok_is_tuple_of (P := P) (w := w) (base := base) T
  have G_is_stand := ok_is_stand (P := P) (w := w) (base := base) T
  refine T.F_is_doing.ok sc_is_doing (fun vs H Q E h => ?_) (fun cdv A outer s H vs Q E hr h => ?_)
  · obtain ⟨v, u, _, _, d, rfl, _⟩ := h
    rfl
  · obtain ⟨v, u, room, ls, d, rfl, hv, sh, hd, q⟩ := h
    refine ⟨_, (pss_cons (ps_expr (pe_call (G_need_shelf.mono (by first | decide | omega)) hr (by rfl) T.g_need_shelf T.F_need_shelf.kp T.b_need_shelf .nil pass0 (pa_cons (pv 0) pa_nil)))
      (pss_cons (ps_if (pt_not (pt_val (pe_call (G_is_tuple_of.mono (by first | decide | omega)) hr (by rfl) T.g_is_tuple_of T.F_is_tuple_of.kp T.b_is_tuple_of .nil pass0 (pa_cons (pv 1) (pa_cons pe_int pa_nil))))) (pss_one (ps_ret pe_bl)) pss_nil)
      (pss_cons (ps_asg (pv 1) (pg_tup rfl (pgs_cons (pg_name (i := 2) sc_is_doing.nd rfl (.inl rfl)) (pgs_cons (pg_name (i := 3) sc_is_doing.nd rfl (.inl rfl)) pgs_nil))))
      (pss_cons (ps_if (PW.pt (pw_or (pt_not (pt_val (pe_call (G_is_stand.mono (by first | decide | omega)) hr (by rfl) T.g_is_stand T.F_is_stand.kp T.b_is_stand .nil pass0 (pa_cons (pv 0) (pa_cons (pv 2) pa_nil))))) (pw_or1 (pt_not (pt_val (pe_call (G_is_stand.mono (by first | decide | omega)) hr (by rfl) T.g_is_stand T.F_is_stand.kp T.b_is_stand .nil pass0 (pa_cons (pv 0) (pa_cons (pv 3) pa_nil)))))))) (pss_one (ps_ret pe_bl)) pss_nil)
      (pss_one (ps_ret (pe_callB (cr_all rfl) (by rfl) T.n_all (by decide +kernel) (pa_cons (pe_lc (own := [("low", 4), ("high", 5)]) (g := gTup K 2 (gCons (gName 4) (gCons (gName 5) gNil))) (tt := tYes) rfl sc_is_doing.nd (pi_zip2 false false (by rfl) T.n_zip (pa_cons (pv 2) (pa_cons (pv 3) pa_nil))) (blkOk_by (own := [("low", 4), ("high", 5)]) (N := ["shelf", "thing", "least", "greatest", "low", "high"]) (sc := defScope s_is_doing) (by decide +kernel)) (fun _ _ _ _ _ => (pg_tup rfl (pgs_cons (pg_name (i := 4) sc_is_doing.nd rfl (.inl rfl)) (pgs_cons (pg_name (i := 5) sc_is_doing.nd rfl (.inl rfl)) pgs_nil)))) (fun _ _ _ _ _ => pts_nil) (fun _ _ _ _ _ => (pe_cmpR op_le (pv 4) (pv 5) (nomark _)))) pa_nil)))))))), ?_⟩
    refine ⟨v, rfl, v, _, rfl, hv, isShelf_ok sh, fun H1 s1 => ?_⟩
    refine ⟨u, rfl, u, d, _, rfl, Dpm s1 hd, _, rfl, ?_⟩
    cases e : tupOf d 2 with
    | false =>
      have ef : isDoing room ls d = false := by
        unfold isDoing
        split
        · simp [tupOf] at e
        · rfl
      rw [ef] at q
      exact iteT (q H1 s1)
    | true =>
      refine iteF ?_
      obtain ⟨da, db, rfl⟩ := tupOf2 e
      obtain ⟨a, x, y, rfl, sq, h1, h2⟩ := dp_two (Dpm s1 hd)
      refine ⟨.ref a, rfl, a, _, rfl, sq, rfl, _, _, rfl, _, [], rfl, rfl, ?_⟩
      refine ⟨v, rfl, x, rfl, v, x, room, ls, da, rfl, Dpm s1 hv, sh, h1, fun H2 s2 => ⟨_, rfl, ?_⟩⟩
      cases ea : isStand room ls da with
      | false =>
        have ef : isDoing room ls (.tuple [da, db]) = false := by
          unfold isDoing
          split
          · rename_i z; cases z
            rw [ea]; rfl
          · rfl
        rw [ef] at q
        exact iteT (q H2 (s1.trans s2))
      | true =>
        refine iteF ⟨v, rfl, y, rfl, v, y, room, ls, db, rfl, Dpm (s1.trans s2) hv, sh, Dpm s2 h2, fun H3 s3 => ⟨_, rfl, ?_⟩⟩
        have s13 := (s1.trans s2).trans s3
        have s23 := s2.trans s3
        cases eb : isStand room ls db with
        | false =>
          have ef : isDoing room ls (.tuple [da, db]) = false := by
            unfold isDoing
            split
            · rename_i z; cases z
              rw [eb]; split <;> rfl
            · rfl
          rw [ef] at q
          exact iteT (q H3 s13)
        | true =>
          refine iteF ?_
          obtain ⟨ns, rfl, ln⟩ := isStand_ints ea
          obtain ⟨ms, rfl, lm⟩ := isStand_ints eb
          have q : RB H Q (if isStand room ls (tI ns) = true then (if isStand room ls (tI ms) = true then allLe (iD ns) (iD ms) else false) else false) := q
          rw [if_pos ea, if_pos eb, allLe_ints] at q
          obtain ⟨b, rfl, sb⟩ := dp_tI (Dpm s23 h1)
          obtain ⟨c, rfl, sc⟩ := dp_tI (Dpm s23 h2)
          have n8 := sh.n8
          refine ⟨.ref b, rfl, .ref c, rfl, b, c, _, _, rfl, sb, sc, fun D nD => ?_⟩
          refine lc_it (walk_2 (n := ls.length) (xs := iV ns) (ys := iV ms) (by rw [iV_len, iV_len]; omega)) (fun i H' => Same H3 H' ∧ H' D = some (.lst (((List.zipWith (fun a b => decide (a ≤ b)) ns ms).take i).map V.bl))) ⟨same_new nD, by rw [upd_same]; rfl⟩ (fun i H' _ p => ⟨seqT_mono p.1 sb, seqT_mono p.1 sc⟩) (fun i x H' H2' hi p yy => ?_) (fun H' p => ?_)
          · obtain ⟨Tt, x, z, rfl, nT, rfl, hx, hz⟩ := yy
            have hn : ns[i]? = some ns[i] := List.getElem?_eq_getElem (by omega)
            have hm : ms[i]? = some ms[i] := List.getElem?_eq_getElem (by omega)
            have ex : x = .int ns[i] := by
              rw [iV_get hn] at hx
              exact (Option.some.inj hx).symm
            have ez : z = .int ms[i] := by
              rw [iV_get hm] at hz
              exact (Option.some.inj hz).symm
            subst ex ez
            refine ⟨Tt, _, rfl, .inl (.inl upd_same), rfl, _, _, rfl, _, [], rfl, rfl, rfl, _, rfl, _, rfl, _, _, rfl, rfl, ?_⟩
            have hD : upd H' Tt (.tup [.int ns[i], .int ms[i]]) D = some (.lst (((List.zipWith (fun a b => decide (a ≤ b)) ns ms).take i).map V.bl)) := by
              rw [upd_ne (ne_of_none p.2 nT)]
              exact p.2
            refine ⟨_, hD, ?_, fun b o hb => ?_, ?_⟩
            · rw [List.length_map, List.length_take]
              exact small1000 (by omega)
            · rw [upd_ne (ne_of_none hb nD)]
              exact same_new nT _ _ (p.1 b o hb)
            · rw [upd_same, List.take_add_one, zip_all ns ms i _ _ hn hm, List.map_append]
              rfl
          · refine ⟨D, _, rfl, .inl (.inl ?_), q H' (s13.trans p.1)⟩
            rw [p.2, List.take_of_length_le (by rw [List.length_zipWith]; omega)]
def sp_need_doing (K : PySem.W.Frag) : Sp := fun vs H Q _ => ∃ v u room ls d, vs = [v, u] ∧ Dp K H v (shD room ls) ∧ ShOk room ls ∧ Dp K H u d ∧ isDoing room ls d = true ∧ ∀ H', Same H H' → Q .non H'
theorem ok_need_doing (T : Tx K mg) : FnOk P w K mg base CX0 8 T.f_need_doing T.fd_need_doing ["shelf", "thing"] (sp_need_doing K) := by
  have G_is_doing := ok_is_doing (P := P) (w := w) (base := base) T
  refine T.F_need_doing.ok sc_need_doing (fun vs H Q E h => ?_) (fun cdv A outer s H vs Q E hr h => ?_)
  · obtain ⟨v, u, _, _, d, rfl, _⟩ := h
    rfl
  · obtain ⟨v, u, room, ls, d, rfl, hs, sh, hd, e, q⟩ := h
    refine ⟨_, (pss_one (ps_if (pt_not (pt_val (pe_call (G_is_doing.mono (by first | decide | omega)) hr (by rfl) T.g_is_doing T.F_is_doing.kp T.b_is_doing .nil pass0 (pa_cons (pv 0) (pa_cons (pv 1) pa_nil))))) (pss_one ps_never) pss_nil)), ?_⟩
    refine ⟨v, rfl, u, rfl, v, u, room, ls, d, rfl, hs, sh, hd, fun H' sm => ⟨_, rfl, ?_⟩⟩
    rw [e]
    exact iteF (q H' sm)
end PS

namespace PS
open PySem PySem.Spec PyProof.Rows L2
variable {P : Program} {w : World} {K : PySem.W.Frag} {mg : Str → Option Value} {base : Heap}
/-! ### places_of -/
abbrev plL (n : Nat) (y : Nat → Int) : List Int := (List.range n).map y
theorem plL_len (n : Nat) (y : Nat → Int) : (plL n y).length = n := by simp [plL]
theorem plL_get {n j : Nat} {y : Nat → Int} (h : j < n) : (plL n y)[j]? = some (y j) := by simp [plL, h]
theorem plL_take {n j : Nat} {y : Nat → Int} (h : j < n) : (plL n y).take (j + 1) = (plL n y).take j ++ [y j] := by
  rw [List.take_add_one, plL_get h]
  rfl
def sp_places_of (K : PySem.W.Frag) : Sp := fun vs H Q _ => ∃ v u room ls y, vs = [v, u] ∧ Dp K H v (shD room ls) ∧ Dp K H u (tI (stL ls y)) ∧ ls.length ≤ 8 ∧ ∀ p H', Same H H' → H p = none → H' p = some (.lst (iV (plL ls.length y))) → Q (.ref p) H'
theorem ok_places_of (T : Tx K mg) : FnOk P w K mg base CX0 2 T.f_places_of T.fd_places_of ["shelf", "stand"] (sp_places_of K) := by
  have G_gap_length := ok_gap_length (P := P) (w := w) (base := base) T
  refine T.F_places_of.ok sc_places_of (fun vs H Q E h => ?_) (fun cdv A outer s H vs Q E hr h => ?_)
  · obtain ⟨_, _, _, _, _, rfl, _⟩ := h
    rfl
  · obtain ⟨v, u, room, ls, y, rfl, hv, hu, n8, q⟩ := h
    obtain ⟨d, rfl, sd⟩ := dp_tI hu
    refine ⟨_, (pss_one (ps_ret (pe_lc (own := [("at", 2), ("left", 3)]) (g := gTup K 2 (gCons (gName 2) (gCons (gName 3) gNil))) (tt := tYes) rfl sc_places_of.nd (pi_enum1 (by rfl) T.n_enumerate (pa_cons (pv 1) pa_nil)) (blkOk_by (own := [("at", 2), ("left", 3)]) (N := ["shelf", "stand", "at", "left"]) (sc := defScope s_places_of) (by decide +kernel)) (fun _ _ _ _ _ => (pg_tup rfl (pgs_cons (pg_name (i := 2) sc_places_of.nd rfl (.inl rfl)) (pgs_cons (pg_name (i := 3) sc_places_of.nd rfl (.inl rfl)) pgs_nil)))) (fun _ _ _ _ _ => pts_nil) (fun _ _ _ _ _ => (pe_op op_sub (pv 3) (pe_call (G_gap_length.mono (by first | decide | omega)) hr (by rfl) T.g_gap_length T.F_gap_length.kp T.b_gap_length .nil pass0 (pa_cons (pv 0) (pa_cons (pv 2) pa_nil)))))))), ?_⟩
    refine ⟨_, rfl, false, d, _, rfl, sd, fun D nD => ?_⟩
    refine lc_it (walk_1 (n := ls.length) (xs := iV (stL ls y)) (by rw [iV_len, stL_len])) (fun i H' => Same H H' ∧ H' D = some (.lst (iV ((plL ls.length y).take i)))) ⟨same_new nD, upd_same⟩ (fun i H' _ p => seqT_mono p.1 sd) (fun i x H' H2 hi p yy => ?_) (fun H' p => ?_)
    · obtain ⟨Tt, x, rfl, nT, rfl, hx⟩ := yy
      rw [iV_get (stL_get hi)] at hx
      cases Option.some.inj hx
      have t1 := same_new (o := .tup [.int (i : Nat), .int (y i + pre ls i)]) nT
      have s1 := p.1.trans t1
      have hD1 := t1 _ _ p.2
      refine ⟨Tt, _, rfl, .inl (.inl upd_same), rfl, _, _, rfl, _, [], rfl, rfl, rfl, _, rfl, v, rfl, _, rfl, v, room, ls, i, rfl, Dpm s1 hv, fun H3 s3 => ?_⟩
      refine ⟨_, _, rfl, rfl, _, s3 _ _ hD1, ?_, fun b o hb => ?_, ?_⟩
      · rw [List.length_map, List.length_take]
        exact small1000 (by omega)
      · rw [upd_ne (ne_of_none hb nD)]
        exact s3 _ _ (s1 b o hb)
      · rw [upd_same, plL_take hi]
        dsimp only
        rw [show y i + pre ls i - pre ls i = y i from by omega]
        simp
    · obtain ⟨s1, hD⟩ := p
      rw [List.take_of_length_le (by rw [plL_len]; exact Nat.le_refl _)] at hD
      exact q D H' s1 nD hD
end PS

namespace PS
open PySem PySem.Spec PyProof.Rows L2
variable {P : Program} {w : World} {K : PySem.W.Frag} {mg : Str → Option Value} {base : Heap}
/-! ### choices -/
def sp_choices (K : PySem.W.Frag) : Sp := fun vs H Q _ => ∃ t m : Nat, vs = [.int (t : Int), .int (m : Int)] ∧ m ≤ t + 1 ∧ t ≤ 100000 ∧ Q (.int (ch t m : Nat)) H
theorem ch_div {t i : Nat} (h : i ≤ t) : ((ch t i : Int) * ((t : Int) - (i : Int))).fdiv ((i : Int) + 1) = (ch t (i + 1) : Nat) := by
  have e := ch_step h
  have e2 : (ch t i : Int) * ((t : Int) - (i : Int)) = (ch t (i + 1) : Int) * ((i : Int) + 1) := by
    rw [show (t : Int) - (i : Int) = ((t - i : Nat) : Int) from by omega, show (i : Int) + 1 = ((i + 1 : Nat) : Int) from by omega, ← Int.natCast_mul, ← Int.natCast_mul, e]
  rw [e2]
  exact Int.mul_fdiv_cancel _ (by omega)
theorem ok_choices (T : Tx K mg) : FnOk P w K mg base CX0 1 T.f_choices T.fd_choices ["total", "many"] (sp_choices K) := by
  refine T.F_choices.ok sc_choices (fun vs H Q E h => ?_) (fun cdv A outer s H vs Q E hr h => ?_)
  · obtain ⟨_, _, rfl, _⟩ := h
    rfl
  · obtain ⟨t, m, rfl, mt, tb, q⟩ := h
    refine ⟨_, (pss_cons (ps_set (i := 2) sc_choices.nd rfl (.inl rfl) pe_int)
      (pss_cons (ps_for PassesOwn.never rfl (pi_range1 (by rfl) T.n_range (pa_cons (pv 1) pa_nil)) (pg_name (i := 3) sc_choices.nd rfl (.inl rfl))
      (pss_one (ps_set (i := 2) sc_choices.nd rfl (.inl rfl) (pe_op op_fdivN (pe_op op_mul (pv 2) (pe_op op_sub (pv 0) (pv 3))) (pe_op op_add (pv 3) pe_int)))))
      (pss_one (ps_ret (pv 2))))), ?_⟩
    refine ⟨_, rfl, _, rfl, by omega, by omega, ?_⟩
    refine for_range (lo := 0) (n := ((m : Nat) : Int).toNat) (fun i σ H' => H' = H ∧ ∃ y3, σ = [some (.int (t : Int)), some (.int (m : Int)), some (.int (ch t i : Nat)), y3]) ⟨rfl, none, by rw [ch_zero]; rfl⟩ (fun i σ H' hi p => ?_) (fun σ H' p => ?_)
    · obtain ⟨rfl, y3, rfl⟩ := p
      have hit : i ≤ t := by omega
      refine ⟨_, rfl, _, rfl, _, rfl, _, _, rfl, rfl, _, _, rfl, rfl, .inr ⟨by omega, by omega⟩, _, rfl, _, _, rfl, rfl, _, _, rfl, rfl, ⟨by omega, by omega⟩, rfl, some (.int (0 + (i : Int))), ?_⟩
      dsimp only
      rw [show (0 : Int) + (i : Int) = (i : Int) from by omega, ch_div hit]
      rfl
    · obtain ⟨rfl, y3, rfl⟩ := p
      exact ⟨_, rfl, by simpa using q⟩
/-! ### stands, doings -/
def sp_stands (K : PySem.W.Frag) : Sp := fun vs H Q _ => ∃ v room ls, vs = [v] ∧ Dp K H v (shD room ls) ∧ ShOk room ls ∧ RI H Q (ch ((room - ls.sum).toNat + ls.length) ls.length : Nat)
theorem tot_nat {room : Int} {ls : List Int} (sh : ShOk room ls) : room - ls.sum + ((ls.length : Nat) : Int) = (((room - ls.sum).toNat + ls.length : Nat) : Int) := by
  have := sh.lo
  omega
def sp_doings (K : PySem.W.Frag) : Sp := fun vs H Q _ => ∃ v room ls, vs = [v] ∧ Dp K H v (shD room ls) ∧ ShOk room ls ∧ RI H Q ((ch ((room - ls.sum).toNat + ls.length) ls.length : Int) * (ch ((room - ls.sum).toNat + ls.length) ls.length : Int) - (ch ((room - ls.sum).toNat + ls.length) (ls.length - 1) : Int) * (ch ((room - ls.sum).toNat + ls.length) (ls.length + 1) : Int))
theorem ch_wide {t : Nat} (h : t ≤ 408) (a b : Nat) : CMulW (ch t a : Nat) (ch t b : Nat) := by
  have lt : ∀ k : Nat, ((ch t k : Nat) : Int).natAbs < 2 ^ 409 := fun k => by
    rw [Int.natAbs_natCast]
    exact Nat.lt_of_le_of_lt (ch_le t k) (Nat.pow_lt_pow_right (by decide) (by omega))
  exact wide_mul (lt a) (lt b) (by decide) (by decide) (by decide)
theorem ok_doings (T : Tx K mg) : FnOk P w K mg base CX0 6 T.f_doings T.fd_doings ["shelf"] (sp_doings K) := by
  have G_need_shelf := ok_need_shelf (P := P) (w := w) (base := base) T
  have G_play_of := ok_play_of (P := P) (w := w) (base := base) T
  have G_choices := ok_choices (P := P) (w := w) (base := base) T
  refine T.F_doings.ok sc_doings (fun vs H Q E h => ?_) (fun cdv A outer s H vs Q E hr h => ?_)
  · obtain ⟨_, _, _, rfl, _⟩ := h
    rfl
  · obtain ⟨v, room, ls, rfl, hv, sh, q⟩ := h
    refine ⟨_, (pss_cons (ps_expr (pe_call (G_need_shelf.mono (by first | decide | omega)) hr (by rfl) T.g_need_shelf T.F_need_shelf.kp T.b_need_shelf .nil pass0 (pa_cons (pv 0) pa_nil)))
      (pss_cons (ps_set (i := 1) sc_doings.nd rfl (.inl rfl) (pe_callB call_len_seq (by rfl) T.n_len (by decide +kernel) (pa_cons (pe_ix ix_tup (pv 0) pe_int (fun _ _ => rfl)) pa_nil)))
      (pss_cons (ps_set (i := 2) sc_doings.nd rfl (.inl rfl) (pe_op op_add (pe_call (G_play_of.mono (by first | decide | omega)) hr (by rfl) T.g_play_of T.F_play_of.kp T.b_play_of .nil pass0 (pa_cons (pv 0) pa_nil)) (pv 1)))
      (pss_cons (ps_set (i := 3) sc_doings.nd rfl (.inl rfl) (pe_op op_mulW (pe_call (G_choices.mono (by first | decide | omega)) hr (by rfl) T.g_choices T.F_choices.kp T.b_choices .nil pass0 (pa_cons (pv 2) (pa_cons (pe_op op_sub (pv 1) pe_int) pa_nil))) (pe_call (G_choices.mono (by first | decide | omega)) hr (by rfl) T.g_choices T.F_choices.kp T.b_choices .nil pass0 (pa_cons (pv 2) (pa_cons (pe_op op_add (pv 1) pe_int) pa_nil)))))
      (pss_one (ps_ret (pe_op op_sub (pe_op op_mulW (pe_call (G_choices.mono (by first | decide | omega)) hr (by rfl) T.g_choices T.F_choices.kp T.b_choices .nil pass0 (pa_cons (pv 2) (pa_cons (pv 1) pa_nil))) (pe_call (G_choices.mono (by first | decide | omega)) hr (by rfl) T.g_choices T.F_choices.kp T.b_choices .nil pass0 (pa_cons (pv 2) (pa_cons (pv 1) pa_nil)))) (pv 3)))))))), ?_⟩
    refine ⟨v, rfl, v, _, rfl, hv, isShelf_ok sh, fun H1 s1 => ?_⟩
    obtain ⟨a, b, rfl, sa, sb⟩ := dp_shelf (Dpm s1 hv)
    refine ⟨.ref a, rfl, a, _, 1, _, rfl, rfl, sa, atI_nat (j := 1) rfl, b, _, rfl, .inr sb, ?_⟩
    rw [iV_len]
    refine ⟨_, rfl, .ref a, room, ls, rfl, Dpm s1 hv, _, rfl, _, _, rfl, rfl, ?_⟩
    have n8 := sh.n8
    have n1 := sh.n1
    have hi := sh.hi
    have lo := sh.lo
    dsimp only
    rw [tot_nat sh]
    have tb : (room - ls.sum).toNat + ls.length ≤ 408 := by omega
    have tn : ls.length ≤ (room - ls.sum).toNat + ls.length := by omega
    have q := q H1 s1
    generalize (room - ls.sum).toNat + ls.length = t at q tb tn ⊢
    refine ⟨_, rfl, _, rfl, _, _, rfl, rfl, t, ls.length - 1, ?_, by omega, by omega, ?_⟩
    · dsimp only
      rw [show ((ls.length : Nat) : Int) - 1 = ((ls.length - 1 : Nat) : Int) from by omega]
      rfl
    refine ⟨_, rfl, _, rfl, _, _, rfl, rfl, t, ls.length + 1, rfl, by omega, by omega, ?_⟩
    refine ⟨_, _, rfl, rfl, ch_wide tb _ _, ?_⟩
    refine ⟨_, rfl, _, rfl, t, ls.length, rfl, by omega, by omega, _, rfl, _, rfl, t, ls.length, rfl, by omega, by omega, ?_⟩
    exact ⟨_, _, rfl, rfl, ch_wide tb _ _, _, rfl, _, _, rfl, rfl, q⟩
/-! ### leading -/
def sp_sources (K : PySem.W.Frag) : Sp := fun vs H Q _ => ∃ lo pl hi s : Int, vs = [.int lo, .int s, .int hi, .int pl] ∧ ∀ t, H t = none → Q (.ref t) (upd H t (.tup [.int (srcF pl lo hi s).1, .int (srcF pl lo hi s).2]))
theorem ok_sources (T : Tx K mg) : FnOk P w K mg base CX0 1 T.f_sources T.fd_sources ["low", "place", "high", "play"] (sp_sources K) := by
  refine T.F_sources.ok sc_sources (fun vs H Q E h => ?_) (fun cdv A outer s H vs Q E hr h => ?_)
  · obtain ⟨_, _, _, _, rfl, _⟩ := h
    rfl
  · obtain ⟨lo, pl, hi, s, rfl, q⟩ := h
    refine ⟨_, (pss_cons (ps_set (i := 4) sc_sources.nd rfl (.inl rfl) (pe_ifExp (pt_cmpR op_eq (pv 1) (pv 0) (nomark _)) pe_int (pv 1)))
      (pss_cons (ps_set (i := 5) sc_sources.nd rfl (.inl rfl) (pe_ifExp (pt_cmpR op_eq (pv 1) (pv 2) (nomark _)) (pv 3) (pv 1)))
      (pss_one (ps_ret (pe_tup (pa_cons (pv 4) (pa_cons (pv 5) pa_nil))))))), ?_⟩
    have vi : ∀ a b : Int, decide (V.int a = V.int b) = decide (a = b) := fun a b => by
      by_cases h : a = b
      · rw [h]; simp
      · rw [decide_eq_false h, decide_eq_false (fun z => h (V.int.inj z))]
    have fin : ∀ f : Int, f = (srcF pl lo hi s).1 → ∀ H', H' = H → tSeq (tAsg (tIf (tTest (tOp rEq (tVar 1) (tVar 2))) (tVar 3) (tVar 1)) (gName 5)) (tRet (tTup (tCons (tVar 4) (tCons (tVar 5) tNil)))) { nx := fun _ _ => False, rt := Q } [some (.int lo), some (.int s), some (.int hi), some (.int pl), some (.int f), none] H' := by
      intro f hf H' hH
      subst hH
      refine ⟨_, rfl, _, rfl, rfl, _, rfl, ?_⟩
      rw [vi]
      by_cases c : s = hi
      · rw [decide_eq_true c]
        refine iteT ⟨_, rfl, _, rfl, _, rfl, by show 2 ≤ sizeLine; decide, fun t nt => ?_⟩
        have := q t nt
        rw [← hf, show (srcF pl lo hi s).2 = pl from by unfold srcF; simp only; rw [if_pos c]] at this
        exact this
      · rw [decide_eq_false c]
        refine iteF ⟨_, rfl, _, rfl, _, rfl, by show 2 ≤ sizeLine; decide, fun t nt => ?_⟩
        have := q t nt
        rw [← hf, show (srcF pl lo hi s).2 = s from by unfold srcF; simp only; rw [if_neg c]] at this
        exact this
    refine ⟨_, rfl, _, rfl, rfl, _, rfl, ?_⟩
    rw [vi]
    by_cases c : s = lo
    · rw [decide_eq_true c]
      exact iteT (fin 0 (by unfold srcF; simp only; rw [if_pos c]) H rfl)
    · rw [decide_eq_false c]
      exact iteF ⟨_, rfl, fin s (by unfold srcF; simp only; rw [if_neg c]) H rfl⟩
abbrev wL (m : Nat) (W : Nat → Nat) : List Int := plL m fun p => (W p : Int)
def sp_next (K : PySem.W.Frag) : Sp := fun vs H Q _ => ∃ (a : Addr) (m : Nat) (W : Nat → Nat) (f l : Int), vs = [.ref a, .int f, .int l] ∧ SqL K H a (iV (wL m W)) ∧ m ≤ 1000 ∧ ∀ p H', Same H H' → H p = none → H' p = some (.lst (iV (wL m (stp (f, l) W)))) → Q (.ref p) H'
theorem ok_with_next_block (T : Tx K mg) : FnOk P w K mg base CX0 1 T.f_with_next_block T.fd_with_next_block ["ways", "first", "last"] (sp_next K) := by
  refine T.F_with_next_block.ok sc_with_next_block (fun vs H Q E h => ?_) (fun cdv A outer s H vs Q E hr h => ?_)
  · obtain ⟨_, _, _, _, _, rfl, _⟩ := h
    rfl
  · obtain ⟨a, m, W, f, l, rfl, ha, hm, q⟩ := h
    refine ⟨_, (pss_cons (ps_set (i := 3) sc_with_next_block.nd rfl (.inl rfl) (pe_lst pa_nil))
      (pss_cons (ps_set (i := 4) sc_with_next_block.nd rfl (.inl rfl) pe_int)
      (pss_cons (ps_for PassesOwn.never rfl (pi_enum1 (by rfl) T.n_enumerate (pa_cons (pv 0) pa_nil)) (pg_tup rfl (pgs_cons (pg_name (i := 5) sc_with_next_block.nd rfl (.inl rfl)) (pgs_cons (pg_name (i := 6) sc_with_next_block.nd rfl (.inl rfl)) pgs_nil)))
      (pss_cons (ps_aug (i := 4) sc_with_next_block.nd rfl (.inl rfl) (pv 6) ip_add)
      (pss_one (ps_expr (pe_bm PySem.F.plainAttrs_list PySem.F.slot_list_append PySem.F.type_list_append mt_append (pv 3) (pa_cons (pe_ifExp (pt_chain op_le op_le (pv 1) (pv 5) (pv 2)) (pv 4) pe_int) pa_nil))))))
      (pss_one (ps_ret (pv 3)))))), ?_⟩
    refine ⟨Nat.zero_le _, fun D nD => ?_⟩
    have s1 := same_new (o := .lst []) nD
    refine ⟨_, rfl, true, a, _, rfl, s1.seq ha, ?_⟩
    refine for_it (walk_1 (b := true) (n := m) (xs := iV (wL m W)) (by rw [iV_len, plL_len])) (fun i σ H' => Same H H' ∧ H' D = some (.lst (iV ((wL m (stp (f, l) W)).take i))) ∧ ∃ y5 y6, σ = [some (.ref a), some (.int f), some (.int l), some (.ref D), some (.int (sumTo W i : Nat)), y5, y6])
      ⟨s1, upd_same, _, _, rfl⟩ (fun i σ H' _ p => p.1.seq ha) (fun i x σ H' H2 hi p yy => ?_) (fun σ H' p => ?_)
    · obtain ⟨s2, hD, y5, y6, rfl⟩ := p
      obtain ⟨Tt, x, rfl, nT, rfl, hx⟩ := yy
      rw [iV_get (plL_get hi)] at hx
      cases Option.some.inj hx
      have t3 := same_new (o := .tup [.int (i : Nat), .int (W i : Nat)]) nT
      have s3 := s2.trans t3
      have hD3 := t3 _ _ hD
      have hT3 : SqT K (upd H' Tt (.tup [.int (i : Nat), .int (W i : Nat)])) Tt [.int (i : Nat), .int (W i : Nat)] := .inl (.inl upd_same)
      generalize upd H' Tt (.tup [.int (i : Nat), .int (W i : Nat)]) = H3 at *
      have e1 : ((sumTo W i : Nat) : Int) + ((W i : Nat) : Int) = ((sumTo W (i + 1) : Nat) : Int) := by
        rw [sumTo]
        omega
      refine ⟨Tt, _, rfl, hT3, rfl, _, _, rfl, _, [], rfl, rfl, ?_⟩
      refine ⟨_, rfl, _, rfl, _, _, rfl, rfl, ?_⟩
      dsimp only
      rw [e1]
      have fin : ∀ z : Int, z = ((stp (f, l) W i : Nat) : Int) → ∃ l' xs z', (.ref D : V) = .ref l' ∧ [V.int z] = [z'] ∧ H3 l' = some (.lst xs) ∧ xs.length < sizeLine ∧ (Same H (upd H3 l' (.lst (xs ++ [z']))) ∧ upd H3 l' (.lst (xs ++ [z'])) D = some (.lst (iV ((wL m (stp (f, l) W)).take (i + 1)))) ∧ ∃ y5 y6, [some (V.ref a), some (.int f), some (.int l), some (.ref D), some (.int (sumTo W (i + 1) : Nat)), some (.int (i : Nat)), some (.int (W i : Nat))] = [some (.ref a), some (.int f), some (.int l), some (.ref D), some (.int (sumTo W (i + 1) : Nat)), y5, y6]) := by
        intro z hz
        refine ⟨D, _, _, rfl, rfl, hD3, ?_, fun b o hb => ?_, ?_, _, _, rfl⟩
        · rw [List.length_map, List.length_take]
          exact small1000 (by omega)
        · rw [upd_ne (ne_of_none hb nD)]
          exact s3 b o hb
        · rw [upd_same, plL_take hi, hz]
          simp
      refine ⟨.ref D, rfl, .inl ⟨rfl, _, .inl (.inl hD3)⟩, _, rfl, _, rfl, _, _, rfl, rfl, _, rfl, ?_⟩
      unfold stp at fin
      simp only at fin
      by_cases c1 : f ≤ (i : Int)
      · rw [if_pos (decide_eq_true c1)]
        refine ⟨_, rfl, _, _, rfl, rfl, _, rfl, ?_⟩
        by_cases c2 : (i : Int) ≤ l
        · rw [decide_eq_true c2]
          exact iteT ⟨_, rfl, fin _ (by rw [if_pos ⟨c1, c2⟩])⟩
        · rw [decide_eq_false c2]
          exact iteF (fin _ (by rw [if_neg (fun z => c2 z.2)]; rfl))
      · rw [if_neg (by simp [c1])]
        exact ⟨_, rfl, iteF (fin _ (by rw [if_neg (fun z => c1 z.1)]; rfl))⟩
    · obtain ⟨s2, hD, y5, y6, rfl⟩ := p
      rw [List.take_of_length_le (by rw [plL_len]; exact Nat.le_refl _)] at hD
      exact ⟨_, rfl, q D H' s2 nD hD⟩
def sp_leading (K : PySem.W.Frag) : Sp := fun vs H Q _ => ∃ v u t room ls lo hi y, vs = [v, u, t] ∧ Dp K H v (shD room ls) ∧ ShOk room ls ∧ Dp K H u (dgD ls lo hi) ∧ DoOk ls.length (room - ls.sum) lo hi ∧ Dp K H t (tI (stL ls y)) ∧ Rise ls.length (room - ls.sum) y ∧ RI H Q (leadN ls.length (room - ls.sum) lo hi y : Nat)
theorem sum_wL (W : Nat → Nat) : ∀ m : Nat, (wL m W).sum = (sumTo W m : Nat)
  | 0 => rfl
  | m + 1 => by
    have ih := sum_wL W m
    show ((List.range (m + 1)).map fun p => (W p : Int)).sum = _
    rw [List.range_succ, List.map_append, List.sum_append, sumTo]
    have ih : ((List.range m).map fun p => (W p : Int)).sum = (sumTo W m : Nat) := ih
    rw [ih]
    simp
theorem wL_zero (m : Nat) : [V.int 1] ++ (List.replicate m [V.int 0]).flatten = iV (wL (m + 1) W0) := by
  have e : wL (m + 1) W0 = 1 :: List.replicate m 0 := by
    show (List.range (m + 1)).map (fun p => (W0 p : Int)) = _
    rw [List.range_succ_eq_map, List.map_cons, List.map_map]
    congr 1
    apply List.ext_getElem?
    intro j
    by_cases h : j < m
    · simp [h, W0]
    · rw [List.getElem?_eq_none (by simp; omega), List.getElem?_eq_none (by simp; omega)]
  rw [e]
  show V.int 1 :: _ = V.int 1 :: iV (List.replicate m 0)
  congr 1
  induction m with
  | zero => rfl
  | succ m ih =>
    rw [List.replicate_succ, List.replicate_succ, List.flatten_cons]
    show V.int 0 :: _ = V.int 0 :: _
    congr 1
    apply ih
    show (List.range (m + 1)).map (fun p => (W0 p : Int)) = _
    rw [List.range_succ_eq_map, List.map_cons, List.map_map]
    congr 1
    apply List.ext_getElem?
    intro j
    by_cases h : j < m
    · simp [h, W0]
    · rw [List.getElem?_eq_none (by simp; omega), List.getElem?_eq_none (by simp; omega)]
theorem ok_leading (T : Tx K mg) : FnOk P w K mg base CX0 9 T.f_leading T.fd_leading ["shelf", "doing", "stand"] (sp_leading K) := by
  have G_need_doing := ok_need_doing (P := P) (w := w) (base := base) T
  have G_need_stand := ok_need_stand (P := P) (w := w) (base := base) T
  have G_play_of := ok_play_of (P := P) (w := w) (base := base) T
  have G_places_of := ok_places_of (P := P) (w := w) (base := base) T
  have G_sources := ok_sources (P := P) (w := w) (base := base) T
  have G_with_next_block := ok_with_next_block (P := P) (w := w) (base := base) T
  refine T.F_leading.ok sc_leading (fun vs H Q E h => ?_) (fun cdv A outer s H vs Q E hr h => ?_)
  · obtain ⟨_, _, _, _, _, _, _, _, rfl, _⟩ := h
    rfl
  · obtain ⟨v, u, t, room, ls, lo, hi, y, rfl, hv, sh, hu, dok, ht, ri, q⟩ := h
    refine ⟨_, (pss_cons (ps_expr (pe_call (G_need_doing.mono (by first | decide | omega)) hr (by rfl) T.g_need_doing T.F_need_doing.kp T.b_need_doing .nil pass0 (pa_cons (pv 0) (pa_cons (pv 1) pa_nil))))
      (pss_cons (ps_expr (pe_call (G_need_stand.mono (by first | decide | omega)) hr (by rfl) T.g_need_stand T.F_need_stand.kp T.b_need_stand .nil pass0 (pa_cons (pv 0) (pa_cons (pv 2) pa_nil))))
      (pss_cons (ps_set (i := 3) sc_leading.nd rfl (.inl rfl) (pe_call (G_play_of.mono (by first | decide | omega)) hr (by rfl) T.g_play_of T.F_play_of.kp T.b_play_of .nil pass0 (pa_cons (pv 0) pa_nil)))
      (pss_cons (ps_set (i := 4) sc_leading.nd rfl (.inl rfl) (pe_call (G_places_of.mono (by first | decide | omega)) hr (by rfl) T.g_places_of T.F_places_of.kp T.b_places_of .nil pass0 (pa_cons (pv 0) (pa_cons (pe_ix ix_tup (pv 1) pe_int (fun _ _ => rfl)) pa_nil))))
      (pss_cons (ps_set (i := 5) sc_leading.nd rfl (.inl rfl) (pe_call (G_places_of.mono (by first | decide | omega)) hr (by rfl) T.g_places_of T.F_places_of.kp T.b_places_of .nil pass0 (pa_cons (pv 0) (pa_cons (pe_ix ix_tup (pv 1) pe_int (fun _ _ => rfl)) pa_nil))))
      (pss_cons (ps_set (i := 6) sc_leading.nd rfl (.inl rfl) (pe_op op_cat (pe_lst (pa_cons pe_int pa_nil)) (pe_op op_rep (pe_lst (pa_cons pe_int pa_nil)) (pv 3))))
      (pss_cons (ps_for PassesOwn.never rfl (pi_zip3 true true true (by rfl) T.n_zip (pa_cons (pv 4) (pa_cons (pe_call (G_places_of.mono (by first | decide | omega)) hr (by rfl) T.g_places_of T.F_places_of.kp T.b_places_of .nil pass0 (pa_cons (pv 0) (pa_cons (pv 2) pa_nil))) (pa_cons (pv 5) pa_nil)))) (pg_tup rfl (pgs_cons (pg_name (i := 7) sc_leading.nd rfl (.inl rfl)) (pgs_cons (pg_name (i := 8) sc_leading.nd rfl (.inl rfl)) (pgs_cons (pg_name (i := 9) sc_leading.nd rfl (.inl rfl)) pgs_nil))))
      (pss_cons (ps_if (pt_not (pt_chain op_le op_le (pv 7) (pv 8) (pv 9))) (pss_one (ps_ret pe_int)) pss_nil)
      (pss_cons (ps_asg (pe_call (G_sources.mono (by first | decide | omega)) hr (by rfl) T.g_sources T.F_sources.kp T.b_sources .nil pass0 (pa_cons (pv 7) (pa_cons (pv 8) (pa_cons (pv 9) (pa_cons (pv 3) pa_nil))))) (pg_tup rfl (pgs_cons (pg_name (i := 10) sc_leading.nd rfl (.inl rfl)) (pgs_cons (pg_name (i := 11) sc_leading.nd rfl (.inl rfl)) pgs_nil))))
      (pss_one (ps_set (i := 6) sc_leading.nd rfl (.inl rfl) (pe_call (G_with_next_block.mono (by first | decide | omega)) hr (by rfl) T.g_with_next_block T.F_with_next_block.kp T.b_with_next_block .nil pass0 (pa_cons (pv 6) (pa_cons (pv 10) (pa_cons (pv 11) pa_nil)))))))))
      (pss_one (ps_ret (pe_callB (cr_sum rfl) (by rfl) T.n_sum (by decide +kernel) (pa_cons (pv 6) pa_nil))))))))))), ?_⟩
    have n8 := sh.n8
    have plo := sh.lo
    have phi := sh.hi
    refine ⟨v, rfl, u, rfl, v, u, room, ls, _, rfl, hv, sh, hu, isDoing_ok sh.lo dok, fun H1 s1 => ?_⟩
    refine ⟨v, rfl, t, rfl, v, t, room, ls, _, rfl, Dpm s1 hv, sh, Dpm s1 ht, isStand_ok ri sh.lo, fun H2 s2 => ?_⟩
    have g2 := s1.trans s2
    refine ⟨v, rfl, v, room, ls, rfl, Dpm g2 hv, ?_⟩
    obtain ⟨c, x1, x2, rfl, sc, h1, h2⟩ := dp_two (Dpm g2 hu)
    refine ⟨v, rfl, .ref c, rfl, c, _, 0, _, rfl, rfl, sc, atI_nat (j := 0) rfl, v, x1, room, ls, lo, rfl, Dpm g2 hv, h1, n8, fun p3 H3 s3 np3 hp3 => ?_⟩
    have g3 := g2.trans s3
    refine ⟨v, rfl, .ref c, rfl, c, _, 1, _, rfl, rfl, seqT_mono s3 sc, atI_nat (j := 1) rfl, v, x2, room, ls, hi, rfl, Dpm g3 hv, Dpm s3 h2, n8, fun p4 H4 s4 np4 hp4 => ?_⟩
    have g4 := g3.trans s4
    have hp3 := s4 _ _ hp3
    refine ⟨by show 1 ≤ sizeLine; decide, fun z1 nz1 => ?_⟩
    refine ⟨by show 1 ≤ sizeLine; decide, fun z2 nz2 => ?_⟩
    have hz1 : upd (upd H4 z1 (.lst [.int 1])) z2 (.lst [.int 0]) z1 = some (.lst [.int 1]) := same_new nz2 _ _ upd_same
    have t5 := (same_new (o := .lst [.int 1]) nz1).trans (same_new (o := .lst [.int 0]) nz2)
    have hz2 : upd (upd H4 z1 (.lst [.int 1])) z2 (.lst [.int 0]) z2 = some (.lst [.int 0]) := upd_same
    generalize upd (upd H4 z1 (.lst [.int 1])) z2 (.lst [.int 0]) = H5 at *
    refine ⟨_, rfl, z2, _, _, rfl, rfl, hz2, by omega, by omega, Nat.le_of_lt (small1000 (by simp; omega)), fun z3 nz3 => ?_⟩
    have t6 := same_new (o := .lst ((List.replicate (room - ls.sum).toNat [V.int 0]).flatten)) nz3
    refine ⟨z1, z3, _, _, rfl, rfl, t6 _ _ hz1, upd_same, Nat.le_of_lt (small1000 (by simp; omega)), fun z4 nz4 => ?_⟩
    have t7 := same_new (o := .lst ([V.int 1] ++ (List.replicate (room - ls.sum).toNat [V.int 0]).flatten)) nz4
    rw [wL_zero] at t7 ⊢
    have hz4 : upd (upd H5 z3 (.lst ((List.replicate (room - ls.sum).toNat [V.int 0]).flatten))) z4 (.lst (iV (wL ((room - ls.sum).toNat + 1) W0))) z4 = some (.lst (iV (wL ((room - ls.sum).toNat + 1) W0))) := upd_same
    have g7 := ((g4.trans t5).trans t6).trans t7
    have hp3 := t7 _ _ (t6 _ _ (t5 _ _ hp3))
    have hp4 := t7 _ _ (t6 _ _ (t5 _ _ hp4))
    generalize upd (upd H5 z3 (.lst ((List.replicate (room - ls.sum).toNat [V.int 0]).flatten))) z4 (.lst (iV (wL ((room - ls.sum).toNat + 1) W0))) = H7 at *
    refine ⟨.ref p3, rfl, v, rfl, t, rfl, v, t, room, ls, y, rfl, Dpm g7 hv, Dpm g7 ht, n8, fun p8 H8 s8 np8 hp8 => ?_⟩
    have g8 := g7.trans s8
    have hp3 := s8 _ _ hp3
    have hp4 := s8 _ _ hp4
    have hz4 := s8 _ _ hz4
    refine ⟨.ref p4, rfl, p3, p8, p4, _, _, _, rfl, .inl (.inl hp3), .inl (.inl hp8), .inl (.inl hp4), ?_⟩
    refine for_it (walk_3 (b1 := true) (b2 := true) (b3 := true) (n := ls.length) (xs := iV (plL ls.length lo)) (ys := iV (plL ls.length y)) (zs := iV (plL ls.length hi)) (by simp [iV_len, plL_len])) (fun i σ H' => Same H8 H' ∧ (∀ j, j < i → lo j ≤ y j ∧ y j ≤ hi j) ∧ ∃ z y7 y8 y9 y10 y11, σ = [some v, some (.ref c), some t, some (.int (room - ls.sum)), some (.ref p3), some (.ref p4), some (.ref z), y7, y8, y9, y10, y11] ∧ H' z = some (.lst (iV (wL ((room - ls.sum).toNat + 1) (dpW (boxF i (room - ls.sum) lo hi y))))))
      ⟨Same.refl _, by omega, z4, _, _, _, _, _, rfl, hz4⟩ (fun i σ H' _ p => ⟨.inl (.inl (p.1 _ _ hp3)), .inl (.inl (p.1 _ _ hp8)), .inl (.inl (p.1 _ _ hp4))⟩) (fun i x σ H9 H9' hi' p yy => ?_) (fun σ H9 p => ?_)
    · obtain ⟨s9, hin, z, y7, y8, y9, y10, y11, rfl, hz⟩ := p
      obtain ⟨Tt, a1, a2, a3, rfl, nT, rfl, e1, e2, e3⟩ := yy
      rw [iV_get (plL_get hi')] at e1 e2 e3
      cases Option.some.inj e1
      cases Option.some.inj e2
      cases Option.some.inj e3
      have t10 := same_new (o := .tup [.int (lo i), .int (y i), .int (hi i)]) nT
      have hT : SqT K (upd H9 Tt (.tup [.int (lo i), .int (y i), .int (hi i)])) Tt [.int (lo i), .int (y i), .int (hi i)] := .inl (.inl upd_same)
      have hz := t10 _ _ hz
      have s10 := s9.trans t10
      generalize upd H9 Tt (.tup [.int (lo i), .int (y i), .int (hi i)]) = H10 at *
      refine ⟨Tt, _, rfl, hT, rfl, _, _, rfl, _, _, rfl, _, [], rfl, rfl, ?_⟩
      refine ⟨_, rfl, _, rfl, _, _, rfl, rfl, _, rfl, ?_⟩
      have bad : ¬ (lo i ≤ y i ∧ y i ≤ hi i) → Q (.int 0) H10 := fun nb => by
        have := q H10 (g8.trans s10)
        rw [show leadN ls.length (room - ls.sum) lo hi y = 0 from by unfold leadN; rw [if_neg (fun z => nb (z i hi'))]] at this
        exact this
      by_cases c1 : lo i ≤ y i
      · rw [if_pos (decide_eq_true c1)]
        refine ⟨_, rfl, _, _, rfl, rfl, _, rfl, ?_⟩
        by_cases c2 : y i ≤ hi i
        · rw [decide_eq_true c2]
          refine iteF ⟨_, rfl, _, rfl, _, rfl, _, rfl, lo i, room - ls.sum, hi i, y i, rfl, fun t11 nt11 => ?_⟩
          have u11 := same_new (o := .tup [.int (srcF (room - ls.sum) (lo i) (hi i) (y i)).1, .int (srcF (room - ls.sum) (lo i) (hi i) (y i)).2]) nt11
          have hz := u11 _ _ hz
          refine ⟨t11, _, rfl, .inl (.inl upd_same), rfl, _, _, rfl, _, [], rfl, rfl, ?_⟩
          generalize upd H10 t11 (.tup [.int (srcF (room - ls.sum) (lo i) (hi i) (y i)).1, .int (srcF (room - ls.sum) (lo i) (hi i) (y i)).2]) = H11 at *
          refine ⟨_, rfl, _, rfl, _, rfl, z, _, _, _, _, rfl, .inl (.inl hz), by omega, fun p12 H12 s12 np12 hp12 => ?_⟩
          refine ⟨(s10.trans u11).trans s12, fun j hj => ?_, p12, _, _, _, _, _, rfl, ?_⟩
          · by_cases e : j < i
            · exact hin j e
            · have : j = i := by omega
              subst this
              exact ⟨c1, c2⟩
          · rw [boxF_succ, dpW_snoc]
            exact hp12
        · rw [decide_eq_false c2]
          exact iteT (bad fun z => c2 z.2)
      · rw [if_neg (by simp [c1])]
        exact ⟨_, rfl, iteT (bad fun z => c1 z.1)⟩
    · obtain ⟨s9, hin, z, y7, y8, y9, y10, y11, rfl, hz⟩ := p
      refine ⟨_, rfl, z, _, rfl, .inl (.inl hz), ?_⟩
      have := q H9 (g8.trans s9)
      unfold leadN cnt at this
      rw [if_pos hin, ← sum_wL] at this
      exact this
end PS

namespace PS
open PySem PySem.Spec PyProof.Rows L2
variable {P : Program} {w : World} {K : PySem.W.Frag} {mg : Str → Option Value} {base : Heap}
/-! ### bands -/
abbrev bandL (v1 v2 v3 v4 v5 : V) : List (Str × V) := [("first", v1), ("beyond", v2), ("place", v3), ("up", v4), ("down", v5)]
def bandF (y w : Nat → Int) (r : Nat × Nat) : List (Str × V) := bandL (.int r.1) (.int r.2) (.int (w r.1)) (.bl (fl y w r).1) (.bl (fl y w r).2)
theorem band_put (v1 v2 v3 v4 v5 : V) : putF "down" v5 (putF "up" v4 (putF "place" v3 (putF "beyond" v2 (putF "first" v1 [])))) = bandL v1 v2 v3 v4 v5 := rfl
theorem band_first (y w : Nat → Int) (r : Nat × Nat) : (bandF y w r).lookup ("first" : Str) = some (.int r.1) := rfl
theorem band_beyond (y w : Nat → Int) (r : Nat × Nat) : (bandF y w r).lookup ("beyond" : Str) = some (.int r.2) := rfl
theorem band_place (y w : Nat → Int) (r : Nat × Nat) : (bandF y w r).lookup ("place" : Str) = some (.int (w r.1)) := rfl
theorem band_up (y w : Nat → Int) (r : Nat × Nat) : (bandF y w r).lookup ("up" : Str) = some (.bl (fl y w r).1) := rfl
theorem band_down (y w : Nat → Int) (r : Nat × Nat) : (bandF y w r).lookup ("down" : Str) = some (.bl (fl y w r).2) := rfl
def sp_Band_init (C : Addr) : Sp := fun vs H Q _ => ∃ (x dx : Addr) (v1 v2 v3 v4 v5 : V), vs = [.ref x, v1, v2, v3, v4, v5] ∧ H x = some (.ins C dx []) ∧ ∀ H', H' x = some (.ins C dx (bandL v1 v2 v3 v4 v5)) → (∀ b o, H b = some o → b ≠ x → H' b = some o) → Q .non H'
theorem ok_Band_init (T : Tx K mg) : FnOk P w K mg base CX0 1 T.f_Band_init T.fd_Band_init ["self", "first", "beyond", "place", "up", "down"] (sp_Band_init T.C_Band) := by
  refine T.F_Band_init.ok sc_Band_init (fun vs H Q E h => ?_) (fun cdv A outer s H vs Q E hr h => ?_)
  · obtain ⟨_, _, _, _, _, _, _, rfl, _⟩ := h
    rfl
  · obtain ⟨x, dx, v1, v2, v3, v4, v5, rfl, hx, q⟩ := h
    refine ⟨_, (pss_cons (ps_fld (pv 0) (pv 1) rfl)
      (pss_cons (ps_fld (pv 0) (pv 2) rfl)
      (pss_cons (ps_fld (pv 0) (pv 3) rfl)
      (pss_cons (ps_fld (pv 0) (pv 4) rfl)
      (pss_one (ps_fld (pv 0) (pv 5) rfl)))))), ?_⟩
    refine ⟨v1, rfl, _, rfl, x, T.C_Band, dx, _, rfl, hx, T.cl_Band, T.na_Band_first, (by show 0 < 1000; decide), ?_⟩
    refine ⟨v2, rfl, _, rfl, x, T.C_Band, dx, _, rfl, upd_same, T.cl_Band, T.na_Band_beyond, (by show 1 < 1000; decide), ?_⟩
    refine ⟨v3, rfl, _, rfl, x, T.C_Band, dx, _, rfl, upd_same, T.cl_Band, T.na_Band_place, (by show 2 < 1000; decide), ?_⟩
    refine ⟨v4, rfl, _, rfl, x, T.C_Band, dx, _, rfl, upd_same, T.cl_Band, T.na_Band_up, (by show 3 < 1000; decide), ?_⟩
    refine ⟨v5, rfl, _, rfl, x, T.C_Band, dx, _, rfl, upd_same, T.cl_Band, T.na_Band_down, (by show 4 < 1000; decide), ?_⟩
    exact q _ upd_same fun b o e hb => by rw [upd_ne hb, upd_ne hb, upd_ne hb, upd_ne hb, upd_ne hb]; exact e
/-- a band in the heap -/
def BandAt (C : Addr) (H : Hp) (y w : Nat → Int) (v : V) (r : Nat × Nat) : Prop := ∃ a dx, v = .ref a ∧ H a = some (.ins C dx (bandF y w r))
inductive Bands (C : Addr) (H : Hp) (y w : Nat → Int) : List V → List (Nat × Nat) → Prop
  | nil : Bands C H y w [] []
  | cons {v : V} {vs : List V} {r : Nat × Nat} {rs : List (Nat × Nat)} : BandAt C H y w v r → Bands C H y w vs rs → Bands C H y w (v :: vs) (r :: rs)
theorem Bands.len {C : Addr} {H : Hp} {y w : Nat → Int} : ∀ {vs : List V} {rs : List (Nat × Nat)}, Bands C H y w vs rs → vs.length = rs.length
  | _, _, .nil => rfl
  | _, _, .cons _ h => by simp [h.len]
theorem Bands.mono {C : Addr} {H H' : Hp} {y w : Nat → Int} (k : ∀ a dx fs, H a = some (.ins C dx fs) → H' a = some (.ins C dx fs)) : ∀ {vs : List V} {rs : List (Nat × Nat)}, Bands C H y w vs rs → Bands C H' y w vs rs
  | _, _, .nil => .nil
  | _, _, .cons ⟨a, dx, e, h⟩ hs => .cons ⟨a, dx, e, k _ _ _ h⟩ (hs.mono k)
theorem Bands.same {C : Addr} {H H' : Hp} {y w : Nat → Int} {vs : List V} {rs : List (Nat × Nat)} (h : Bands C H y w vs rs) (s : Same H H') : Bands C H' y w vs rs := h.mono fun a dx fs e => s _ _ e
theorem Bands.app {C : Addr} {H : Hp} {y w : Nat → Int} : ∀ {vs us : List V} {rs qs : List (Nat × Nat)}, Bands C H y w vs rs → Bands C H y w us qs → Bands C H y w (vs ++ us) (rs ++ qs)
  | _, _, _, _, .nil, h => h
  | _, _, _, _, .cons a h, k => .cons a (h.app k)
theorem Bands.take {C : Addr} {H : Hp} {y w : Nat → Int} : ∀ {vs : List V} {rs : List (Nat × Nat)} (n : Nat), Bands C H y w vs rs → Bands C H y w (vs.take n) (rs.take n)
  | vs, rs, 0, h => by simp; exact .nil
  | _, _, n + 1, .nil => .nil
  | _, _, n + 1, .cons a h => .cons a (h.take n)
theorem Bands.drop {C : Addr} {H : Hp} {y w : Nat → Int} : ∀ {vs : List V} {rs : List (Nat × Nat)} (n : Nat), Bands C H y w vs rs → Bands C H y w (vs.drop n) (rs.drop n)
  | vs, rs, 0, h => by simpa using h
  | _, _, n + 1, .nil => .nil
  | _, _, n + 1, .cons a h => h.drop n
theorem Bands.get {C : Addr} {H : Hp} {y w : Nat → Int} : ∀ {vs : List V} {rs : List (Nat × Nat)} {i : Nat} {v : V}, Bands C H y w vs rs → vs[i]? = some v → ∃ r, rs[i]? = some r ∧ BandAt C H y w v r
  | _, _, i, v, .nil, e => by simp at e
  | _, _, 0, v, .cons a h, e => by simp at e; subst e; exact ⟨_, rfl, a⟩
  | _, _, i + 1, v, .cons a h, e => by
    obtain ⟨r, h1, h2⟩ := h.get (i := i) (v := v) (by simpa using e)
    exact ⟨r, by simpa using h1, h2⟩
def sp_band_from (K : PySem.W.Frag) (C : Addr) : Sp := fun vs H Q _ => ∃ (a b : Addr) (n : Nat) (y w : Nat → Int) (f : Nat), vs = [.ref a, .ref b, .int (f : Int)] ∧ SqL K H a (iV (plL n y)) ∧ SqL K H b (iV (plL n w)) ∧ Up n w ∧ f < n ∧ (f = 0 ∨ w (f - 1) < w f) ∧ n ≤ 8 ∧
  ∀ x dx H', Same H H' → H' x = some (.ins C dx (bandF y w (f, f + (plL n w).count (w f)))) → Q (.ref x) H'
theorem ok_band_from (T : Tx K mg) : FnOk P w K mg base CX0 3 T.f_band_from T.fd_band_from ["now", "wished", "first"] (sp_band_from K T.C_Band) := by
  have G_Band_init := ok_Band_init (P := P) (w := w) (base := base) T
  refine T.F_band_from.ok sc_band_from (fun vs H Q E h => ?_) (fun cdv A outer s H vs Q E hr h => ?_)
  · obtain ⟨_, _, _, _, _, _, rfl, _⟩ := h
    rfl
  · obtain ⟨a, b, n, y, w, f, rfl, sa, sb, up, hf, hb, n8, q⟩ := h
    refine ⟨_, (pss_cons (ps_set (i := 3) sc_band_from.nd rfl (.inl rfl) (pe_ix ix_list (pv 1) (pv 2) (fun _ _ => rfl)))
      (pss_cons (ps_set (i := 4) sc_band_from.nd rfl (.inl rfl) (pe_op op_add (pv 2) (pe_bm PySem.F.plainAttrs_list PySem.F.slot_list_count PySem.F.type_list_count mt_lcount (pv 1) (pa_cons (pv 3) pa_nil))))
      (pss_one (ps_ret (pe_make T.mk_Band (G_Band_init.mono (by first | decide | omega)) hr (by rfl) T.g_Band T.b_Band_init .nil pass0 (pa_cons (pv 2) (pa_cons (pv 4) (pa_cons (pv 3) (pa_cons (pe_cmpR op_lt (pe_ix ix_list (pv 0) (pv 2) (fun _ _ => rfl)) (pv 3) (nomark _)) (pa_cons (pe_cmpR op_gt (pe_ix ix_list (pv 0) (pe_op op_sub (pv 4) pe_int) (fun _ _ => rfl)) (pv 3) (nomark _)) pa_nil)))))))))), ?_⟩
    obtain ⟨c1, c2, c3, c4⟩ := run_count up hf hb
    generalize hc : (plL n w).count (w f) = c at *
    refine ⟨.ref b, rfl, _, rfl, b, _, _, _, rfl, rfl, sb, at_of (j := f) rfl (iV_get (plL_get hf)), ?_⟩
    refine ⟨_, rfl, .ref b, rfl, .inl ⟨rfl, _, sb⟩, _, rfl, b, _, _, rfl, rfl, sb, ?_⟩
    rw [hc]
    refine ⟨_, _, rfl, rfl, ?_⟩
    have e1 : (f : Int) + (c : Int) = ((f + c : Nat) : Int) := by omega
    dsimp only
    rw [e1]
    refine ⟨_, rfl, _, rfl, _, rfl, .ref a, rfl, _, rfl, a, _, _, _, rfl, rfl, sa, at_of (j := f) rfl (iV_get (plL_get hf)), _, rfl, _, _, rfl, rfl, .ref a, rfl, _, rfl, _, _, rfl, rfl, a, _, _, _, rfl, rfl, sa, at_of (j := f + c - 1) (by omega) (iV_get (plL_get (by omega))), _, rfl, _, _, rfl, rfl, ?_⟩
    intro x dx nx ndx nex
    refine ⟨x, dx, _, _, _, _, _, rfl, upd_same, fun H1 h1 k1 => ⟨rfl, ?_⟩⟩
    exact q x dx H1 (Same.made nx ndx k1) h1
def sp_bands_of (K : PySem.W.Frag) (C : Addr) : Sp := fun vs H Q _ => ∃ v u t room ls y w pl, vs = [v, u, t] ∧ Dp K H v (shD room ls) ∧ Dp K H u (tI (stL ls y)) ∧ Dp K H t (tI (stL ls w)) ∧ Rise ls.length pl w ∧ ls.length ≤ 8 ∧
  ∀ p H' us rs, Same H H' → H p = none → H' p = some (.lst us) → RunsTo w ls.length 0 ls.length rs → Bands C H' y w us rs → Q (.ref p) H'
theorem ok_bands_of (T : Tx K mg) : FnOk P w K mg base CX0 4 T.f_bands_of T.fd_bands_of ["shelf", "stand", "wish"] (sp_bands_of K T.C_Band) := by
  have G_places_of := ok_places_of (P := P) (w := w) (base := base) T
  have G_band_from := ok_band_from (P := P) (w := w) (base := base) T
  refine T.F_bands_of.ok sc_bands_of (fun vs H Q E h => ?_) (fun cdv A outer s H vs Q E hr h => ?_)
  · obtain ⟨_, _, _, _, _, _, _, _, rfl, _⟩ := h
    rfl
  · obtain ⟨v, u, t, room, ls, y, w, pl, rfl, hv, hu, ht, ri, n8, q⟩ := h
    refine ⟨_, (pss_cons (ps_set (i := 3) sc_bands_of.nd rfl (.inl rfl) (pe_call (G_places_of.mono (by first | decide | omega)) hr (by rfl) T.g_places_of T.F_places_of.kp T.b_places_of .nil pass0 (pa_cons (pv 0) (pa_cons (pv 1) pa_nil))))
      (pss_cons (ps_set (i := 4) sc_bands_of.nd rfl (.inl rfl) (pe_call (G_places_of.mono (by first | decide | omega)) hr (by rfl) T.g_places_of T.F_places_of.kp T.b_places_of .nil pass0 (pa_cons (pv 0) (pa_cons (pv 2) pa_nil))))
      (pss_cons (ps_set (i := 5) sc_bands_of.nd rfl (.inl rfl) (pe_lst pa_nil))
      (pss_cons (ps_set (i := 6) sc_bands_of.nd rfl (.inl rfl) pe_int)
      (pss_cons (ps_while PassesOwn.never (pt_cmpR op_lt (pv 6) (pe_callB call_len_seq (by rfl) T.n_len (by decide +kernel) (pa_cons (pv 4) pa_nil)) (nomark _))
      (pss_cons (ps_set (i := 7) sc_bands_of.nd rfl (.inl rfl) (pe_call (G_band_from.mono (by first | decide | omega)) hr (by rfl) T.g_band_from T.F_band_from.kp T.b_band_from .nil pass0 (pa_cons (pv 3) (pa_cons (pv 4) (pa_cons (pv 6) pa_nil)))))
      (pss_cons (ps_expr (pe_bm PySem.F.plainAttrs_list PySem.F.slot_list_append PySem.F.type_list_append mt_append (pv 5) (pa_cons (pv 7) pa_nil)))
      (pss_one (ps_set (i := 6) sc_bands_of.nd rfl (.inl rfl) (pe_fld (pv 7) rfl))))))
      (pss_one (ps_ret (pv 5)))))))), ?_⟩
    refine ⟨v, rfl, u, rfl, v, u, room, ls, y, rfl, hv, hu, n8, fun a H1 s1 na ha => ?_⟩
    refine ⟨v, rfl, t, rfl, v, t, room, ls, w, rfl, Dpm s1 hv, Dpm s1 ht, n8, fun b H2 s2 nb hb => ?_⟩
    have ha := s2 _ _ ha
    refine ⟨Nat.zero_le _, fun l nl => ?_⟩
    have t3 := same_new (o := .lst []) nl
    have nlH : H l = none := (s1.trans s2).free nl
    refine ⟨fun m σ H' => ∃ k rs us y7, m = ls.length - k ∧ k ≤ ls.length ∧ Same H2 H' ∧ RunsTo w ls.length 0 k rs ∧ σ = [some v, some u, some t, some (.ref a), some (.ref b), some (.ref l), some (.int (k : Nat)), y7] ∧ H' l = some (.lst us) ∧ Bands T.C_Band H' y w us rs,
      ⟨_, 0, [], [], none, rfl, Nat.zero_le _, t3, .nil, rfl, upd_same, .nil⟩, ?_⟩
    rintro m σ H' ⟨k, rs, us, y7, rfl, hk, s3, runs, rfl, hl, bs⟩
    have ha3 := s3 _ _ ha
    have hb3 := s3 _ _ hb
    refine ⟨_, rfl, .ref b, rfl, b, _, rfl, .inl (.inl (.inl hb3)), _, _, rfl, rfl, _, rfl, ?_⟩
    rw [iV_len, plL_len]
    by_cases c : k < ls.length
    · rw [decide_eq_true (show (k : Int) < ((ls.length : Nat) : Int) by omega)]
      refine iteT ⟨fun σ' H4 => ∃ k' rs us y7, k < k' ∧ k' ≤ ls.length ∧ Same H2 H4 ∧ RunsTo w ls.length 0 k' rs ∧ σ' = [some v, some u, some t, some (.ref a), some (.ref b), some (.ref l), some (.int (k' : Nat)), y7] ∧ H4 l = some (.lst us) ∧ Bands T.C_Band H4 y w us rs, ?_, ?_⟩
      · rintro σ' H4 ⟨k', rs', us', y7', h1, h2, h3, h4, rfl, h5, h6⟩
        exact ⟨ls.length - k', by omega, k', rs', us', y7', rfl, h2, h3, h4, rfl, h5, h6⟩
      · have up := ri.mono
        have hfront : k = 0 ∨ w (k - 1) < w k := by
          by_cases e : rs = []
          · subst e
            cases runs
            exact .inl rfl
          · exact .inr (runs.front e c)
        obtain ⟨c1, c2, c3, c4⟩ := run_count up c hfront
        refine ⟨_, rfl, _, rfl, _, rfl, a, b, ls.length, y, w, k, rfl, .inl (.inl ha3), .inl (.inl hb3), up, c, hfront, n8, fun x dx H5 s5 hx => ?_⟩
        have hl5 := s5 _ _ hl
        have hul : us.length ≤ 8 := by
          have h1 := bs.len
          have h2 := runs.len
          omega
        refine ⟨.ref l, rfl, .inl ⟨rfl, _, .inl (.inl hl5)⟩, _, rfl, l, _, _, rfl, rfl, hl5, small1000 (by omega), ?_⟩
        have nxl : x ≠ l := ne_of hx hl5 (by intro z; cases z)
        have hx6 : upd H5 l (.lst (us ++ [.ref x])) x = some (.ins T.C_Band dx (bandF y w (k, k + (plL ls.length w).count (w k)))) := by
          rw [upd_ne nxl]
          exact hx
        refine ⟨_, rfl, x, T.C_Band, dx, _, _, rfl, hx6, T.cl_Band, T.na_Band_beyond, band_beyond _ _ _, ?_⟩
        refine ⟨k + (plL ls.length w).count (w k), rs ++ [(k, k + (plL ls.length w).count (w k))], us ++ [.ref x], _, by show k < k + ((List.range ls.length).map w).count (w k); omega, c2, fun b' o hb' => ?_, ?_, rfl, upd_same, ?_⟩
        · rw [upd_ne (ne_of_none hb' nl)]
          exact s5 _ _ (s3 _ _ hb')
        · exact runs.app (.cons (by show k < k + ((List.range ls.length).map w).count (w k); omega) c2 c3 c4 .nil)
        · refine Bands.app ((bs.same s5).mono fun a' dx' fs e => ?_) (.cons ⟨x, dx, rfl, hx6⟩ .nil)
          rw [upd_ne (ne_of e hl5 (by intro z; cases z))]
          exact e
    · rw [decide_eq_false (show ¬ (k : Int) < ((ls.length : Nat) : Int) by omega)]
      have ek : k = ls.length := by omega
      subst ek
      exact iteF ⟨.ref l, rfl, q l H' us rs ((s1.trans s2).trans s3) nlH hl runs bs⟩
/-! ### rows -/
abbrev RRow (K : PySem.W.Frag) (H : Hp) (Q : VK) (ls : List Int) (r : List Push) : Prop := ∀ p H' us, Same H H' → H p = none → H' p = some (.lst us) → DpAll K (Off p H') us (r.map (puD ls)) → Q (.ref p) H'
def sp_shove (K : PySem.W.Frag) (rt : Bool) : Sp := fun vs H Q _ => ∃ v room ls g b, vs = [v, .int (g : Nat), .int b] ∧ Dp K H v (shD room ls) ∧ RD K H Q (puD ls (rt, g, b))
theorem ok_raised (T : Tx K mg) : FnOk P w K mg base CX0 2 T.f_raised T.fd_raised ["shelf", "gap", "place"] (sp_shove K true) := by
  have G_gap_length := ok_gap_length (P := P) (w := w) (base := base) T
  refine T.F_raised.ok sc_raised (fun vs H Q E h => ?_) (fun cdv A outer s H vs Q E hr h => ?_)
  · obtain ⟨_, _, _, _, _, rfl, _⟩ := h
    rfl
  · obtain ⟨v, room, ls, g, b, rfl, hv, q⟩ := h
    refine ⟨_, (pss_one (ps_ret (pe_tup (pa_cons pe_str (pa_cons (pv 1) (pa_cons (pe_op op_add (pe_call (G_gap_length.mono (by first | decide | omega)) hr (by rfl) T.g_gap_length T.F_gap_length.kp T.b_gap_length .nil pass0 (pa_cons (pv 0) (pa_cons (pv 1) pa_nil))) (pv 2)) pa_nil)))))), ?_⟩
    refine ⟨_, rfl, v, rfl, _, rfl, v, room, ls, g, rfl, hv, fun H1 s1 => ?_⟩
    refine ⟨_, rfl, _, _, rfl, rfl, by show 3 ≤ sizeLine; decide, fun t nt => ?_⟩
    refine q _ _ (s1.trans (same_new nt)) (.tup (.inl (.inl upd_same)) (.cons (.str _) (.cons (.int _) (.cons ?_ .nil))))
    show Dp K _ (.int (pre ls g + b)) (.int (b + pre ls g))
    rw [Int.add_comm]
    exact .int _
theorem ok_lowered (T : Tx K mg) : FnOk P w K mg base CX0 2 T.f_lowered T.fd_lowered ["shelf", "gap", "place"] (sp_shove K false) := by
  have G_gap_length := ok_gap_length (P := P) (w := w) (base := base) T
  refine T.F_lowered.ok sc_lowered (fun vs H Q E h => ?_) (fun cdv A outer s H vs Q E hr h => ?_)
  · obtain ⟨_, _, _, _, _, rfl, _⟩ := h
    rfl
  · obtain ⟨v, room, ls, g, b, rfl, hv, q⟩ := h
    refine ⟨_, (pss_one (ps_ret (pe_tup (pa_cons pe_str (pa_cons (pv 1) (pa_cons (pe_op op_add (pe_call (G_gap_length.mono (by first | decide | omega)) hr (by rfl) T.g_gap_length T.F_gap_length.kp T.b_gap_length .nil pass0 (pa_cons (pv 0) (pa_cons (pv 1) pa_nil))) (pv 2)) pa_nil)))))), ?_⟩
    refine ⟨_, rfl, v, rfl, _, rfl, v, room, ls, g, rfl, hv, fun H1 s1 => ?_⟩
    refine ⟨_, rfl, _, _, rfl, rfl, by show 3 ≤ sizeLine; decide, fun t nt => ?_⟩
    refine q _ _ (s1.trans (same_new nt)) (.tup (.inl (.inl upd_same)) (.cons (.str _) (.cons (.int _) (.cons ?_ .nil))))
    show Dp K _ (.int (pre ls g + b)) (.int (b + pre ls g))
    rw [Int.add_comm]
    exact .int _
/-- a row that grows -/
theorem app_row {H H2 : Hp} {l : Addr} {us : List V} {ds : List PyData} {v : V} {d : PyData} (hl : H l = some (.lst us)) (al : DpAll K (Off l H) us ds) (s : Same H H2) (hd : Dp K H2 v d) (n : noL d = true) : DpAll K (Off l (upd H2 l (.lst (us ++ [v])))) (us ++ [v]) (ds ++ [d]) := by
  rw [show Off l (upd H2 l (.lst (us ++ [v]))) = Off l H2 from by
    funext b
    unfold Off
    split
    · rfl
    · rename_i z
      rw [upd_ne z]]
  exact dpAll_app (dpAll_mono (off_mono s) _ _ al) (.cons (dp_off (s _ _ hl) _ _ n hd) .nil)
theorem keep_row {H0 H2 : Hp} {l : Addr} {o : HO} (nl : H0 l = none) (s : Same H0 H2) : Same H0 (upd H2 l o) := fun b x e => by
  rw [upd_ne (ne_of_none e nl)]
  exact s b x e
def sp_row_alone (K : PySem.W.Frag) (C : Addr) : Sp := fun vs H Q _ => ∃ v u room ls y w r, vs = [v, u] ∧ Dp K H v (shD room ls) ∧ BandAt C H y w u r ∧ RRow K H Q ls (rowAlone y w r)
theorem ok_row_alone (T : Tx K mg) : FnOk P w K mg base CX0 3 T.f_row_alone T.fd_row_alone ["shelf", "band"] (sp_row_alone K T.C_Band) := by
  have G_raised := ok_raised (P := P) (w := w) (base := base) T
  have G_lowered := ok_lowered (P := P) (w := w) (base := base) T
  refine T.F_row_alone.ok sc_row_alone (fun vs H Q E h => ?_) (fun cdv A outer s H vs Q E hr h => ?_)
  · obtain ⟨_, _, _, _, _, _, _, rfl, _⟩ := h
    rfl
  · obtain ⟨v, u, room, ls, y, w, r, rfl, hv, ⟨x, dx, rfl, hx⟩, q⟩ := h
    refine ⟨_, (pss_cons (ps_set (i := 2) sc_row_alone.nd rfl (.inl rfl) (pe_lst pa_nil))
      (C8.pss_cut (ps_if (pt_val (pe_fld (pv 1) rfl)) (pss_one (ps_expr (pe_bm PySem.F.plainAttrs_list PySem.F.slot_list_append PySem.F.type_list_append mt_append (pv 2) (pa_cons (pe_call (G_raised.mono (by first | decide | omega)) hr (by rfl) T.g_raised T.F_raised.kp T.b_raised .nil pass0 (pa_cons (pv 0) (pa_cons (pe_fld (pv 1) rfl) (pa_cons (pe_fld (pv 1) rfl) pa_nil)))) pa_nil)))) pss_nil)
      (C8.pss_cut (ps_if (pt_val (pe_fld (pv 1) rfl)) (pss_one (ps_expr (pe_bm PySem.F.plainAttrs_list PySem.F.slot_list_append PySem.F.type_list_append mt_append (pv 2) (pa_cons (pe_call (G_lowered.mono (by first | decide | omega)) hr (by rfl) T.g_lowered T.F_lowered.kp T.b_lowered .nil pass0 (pa_cons (pv 0) (pa_cons (pe_fld (pv 1) rfl) (pa_cons (pe_fld (pv 1) rfl) pa_nil)))) pa_nil)))) pss_nil)
      (pss_one (ps_ret (pv 2)))))), ?_⟩
    refine ⟨Nat.zero_le _, fun l nl => ?_⟩
    have s1 := same_new (o := .lst []) nl
    refine ⟨fun σ' H' => Same H H' ∧ σ' = [some v, some (.ref x), some (.ref l)] ∧ ∃ us, H' l = some (.lst us) ∧ DpAll K (Off l H') us (((if y r.1 < w r.1 then [((true, r.1, w r.1) : Push)] else [])).map (puD ls)), ?_, ?_⟩
    · refine ⟨.ref x, rfl, x, T.C_Band, dx, _, _, rfl, s1 _ _ hx, T.cl_Band, T.na_Band_up, band_up _ _ _, _, rfl, ?_⟩
      show if decide (y r.1 < w r.1) = true then _ else _
      by_cases c : y r.1 < w r.1
      · rw [decide_eq_true c]
        refine iteT ⟨.ref l, rfl, .inl ⟨rfl, _, .inl (.inl upd_same)⟩, v, rfl, .ref x, rfl, x, T.C_Band, dx, _, _, rfl, s1 _ _ hx, T.cl_Band, T.na_Band_first, band_first _ _ _, .ref x, rfl, x, T.C_Band, dx, _, _, rfl, s1 _ _ hx, T.cl_Band, T.na_Band_place, band_place _ _ _, v, room, ls, r.1, w r.1, rfl, Dpm s1 hv, fun z H2 s2 hz => ?_⟩
        refine ⟨l, [], _, rfl, rfl, s2 _ _ upd_same, small1000 (by simp), keep_row nl (s1.trans s2), rfl, [] ++ [z], upd_same, ?_⟩
        rw [if_pos c]
        exact app_row (K := K) (ds := []) upd_same .nil s2 hz (noL_puD _ _)
      · rw [decide_eq_false c]
        refine iteF ⟨s1, rfl, [], upd_same, ?_⟩
        rw [if_neg c]
        exact .nil
    · rintro σ' H1 ⟨g1, rfl, us, hl, al⟩
      have hlen : us.length ≤ 1 := by
        have h1 := dpAll_len al
        rw [List.length_map] at h1
        rw [h1]
        split <;> simp
      refine ⟨fun σ' H' => Same H H' ∧ σ' = [some v, some (.ref x), some (.ref l)] ∧ ∃ us, H' l = some (.lst us) ∧ DpAll K (Off l H') us ((rowAlone y w r).map (puD ls)), ?_, ?_⟩
      · refine ⟨.ref x, rfl, x, T.C_Band, dx, _, _, rfl, g1 _ _ hx, T.cl_Band, T.na_Band_down, band_down _ _ _, _, rfl, ?_⟩
        show if decide (w r.1 < y (r.2 - 1)) = true then _ else _
        unfold rowAlone
        rw [List.map_append]
        by_cases c : w r.1 < y (r.2 - 1)
        · rw [decide_eq_true c]
          refine iteT ⟨.ref l, rfl, .inl ⟨rfl, _, .inl (.inl hl)⟩, v, rfl, .ref x, rfl, x, T.C_Band, dx, _, _, rfl, g1 _ _ hx, T.cl_Band, T.na_Band_beyond, band_beyond _ _ _, .ref x, rfl, x, T.C_Band, dx, _, _, rfl, g1 _ _ hx, T.cl_Band, T.na_Band_place, band_place _ _ _, v, room, ls, r.2, w r.1, rfl, Dpm g1 hv, fun z H2 s2 hz => ?_⟩
          refine ⟨l, us, _, rfl, rfl, s2 _ _ hl, small1000 (by omega), keep_row nl (g1.trans s2), rfl, us ++ [z], upd_same, ?_⟩
          rw [if_pos c]
          exact app_row hl al s2 hz (noL_puD _ _)
        · rw [decide_eq_false c]
          refine iteF ⟨g1, rfl, us, hl, ?_⟩
          rw [if_neg c]
          simpa using al
      · rintro σ' H2 ⟨g2, rfl, us, hl, al⟩
        exact ⟨.ref l, rfl, q l H2 us g2 nl hl al⟩
/-! one that serves -/
theorem cut_m1 (xs : List V) : cutV xs none (some (-1)) = xs.dropLast := by
  unfold cutV
  rw [HT.sIx_none, List.drop_zero, Nat.sub_zero, List.dropLast_eq_take]
  have e : HT.sIx xs.length xs.length (some (-1)) = xs.length - 1 := by
    show (if (-1 : Int) < 0 then (-1 + (xs.length : Int)).toNat else min (-1 : Int).toNat xs.length) = xs.length - 1
    rw [if_pos (by decide)]
    omega
  rw [e]
theorem cut_am (xs : List V) {a m : Nat} (h1 : a ≤ m) (h2 : m ≤ xs.length) : cutV xs (some (a : Int)) (some (m : Int)) = (xs.take m).drop a := by
  unfold cutV
  rw [HT.sIx_nat, HT.sIx_nat, Nat.min_eq_left h2, Nat.min_eq_left (Nat.le_trans h1 h2), List.drop_take]
theorem Bands.snoc {C : Addr} {H : Hp} {y w : Nat → Int} : ∀ {us : List V} {G : List (Nat × Nat)}, Bands C H y w us G → G ≠ [] → ∃ us0 u0 G0 l0, us = us0 ++ [u0] ∧ G = G0 ++ [l0] ∧ Bands C H y w us0 G0 ∧ BandAt C H y w u0 l0
  | _, _, .nil, h => absurd rfl h
  | _, _, .cons (v := v) (vs := vs) (r := r) (rs := rs) a h, _ => by
    by_cases e : rs = []
    · subst e
      cases h
      exact ⟨[], v, [], r, rfl, rfl, .nil, a⟩
    · obtain ⟨us0, u0, G0, l0, rfl, rfl, h1, h2⟩ := h.snoc e
      exact ⟨v :: us0, u0, r :: G0, l0, rfl, rfl, .cons a h1, h2⟩
theorem headD_snoc {G : List (Nat × Nat)} {l : Nat × Nat} {r : Nat × Nat} (h : (G ++ [l])[0]? = some r) : (G ++ [l]).headD (0, 0) = r := by
  cases G with
  | nil => simpa using h
  | cons a G => simpa using h
theorem lastD_snoc (G : List (Nat × Nat)) (l : Nat × Nat) : (G ++ [l]).getLastD (0, 0) = l := by
  rw [lastD_ne (by simp)]
  simp
def sp_by_last (K : PySem.W.Frag) (C : Addr) : Sp := fun vs H Q _ => ∃ v a room ls y w us G, vs = [v, .ref a] ∧ Dp K H v (shD room ls) ∧ SqL K H a us ∧ Bands C H y w us G ∧ G ≠ [] ∧ G.length ≤ 8 ∧ RRow K H Q ls (rowLast w G (G.headD (0, 0)) (G.getLastD (0, 0)))
theorem ok_row_served_by_last (T : Tx K mg) : FnOk P w K mg base CX0 3 T.f_row_served_by_last T.fd_row_served_by_last ["shelf", "bands"] (sp_by_last K T.C_Band) := by
  have G_raised := ok_raised (P := P) (w := w) (base := base) T
  have G_lowered := ok_lowered (P := P) (w := w) (base := base) T
  refine T.F_row_served_by_last.ok sc_row_served_by_last (fun vs H Q E h => ?_) (fun cdv A outer s H vs Q E hr h => ?_)
  · obtain ⟨_, _, _, _, _, _, _, _, rfl, _⟩ := h
    rfl
  · obtain ⟨v, a, room, ls, y, w, us, G, rfl, hv, sa, bs, hG, g8, q⟩ := h
    obtain ⟨us0, u0, G0, l0, rfl, rfl, bs0, ⟨xl, dl, rfl, hxl⟩⟩ := bs.snoc hG
    have hl0 : 0 < (us0 ++ [V.ref xl]).length := by simp
    obtain ⟨r0, er0, ⟨xf, df, exf, hxf⟩⟩ := bs.get (List.getElem?_eq_getElem hl0)
    have exf' : (us0 ++ [V.ref xl])[0]? = some (.ref xf) := by rw [List.getElem?_eq_getElem hl0, exf]
    rw [headD_snoc er0, lastD_snoc] at q
    have lb := bs0.len
    have l8 : G0.length ≤ 7 := by simpa using g8
    refine ⟨_, (pss_cons (ps_set (i := 2) sc_row_served_by_last.nd rfl (.inl rfl) (pe_lst (pa_cons (pe_call (G_raised.mono (by first | decide | omega)) hr (by rfl) T.g_raised T.F_raised.kp T.b_raised .nil pass0 (pa_cons (pv 0) (pa_cons (pe_fld (pe_ix ix_list (pv 1) pe_int (fun _ _ => rfl)) rfl) (pa_cons (pe_fld (pe_ix ix_list (pv 1) (pe_un un_neg pe_int) (fun _ _ => rfl)) rfl) pa_nil)))) pa_nil)))
      (pss_cons (ps_for PassesOwn.never rfl (pi_list (pe_slice sl_list (pv 1) po_none (po_some (pe_un un_neg pe_int)))) (pg_name (i := 3) sc_row_served_by_last.nd rfl (.inl rfl))
      (pss_one (ps_expr (pe_bm PySem.F.plainAttrs_list PySem.F.slot_list_append PySem.F.type_list_append mt_append (pv 2) (pa_cons (pe_call (G_lowered.mono (by first | decide | omega)) hr (by rfl) T.g_lowered T.F_lowered.kp T.b_lowered .nil pass0 (pa_cons (pv 0) (pa_cons (pe_fld (pv 3) rfl) (pa_cons (pe_fld (pv 3) rfl) pa_nil)))) pa_nil)))))
      (pss_one (ps_ret (pv 2))))), ?_⟩
    refine ⟨v, rfl, .ref a, rfl, a, _, 0, _, rfl, rfl, sa, atI_nat (j := 0) exf', xf, T.C_Band, df, _, _, rfl, hxf, T.cl_Band, T.na_Band_first, band_first _ _ _, ?_⟩
    refine ⟨.ref a, rfl, 1, rfl, a, _, -1, _, rfl, rfl, sa, atI_last _ _, xl, T.C_Band, dl, _, _, rfl, hxl, T.cl_Band, T.na_Band_place, band_place _ _ _, ?_⟩
    refine ⟨v, room, ls, r0.1, w l0.1, rfl, hv, fun z H1 s1 hz => ?_⟩
    refine ⟨by show 1 ≤ sizeLine; decide, fun l nl => ?_⟩
    have t2 := same_new (o := .lst [z]) nl
    have s2 := s1.trans t2
    have nlH : H l = none := s1.free nl
    have hl2 : upd H1 l (.lst [z]) l = some (.lst [z]) := upd_same
    have al2 : DpAll K (Off l (upd H1 l (.lst [z]))) [z] [puD ls (true, r0.1, w l0.1)] := .cons (dp_off hl2 _ _ (noL_puD _ _) (Dpm t2 hz)) .nil
    generalize upd H1 l (.lst [z]) = H2 at *
    refine ⟨.ref a, rfl, 1, rfl, _, rfl, a, _, rfl, s2.seq sa, fun p3 np3 => ?_⟩
    rw [cut_m1, List.dropLast_concat]
    have t3 := same_new (o := .lst us0) np3
    have hp3 : upd H2 p3 (.lst us0) p3 = some (.lst us0) := upd_same
    have hl3 := t3 _ _ hl2
    have al3 := dpAll_mono (off_mono (k := l) t3) _ _ al2
    have s3 := s2.trans t3
    have npl : p3 ≠ l := (ne_of_none hl2 np3).symm
    generalize upd H2 p3 (.lst us0) = H3 at *
    refine ⟨p3, rfl, ⟨us0, .inl (.inl hp3)⟩, ?_⟩
    refine for_list (K := K) (a := p3) (xs := us0) (fun i σ H' => Same H H' ∧ H' p3 = some (.lst us0) ∧ ∃ us' y3, σ = [some v, some (.ref a), some (.ref l), y3] ∧ H' l = some (.lst us') ∧ us'.length = i + 1 ∧ DpAll K (Off l H') us' (puD ls (true, r0.1, w l0.1) :: ((G0.take i).map fun r => puD ls (false, r.2, w r.1))))
      ⟨s3, hp3, [z], _, rfl, hl3, rfl, al3⟩ (fun i σ H' _ p => .inl (.inl p.2.1)) (fun i x σ H4 hx p => ?_) (fun σ H4 p => ?_)
    · obtain ⟨s4, hp4, us', y3, rfl, hl4, hul, al4⟩ := p
      have hi : i < us0.length := (List.getElem?_eq_some_iff.mp hx).1
      obtain ⟨r, er, ⟨xb, db, rfl, hxb⟩⟩ := bs0.get hx
      have hxb4 := s4 _ _ hxb
      refine ⟨.ref l, rfl, .inl ⟨rfl, _, .inl (.inl hl4)⟩, v, rfl, _, rfl, xb, T.C_Band, db, _, _, rfl, hxb4, T.cl_Band, T.na_Band_beyond, band_beyond _ _ _, _, rfl, xb, T.C_Band, db, _, _, rfl, hxb4, T.cl_Band, T.na_Band_place, band_place _ _ _, v, room, ls, r.2, w r.1, rfl, Dpm s4 hv, fun z5 H5 s5 hz5 => ?_⟩
      refine ⟨l, us', _, rfl, rfl, s5 _ _ hl4, small1000 (by omega), keep_row nlH (s4.trans s5), ?_, us' ++ [z5], _, rfl, upd_same, by rw [List.length_append, hul]; rfl, ?_⟩
      · rw [upd_ne npl]
        exact s5 _ _ hp4
      · rw [List.take_add_one, er, List.map_append]
        exact app_row hl4 al4 s5 hz5 (noL_puD _ _)
    · obtain ⟨s4, hp4, us', y3, rfl, hl4, hul, al4⟩ := p
      refine ⟨.ref l, rfl, q l H4 us' s4 nlH hl4 ?_⟩
      rw [lb, List.take_length] at al4
      unfold rowLast
      rw [List.dropLast_concat, List.map_cons, List.map_map]
      exact al4
def sp_by_first (K : PySem.W.Frag) (C : Addr) : Sp := fun vs H Q _ => ∃ v a room ls y w us G, vs = [v, .ref a] ∧ Dp K H v (shD room ls) ∧ SqL K H a us ∧ Bands C H y w us G ∧ G ≠ [] ∧ G.length ≤ 8 ∧ RRow K H Q ls (rowFirst y w G (G.headD (0, 0)) (G.getLastD (0, 0)))
theorem ok_row_served_by_first (T : Tx K mg) : FnOk P w K mg base CX0 3 T.f_row_served_by_first T.fd_row_served_by_first ["shelf", "bands"] (sp_by_first K T.C_Band) := by
  have G_raised := ok_raised (P := P) (w := w) (base := base) T
  have G_lowered := ok_lowered (P := P) (w := w) (base := base) T
  refine T.F_row_served_by_first.ok sc_row_served_by_first (fun vs H Q E h => ?_) (fun cdv A outer s H vs Q E hr h => ?_)
  · obtain ⟨_, _, _, _, _, _, _, _, rfl, _⟩ := h
    rfl
  · obtain ⟨v, a, room, ls, y, w, us, G, rfl, hv, sa, bs, hG, g8, q⟩ := h
    obtain ⟨us0, u0, G0, l0, eus, eG, bs0, ⟨xl, dl, rfl, hxl⟩⟩ := bs.snoc hG
    have elast : G.getLastD (0, 0) = l0 := by rw [eG]; exact lastD_snoc _ _
    have hlst : atI us (-1) = some (.ref xl) := by rw [eus]; exact atI_last _ _
    cases bs with
    | nil => exact absurd rfl hG
    | @cons vf us1 rf G1 bf bs1 =>
      obtain ⟨xf, df, rfl, hxf⟩ := bf
      rw [elast] at q
      simp only [List.headD_cons] at q
      have lb := bs1.len
      have l8 : G1.length ≤ 7 := by simpa using g8
      clear eus eG elast bs0
      refine ⟨_, (pss_cons (ps_set (i := 2) sc_row_served_by_first.nd rfl (.inl rfl) (pe_ix ix_list (pv 1) pe_int (fun _ _ => rfl)))
      (pss_cons (ps_set (i := 3) sc_row_served_by_first.nd rfl (.inl rfl) (pe_lst (pa_cons (pe_call (G_lowered.mono (by first | decide | omega)) hr (by rfl) T.g_lowered T.F_lowered.kp T.b_lowered .nil pass0 (pa_cons (pv 0) (pa_cons (pe_fld (pe_ix ix_list (pv 1) (pe_un un_neg pe_int) (fun _ _ => rfl)) rfl) (pa_cons (pe_fld (pv 2) rfl) pa_nil)))) pa_nil)))
      (C8.pss_cut (ps_if (pt_val (pe_fld (pv 2) rfl)) (pss_one (ps_expr (pe_bm PySem.F.plainAttrs_list PySem.F.slot_list_append PySem.F.type_list_append mt_append (pv 3) (pa_cons (pe_call (G_raised.mono (by first | decide | omega)) hr (by rfl) T.g_raised T.F_raised.kp T.b_raised .nil pass0 (pa_cons (pv 0) (pa_cons (pe_fld (pv 2) rfl) (pa_cons (pe_fld (pv 2) rfl) pa_nil)))) pa_nil)))) pss_nil)
      (pss_cons (ps_for PassesOwn.never rfl (pi_list (pe_slice sl_list (pv 1) (po_some pe_int) po_none)) (pg_name (i := 4) sc_row_served_by_first.nd rfl (.inl rfl))
      (pss_one (ps_expr (pe_bm PySem.F.plainAttrs_list PySem.F.slot_list_append PySem.F.type_list_append mt_append (pv 3) (pa_cons (pe_call (G_raised.mono (by first | decide | omega)) hr (by rfl) T.g_raised T.F_raised.kp T.b_raised .nil pass0 (pa_cons (pv 0) (pa_cons (pe_fld (pv 4) rfl) (pa_cons (pe_fld (pv 4) rfl) pa_nil)))) pa_nil)))))
      (pss_one (ps_ret (pv 3))))))), ?_⟩
      refine ⟨.ref a, rfl, a, _, 0, _, rfl, rfl, sa, atI_nat (j := 0) rfl, ?_⟩
      refine ⟨v, rfl, .ref a, rfl, 1, rfl, a, _, -1, _, rfl, rfl, sa, hlst, xl, T.C_Band, dl, _, _, rfl, hxl, T.cl_Band, T.na_Band_beyond, band_beyond _ _ _, _, rfl, xf, T.C_Band, df, _, _, rfl, hxf, T.cl_Band, T.na_Band_place, band_place _ _ _, v, room, ls, l0.2, w rf.1, rfl, hv, fun z H1 s1 hz => ?_⟩
      refine ⟨by show 1 ≤ sizeLine; decide, fun l nl => ?_⟩
      have t2 := same_new (o := .lst [z]) nl
      have s2 := s1.trans t2
      have nlH : H l = none := s1.free nl
      have hl2 : upd H1 l (.lst [z]) l = some (.lst [z]) := upd_same
      have al2 : DpAll K (Off l (upd H1 l (.lst [z]))) [z] [puD ls (false, l0.2, w rf.1)] := .cons (dp_off hl2 _ _ (noL_puD _ _) (Dpm t2 hz)) .nil
      generalize upd H1 l (.lst [z]) = H2 at *
      refine ⟨fun σ' H' => Same H H' ∧ σ' = [some v, some (.ref a), some (.ref xf), some (.ref l), none] ∧ ∃ us', H' l = some (.lst us') ∧ us'.length ≤ 2 ∧ DpAll K (Off l H') us' (puD ls (false, l0.2, w rf.1) :: ((if y rf.1 < w rf.1 then [((true, rf.1, w rf.1) : Push)] else [])).map (puD ls)), ?_, ?_⟩
      · refine ⟨.ref xf, rfl, xf, T.C_Band, df, _, _, rfl, s2 _ _ hxf, T.cl_Band, T.na_Band_up, band_up _ _ _, _, rfl, ?_⟩
        show if decide (y rf.1 < w rf.1) = true then _ else _
        by_cases c : y rf.1 < w rf.1
        · rw [decide_eq_true c]
          refine iteT ⟨.ref l, rfl, .inl ⟨rfl, _, .inl (.inl hl2)⟩, v, rfl, _, rfl, xf, T.C_Band, df, _, _, rfl, s2 _ _ hxf, T.cl_Band, T.na_Band_first, band_first _ _ _, _, rfl, xf, T.C_Band, df, _, _, rfl, s2 _ _ hxf, T.cl_Band, T.na_Band_place, band_place _ _ _, v, room, ls, rf.1, w rf.1, rfl, Dpm s2 hv, fun z3 H3 s3 hz3 => ?_⟩
          refine ⟨l, [z], _, rfl, rfl, s3 _ _ hl2, small1000 (by simp), keep_row nlH (s2.trans s3), rfl, [z] ++ [z3], upd_same, by simp, ?_⟩
          rw [if_pos c]
          exact app_row hl2 al2 s3 hz3 (noL_puD _ _)
        · rw [decide_eq_false c]
          refine iteF ⟨s2, rfl, [z], hl2, by simp, ?_⟩
          rw [if_neg c]
          exact al2
      · rintro σ' H3 ⟨s3, rfl, us', hl3, hul3, al3⟩
        refine ⟨.ref a, rfl, 1, rfl, ?_⟩
        unfold tNoPart
        refine ⟨a, _, rfl, s3.seq sa, fun p4 np4 => ?_⟩
        rw [show (some (1 : Int)) = some ((1 : Nat) : Int) from rfl, cut_from, List.drop_succ_cons, List.drop_zero]
        have t4 := same_new (o := .lst us1) np4
        have hp4 : upd H3 p4 (.lst us1) p4 = some (.lst us1) := upd_same
        have hl4 := t4 _ _ hl3
        have al4 := dpAll_mono (off_mono (k := l) t4) _ _ al3
        have s4 := s3.trans t4
        have npl : p4 ≠ l := (ne_of_none hl3 np4).symm
        generalize upd H3 p4 (.lst us1) = H4 at *
        refine ⟨p4, rfl, ⟨us1, .inl (.inl hp4)⟩, ?_⟩
        refine for_list (K := K) (a := p4) (xs := us1) (fun i σ H' => Same H H' ∧ H' p4 = some (.lst us1) ∧ ∃ us' y3, σ = [some v, some (.ref a), some (.ref xf), some (.ref l), y3] ∧ H' l = some (.lst us') ∧ us'.length ≤ i + 2 ∧ DpAll K (Off l H') us' (puD ls (false, l0.2, w rf.1) :: ((if y rf.1 < w rf.1 then [((true, rf.1, w rf.1) : Push)] else [])).map (puD ls) ++ ((G1.take i).map fun r => puD ls (true, r.1, w r.1))))
          ⟨s4, hp4, us', _, rfl, hl4, by omega, by simpa using al4⟩ (fun i σ H' _ p => .inl (.inl p.2.1)) (fun i x σ H5 hx p => ?_) (fun σ H5 p => ?_)
        · obtain ⟨s5, hp5, us', y3, rfl, hl5, hul, al5⟩ := p
          have hi : i < us1.length := (List.getElem?_eq_some_iff.mp hx).1
          obtain ⟨r, er, ⟨xb, db, rfl, hxb⟩⟩ := bs1.get hx
          have hxb5 := s5 _ _ hxb
          refine ⟨.ref l, rfl, .inl ⟨rfl, _, .inl (.inl hl5)⟩, v, rfl, _, rfl, xb, T.C_Band, db, _, _, rfl, hxb5, T.cl_Band, T.na_Band_first, band_first _ _ _, _, rfl, xb, T.C_Band, db, _, _, rfl, hxb5, T.cl_Band, T.na_Band_place, band_place _ _ _, v, room, ls, r.1, w r.1, rfl, Dpm s5 hv, fun z6 H6 s6 hz6 => ?_⟩
          refine ⟨l, us', _, rfl, rfl, s6 _ _ hl5, small1000 (by omega), keep_row nlH (s5.trans s6), ?_, us' ++ [z6], _, rfl, upd_same, by rw [List.length_append]; simp; omega, ?_⟩
          · rw [upd_ne npl]
            exact s6 _ _ hp5
          · rw [List.take_add_one, er, List.map_append, ← List.append_assoc]
            exact app_row hl5 al5 s6 hz6 (noL_puD _ _)
        · obtain ⟨s5, hp5, us', y3, rfl, hl5, hul, al5⟩ := p
          refine ⟨.ref l, rfl, q l H5 us' s5 nlH hl5 ?_⟩
          rw [lb, List.take_length] at al5
          unfold rowFirst
          rw [List.map_cons, List.map_append, List.tail_cons, List.map_map]
          exact al5
/-! ### together -/
def sp_together (K : PySem.W.Frag) (C : Addr) : Sp := fun vs H Q _ => ∃ v a room ls y w us G, vs = [v, .ref a] ∧ Dp K H v (shD room ls) ∧ SqL K H a us ∧ Bands C H y w us G ∧ G ≠ [] ∧ G.length ≤ 8 ∧ RRow K H Q ls (rowT y w G)
theorem ok_row_together (T : Tx K mg) : FnOk P w K mg base CX0 4 T.f_row_together T.fd_row_together ["shelf", "bands"] (sp_together K T.C_Band) := by
  have G_row_alone := ok_row_alone (P := P) (w := w) (base := base) T
  have G_row_served_by_last := ok_row_served_by_last (P := P) (w := w) (base := base) T
  have G_row_served_by_first := ok_row_served_by_first (P := P) (w := w) (base := base) T
  refine T.F_row_together.ok sc_row_together (fun vs H Q E h => ?_) (fun cdv A outer s H vs Q E hr h => ?_)
  · obtain ⟨_, _, _, _, _, _, _, _, rfl, _⟩ := h
    rfl
  · obtain ⟨v, a, room, ls, y, w, us, G, rfl, hv, sa, bs, hG, g8, q⟩ := h
    have lb := bs.len
    refine ⟨_, (pss_cons (ps_if (pt_cmpR op_eq (pe_callB call_len_seq (by rfl) T.n_len (by decide +kernel) (pa_cons (pv 1) pa_nil)) pe_int (nomark _)) (pss_one (ps_ret (pe_call (G_row_alone.mono (by first | decide | omega)) hr (by rfl) T.g_row_alone T.F_row_alone.kp T.b_row_alone .nil pass0 (pa_cons (pv 0) (pa_cons (pe_ix ix_list (pv 1) pe_int (fun _ _ => rfl)) pa_nil))))) pss_nil)
      (pss_cons (ps_if (pt_not (pt_val (pe_fld (pe_ix ix_list (pv 1) (pe_un un_neg pe_int) (fun _ _ => rfl)) rfl))) (pss_one (ps_ret (pe_call (G_row_served_by_last.mono (by first | decide | omega)) hr (by rfl) T.g_row_served_by_last T.F_row_served_by_last.kp T.b_row_served_by_last .nil pass0 (pa_cons (pv 0) (pa_cons (pv 1) pa_nil))))) pss_nil)
      (pss_one (ps_ret (pe_call (G_row_served_by_first.mono (by first | decide | omega)) hr (by rfl) T.g_row_served_by_first T.F_row_served_by_first.kp T.b_row_served_by_first .nil pass0 (pa_cons (pv 0) (pa_cons (pv 1) pa_nil))))))), ?_⟩
    refine ⟨.ref a, rfl, a, us, rfl, .inl sa, rfl, _, rfl, ?_⟩
    unfold rowT at q
    by_cases c : G.length = 1
    · rw [if_pos c] at q
      rw [decide_eq_true (show V.int (us.length : Int) = V.int 1 by rw [lb, c]; rfl)]
      match G, c, bs, q with
      | [r], _, .cons b .nil, q => exact iteT ⟨v, rfl, .ref a, rfl, a, _, 0, _, rfl, rfl, sa, atI_nat (j := 0) rfl, v, _, room, ls, y, w, r, rfl, hv, b, q⟩
    · rw [if_neg c] at q
      rw [decide_eq_false (show ¬ V.int (us.length : Int) = V.int 1 from fun z => c (by have := V.int.inj z; omega))]
      obtain ⟨us0, u0, G0, l0, eus, eG, bs0, ⟨xl, dl, rfl, hxl⟩⟩ := bs.snoc hG
      have elast : G.getLastD (0, 0) = l0 := by rw [eG]; exact lastD_snoc _ _
      have hlst : atI us (-1) = some (.ref xl) := by rw [eus]; exact atI_last _ _
      refine iteF ⟨.ref a, rfl, 1, rfl, a, _, -1, _, rfl, rfl, sa, hlst, xl, T.C_Band, dl, _, _, rfl, hxl, T.cl_Band, T.na_Band_down, band_down _ _ _, _, rfl, ?_⟩
      show if (!decide (w l0.1 < y (l0.2 - 1))) = true then _ else _
      by_cases c2 : w l0.1 < y (l0.2 - 1)
      · rw [elast, if_neg (by simpa using c2), ← elast] at q
        rw [decide_eq_true c2]
        exact iteF ⟨v, rfl, .ref a, rfl, v, a, room, ls, y, w, us, G, rfl, hv, sa, bs, hG, g8, q⟩
      · rw [elast, if_pos (by simpa using c2), ← elast] at q
        rw [decide_eq_false c2]
        exact iteT ⟨v, rfl, .ref a, rfl, v, a, room, ls, y, w, us, G, rfl, hv, sa, bs, hG, g8, q⟩
end PS

namespace PS
open PySem PySem.Spec PyProof.Rows L2
variable {P : Program} {w : World} {K : PySem.W.Frag} {mg : Str → Option Value} {base : Heap}
/-! ### a row of the fewest pushes -/
def Fresh (H : Hp) (v : V) : Prop := ∃ c, v = .ref c ∧ H c = none
def sp_shortest (K : PySem.W.Frag) : Sp := fun vs H Q _ => ∃ v u t room ls y w, vs = [v, u, t] ∧ Dp K H v (shD room ls) ∧ ls.length ≤ 8 ∧ Dp K H u (tI (stL ls y)) ∧ Dp K H t (tI (stL ls w)) ∧ Rise ls.length (room - ls.sum) y ∧ Rise ls.length (room - ls.sum) w ∧
  ∀ c H' r us, Same H H' → H c = none → H' c = some (.lst us) → DpAll K (Off c H') us (r.map (puD ls)) → Best ls.length (room - ls.sum) y w r → Q (.ref c) H'
/-- a list of pushes, untouched by what is made elsewhere -/
def RowC (K : PySem.W.Frag) (H : Hp) (ls : List Int) (v : V) (r : List Push) : Prop := ∃ c us, v = .ref c ∧ H c = some (.lst us) ∧ DpAll K (Off c H) us (r.map (puD ls))
theorem noLs_pu (ls : List Int) (r : List Push) : noLs (r.map (puD ls)) = true := noLs_all _ fun d hd => by
  obtain ⟨p, _, rfl⟩ := List.mem_map.mp hd
  exact noL_puD ls p
theorem RowC.keep {H H' : Hp} {ls : List Int} {v : V} {r : List Push} (h : RowC K H ls v r) (s : Same H H') : RowC K H' ls v r := by
  obtain ⟨c, us, rfl, h1, h2⟩ := h
  exact ⟨c, us, rfl, s _ _ h1, dpAll_mono (off_mono s) _ _ h2⟩
theorem RowC.put {H : Hp} {ls : List Int} {v : V} {r : List Push} {l : Addr} {xs zs : List V} (h : RowC K H ls v r) (hl : H l = some (.lst xs)) (nv : v ≠ .ref l) : RowC K (upd H l (.lst zs)) ls v r := by
  obtain ⟨c, us, rfl, h1, h2⟩ := h
  have ncl : c ≠ l := fun z => nv (by rw [z])
  have h3 : upd H l (.lst zs) c = some (.lst us) := by rw [upd_ne ncl]; exact h1
  refine ⟨c, us, rfl, h3, dpAll_off h3 _ _ (noLs_pu ls r) ?_⟩
  have h4 := dpAll_off hl _ _ (noLs_pu ls r) (dpAll_mono (off_same c H) _ _ h2)
  refine dpAll_mono (fun b o e => ?_) _ _ h4
  unfold Off at e
  split at e
  · cases e
  · rename_i nb
    rw [upd_ne nb]
    exact e
theorem RowC.dp {H : Hp} {ls : List Int} {v : V} {r : List Push} (h : RowC K H ls v r) : Dp K H v (roD ls r) := by
  obtain ⟨c, us, rfl, h1, h2⟩ := h
  exact .lst (.inl (.inl h1)) (dpAll_mono (off_same c H) _ _ h2)
def wayL (y w : Nat → Int) (rs : List (Nat × Nat)) (fR : Nat → List Push) (m a : Nat) : List Push := fR a ++ rowT y w ((rs.take (m + 1)).drop a)
theorem ok_shortest_row (T : Tx K mg) : FnOk P w K mg base CX0 5 T.f_shortest_row T.fd_shortest_row ["shelf", "stand", "wish"] (sp_shortest K) := by
  have G_bands_of := ok_bands_of (P := P) (w := w) (base := base) T
  have G_row_together := ok_row_together (P := P) (w := w) (base := base) T
  refine T.F_shortest_row.ok sc_shortest_row (fun vs H Q E h => ?_) (fun cdv A outer s H vs Q E hr h => ?_)
  · obtain ⟨_, _, _, _, _, _, _, rfl, _⟩ := h
    rfl
  · obtain ⟨v, u, t, room, ls, y, w, rfl, hv, n8, hu, ht, riy, riw, q⟩ := h
    refine ⟨_, (pss_cons (ps_set (i := 3) sc_shortest_row.nd rfl (.inr rfl) (pe_call (G_bands_of.mono (by first | decide | omega)) hr (by rfl) T.g_bands_of T.F_bands_of.kp T.b_bands_of .nil pass0 (pa_cons (pv 0) (pa_cons (pv 1) (pa_cons (pv 2) pa_nil)))))
      (pss_cons (ps_set (i := 4) sc_shortest_row.nd rfl (.inr rfl) (pe_lst (pa_cons (pe_lst pa_nil) pa_nil)))
      (pss_cons (ps_for PassesOwn.never rfl (pi_range2 (by rfl) T.n_range (pa_cons pe_int (pa_cons (pe_op op_add (pe_callB call_len_seq (by rfl) T.n_len (by decide +kernel) (pa_cons (pv 3) pa_nil)) pe_int) pa_nil))) (pg_name (i := 5) sc_shortest_row.nd rfl (.inr rfl))
      (pss_cons (ps_setLc (i := 6) (own := [("ahead", 7)]) (g := gName 7) (tt := tYes) rfl sc_shortest_row.nd rfl rfl (sw_true rfl rfl rfl (by decide +kernel)) (pi_range1 (by rfl) T.n_range (pa_cons (pv 5) pa_nil)) (blkOk_by (own := [("ahead", 7)]) (N := ["shelf", "stand", "wish", "bands", "rows", "many", "ways", "ahead"]) (sc := defScope s_shortest_row) (by decide +kernel)) (fun _ _ _ _ _ => (pg_name (i := 7) sc_shortest_row.nd rfl (.inl rfl))) (fun _ _ _ _ _ => pts_nil) (fun _ _ _ _ _ => (pe_op (show OpR _ _ (rCatL K) from op_catL) (pe_ix (show IxR _ (rIxL K) from ix_list) (pv 4) (pv 7) (fun _ _ => rfl)) (pe_call (G_row_together.mono (by first | decide | omega)) hr (by rfl) T.g_row_together T.F_row_together.kp T.b_row_together .nil pass0 (pa_cons (pv 0) (pa_cons (pe_slice (show SlR _ (rSlL K) from sl_list) (pv 3) (po_some (pv 7)) (po_some (pv 5))) pa_nil))))))
      (pss_one (ps_expr (pe_bm PySem.F.plainAttrs_list PySem.F.slot_list_append PySem.F.type_list_append mt_append (pv 4) (pa_cons (pe_minLen rfl (by rfl) T.n_min (by rfl) T.n_len (pa_cons (pv 6) pa_nil)) pa_nil))))))
      (pss_one (ps_ret (pe_ix ix_list (pv 4) (pe_un un_neg pe_int) (fun _ _ => rfl))))))), ?_⟩
    refine ⟨v, rfl, u, rfl, t, rfl, v, u, t, room, ls, y, w, _, rfl, hv, hu, ht, riw, n8, fun pb H1 ub rs s1 npb hpb runs bs => ?_⟩
    have lb := bs.len
    have lr := runs.len
    have r8 : rs.length ≤ 8 := by omega
    refine ⟨Nat.zero_le _, fun e0 ne0 => ⟨by show 1 ≤ sizeLine; decide, fun l nl => ?_⟩⟩
    have t2 := same_new (o := .lst []) ne0
    have nle : e0 ≠ l := fun z => by
      rw [z, upd_same] at nl
      cases nl
    have nl1 : H1 l = none := by rw [upd_ne nle.symm] at nl; exact nl
    have t3 := same_new (o := .lst [.ref e0]) nl
    have hl3 : upd (upd H1 e0 (.lst [])) l (.lst [.ref e0]) l = some (.lst [.ref e0]) := upd_same
    have he3 : upd (upd H1 e0 (.lst [])) l (.lst [.ref e0]) e0 = some (.lst []) := t3 _ _ upd_same
    have g3 := t2.trans t3
    generalize upd (upd H1 e0 (.lst [])) l (.lst [.ref e0]) = H3 at *
    refine ⟨.ref pb, rfl, pb, ub, rfl, .inl (.inl (.inl (g3 _ _ hpb))), _, _, rfl, rfl, _, _, rfl, ⟨by omega, by omega, by omega, by rw [lb]; omega⟩, ?_⟩
    rw [lb]
    refine for_range (lo := 1) (n := ((rs.length : Int) + 1 - 1).toNat) (fun i σ H' => Same H1 H' ∧ ∃ (vs : List V) (fR : Nat → List Push) (y5 y6 : Option V), σ = [some v, some u, some t, some (.ref pb), some (.ref l), y5, y6, none] ∧ H' l = some (.lst vs) ∧ vs.length = i + 1 ∧ (∀ m, m ≤ i → Told ls.length (room - ls.sum) y w rs m (fR m)) ∧ (∀ m x, vs[m]? = some x → RowC K H' ls x (fR m) ∧ x ≠ .ref l ∧ Fresh H x))
      ⟨g3, [.ref e0], fun _ => [], none, none, rfl, hl3, rfl, fun m hm => ?_, fun m x hx => ?_⟩ (fun i σ H4 hi p => ?_) (fun σ H4 p => ?_)
    · have : m = 0 := by omega
      subst this
      exact told_nil
    · have hm : m = 0 := by
        have := (List.getElem?_eq_some_iff.mp hx).1
        simpa using this
      subst hm
      have : x = .ref e0 := by simpa using hx.symm
      subst this
      exact ⟨⟨e0, [], rfl, he3, .nil⟩, fun z => nle (by cases z; rfl), e0, rfl, s1.free ne0⟩
    · obtain ⟨s4, vs, fR, y5, y6, rfl, hl4, hvl, told, rows⟩ := p
      have hir : i < rs.length := by omega
      have hpb4 := s4 _ _ hpb
      have bs4 := bs.same s4
      -- the ways
      refine ⟨_, rfl, _, rfl, by omega, by omega, fun D nD => ?_⟩
      have nDl : l ≠ D := ne_of_none hl4 nD
      refine lc_range (lo := 0) (n := (1 + (i : Int)).toNat) (fun a H' => Same H4 H' ∧ ∃ us, H' D = some (.lst us) ∧ us.length = a ∧ ∀ m x, us[m]? = some x → RowC K H' ls x (wayL y w rs fR i m) ∧ x ≠ .ref l ∧ x ≠ .ref D ∧ Fresh H x)
        ⟨same_new nD, [], upd_same, rfl, fun m x hx => by simp at hx⟩ (fun a H5 ha p => ?_) (fun H5 p => ?_)
      · obtain ⟨s5, us, hD, hul, hus⟩ := p
        have ha' : a ≤ i := by omega
        have hva : vs[a]? = some vs[a] := List.getElem?_eq_getElem (by omega)
        obtain ⟨rowA, nA, frA⟩ := rows a _ hva
        obtain ⟨c1, us1, ec1, hc1, al1⟩ := rowA
        have hl5 := s5 _ _ hl4
        refine ⟨rfl, .ref l, rfl, _, rfl, l, _, _, _, rfl, rfl, .inl (.inl hl5), at_of (j := a) (by omega) hva, ?_⟩
        rw [ec1]
        refine ⟨v, rfl, .ref pb, rfl, _, rfl, _, rfl, _, rfl, _, rfl, pb, ub, rfl, .inl (.inl (s5 _ _ hpb4)), fun p6 np6 => ?_⟩
        rw [show (0 : Int) + (a : Int) = ((a : Nat) : Int) from by omega, show (1 : Int) + (i : Int) = ((i + 1 : Nat) : Int) from by omega, cut_am ub (by omega) (by omega)]
        have t6 := same_new (o := .lst ((ub.take (i + 1)).drop a)) np6
        have hp6 : upd H5 p6 (.lst ((ub.take (i + 1)).drop a)) p6 = some (.lst ((ub.take (i + 1)).drop a)) := upd_same
        have g6 := s5.trans t6
        generalize upd H5 p6 (.lst ((ub.take (i + 1)).drop a)) = H6 at *
        have hne : (rs.take (i + 1)).drop a ≠ [] := fun z => by
          have := congrArg List.length z
          rw [List.length_drop, List.length_take] at this
          simp at this
          omega
        refine ⟨v, p6, room, ls, y, w, _, (rs.take (i + 1)).drop a, rfl, Dpm ((s1.trans s4).trans g6) hv, .inl (.inl hp6), ((bs4.same g6).take (i + 1)).drop a, hne, by rw [List.length_drop, List.length_take]; omega, fun p7 H7 us7 s7 np7 hp7 al7 => ?_⟩
        have g7 := g6.trans s7
        have hc7 := g7 _ _ hc1
        have hl1 := dpAll_len al1
        rw [List.length_map] at hl1
        have hl7 := dpAll_len al7
        rw [List.length_map] at hl7
        have b1 := (told a ha').len
        have b2 := rowT_le (y := y) (w := w) hne
        have b3 : ((rs.take (i + 1)).drop a).length ≤ 8 := by rw [List.length_drop, List.length_take]; omega
        refine ⟨c1, p7, us1, us7, rfl, rfl, .inl (.inl hc7), .inl (.inl hp7), Nat.le_of_lt (small1000 (by omega)), fun p8 np8 => ?_⟩
        have t8 := same_new (o := .lst (us1 ++ us7)) np8
        have hp8 : upd H7 p8 (.lst (us1 ++ us7)) p8 = some (.lst (us1 ++ us7)) := upd_same
        have g8 := g7.trans t8
        have hD8 := t8 _ _ (s7 _ _ (t6 _ _ hD))
        have hl8 := g8 _ _ hl4
        have al8 : DpAll K (Off p8 (upd H7 p8 (.lst (us1 ++ us7)))) (us1 ++ us7) ((wayL y w rs fR i a).map (puD ls)) := by
          refine dpAll_off hp8 _ _ (noLs_pu ls _) ?_
          unfold wayL
          rw [List.map_append]
          exact dpAll_app (dpAll_mono ((off_same c1 H4).trans g8) _ _ al1) (dpAll_mono ((off_same p7 H7).trans t8) _ _ al7)
        have np8H : H p8 = none := (s1.trans s4).free (g7.free np8)
        generalize upd H7 p8 (.lst (us1 ++ us7)) = H8 at *
        have n8D : p8 ≠ D := (ne_of_none (s7 _ _ (t6 _ _ hD)) np8).symm
        have n8l : p8 ≠ l := (ne_of_none (g7 _ _ hl4) np8).symm
        refine ⟨us, hD8, small1000 (by omega), fun b o e => ?_, us ++ [.ref p8], upd_same, by rw [List.length_append, hul]; rfl, fun m x hx => ?_⟩
        · rw [upd_ne (ne_of_none e nD)]
          exact g8 _ _ e
        · by_cases cm : m < us.length
          · rw [List.getElem?_append_left cm] at hx
            obtain ⟨h1, h2, h3, h4⟩ := hus m x hx
            exact ⟨(h1.keep ((t6.trans s7).trans t8)).put hD8 h3, h2, h3, h4⟩
          · have em : m = a := by
              have := (List.getElem?_eq_some_iff.mp hx).1
              rw [List.length_append] at this
              simp at this
              omega
            subst em
            rw [List.getElem?_append_right (by omega), hul, Nat.sub_self] at hx
            cases Option.some.inj hx
            exact ⟨(show RowC K H8 ls (.ref p8) _ from ⟨p8, _, rfl, hp8, al8⟩).put hD8 (fun z => n8D (by cases z; rfl)), fun z => n8l (by cases z; rfl), fun z => n8D (by cases z; rfl), p8, rfl, np8H⟩
      · obtain ⟨s5, us, hD, hul, hus⟩ := p
        have hul' : us.length = i + 1 := by omega
        have hl5 := s5 _ _ hl4
        -- the shortest of them
        refine ⟨.ref l, rfl, .inl ⟨rfl, _, .inl (.inl hl5)⟩, .ref D, rfl, D, us, fun m => (wayL y w rs fR i m).length, rfl, .inl (.inl hD), by omega, fun m x hx => ?_, fun a x hx hmin => ?_⟩
        · obtain ⟨⟨c, us', rfl, h1, h2⟩, _⟩ := hus m x hx
          refine ⟨c, us', rfl, .inl (.inl h1), ?_⟩
          have := dpAll_len h2
          rwa [List.length_map] at this
        · have ha : a ≤ i := by
            have := (List.getElem?_eq_some_iff.mp hx).1
            omega
          obtain ⟨h1, h2, h3, h4⟩ := hus a x hx
          refine ⟨l, vs, x, rfl, rfl, hl5, small1000 (by omega), fun b o e => ?_, vs ++ [x], fun m => if m ≤ i then fR m else wayL y w rs fR i a, _, _, rfl, upd_same, by rw [List.length_append, hvl]; rfl, fun m hm => ?_, fun m z hz => ?_⟩
          · rw [upd_ne (ne_of_none e nl1)]
            exact s5 _ _ (s4 _ _ e)
          · dsimp only
            by_cases c : m ≤ i
            · rw [if_pos c]
              exact told m c
            · have : m = i + 1 := by omega
              subst this
              rw [if_neg c]
              exact told_next riw riy runs hir fR told ha _ rfl fun b hb => hmin b (by omega)
          · dsimp only
            by_cases c : m < vs.length
            · rw [List.getElem?_append_left c] at hz
              obtain ⟨k1, k2, k3⟩ := rows m z hz
              rw [if_pos (by omega)]
              exact ⟨(k1.keep s5).put hl5 k2, k2, k3⟩
            · have em : m = i + 1 := by
                have := (List.getElem?_eq_some_iff.mp hz).1
                rw [List.length_append] at this
                simp at this
                omega
              subst em
              rw [List.getElem?_append_right (by omega), hvl, Nat.sub_self] at hz
              cases Option.some.inj hz
              rw [if_neg (by omega)]
              exact ⟨h1.put hl5 h2, h2, h4⟩
    · obtain ⟨s4, vs, fR, y5, y6, rfl, hl4, hvl, told, rows⟩ := p
      rw [show ((rs.length : Int) + 1 - 1).toNat = rs.length from by omega] at hvl told
      have hlast : vs[rs.length]? = some vs[rs.length] := List.getElem?_eq_getElem (by omega)
      have hat : atI vs (-1) = some vs[rs.length] := by
        have e : vs = vs.take rs.length ++ [vs[rs.length]] := by
          have := List.take_append_drop rs.length vs
          rw [List.drop_eq_getElem_cons (by omega), List.drop_of_length_le (by omega)] at this
          exact this.symm
        have := atI_last (vs.take rs.length) vs[rs.length]
        rw [← e] at this
        exact this
      obtain ⟨⟨c, us, ec, hc, al⟩, _, c', ec', nc⟩ := rows _ _ hlast
      rw [ec] at ec'
      cases ec'
      refine ⟨.ref l, rfl, 1, rfl, l, _, -1, _, rfl, rfl, .inl (.inl hl4), hat, ?_⟩
      rw [ec]
      exact q c H4 (fR rs.length) us (s1.trans s4) nc hc al (best_of runs (told rs.length (Nat.le_refl _)))
def sp_need_both (K : PySem.W.Frag) : Sp := fun vs H Q _ => ∃ v u t room ls d e, vs = [v, u, t] ∧ Dp K H v (shD room ls) ∧ ShOk room ls ∧ Dp K H u d ∧ isStand room ls d = true ∧ Dp K H t e ∧ isStand room ls e = true ∧ ∀ H', Same H H' → Q .non H'
theorem ok_need_both (T : Tx K mg) : FnOk P w K mg base CX0 8 T.f_need_both T.fd_need_both ["shelf", "stand", "wish"] (sp_need_both K) := by
  have G_need_stand := ok_need_stand (P := P) (w := w) (base := base) T
  refine T.F_need_both.ok sc_need_both (fun vs H Q E h => ?_) (fun cdv A outer s H vs Q E hr h => ?_)
  · obtain ⟨_, _, _, _, _, _, _, rfl, _⟩ := h
    rfl
  · obtain ⟨v, u, t, room, ls, d, e, rfl, hv, sh, hu, du, ht, dt, q⟩ := h
    refine ⟨_, (pss_cons (ps_expr (pe_call (G_need_stand.mono (by first | decide | omega)) hr (by rfl) T.g_need_stand T.F_need_stand.kp T.b_need_stand .nil pass0 (pa_cons (pv 0) (pa_cons (pv 1) pa_nil))))
      (pss_one (ps_expr (pe_call (G_need_stand.mono (by first | decide | omega)) hr (by rfl) T.g_need_stand T.F_need_stand.kp T.b_need_stand .nil pass0 (pa_cons (pv 0) (pa_cons (pv 2) pa_nil)))))), ?_⟩
    refine ⟨v, rfl, u, rfl, v, u, room, ls, d, rfl, hv, sh, hu, du, fun H1 s1 => ?_⟩
    exact ⟨v, rfl, t, rfl, v, t, room, ls, e, rfl, Dpm s1 hv, sh, Dpm s1 ht, dt, fun H2 s2 => q H2 (s1.trans s2)⟩
end PS

namespace PS
open PySem PySem.Spec PyProof.Rows L2
variable {P : Program} {w : World} {K : PySem.W.Frag} {mg : Str → Option Value} {base : Heap}
def sp_fewest (K : PySem.W.Frag) : Sp := fun vs H Q _ => ∃ v u t room ls y w, vs = [v, u, t] ∧ Dp K H v (shD room ls) ∧ ShOk room ls ∧ Dp K H u (tI (stL ls y)) ∧ Dp K H t (tI (stL ls w)) ∧ Rise ls.length (room - ls.sum) y ∧ Rise ls.length (room - ls.sum) w ∧
  ∀ H' r, Same H H' → Best ls.length (room - ls.sum) y w r → Q (.int (r.length : Nat)) H'
theorem ok_fewest (T : Tx K mg) : FnOk P w K mg base CX0 9 T.f_fewest T.fd_fewest ["shelf", "stand", "wish"] (sp_fewest K) := by
  have G_need_both := ok_need_both (P := P) (w := w) (base := base) T
  have G_shortest_row := ok_shortest_row (P := P) (w := w) (base := base) T
  refine T.F_fewest.ok sc_fewest (fun vs H Q E h => ?_) (fun cdv A outer s H vs Q E hr h => ?_)
  · obtain ⟨_, _, _, _, _, _, _, rfl, _⟩ := h
    rfl
  · obtain ⟨v, u, t, room, ls, y, w, rfl, hv, sh, hu, ht, riy, riw, q⟩ := h
    refine ⟨_, (pss_cons (ps_expr (pe_call (G_need_both.mono (by first | decide | omega)) hr (by rfl) T.g_need_both T.F_need_both.kp T.b_need_both .nil pass0 (pa_cons (pv 0) (pa_cons (pv 1) (pa_cons (pv 2) pa_nil)))))
      (pss_one (ps_ret (pe_callB call_len_seq (by rfl) T.n_len (by decide +kernel) (pa_cons (pe_call (G_shortest_row.mono (by first | decide | omega)) hr (by rfl) T.g_shortest_row T.F_shortest_row.kp T.b_shortest_row .nil pass0 (pa_cons (pv 0) (pa_cons (pv 1) (pa_cons (pv 2) pa_nil)))) pa_nil))))), ?_⟩
    refine ⟨v, rfl, u, rfl, t, rfl, v, u, t, room, ls, _, _, rfl, hv, sh, hu, isStand_ok riy sh.lo, ht, isStand_ok riw sh.lo, fun H1 s1 => ?_⟩
    refine ⟨v, rfl, u, rfl, t, rfl, v, u, t, room, ls, y, w, rfl, Dpm s1 hv, sh.n8, Dpm s1 hu, Dpm s1 ht, riy, riw, fun c H2 r us s2 nc hc al bst => ?_⟩
    have := dpAll_len al
    rw [List.length_map] at this
    refine ⟨c, us, rfl, .inl (.inl (.inl hc)), ?_⟩
    rw [this]
    exact q H2 r (s1.trans s2) bst
end PS

namespace PS
open PySem PySem.Spec PyProof.Rows L2
variable {P : Program} {w : World} {K : PySem.W.Frag} {mg : Str → Option Value} {base : Heap}
/-! ### the deck -/
def Dk (k : Addr) (H : Hp) (n : Nat) : Prop := ∃ a b c : Int, H k = some (.lst [.int a, .int b, .int c]) ∧ 0 ≤ b ∧ b < 2147483579 ∧ 0 ≤ c ∧ c + (n : Int) ≤ 1073741824
theorem Dk.le {k : Addr} {H : Hp} {n m : Nat} (h : Dk k H n) (e : m ≤ n) : Dk k H m := by
  obtain ⟨a, b, c, h1, h2, h3, h4, h5⟩ := h
  exact ⟨a, b, c, h1, h2, h3, h4, by omega⟩
theorem Dk.lst {k : Addr} {H : Hp} {n : Nat} (h : Dk k H n) : ∃ l, H k = some (.lst l) := by
  obtain ⟨a, b, c, h1, _⟩ := h
  exact ⟨_, h1⟩
theorem Dk.same {k : Addr} {H H' : Hp} {n : Nat} (h : Dk k H n) (s : Same H H') : Dk k H' n := by
  obtain ⟨a, b, c, h1, h2⟩ := h
  exact ⟨a, b, c, s _ _ h1, h2⟩
theorem Dk.ne {k : Addr} {H : Hp} {n : Nat} (h : Dk k H n) {p : Addr} (np : H p = none) : p ≠ k := by
  obtain ⟨a, b, c, h1, _⟩ := h
  exact (ne_of_none h1 np).symm
theorem fmod_in {a b : Int} (h : 0 < b) : 0 ≤ a.fmod b ∧ a.fmod b < b := ⟨Int.fmod_nonneg_of_pos a h, Int.fmod_lt_of_pos a h⟩
def sp_deck (K : PySem.W.Frag) : Sp := fun vs H Q _ => ∃ c t : Int, vs = [.int c, .int t] ∧ 0 ≤ t ∧ t ≤ 1000 ∧ ∀ p H', Same H H' → H p = none → Dk p H' 1000000 → Q (.ref p) H'
theorem ok_law_deck (T : Tx K mg) : FnOk P w K mg base CX0 1 T.f_law_deck T.fd_law_deck ["cell", "turn"] (sp_deck K) := by
  refine T.F_law_deck.ok sc_law_deck (fun vs H Q E h => ?_) (fun cdv A outer s H vs Q E hr h => ?_)
  · obtain ⟨c, t, rfl, _⟩ := h
    rfl
  · obtain ⟨c, t, rfl, t0, t1, q⟩ := h
    refine ⟨_, (pss_cons (ps_if (pt_cmpR op_ge (pv 0) (pe_op op_pow pe_int pe_int) (nomark _)) (pss_one (ps_ret (pe_lst (pa_cons (pe_op op_sub (pv 0) (pe_op op_pow pe_int pe_int)) (pa_cons (pe_op op_modN (pv 0) pe_int) (pa_cons (pv 1) pa_nil)))))) pss_nil)
      (pss_one (ps_ret (pe_lst (pa_cons pe_int (pa_cons (pe_op op_modN (pv 0) pe_int) (pa_cons (pv 1) pa_nil))))))), ?_⟩
    have m := fmod_in (a := c) (b := 2147483579) (by decide)
    have fin : ∀ (z : Int) (p : Addr), H p = none → Q (.ref p) (upd H p (.lst [.int z, .int (c.fmod 2147483579), .int t])) := fun z p np =>
      q p _ (same_new np) np ⟨z, _, t, upd_same, m.1, m.2, t0, by omega⟩
    refine ⟨_, rfl, _, _, rfl, rfl, ⟨by decide, by decide, by decide⟩, _, _, rfl, rfl, _, rfl, ite2 (fun _ => ?_) (fun _ => ?_)⟩
    · exact ⟨_, rfl, _, _, rfl, rfl, ⟨by decide, by decide, by decide⟩, _, _, rfl, rfl, _, rfl, _, _, rfl, rfl, (show (2147483579 : Int) ≠ 0 by decide), _, rfl, by show 3 ≤ sizeLine; decide, fun p np => fin _ p np⟩
    · exact ⟨_, rfl, _, _, rfl, rfl, (show (2147483579 : Int) ≠ 0 by decide), _, rfl, by show 3 ≤ sizeLine; decide, fun p np => fin _ p np⟩
def sp_pick (K : PySem.W.Frag) : Sp := fun vs H Q _ => ∃ (k : Addr) (m : Int) (n : Nat), vs = [.ref k, .int m] ∧ 0 < m ∧ m < 1000000 ∧ Dk k H (n + 1) ∧ ∀ r H', 0 ≤ r → r < m → Dk k H' n → Same (Off k H) (Off k H') → Q (.int r) H'
theorem off_upd {k : Addr} {H : Hp} {o : HO} : Off k (upd H k o) = Off k H := by
  funext b
  unfold Off
  split
  · rfl
  · rename_i n
    rw [upd_ne n]
theorem ok_law_pick (T : Tx K mg) : FnOk P w K mg base CX0 1 T.f_law_pick T.fd_law_pick ["deck", "size"] (sp_pick K) := by
  refine T.F_law_pick.ok sc_law_pick (fun vs H Q E h => ?_) (fun cdv A outer s H vs Q E hr h => ?_)
  · obtain ⟨k, m, n, rfl, _⟩ := h
    rfl
  · obtain ⟨k, m, n, rfl, m0, m1, ⟨a, b, c, hk, b0, b1, c0, c1⟩, q⟩ := h
    refine ⟨_, (pss_cons (ps_if (pt_cmpR op_gt (pe_ix ix_list (pv 0) pe_int (fun _ _ => rfl)) pe_int (nomark _)) (pss_cons (ps_set (i := 2) sc_law_pick.nd rfl (.inl rfl) (pe_op op_modN (pe_ix ix_list (pv 0) pe_int (fun _ _ => rfl)) (pv 1)))
      (pss_cons (ps_asg (pe_op op_fdivN (pe_ix ix_list (pv 0) pe_int (fun _ _ => rfl)) (pv 1)) (pg_sub (pv 0) pe_int set_list))
      (pss_one (ps_ret (pv 2))))) pss_nil)
      (pss_cons (ps_asg (pe_op op_add (pe_ix ix_list (pv 0) pe_int (fun _ _ => rfl)) pe_int) (pg_sub (pv 0) pe_int set_list))
      (pss_cons (ps_set (i := 3) sc_law_pick.nd rfl (.inl rfl) (pe_op op_modN (pe_op op_pow (pe_op op_add (pe_ix ix_list (pv 0) pe_int (fun _ _ => rfl)) (pe_op op_mul pe_int (pe_ix ix_list (pv 0) pe_int (fun _ _ => rfl)))) pe_int) pe_int))
      (pss_cons (ps_set (i := 2) sc_law_pick.nd rfl (.inl rfl) (pe_op op_fdivN (pe_op op_modN (pe_op op_pow (pe_op op_add (pv 3) (pe_op op_mul pe_int (pe_ix ix_list (pv 0) pe_int (fun _ _ => rfl)))) pe_int) pe_int) pe_int))
      (pss_one (ps_ret (pe_op op_modN (pv 2) (pv 1)))))))), ?_⟩
    refine ⟨.ref k, rfl, k, _, 0, _, rfl, rfl, .inl (.inl hk), atI_nat (j := 0) rfl, _, _, rfl, rfl, _, rfl, ite2 (fun _ => ?_) (fun _ => ?_)⟩
    · refine ⟨.ref k, rfl, k, _, 0, _, rfl, rfl, .inl (.inl hk), atI_nat (j := 0) rfl, _, rfl, _, _, rfl, rfl, by omega, ?_⟩
      refine ⟨.ref k, rfl, k, _, 0, _, rfl, rfl, .inl (.inl hk), atI_nat (j := 0) rfl, _, rfl, _, _, rfl, rfl, ⟨by omega, by omega⟩, ?_⟩
      refine ⟨.ref k, rfl, k, _, 0, 0, rfl, rfl, hk, rfl, ?_⟩
      refine ⟨_, rfl, ?_⟩
      have mm := fmod_in (a := a) m0
      exact q _ _ mm.1 mm.2 ⟨_, b, c, upd_same, b0, b1, c0, by omega⟩ (by rw [off_upd]; exact Same.refl _)
    · refine ⟨.ref k, rfl, k, _, 2, _, rfl, rfl, .inl (.inl hk), atI_nat (j := 2) rfl, _, _, rfl, rfl, ?_⟩
      refine ⟨.ref k, rfl, k, _, 2, 2, rfl, rfl, hk, rfl, ?_⟩
      have hk1 : upd H k (.lst ([V.int a, V.int b, V.int c].set 2 (V.int (c + 1)))) k = some (.lst [.int a, .int b, .int (c + 1)]) := upd_same
      refine ⟨.ref k, rfl, k, _, 1, _, rfl, rfl, .inl (.inl hk1), atI_nat (j := 1) rfl, .ref k, rfl, k, _, 2, _, rfl, rfl, .inl (.inl hk1), atI_nat (j := 2) rfl, _, _, rfl, rfl, .inl ⟨by decide, by decide⟩, _, _, rfl, rfl, _, _, rfl, rfl, ⟨by decide, by decide, by omega⟩, _, _, rfl, rfl, (show (2147483647 : Int) ≠ 0 by decide), ?_⟩
      have m2 := fmod_in (a := (b + 15485867 * (c + 1)) ^ (5 : Int).toNat) (b := 2147483647) (by decide)
      refine ⟨_, rfl, .ref k, rfl, k, _, 2, _, rfl, rfl, .inl (.inl hk1), atI_nat (j := 2) rfl, _, _, rfl, rfl, .inl ⟨by decide, by decide⟩, _, _, rfl, rfl, _, _, rfl, rfl, ⟨by decide, by decide, by omega⟩, _, _, rfl, rfl, (show (2147483629 : Int) ≠ 0 by decide), _, _, rfl, rfl, (show (32 : Int) ≠ 0 ∧ (32 : Int).natAbs < 1073741824 by decide), ?_⟩
      refine ⟨_, rfl, _, rfl, _, _, rfl, rfl, by omega, ?_⟩
      have mm := fmod_in (a := (((((b + 15485867 * (c + 1)) ^ (5 : Int).toNat).fmod 2147483647 + 7919 * (c + 1)) ^ (3 : Int).toNat).fmod 2147483629).fdiv 32) m0
      exact q _ _ mm.1 mm.2 ⟨a, b, c + 1, hk1, b0, b1, by omega, by omega⟩ (by rw [off_upd]; exact Same.refl _)
end PS

namespace PS
open PySem PySem.Spec PyProof.Rows L2
variable {P : Program} {w : World} {K : PySem.W.Frag} {mg : Str → Option Value} {base : Heap}
theorem off_new {k p : Addr} {H : Hp} {o : HO} (np : H p = none) : Same (Off k H) (Off k (upd H p o)) := off_mono (same_new np)
theorem off_free {k p : Addr} {H : Hp} (np : H p = none) : Off k H p = none := by
  unfold Off
  split
  · rfl
  · exact np
theorem off_up {k p : Addr} {H : Hp} {o : HO} (n : p ≠ k) : Off k (upd H p o) p = some o := off_at n upd_same
theorem off_keep {k D : Addr} {H0 H : Hp} {o : HO} (s : Same (Off k H0) (Off k H)) (nD : H0 D = none) : Same (Off k H0) (Off k (upd H D o)) := fun b x e => by
  have nb : b ≠ D := ne_of_none e (off_free nD)
  have h := s b x e
  unfold Off at h ⊢
  split at h
  · cases h
  · rename_i nk
    rw [if_neg nk, upd_ne nb]
    exact h
/-! ### stands -/
def sp_stand_of (K : PySem.W.Frag) : Sp := fun vs H Q _ => ∃ v a room ls y, vs = [v, .ref a] ∧ Dp K H v (shD room ls) ∧ ls.length ≤ 8 ∧ (SqL K H a (iV ((List.range ls.length).map y)) ∨ SqT K H a (iV ((List.range ls.length).map y))) ∧ RD K H Q (tI (stL ls y))
theorem stL_take {ls : List Int} {y : Nat → Int} {i : Nat} (h : i < ls.length) : (stL ls y).take (i + 1) = (stL ls y).take i ++ [y i + pre ls i] := by
  rw [List.take_add_one, stL_get h]
  rfl
theorem stand_of_any (b : Bool) (T : Tx K mg) : FnOk P w K mg base CX0 1 T.f_law_stand_of T.fd_law_stand_of ["shelf", "places"] (fun vs H Q _ => ∃ v a room ls y, vs = [v, .ref a] ∧ Dp K H v (shD room ls) ∧ ls.length ≤ 8 ∧ SqK b K H a (iV ((List.range ls.length).map y)) ∧ RD K H Q (tI (stL ls y))) := by
  refine T.F_law_stand_of.ok sc_law_stand_of (fun vs H Q E h => ?_) (fun cdv A outer s H vs Q E hr h => ?_)
  · obtain ⟨v, a, room, ls, y, rfl, _⟩ := h
    rfl
  · obtain ⟨v, a, room, ls, y, rfl, hv, n8, ha, q⟩ := h
    obtain ⟨c, d, rfl, sc, sd⟩ := dp_shelf hv
    refine ⟨_, (pss_cons (ps_par (i := 2) (j := 3) (by rfl) sc_law_stand_of.nd rfl rfl (by decide) rfl rfl (pa_cons (pe_lst pa_nil) (pa_cons pe_int pa_nil)) (by rfl))
      (pss_cons (ps_for PassesOwn.never rfl (pi_zip2 b false (by rfl) T.n_zip (pa_cons (pv 1) (pa_cons (pe_ix ix_tup (pv 0) pe_int (fun _ _ => rfl)) pa_nil))) (pg_tup rfl (pgs_cons (pg_name (i := 4) sc_law_stand_of.nd rfl (.inl rfl)) (pgs_cons (pg_name (i := 5) sc_law_stand_of.nd rfl (.inl rfl)) pgs_nil)))
      (pss_cons (ps_expr (pe_bm PySem.F.plainAttrs_list PySem.F.slot_list_append PySem.F.type_list_append mt_append (pv 2) (pa_cons (pe_op op_add (pv 4) (pv 3)) pa_nil)))
      (pss_one (ps_set (i := 3) sc_law_stand_of.nd rfl (.inl rfl) (pe_op op_add (pv 3) (pv 5))))))
      (pss_one (ps_ret (pe_callTy call_tuple_of (by rfl) T.n_tuple (by decide +kernel) (pa_cons (pv 2) pa_nil)))))), ?_⟩
    refine ⟨Nat.zero_le _, fun l nl => ⟨_, _, rfl, ?_⟩⟩
    have s1 : Same H (upd H l (.lst [])) := same_new nl
    have ha1 : SqK b K (upd H l (.lst [])) a (iV ((List.range ls.length).map y)) := by
      cases b
      · exact seqT_mono s1 ha
      · exact s1.seq ha
    refine ⟨.ref a, rfl, .ref c, rfl, c, _, 1, _, rfl, rfl, seqT_mono s1 sc, atI_nat (j := 1) rfl, a, d, _, _, rfl, ha1, seqT_mono s1 sd, ?_⟩
    refine for_it (walk_2 (n := ls.length) (xs := iV ((List.range ls.length).map y)) (ys := iV ls) (by simp)) (fun i σ H' => Same H H' ∧ H' l = some (.lst (iV ((stL ls y).take i))) ∧ ∃ y4 y5, σ = [some (.ref c), some (.ref a), some (.ref l), some (.int (pre ls i)), y4, y5])
      ⟨s1, upd_same, none, none, by rw [pre_zero]; rfl⟩ (fun i σ H' _ p => ⟨?_, seqT_mono p.1 sd⟩) (fun i x σ H' H2 hi p yy => ?_) (fun σ H' p => ?_)
    · cases b
      · exact seqT_mono p.1 ha
      · exact p.1.seq ha
    · obtain ⟨s2, hl, y4, y5, rfl⟩ := p
      obtain ⟨Tt, x, z, rfl, nT, rfl, hx, hz⟩ := yy
      have s3 : Same H (upd H' Tt (.tup [x, z])) := s2.trans (same_new nT)
      have ex : x = .int (y i) := by
        rw [iV_get (v := y i) (by simp [hi])] at hx
        exact (Option.some.inj hx).symm
      have ez : z = .int ls[i] := by
        rw [iV_get (List.getElem?_eq_getElem hi)] at hz
        exact (Option.some.inj hz).symm
      subst ex ez
      have hl2 : upd H' Tt (.tup [.int (y i), .int ls[i]]) l = some (.lst (iV ((stL ls y).take i))) := by
        rw [upd_ne (ne_of_none hl nT)]
        exact hl
      refine ⟨Tt, _, rfl, .inl (.inl upd_same), rfl, _, _, rfl, _, [], rfl, rfl, ?_⟩
      refine ⟨.ref l, rfl, .inl ⟨rfl, _, .inl (.inl hl2)⟩, _, rfl, _, rfl, _, _, rfl, rfl, l, _, _, rfl, rfl, hl2, ?_, ?_⟩
      · rw [List.length_map, List.length_take]
        exact small1000 (by omega)
      · refine ⟨_, rfl, _, rfl, _, _, rfl, rfl, fun b o hb => ?_, ?_, some (.int (y i)), some (.int ls[i]), ?_⟩
        · rw [upd_ne (ne_of_none hb nl)]
          exact s3 b o hb
        · rw [upd_same, stL_take hi]
          simp
        · rw [pre_succ hi]
          rfl
    · obtain ⟨s2, hl, y4, y5, rfl⟩ := p
      rw [List.take_of_length_le (by rw [stL_len]; exact Nat.le_refl _)] at hl
      refine ⟨.ref l, rfl, l, _, rfl, .inl ⟨.inl (.inl hl), fun t nt => ?_⟩⟩
      exact q _ _ (s2.trans (same_new nt)) (tI_dp (.inl (.inl upd_same)))
end PS

namespace PS
open PySem PySem.Spec PyProof.Rows L2
variable {P : Program} {w : World} {K : PySem.W.Frag} {mg : Str → Option Value} {base : Heap}
/-! ### parted, alike -/
def sp_parted (K : PySem.W.Frag) : Sp := fun vs H Q _ => ∃ v t1 t2 room ls r1 r2, vs = [v, t1, t2] ∧ Dp K H v (shD room ls) ∧ ShOk room ls ∧ Dp K H t1 (roD ls r1) ∧ Dp K H t2 (roD ls r2) ∧ r1.length ≤ 200 ∧ r2.length ≤ 200 ∧ (∀ p ∈ r1, PuOk ls.length (room - ls.sum) p) ∧ (∀ p ∈ r2, PuOk ls.length (room - ls.sum) p) ∧
  (stL ls (loR r1) ≠ stL ls (loR r2) → RD K H Q (tI (stL ls (fun _ => 0)))) ∧
  (stL ls (loR r1) = stL ls (loR r2) → stL ls (hiR (room - ls.sum) r1) ≠ stL ls (hiR (room - ls.sum) r2) → RD K H Q (tI (stL ls (fun _ => room - ls.sum)))) ∧
  (stL ls (loR r1) = stL ls (loR r2) → stL ls (hiR (room - ls.sum) r1) = stL ls (hiR (room - ls.sum) r2) → ∀ H', Same H H' → Q .non H')
theorem ok_parted (T : Tx K mg) : FnOk P w K mg base CX0 8 T.f_parted T.fd_parted ["shelf", "row", "other"] (sp_parted K) := by
  have G_need_row := ok_need_row (P := P) (w := w) (base := base) T
  have G_done := ok_done (P := P) (w := w) (base := base) T
  have G_leftmost := ok_leftmost (P := P) (w := w) (base := base) T
  have G_rightmost := ok_rightmost (P := P) (w := w) (base := base) T
  refine T.F_parted.ok sc_parted (fun vs H Q E h => ?_) (fun cdv A outer s H vs Q E hr h => ?_)
  · obtain ⟨_, _, _, _, _, _, _, rfl, _⟩ := h
    rfl
  · obtain ⟨v, t1, t2, room, ls, r1, r2, rfl, hv, sh, ht1, ht2, l1, l2, k1, k2, q1, q2, q3⟩ := h
    refine ⟨_, (pss_cons (ps_expr (pe_call (G_need_row.mono (by first | decide | omega)) hr (by rfl) T.g_need_row T.F_need_row.kp T.b_need_row .nil pass0 (pa_cons (pv 0) (pa_cons (pv 1) pa_nil))))
      (pss_cons (ps_expr (pe_call (G_need_row.mono (by first | decide | omega)) hr (by rfl) T.g_need_row T.F_need_row.kp T.b_need_row .nil pass0 (pa_cons (pv 0) (pa_cons (pv 2) pa_nil))))
      (pss_cons (ps_for PassesOwn.never rfl (pi_tup (pe_tup (pa_cons (pe_call (G_leftmost.mono (by first | decide | omega)) hr (by rfl) T.g_leftmost T.F_leftmost.kp T.b_leftmost .nil pass0 (pa_cons (pv 0) pa_nil)) (pa_cons (pe_call (G_rightmost.mono (by first | decide | omega)) hr (by rfl) T.g_rightmost T.F_rightmost.kp T.b_rightmost .nil pass0 (pa_cons (pv 0) pa_nil)) pa_nil)))) (pg_name (i := 3) sc_parted.nd rfl (.inl rfl))
      (pss_one (ps_if (pt_cmpR (op_neP hr.units) (pe_call (G_done.mono (by first | decide | omega)) hr (by rfl) T.g_done T.F_done.kp T.b_done .nil pass0 (pa_cons (pv 0) (pa_cons (pv 3) (pa_cons (pv 1) pa_nil)))) (pe_call (G_done.mono (by first | decide | omega)) hr (by rfl) T.g_done T.F_done.kp T.b_done .nil pass0 (pa_cons (pv 0) (pa_cons (pv 3) (pa_cons (pv 2) pa_nil)))) (nomark _)) (pss_one (ps_ret (pv 3))) pss_nil)))
      (pss_one (ps_ret pe_non))))), ?_⟩
    have p0 : 0 ≤ room - ls.sum := by have := sh.lo; omega
    refine ⟨v, rfl, t1, rfl, v, t1, room, ls, _, rfl, hv, sh, ht1, Nat.le_trans (roD_depth ls r1) (by decide), isRow_ok l1 k1, fun H1 s1 => ?_⟩
    refine ⟨v, rfl, t2, rfl, v, t2, room, ls, _, rfl, Dpm s1 hv, sh, Dpm s1 ht2, Nat.le_trans (roD_depth ls r2) (by decide), isRow_ok l2 k2, fun H2 s2 => ?_⟩
    have s12 := s1.trans s2
    refine ⟨v, rfl, v, room, ls, rfl, Dpm s12 hv, sh.n8, fun u1 H3 s3 hu1 => ?_⟩
    have s13 := s12.trans s3
    refine ⟨v, rfl, v, room, ls, rfl, Dpm s13 hv, sh.n8, fun u2 H4 s4 hu2 => ?_⟩
    have s14 := s13.trans s4
    refine ⟨by show 2 ≤ sizeLine; decide, fun z nz => ?_⟩
    have t5 := same_new (o := .tup [u1, u2]) nz
    have s5 := s14.trans t5
    have hu1 := Dpm (s4.trans t5) hu1
    have hu2 := Dpm t5 hu2
    have hz : SqT K (upd H4 z (.tup [u1, u2])) z [u1, u2] := .inl (.inl upd_same)
    generalize upd H4 z (.tup [u1, u2]) = H5 at *
    refine ⟨z, rfl, ⟨_, hz⟩, ?_⟩
    refine for_tup (K := K) (a := z) (xs := [u1, u2]) (fun i σ H' => Same H5 H' ∧ (1 ≤ i → stL ls (loR r1) = stL ls (loR r2)) ∧ (2 ≤ i → stL ls (hiR (room - ls.sum) r1) = stL ls (hiR (room - ls.sum) r2)) ∧ ∃ y3, σ = [some v, some t1, some t2, y3])
      ⟨Same.refl _, by omega, by omega, _, rfl⟩ (fun i σ H' _ p => seqT_mono p.1 hz) (fun i x σ H6 hx p => ?_) (fun σ H6 p => ?_)
    · obtain ⟨s6, c1, c2, y3, rfl⟩ := p
      have hi : i < 2 := (List.getElem?_eq_some_iff.mp hx).1
      have g6 := s5.trans s6
      have turn : ∀ (y0 : Nat → Int), Rise ls.length (room - ls.sum) y0 → Dp K H6 x (tI (stL ls y0)) → (stL ls (doR y0 r1) ≠ stL ls (doR y0 r2) → ∀ H', Same H6 H' → Q x H') → (stL ls (doR y0 r1) = stL ls (doR y0 r2) → ∀ H', Same H6 H' → (1 ≤ i + 1 → stL ls (loR r1) = stL ls (loR r2)) ∧ (2 ≤ i + 1 → stL ls (hiR (room - ls.sum) r1) = stL ls (hiR (room - ls.sum) r2))) →
          tIfS (tTest (tOp (rNeP K) (tCall (sp_done K) [] E0 (tCons (tVar 0) (tCons (tVar 3) (tCons (tVar 1) tNil)))) (tCall (sp_done K) [] E0 (tCons (tVar 0) (tCons (tVar 3) (tCons (tVar 2) tNil)))))) (tRet (tVar 3)) tNext
            { nx := fun σ H' => Same H5 H' ∧ (1 ≤ i + 1 → stL ls (loR r1) = stL ls (loR r2)) ∧ (2 ≤ i + 1 → stL ls (hiR (room - ls.sum) r1) = stL ls (hiR (room - ls.sum) r2)) ∧ ∃ y3, σ = [some v, some t1, some t2, y3], rt := Q } [some v, some t1, some t2, some x] H6 := by
        intro y0 ri hx0 qa qb
        refine ⟨v, rfl, x, rfl, t1, rfl, v, x, t1, room, ls, y0, r1, _, rfl, Dpm g6 hv, hx0, Dpm g6 ht1, ri, sh.n8, k1, fun a1 H7 s7 h7 => ?_⟩
        have g7 := g6.trans s7
        refine ⟨v, rfl, x, rfl, t2, rfl, v, x, t2, room, ls, y0, r2, _, rfl, Dpm g7 hv, Dpm s7 hx0, Dpm g7 ht2, ri, sh.n8, k2, fun a2 H8 s8 h8 => ?_⟩
        refine ⟨_, _, Dpm s8 h7, h8, Nat.le_trans (depth_tI _) (by decide), _, rfl, ?_⟩
        rw [eqv_tI]
        by_cases e : stL ls (doR y0 r1) = stL ls (doR y0 r2)
        · rw [decide_eq_true e]
          have := qb e _ (s7.trans s8)
          exact iteF ⟨(s6.trans s7).trans s8, this.1, this.2, _, rfl⟩
        · rw [decide_eq_false e]
          exact iteT ⟨x, rfl, qa e _ (s7.trans s8)⟩
      have : i = 0 ∨ i = 1 := by omega
      rcases this with rfl | rfl
      · have : x = u1 := (Option.some.inj hx).symm
        subst this
        refine turn _ (rise_const (Int.le_refl 0) p0) (Dpm s6 hu1) (fun e H' s' => q1 e x H' (g6.trans s') (Dpm (s6.trans s') hu1)) (fun e H' s' => ⟨fun _ => e, fun z => by omega⟩)
      · have : x = u2 := (Option.some.inj hx).symm
        subst this
        refine turn _ (rise_const p0 (Int.le_refl _)) (Dpm s6 hu2) (fun e H' s' => q2 (c1 (by omega)) e x H' (g6.trans s') (Dpm (s6.trans s') hu2)) (fun e H' s' => ⟨fun _ => c1 (by omega), fun _ => e⟩)
    · obtain ⟨s6, c1, c2, y3, rfl⟩ := p
      exact q3 (c1 (by show 1 ≤ 2; decide)) (c2 (by show 2 ≤ 2; decide)) _ (s5.trans s6)
def sp_alike (K : PySem.W.Frag) : Sp := fun vs H Q _ => ∃ v t1 t2 room ls r1 r2, vs = [v, t1, t2] ∧ Dp K H v (shD room ls) ∧ ShOk room ls ∧ Dp K H t1 (roD ls r1) ∧ Dp K H t2 (roD ls r2) ∧ r1.length ≤ 200 ∧ r2.length ≤ 200 ∧ (∀ p ∈ r1, PuOk ls.length (room - ls.sum) p) ∧ (∀ p ∈ r2, PuOk ls.length (room - ls.sum) p) ∧
  RB H Q (decide (stL ls (loR r1) = stL ls (loR r2) ∧ stL ls (hiR (room - ls.sum) r1) = stL ls (hiR (room - ls.sum) r2)))
theorem ok_alike (T : Tx K mg) : FnOk P w K mg base CX0 9 T.f_alike T.fd_alike ["shelf", "row", "other"] (sp_alike K) := by
  have G_parted := ok_parted (P := P) (w := w) (base := base) T
  refine T.F_alike.ok sc_alike (fun vs H Q E h => ?_) (fun cdv A outer s H vs Q E hr h => ?_)
  · obtain ⟨_, _, _, _, _, _, _, rfl, _⟩ := h
    rfl
  · obtain ⟨v, t1, t2, room, ls, r1, r2, rfl, hv, sh, ht1, ht2, l1, l2, k1, k2, q⟩ := h
    refine ⟨_, (pss_one (ps_ret (pe_cmpR op_isN (pe_call (G_parted.mono (by first | decide | omega)) hr (by rfl) T.g_parted T.F_parted.kp T.b_parted .nil pass0 (pa_cons (pv 0) (pa_cons (pv 1) (pa_cons (pv 2) pa_nil)))) pe_non (nomark _)))), ?_⟩
    refine ⟨v, rfl, t1, rfl, t2, rfl, v, t1, t2, room, ls, r1, r2, rfl, hv, sh, ht1, ht2, l1, l2, k1, k2, fun e x H1 s1 h1 => ?_, fun e1 e2 x H1 s1 h1 => ?_, fun e1 e2 H1 s1 => ?_⟩
    · obtain ⟨b, rfl, _⟩ := dp_tI h1
      rw [decide_eq_false (fun z => e z.1)] at q
      exact ⟨rfl, q H1 s1⟩
    · obtain ⟨b, rfl, _⟩ := dp_tI h1
      rw [decide_eq_false (fun z => e2 z.2)] at q
      exact ⟨rfl, q H1 s1⟩
    · rw [decide_eq_true ⟨e1, e2⟩] at q
      exact ⟨rfl, q H1 s1⟩
end PS

namespace PS
open PySem PySem.Spec PyProof.Rows L2
variable {P : Program} {w : World} {K : PySem.W.Frag} {mg : Str → Option Value} {base : Heap}
def wiD (ls : List Int) : Option (Nat → Int) → PyData
  | none => .none
  | some w => tI (stL ls w)
def BenchAt (K : PySem.W.Frag) (C : Addr) (H : Hp) (x : Addr) (room : Int) (ls : List Int) (y lo hi : Nat → Int) (many : Int) (wi : Option (Nat → Int)) : Prop :=
  ∃ dx v1 v2 v3 v4 v6, H x = some (.ins C dx (benL v1 v2 v3 v4 (.int many) v6)) ∧ Dp K (Off x H) v1 (shD room ls) ∧ Dp K (Off x H) v2 (tI (stL ls y)) ∧ Dp K (Off x H) v3 (tI (stL ls lo)) ∧ Dp K (Off x H) v4 (tI (stL ls hi)) ∧ Dp K (Off x H) v6 (wiD ls wi)
theorem BenchAt.same {K : PySem.W.Frag} {C : Addr} {H H' : Hp} {x : Addr} {room : Int} {ls : List Int} {y lo hi : Nat → Int} {many : Int} {wi : Option (Nat → Int)} (b : BenchAt K C H x room ls y lo hi many wi) (s : Same H H') : BenchAt K C H' x room ls y lo hi many wi := by
  obtain ⟨dx, v1, v2, v3, v4, v6, h, h1, h2, h3, h4, h6⟩ := b
  have t := off_mono (k := x) s
  exact ⟨dx, v1, v2, v3, v4, v6, s _ _ h, Dpm t h1, Dpm t h2, Dpm t h3, Dpm t h4, Dpm t h6⟩
theorem wr {H H' : Hp} {x : Addr} {o : HO} (e : upd H x o = H') : H' x = some o ∧ Same (Off x H) (Off x H') := by
  subst e
  exact ⟨upd_same, offI_upd2 x H o⟩
theorem puD_dep (ls : List Int) (p : Push) : (puD ls p).depth ≤ 64 := by
  have := puD_depth ls p
  omega
/-! ### copied -/
def sp_copied (K : PySem.W.Frag) : Sp := fun vs H Q _ => ∃ v zs, vs = [v] ∧ Dp K H v (tI zs) ∧ zs.length ≤ 8 ∧ RD K H Q (tI zs)
theorem ok_copied (T : Tx K mg) : FnOk P w K mg base CX0 1 T.f_copied T.fd_copied ["numbers"] (sp_copied K) := by
  refine T.F_copied.ok sc_copied (fun vs H Q E h => ?_) (fun cdv A outer s H vs Q E hr h => ?_)
  · obtain ⟨_, _, rfl, _⟩ := h
    rfl
  · obtain ⟨v, zs, rfl, hv, n8, q⟩ := h
    obtain ⟨a, rfl, sa⟩ := dp_tI hv
    refine ⟨_, (pss_one (ps_ret (pe_callTy call_tuple_of (by rfl) T.n_tuple (by decide +kernel) (pa_cons (pe_callTy call_list_of (by rfl) T.n_list (by decide +kernel) (pa_cons (pv 0) pa_nil)) pa_nil)))), ?_⟩
    refine ⟨.ref a, rfl, a, _, rfl, .inr sa, fun l nl => ?_⟩
    have t1 := same_new (o := .lst (iV zs)) nl
    refine ⟨l, _, rfl, .inl ⟨.inl (.inl upd_same), fun t nt => ?_⟩⟩
    have t2 := same_new (o := .tup (iV zs)) nt
    exact q _ _ (t1.trans t2) (tI_dp (.inl (.inl upd_same)))
/-! ### a bench is made -/
def sp_Bench_init (K : PySem.W.Frag) (C : Addr) : Sp := fun vs H Q _ => ∃ (x dx : Addr) (v u : V) (room : Int) (ls : List Int) (y : Nat → Int), vs = [.ref x, v, u] ∧ H x = some (.ins C dx []) ∧ Dp K H v (shD room ls) ∧ ShOk room ls ∧ Dp K H u (tI (stL ls y)) ∧ Rise ls.length (room - ls.sum) y ∧
  ∀ H', Same (Off x H) (Off x H') → BenchAt K C H' x room ls y (fun _ => 0) (fun _ => room - ls.sum) 0 none → Q .non H'
theorem ok_Bench_init (T : Tx K mg) : FnOk P w K mg base CX0 8 T.f_Bench_init T.fd_Bench_init ["self", "shelf", "stand"] (sp_Bench_init K T.C_Bench) := by
  have G_need_stand := ok_need_stand (P := P) (w := w) (base := base) T
  have G_copied := ok_copied (P := P) (w := w) (base := base) T
  have G_leftmost := ok_leftmost (P := P) (w := w) (base := base) T
  have G_rightmost := ok_rightmost (P := P) (w := w) (base := base) T
  refine T.F_Bench_init.ok sc_Bench_init (fun vs H Q E h => ?_) (fun cdv A outer s H vs Q E hr h => ?_)
  · obtain ⟨_, _, _, _, _, _, _, rfl, _⟩ := h
    rfl
  · obtain ⟨x, dx, v, u, room, ls, y, rfl, hx, hv, sh, hu, ri, q⟩ := h
    refine ⟨_, (pss_cons (ps_expr (pe_call (G_need_stand.mono (by first | decide | omega)) hr (by rfl) T.g_need_stand T.F_need_stand.kp T.b_need_stand .nil pass0 (pa_cons (pv 1) (pa_cons (pv 2) pa_nil))))
      (pss_cons (ps_asg (pv 1) (pg_tup rfl (pgs_cons (pg_name (i := 3) sc_Bench_init.nd rfl (.inl rfl)) (pgs_cons (pg_name (i := 4) sc_Bench_init.nd rfl (.inl rfl)) pgs_nil))))
      (pss_cons (ps_fld (pv 0) (pe_tup (pa_cons (pv 3) (pa_cons (pe_call (G_copied.mono (by first | decide | omega)) hr (by rfl) T.g_copied T.F_copied.kp T.b_copied .nil pass0 (pa_cons (pv 4) pa_nil)) pa_nil))) rfl)
      (pss_cons (ps_fld (pv 0) (pe_call (G_copied.mono (by first | decide | omega)) hr (by rfl) T.g_copied T.F_copied.kp T.b_copied .nil pass0 (pa_cons (pv 2) pa_nil)) rfl)
      (pss_cons (ps_fld (pv 0) (pe_call (G_leftmost.mono (by first | decide | omega)) hr (by rfl) T.g_leftmost T.F_leftmost.kp T.b_leftmost .nil pass0 (pa_cons (pv 1) pa_nil)) rfl)
      (pss_cons (ps_fld (pv 0) (pe_call (G_rightmost.mono (by first | decide | omega)) hr (by rfl) T.g_rightmost T.F_rightmost.kp T.b_rightmost .nil pass0 (pa_cons (pv 1) pa_nil)) rfl)
      (pss_cons (ps_fld (pv 0) pe_int rfl)
      (pss_one (ps_fld (pv 0) pe_non rfl))))))))), ?_⟩
    have n8 := sh.n8
    refine ⟨v, rfl, u, rfl, v, u, room, ls, _, rfl, hv, sh, hu, isStand_ok ri sh.lo, fun H1 s1 => ?_⟩
    have hx1 := s1 _ _ hx
    have hv1 := dp_offI hx1 _ _ (Dpm s1 hv)
    have hu1 := dp_offI hx1 _ _ (Dpm s1 hu)
    have g1 : Same (Off x H) (Off x H1) := off_mono s1
    obtain ⟨a, b, rfl, sa, sb⟩ := dp_shelf (Dpm s1 hv)
    refine ⟨.ref a, rfl, a, _, rfl, sa, rfl, _, _, rfl, _, [], rfl, rfl, ?_⟩
    refine ⟨_, rfl, .ref b, rfl, .ref b, ls, rfl, tI_dp sb, n8, fun c H2 s2 hc => ⟨by show 2 ≤ sizeLine; decide, fun p np => ?_⟩⟩
    have t2 := s2.trans (same_new (o := .tup [.int room, c]) np)
    have hx2 := t2 _ _ hx1
    have hp2 : Dp K (upd H2 p (.tup [.int room, c])) (.ref p) (shD room ls) := .tup (.inl (.inl upd_same)) (.cons (.int _) (.cons (Dpm (same_new np) hc) .nil))
    generalize upd H2 p (.tup [.int room, c]) = H2' at *
    have hp2 := dp_offI hx2 _ _ hp2
    have g2 := g1.trans (off_mono (k := x) t2)
    have hv2 := Dpm (off_mono (k := x) t2) hv1
    have hu2 := Dpm (off_mono (k := x) t2) hu1
    refine ⟨_, rfl, x, T.C_Bench, dx, _, rfl, hx2, T.cl_Bench, T.na_Bench_shelf, (by show 0 < 1000; decide), ?_⟩
    generalize e3 : upd H2' x _ = H3
    obtain ⟨hx3, k3⟩ := wr e3
    have g3 := g2.trans k3
    have hp3 := Dpm k3 hp2
    have hv3 := Dpm k3 hv2
    have hu3 := Dpm k3 hu2
    refine ⟨u, rfl, u, _, rfl, Dpm (off_same x H3) hu3, by rw [stL_len]; exact n8, fun c4 H4 s4 hc4 => ?_⟩
    have hx4 := s4 _ _ hx3
    have hc4 := dp_offI hx4 _ _ hc4
    refine ⟨_, rfl, x, T.C_Bench, dx, _, rfl, hx4, T.cl_Bench, T.na_Bench_now, (by show 1 < 1000; decide), ?_⟩
    generalize e5 : upd H4 x _ = H5
    obtain ⟨hx5, k5⟩ := wr e5
    have m5 := (off_mono (k := x) s4).trans k5
    have g5 := g3.trans m5
    have hp5 := Dpm m5 hp3
    have hv5 := Dpm m5 hv3
    have hc5 := Dpm k5 hc4
    refine ⟨.ref a, rfl, .ref a, room, ls, rfl, Dpm (off_same x H5) hv5, n8, fun c6 H6 s6 hc6 => ?_⟩
    have hx6 := s6 _ _ hx5
    have hc6 := dp_offI hx6 _ _ hc6
    refine ⟨_, rfl, x, T.C_Bench, dx, _, rfl, hx6, T.cl_Bench, T.na_Bench_least, (by show 2 < 1000; decide), ?_⟩
    generalize e7 : upd H6 x _ = H7
    obtain ⟨hx7, k7⟩ := wr e7
    have m7 := (off_mono (k := x) s6).trans k7
    have g7 := g5.trans m7
    have hp7 := Dpm m7 hp5
    have hv7 := Dpm m7 hv5
    have hc7 := Dpm m7 hc5
    have hd7 := Dpm k7 hc6
    refine ⟨.ref a, rfl, .ref a, room, ls, rfl, Dpm (off_same x H7) hv7, n8, fun c8 H8 s8 hc8 => ?_⟩
    have hx8 := s8 _ _ hx7
    have hc8 := dp_offI hx8 _ _ hc8
    refine ⟨_, rfl, x, T.C_Bench, dx, _, rfl, hx8, T.cl_Bench, T.na_Bench_greatest, (by show 3 < 1000; decide), ?_⟩
    generalize e9 : upd H8 x _ = H9
    obtain ⟨hx9, k9⟩ := wr e9
    have m9 := (off_mono (k := x) s8).trans k9
    have g9 := g7.trans m9
    have hp9 := Dpm m9 hp7
    have hc9 := Dpm m9 hc7
    have hd9 := Dpm m9 hd7
    have he9 := Dpm k9 hc8
    refine ⟨_, rfl, x, T.C_Bench, dx, _, rfl, hx9, T.cl_Bench, T.na_Bench_many, (by show 4 < 1000; decide), ?_⟩
    generalize e10 : upd H9 x _ = H10
    obtain ⟨hx10, k10⟩ := wr e10
    refine ⟨_, rfl, x, T.C_Bench, dx, _, rfl, hx10, T.cl_Bench, T.na_Bench_wish, (by show 5 < 1000; decide), ?_⟩
    generalize e11 : upd H10 x _ = H11
    obtain ⟨hx11, k11⟩ := wr e11
    have m11 := k10.trans k11
    exact q H11 (g9.trans m11) ⟨dx, _, _, _, _, _, hx11, Dpm m11 hp9, Dpm m11 hc9, Dpm m11 hd9, Dpm m11 he9, .non⟩
/-! ### a push -/
def sp_Bench_push (K : PySem.W.Frag) (C : Addr) : Sp := fun vs H Q _ => ∃ (x : Addr) (u : V) (room : Int) (ls : List Int) (y lo hi : Nat → Int) (many : Int) (wi : Option (Nat → Int)) (p : Push), vs = [.ref x, u] ∧ BenchAt K C H x room ls y lo hi many wi ∧ ShOk room ls ∧ Dp K H u (puD ls p) ∧ PuOk ls.length (room - ls.sum) p ∧ Rise ls.length (room - ls.sum) y ∧ Rise ls.length (room - ls.sum) lo ∧ Rise ls.length (room - ls.sum) hi ∧
  ∀ H', Same (Off x H) (Off x H') → BenchAt K C H' x room ls (doP y p) (doP lo p) (doP hi p) (many + 1) wi → Q .non H'
theorem ok_Bench_push (T : Tx K mg) : FnOk P w K mg base CX0 5 T.f_Bench_push T.fd_Bench_push ["self", "thing"] (sp_Bench_push K T.C_Bench) := by
  have G_is_push := ok_is_push (P := P) (w := w) (base := base) T
  have G_pushed := ok_pushed (P := P) (w := w) (base := base) T
  refine T.F_Bench_push.ok sc_Bench_push (fun vs H Q E h => ?_) (fun cdv A outer s H vs Q E hr h => ?_)
  · obtain ⟨_, _, _, _, _, _, _, _, _, _, rfl, _⟩ := h
    rfl
  · obtain ⟨x, u, room, ls, y, lo, hi, many, wi, p, rfl, ⟨dx, v1, v2, v3, v4, v6, hx, h1, h2, h3, h4, h6⟩, sh, hu, pk, r2, r3, r4, q⟩ := h
    refine ⟨_, (pss_cons (ps_if (pt_not (pt_val (pe_call (G_is_push.mono (by first | decide | omega)) hr (by rfl) T.g_is_push T.F_is_push.kp T.b_is_push .nil pass0 (pa_cons (pe_fld (pv 0) rfl) (pa_cons (pv 1) pa_nil))))) (pss_one ps_never) pss_nil)
      (pss_cons (ps_fld (pv 0) (pe_call (G_pushed.mono (by first | decide | omega)) hr (by rfl) T.g_pushed T.F_pushed.kp T.b_pushed .nil pass0 (pa_cons (pe_fld (pv 0) rfl) (pa_cons (pe_fld (pv 0) rfl) (pa_cons (pv 1) pa_nil)))) rfl)
      (pss_cons (ps_fld (pv 0) (pe_call (G_pushed.mono (by first | decide | omega)) hr (by rfl) T.g_pushed T.F_pushed.kp T.b_pushed .nil pass0 (pa_cons (pe_fld (pv 0) rfl) (pa_cons (pe_fld (pv 0) rfl) (pa_cons (pv 1) pa_nil)))) rfl)
      (pss_cons (ps_fld (pv 0) (pe_call (G_pushed.mono (by first | decide | omega)) hr (by rfl) T.g_pushed T.F_pushed.kp T.b_pushed .nil pass0 (pa_cons (pe_fld (pv 0) rfl) (pa_cons (pe_fld (pv 0) rfl) (pa_cons (pv 1) pa_nil)))) rfl)
      (pss_one (ps_fldaug (pv 0) pe_int in_add)))))), ?_⟩
    have n8 := sh.n8
    have hu := dp_offI hx _ _ hu
    refine ⟨.ref x, rfl, x, T.C_Bench, dx, _, _, rfl, hx, T.cl_Bench, T.na_Bench_shelf, rfl, u, rfl, v1, u, room, ls, _, rfl, Dpm (off_same x H) h1, Dpm (off_same x H) hu, puD_dep ls p, fun H1 s1 => ⟨_, rfl, ?_⟩⟩
    rw [isPush_ok pk]
    refine iteF ?_
    have m1 := off_mono (k := x) s1
    have hx1 := s1 _ _ hx
    have h1 := Dpm m1 h1; have h2 := Dpm m1 h2; have h3 := Dpm m1 h3; have h4 := Dpm m1 h4; have h6 := Dpm m1 h6; have hu := Dpm m1 hu
    have o1 := off_same x H1
    refine ⟨.ref x, rfl, x, T.C_Bench, dx, _, _, rfl, hx1, T.cl_Bench, T.na_Bench_shelf, rfl, .ref x, rfl, x, T.C_Bench, dx, _, _, rfl, hx1, T.cl_Bench, T.na_Bench_now, rfl, u, rfl, v1, v2, u, room, ls, y, p, _, rfl, Dpm o1 h1, Dpm o1 h2, Dpm o1 hu, r2, n8, pk, fun c H2 s2 hc => ?_⟩
    have hx2 := s2 _ _ hx1
    have hc := dp_offI hx2 _ _ hc
    refine ⟨_, rfl, x, T.C_Bench, dx, _, rfl, hx2, T.cl_Bench, T.na_Bench_now, (by show 6 < 1000; decide), ?_⟩
    generalize e3 : upd H2 x _ = H3
    obtain ⟨hx3, k3⟩ := wr e3
    have m3 := (off_mono (k := x) s2).trans k3
    have hc := Dpm k3 hc
    have h1 := Dpm m3 h1; have h3 := Dpm m3 h3; have h4 := Dpm m3 h4; have h6 := Dpm m3 h6; have hu := Dpm m3 hu
    have o3 := off_same x H3
    refine ⟨.ref x, rfl, x, T.C_Bench, dx, _, _, rfl, hx3, T.cl_Bench, T.na_Bench_shelf, rfl, .ref x, rfl, x, T.C_Bench, dx, _, _, rfl, hx3, T.cl_Bench, T.na_Bench_least, rfl, u, rfl, v1, v3, u, room, ls, lo, p, _, rfl, Dpm o3 h1, Dpm o3 h3, Dpm o3 hu, r3, n8, pk, fun d H4 s4 hd => ?_⟩
    have hx4 := s4 _ _ hx3
    have hd := dp_offI hx4 _ _ hd
    refine ⟨_, rfl, x, T.C_Bench, dx, _, rfl, hx4, T.cl_Bench, T.na_Bench_least, (by show 6 < 1000; decide), ?_⟩
    generalize e5 : upd H4 x _ = H5
    obtain ⟨hx5, k5⟩ := wr e5
    have m5 := (off_mono (k := x) s4).trans k5
    have hc := Dpm m5 hc
    have hd := Dpm k5 hd
    have h1 := Dpm m5 h1; have h4 := Dpm m5 h4; have h6 := Dpm m5 h6; have hu := Dpm m5 hu
    have o5 := off_same x H5
    refine ⟨.ref x, rfl, x, T.C_Bench, dx, _, _, rfl, hx5, T.cl_Bench, T.na_Bench_shelf, rfl, .ref x, rfl, x, T.C_Bench, dx, _, _, rfl, hx5, T.cl_Bench, T.na_Bench_greatest, rfl, u, rfl, v1, v4, u, room, ls, hi, p, _, rfl, Dpm o5 h1, Dpm o5 h4, Dpm o5 hu, r4, n8, pk, fun e H6 s6 he => ?_⟩
    have hx6 := s6 _ _ hx5
    have he := dp_offI hx6 _ _ he
    refine ⟨_, rfl, x, T.C_Bench, dx, _, rfl, hx6, T.cl_Bench, T.na_Bench_greatest, (by show 6 < 1000; decide), ?_⟩
    generalize e7 : upd H6 x _ = H7
    obtain ⟨hx7, k7⟩ := wr e7
    have m7 := (off_mono (k := x) s6).trans k7
    have he := Dpm k7 he
    have h1 := Dpm m7 h1; have h6 := Dpm m7 h6; have hc := Dpm m7 hc; have hd := Dpm m7 hd
    refine ⟨.ref x, rfl, x, T.C_Bench, dx, _, _, rfl, hx7, T.cl_Bench, T.na_Bench_many, rfl, _, _, rfl, rfl, dx, _, hx7, (by show 6 < 1000; decide), ?_⟩
    generalize e8 : upd H7 x _ = H8
    obtain ⟨hx8, k8⟩ := wr e8
    exact q H8 ((((m1.trans m3).trans m5).trans m7).trans k8) ⟨dx, _, _, _, _, _, hx8, Dpm k8 h1, Dpm k8 hc, Dpm k8 hd, Dpm k8 he, Dpm k8 h6⟩
/-! ### the wish -/
def sp_Bench_set_wish (K : PySem.W.Frag) (C : Addr) : Sp := fun vs H Q _ => ∃ (x : Addr) (u : V) (room : Int) (ls : List Int) (y lo hi : Nat → Int) (many : Int) (wi : Option (Nat → Int)) (t : Nat → Int), vs = [.ref x, u] ∧ BenchAt K C H x room ls y lo hi many wi ∧ ShOk room ls ∧ Dp K H u (tI (stL ls t)) ∧ Rise ls.length (room - ls.sum) t ∧
  ∀ H', Same (Off x H) (Off x H') → BenchAt K C H' x room ls y lo hi many (some t) → Q .non H'
theorem ok_Bench_set_wish (T : Tx K mg) : FnOk P w K mg base CX0 8 T.f_Bench_set_wish T.fd_Bench_set_wish ["self", "wish"] (sp_Bench_set_wish K T.C_Bench) := by
  have G_need_stand := ok_need_stand (P := P) (w := w) (base := base) T
  have G_copied := ok_copied (P := P) (w := w) (base := base) T
  refine T.F_Bench_set_wish.ok sc_Bench_set_wish (fun vs H Q E h => ?_) (fun cdv A outer s H vs Q E hr h => ?_)
  · obtain ⟨_, _, _, _, _, _, _, _, _, _, rfl, _⟩ := h
    rfl
  · obtain ⟨x, u, room, ls, y, lo, hi, many, wi, t, rfl, ⟨dx, v1, v2, v3, v4, v6, hx, h1, h2, h3, h4, h6⟩, sh, hu, rt, q⟩ := h
    refine ⟨_, (pss_cons (ps_expr (pe_call (G_need_stand.mono (by first | decide | omega)) hr (by rfl) T.g_need_stand T.F_need_stand.kp T.b_need_stand .nil pass0 (pa_cons (pe_fld (pv 0) rfl) (pa_cons (pv 1) pa_nil))))
      (pss_one (ps_fld (pv 0) (pe_call (G_copied.mono (by first | decide | omega)) hr (by rfl) T.g_copied T.F_copied.kp T.b_copied .nil pass0 (pa_cons (pv 1) pa_nil)) rfl))), ?_⟩
    have n8 := sh.n8
    have hu := dp_offI hx _ _ hu
    have o0 := off_same x H
    refine ⟨.ref x, rfl, x, T.C_Bench, dx, _, _, rfl, hx, T.cl_Bench, T.na_Bench_shelf, rfl, u, rfl, v1, u, room, ls, _, rfl, Dpm o0 h1, sh, Dpm o0 hu, isStand_ok rt sh.lo, fun H1 s1 => ?_⟩
    have m1 := off_mono (k := x) s1
    have hx1 := s1 _ _ hx
    refine ⟨u, rfl, u, _, rfl, Dpm s1 (Dpm o0 hu), by rw [stL_len]; exact n8, fun c H2 s2 hc => ?_⟩
    have hx2 := s2 _ _ hx1
    have hc := dp_offI hx2 _ _ hc
    refine ⟨_, rfl, x, T.C_Bench, dx, _, rfl, hx2, T.cl_Bench, T.na_Bench_wish, (by show 6 < 1000; decide), ?_⟩
    generalize e3 : upd H2 x _ = H3
    obtain ⟨hx3, k3⟩ := wr e3
    have m3 := (m1.trans (off_mono (k := x) s2)).trans k3
    exact q H3 m3 ⟨dx, _, _, _, _, _, hx3, Dpm m3 h1, Dpm m3 h2, Dpm m3 h3, Dpm m3 h4, Dpm k3 hc⟩
/-! ### what a bench tells -/
def sp_Bench_stand (K : PySem.W.Frag) (C : Addr) : Sp := fun vs H Q _ => ∃ (x : Addr) (room : Int) (ls : List Int) (y lo hi : Nat → Int) (many : Int) (wi : Option (Nat → Int)), vs = [.ref x] ∧ BenchAt K C H x room ls y lo hi many wi ∧ RD K H Q (tI (stL ls y))
theorem ok_Bench_stand (T : Tx K mg) : FnOk P w K mg base CX0 1 T.f_Bench_stand T.fd_Bench_stand ["self"] (sp_Bench_stand K T.C_Bench) := by
  refine T.F_Bench_stand.ok sc_Bench_stand (fun vs H Q E h => ?_) (fun cdv A outer s H vs Q E hr h => ?_)
  · obtain ⟨_, _, _, _, _, _, _, _, rfl, _⟩ := h
    rfl
  · obtain ⟨x, room, ls, y, lo, hi, many, wi, rfl, ⟨dx, v1, v2, v3, v4, v6, hx, h1, h2, h3, h4, h6⟩, q⟩ := h
    refine ⟨_, (pss_one (ps_ret (pe_fld (pv 0) rfl))), ?_⟩
    exact ⟨.ref x, rfl, x, T.C_Bench, dx, _, _, rfl, hx, T.cl_Bench, T.na_Bench_now, rfl, q _ _ (Same.refl _) (Dpm (off_same x H) h2)⟩
def sp_Bench_doing (K : PySem.W.Frag) (C : Addr) : Sp := fun vs H Q _ => ∃ (x : Addr) (room : Int) (ls : List Int) (y lo hi : Nat → Int) (many : Int) (wi : Option (Nat → Int)), vs = [.ref x] ∧ BenchAt K C H x room ls y lo hi many wi ∧ RD K H Q (dgD ls lo hi)
theorem ok_Bench_doing (T : Tx K mg) : FnOk P w K mg base CX0 1 T.f_Bench_doing T.fd_Bench_doing ["self"] (sp_Bench_doing K T.C_Bench) := by
  refine T.F_Bench_doing.ok sc_Bench_doing (fun vs H Q E h => ?_) (fun cdv A outer s H vs Q E hr h => ?_)
  · obtain ⟨_, _, _, _, _, _, _, _, rfl, _⟩ := h
    rfl
  · obtain ⟨x, room, ls, y, lo, hi, many, wi, rfl, ⟨dx, v1, v2, v3, v4, v6, hx, h1, h2, h3, h4, h6⟩, q⟩ := h
    refine ⟨_, (pss_one (ps_ret (pe_tup (pa_cons (pe_fld (pv 0) rfl) (pa_cons (pe_fld (pv 0) rfl) pa_nil))))), ?_⟩
    refine ⟨.ref x, rfl, x, T.C_Bench, dx, _, _, rfl, hx, T.cl_Bench, T.na_Bench_least, rfl, .ref x, rfl, x, T.C_Bench, dx, _, _, rfl, hx, T.cl_Bench, T.na_Bench_greatest, rfl, by show 2 ≤ sizeLine; decide, fun z nz => ?_⟩
    have t := (off_same x H).trans (same_new (o := .tup [v3, v4]) nz)
    exact q _ _ (same_new nz) (.tup (.inl (.inl upd_same)) (.cons (Dpm t h3) (.cons (Dpm t h4) .nil)))
def sp_Bench_pushes (K : PySem.W.Frag) (C : Addr) : Sp := fun vs H Q _ => ∃ (x : Addr) (room : Int) (ls : List Int) (y lo hi : Nat → Int) (many : Int) (wi : Option (Nat → Int)), vs = [.ref x] ∧ BenchAt K C H x room ls y lo hi many wi ∧ Q (.int many) H
theorem ok_Bench_pushes (T : Tx K mg) : FnOk P w K mg base CX0 1 T.f_Bench_pushes T.fd_Bench_pushes ["self"] (sp_Bench_pushes K T.C_Bench) := by
  refine T.F_Bench_pushes.ok sc_Bench_pushes (fun vs H Q E h => ?_) (fun cdv A outer s H vs Q E hr h => ?_)
  · obtain ⟨_, _, _, _, _, _, _, _, rfl, _⟩ := h
    rfl
  · obtain ⟨x, room, ls, y, lo, hi, many, wi, rfl, ⟨dx, v1, v2, v3, v4, v6, hx, h1, h2, h3, h4, h6⟩, q⟩ := h
    refine ⟨_, (pss_one (ps_ret (pe_fld (pv 0) rfl))), ?_⟩
    exact ⟨.ref x, rfl, x, T.C_Bench, dx, _, _, rfl, hx, T.cl_Bench, T.na_Bench_many, rfl, q⟩
def sp_Bench_fewest (K : PySem.W.Frag) (C : Addr) : Sp := fun vs H Q _ => ∃ (x : Addr) (room : Int) (ls : List Int) (y lo hi : Nat → Int) (many : Int) (t : Nat → Int), vs = [.ref x] ∧ BenchAt K C H x room ls y lo hi many (some t) ∧ ShOk room ls ∧ Rise ls.length (room - ls.sum) y ∧ Rise ls.length (room - ls.sum) t ∧
  ∀ H' r, Same H H' → Best ls.length (room - ls.sum) y t r → Q (.int (r.length : Nat)) H'
theorem ok_Bench_fewest (T : Tx K mg) : FnOk P w K mg base CX0 6 T.f_Bench_fewest T.fd_Bench_fewest ["self"] (sp_Bench_fewest K T.C_Bench) := by
  have G_shortest_row := ok_shortest_row (P := P) (w := w) (base := base) T
  refine T.F_Bench_fewest.ok sc_Bench_fewest (fun vs H Q E h => ?_) (fun cdv A outer s H vs Q E hr h => ?_)
  · obtain ⟨_, _, _, _, _, _, _, _, rfl, _⟩ := h
    rfl
  · obtain ⟨x, room, ls, y, lo, hi, many, t, rfl, ⟨dx, v1, v2, v3, v4, v6, hx, h1, h2, h3, h4, h6⟩, sh, ry, rt, q⟩ := h
    obtain ⟨b6, rfl, s6⟩ := dp_tI (show Dp K (Off x H) v6 (tI (stL ls t)) from h6)
    refine ⟨_, (pss_cons (ps_if (pt_cmpR op_isN (pe_fld (pv 0) rfl) pe_non (nomark _)) (pss_one ps_never) pss_nil)
      (pss_one (ps_ret (pe_callB call_len_seq (by rfl) T.n_len (by decide +kernel) (pa_cons (pe_call (G_shortest_row.mono (by first | decide | omega)) hr (by rfl) T.g_shortest_row T.F_shortest_row.kp T.b_shortest_row .nil pass0 (pa_cons (pe_fld (pv 0) rfl) (pa_cons (pe_fld (pv 0) rfl) (pa_cons (pe_fld (pv 0) rfl) pa_nil)))) pa_nil))))), ?_⟩
    have o := off_same x H
    refine ⟨.ref x, rfl, x, T.C_Bench, dx, _, _, rfl, hx, T.cl_Bench, T.na_Bench_wish, rfl, rfl, _, rfl, iteF ?_⟩
    refine ⟨.ref x, rfl, x, T.C_Bench, dx, _, _, rfl, hx, T.cl_Bench, T.na_Bench_shelf, rfl, .ref x, rfl, x, T.C_Bench, dx, _, _, rfl, hx, T.cl_Bench, T.na_Bench_now, rfl, .ref x, rfl, x, T.C_Bench, dx, _, _, rfl, hx, T.cl_Bench, T.na_Bench_wish, rfl, v1, v2, .ref b6, room, ls, y, t, rfl, Dpm o h1, sh.n8, Dpm o h2, Dpm o h6, ry, rt, fun c H2 r us s2 nc hc al bst => ?_⟩
    have := dpAll_len al
    rw [List.length_map] at this
    refine ⟨c, us, rfl, .inl (.inl (.inl hc)), ?_⟩
    rw [this]
    exact q H2 r s2 bst
end PS

namespace PS
open PySem PySem.Spec PyProof.Rows L2
variable {P : Program} {w : World} {K : PySem.W.Frag} {mg : Str → Option Value} {base : Heap}
def sp_stood (K : PySem.W.Frag) : Sp := fun vs H Q _ => ∃ v a room ls zs, vs = [v, .ref a] ∧ Dp K H v (shD room ls) ∧ ls.length = 6 ∧ zs.length = 6 ∧ SqL K H a (iV zs) ∧ RD K H Q (tI (stL ls (gF zs)))
theorem ok_law_stood (T : Tx K mg) : FnOk P w K mg base CX0 2 T.f_law_stood T.fd_law_stood ["shelf", "places"] (sp_stood K) := by
  have G_law_stand_of := stand_of_any (P := P) (w := w) (base := base) true T
  refine T.F_law_stood.ok sc_law_stood (fun vs H Q E h => ?_) (fun cdv A outer s H vs Q E hr h => ?_)
  · obtain ⟨_, _, _, _, _, rfl, _⟩ := h
    rfl
  · obtain ⟨v, a, room, ls, zs, rfl, hv, hl, hz, ha, q⟩ := h
    refine ⟨_, (pss_one (ps_ret (pe_call (G_law_stand_of.mono (by first | decide | omega)) hr (by rfl) T.g_law_stand_of T.F_law_stand_of.kp T.b_law_stand_of .nil pass0 (pa_cons (pv 0) (pa_cons (pv 1) pa_nil))))), ?_⟩
    refine ⟨v, rfl, .ref a, rfl, v, a, room, ls, gF zs, rfl, hv, by omega, ?_, q⟩
    rw [hl, ← hz, gF_list]
    exact ha
theorem few_is {n m : Nat} {pl : Int} {y w : Nat → Int} {r : List Push} {c : Nat} (ri : Rise n pl y) (b : Best n pl y w r) (hn : n = m) (h : leastG m (lawB y w m) = c) : r.length = c := by
  subst hn
  rw [best_is ri.mono b, h]
def sp_right (K : PySem.W.Frag) : Sp := fun vs H Q _ => ∃ v room ls, vs = [v] ∧ Dp K H v (shD room ls) ∧ ShOk room ls ∧ ls.length = 6 ∧ room - ls.sum = 9 ∧ RB H Q true
theorem ok_law_fewest_right (T : Tx K mg) : FnOk P w K mg base CX0 10 T.f_law_fewest_right T.fd_law_fewest_right ["shelf"] (sp_right K) := by
  have G_law_stood := ok_law_stood (P := P) (w := w) (base := base) T
  have G_fewest := ok_fewest (P := P) (w := w) (base := base) T
  refine T.F_law_fewest_right.ok sc_law_fewest_right (fun vs H Q E h => ?_) (fun cdv A outer s H vs Q E hr h => ?_)
  · obtain ⟨_, _, _, rfl, _⟩ := h
    rfl
  · obtain ⟨v, room, ls, rfl, hv, sh, hl, hp, q⟩ := h
    obtain ⟨rA, rB, rC, rD, r0, r1, r9⟩ := ri_z
    have cv : ∀ y, Rise 6 9 y → Rise ls.length (room - ls.sum) y := fun y h => by rw [hl, hp]; exact h
    have rA := cv _ rA; have rB := cv _ rB; have rC := cv _ rC; have rD := cv _ rD; have r0 := cv _ r0; have r1 := cv _ r1; have r9 := cv _ r9
    refine ⟨_, (pss_cons (ps_par (i := 1) (j := 2) (by rfl) sc_law_fewest_right.nd rfl rfl (by decide) rfl rfl (pa_cons (pe_call (G_law_stood.mono (by first | decide | omega)) hr (by rfl) T.g_law_stood T.F_law_stood.kp T.b_law_stood .nil pass0 (pa_cons (pv 0) (pa_cons (pe_lst (pa_cons pe_int (pa_cons pe_int (pa_cons pe_int (pa_cons pe_int (pa_cons pe_int (pa_cons pe_int pa_nil))))))) pa_nil))) (pa_cons (pe_call (G_law_stood.mono (by first | decide | omega)) hr (by rfl) T.g_law_stood T.F_law_stood.kp T.b_law_stood .nil pass0 (pa_cons (pv 0) (pa_cons (pe_lst (pa_cons pe_int (pa_cons pe_int (pa_cons pe_int (pa_cons pe_int (pa_cons pe_int (pa_cons pe_int pa_nil))))))) pa_nil))) pa_nil)) (by rfl))
      (pss_cons (ps_if (PW.pt (pw_or (pt_cmpR op_ne (pe_call (G_fewest.mono (by first | decide | omega)) hr (by rfl) T.g_fewest T.F_fewest.kp T.b_fewest .nil pass0 (pa_cons (pv 0) (pa_cons (pv 1) (pa_cons (pv 2) pa_nil)))) pe_int (nomark _)) (pw_or1 (pt_cmpR op_ne (pe_call (G_fewest.mono (by first | decide | omega)) hr (by rfl) T.g_fewest T.F_fewest.kp T.b_fewest .nil pass0 (pa_cons (pv 0) (pa_cons (pv 2) (pa_cons (pv 1) pa_nil)))) pe_int (nomark _))))) (pss_one (ps_ret pe_bl)) pss_nil)
      (pss_cons (ps_if (PW.pt (pw_or (pt_cmpR op_ne (pe_call (G_fewest.mono (by first | decide | omega)) hr (by rfl) T.g_fewest T.F_fewest.kp T.b_fewest .nil pass0 (pa_cons (pv 0) (pa_cons (pv 1) (pa_cons (pe_call (G_law_stood.mono (by first | decide | omega)) hr (by rfl) T.g_law_stood T.F_law_stood.kp T.b_law_stood .nil pass0 (pa_cons (pv 0) (pa_cons (pe_op op_rep (pe_lst (pa_cons pe_int pa_nil)) pe_int) pa_nil))) pa_nil)))) pe_int (nomark _)) (pw_or1 (pt_cmpR op_ne (pe_call (G_fewest.mono (by first | decide | omega)) hr (by rfl) T.g_fewest T.F_fewest.kp T.b_fewest .nil pass0 (pa_cons (pv 0) (pa_cons (pv 1) (pa_cons (pv 1) pa_nil)))) pe_int (nomark _))))) (pss_one (ps_ret pe_bl)) pss_nil)
      (pss_cons (ps_if (PW.pt (pw_or (pt_cmpR op_ne (pe_call (G_fewest.mono (by first | decide | omega)) hr (by rfl) T.g_fewest T.F_fewest.kp T.b_fewest .nil pass0 (pa_cons (pv 0) (pa_cons (pe_call (G_law_stood.mono (by first | decide | omega)) hr (by rfl) T.g_law_stood T.F_law_stood.kp T.b_law_stood .nil pass0 (pa_cons (pv 0) (pa_cons (pe_op op_rep (pe_lst (pa_cons pe_int pa_nil)) pe_int) pa_nil))) (pa_cons (pv 2) pa_nil)))) pe_int (nomark _)) (pw_or1 (pt_cmpR op_ne (pe_call (G_fewest.mono (by first | decide | omega)) hr (by rfl) T.g_fewest T.F_fewest.kp T.b_fewest .nil pass0 (pa_cons (pv 0) (pa_cons (pe_call (G_law_stood.mono (by first | decide | omega)) hr (by rfl) T.g_law_stood T.F_law_stood.kp T.b_law_stood .nil pass0 (pa_cons (pv 0) (pa_cons (pe_op op_rep (pe_lst (pa_cons pe_int pa_nil)) pe_int) pa_nil))) (pa_cons (pv 2) pa_nil)))) pe_int (nomark _))))) (pss_one (ps_ret pe_bl)) pss_nil)
      (pss_cons (ps_set (i := 3) sc_law_fewest_right.nd rfl (.inl rfl) (pe_call (G_law_stood.mono (by first | decide | omega)) hr (by rfl) T.g_law_stood T.F_law_stood.kp T.b_law_stood .nil pass0 (pa_cons (pv 0) (pa_cons (pe_lst (pa_cons pe_int (pa_cons pe_int (pa_cons pe_int (pa_cons pe_int (pa_cons pe_int (pa_cons pe_int pa_nil))))))) pa_nil))))
      (pss_one (ps_ret (pe_and (pe_cmpR op_eq (pe_call (G_fewest.mono (by first | decide | omega)) hr (by rfl) T.g_fewest T.F_fewest.kp T.b_fewest .nil pass0 (pa_cons (pv 0) (pa_cons (pv 1) (pa_cons (pv 3) pa_nil)))) pe_int (nomark _)) (pe_one (pe_cmpR op_eq (pe_call (G_fewest.mono (by first | decide | omega)) hr (by rfl) T.g_fewest T.F_fewest.kp T.b_fewest .nil pass0 (pa_cons (pv 0) (pa_cons (pe_call (G_law_stood.mono (by first | decide | omega)) hr (by rfl) T.g_law_stood T.F_law_stood.kp T.b_law_stood .nil pass0 (pa_cons (pv 0) (pa_cons (pe_lst (pa_cons pe_int (pa_cons pe_int (pa_cons pe_int (pa_cons pe_int (pa_cons pe_int (pa_cons pe_int pa_nil))))))) pa_nil))) (pa_cons (pv 2) pa_nil)))) pe_int (nomark _))))))))))), ?_⟩
    refine ⟨v, rfl, by show 6 ≤ sizeLine; decide, fun z1 nz1 => ?_⟩
    refine ⟨v, z1, room, ls, zA, rfl, Dpm (same_new nz1) hv, hl, rfl, .inl (.inl upd_same), fun u1 H1 s1 h1 => ?_⟩
    have g1 := (same_new nz1).trans s1
    refine ⟨v, rfl, by show 6 ≤ sizeLine; decide, fun z2 nz2 => ?_⟩
    refine ⟨v, z2, room, ls, zB, rfl, Dpm (g1.trans (same_new nz2)) hv, hl, rfl, .inl (.inl upd_same), fun u2 H2 s2 h2 => ?_⟩
    have t2 := (same_new nz2).trans s2
    have g2 := g1.trans t2
    have h1 := Dpm t2 h1
    refine ⟨_, _, rfl, ?_⟩
    refine ⟨v, rfl, u1, rfl, u2, rfl, v, u1, u2, room, ls, gF zA, gF zB, rfl, Dpm g2 hv, sh, h1, h2, rA, rB, fun H3 r3 s3 b3 => ?_⟩
    rw [few_is rA b3 hl fw1]
    have g3 := g2.trans s3
    have h1 := Dpm s3 h1
    have h2 := Dpm s3 h2
    refine ⟨rfl, _, rfl, iteF ?_⟩
    refine ⟨v, rfl, u2, rfl, u1, rfl, v, u2, u1, room, ls, gF zB, gF zA, rfl, Dpm g3 hv, sh, h2, h1, rB, rA, fun H4 r4 s4 b4 => ?_⟩
    rw [few_is rB b4 hl fw2]
    have g4 := g3.trans s4
    have h1 := Dpm s4 h1
    have h2 := Dpm s4 h2
    refine ⟨rfl, _, rfl, iteF ?_⟩
    -- the second
    refine ⟨v, rfl, u1, rfl, v, rfl, by show 1 ≤ sizeLine; decide, fun z5 nz5 => ?_⟩
    refine ⟨z5, 6, _, rfl, rfl, upd_same, by decide, by decide, by decide, fun y5 ny5 => ?_⟩
    have t5 := (same_new (o := .lst [.int 1]) nz5).trans (same_new (o := .lst (iV (zK 1))) ny5)
    refine ⟨v, y5, room, ls, zK 1, rfl, Dpm (g4.trans t5) hv, hl, rfl, .inl (.inl upd_same), fun u5 H5 s5 h5 => ?_⟩
    have t5 := t5.trans s5
    have g5 := g4.trans t5
    have h1 := Dpm t5 h1
    have h2 := Dpm t5 h2
    refine ⟨v, u1, u5, room, ls, gF zA, gF (zK 1), rfl, Dpm g5 hv, sh, h1, h5, rA, r1, fun H6 r6 s6 b6 => ?_⟩
    rw [few_is rA b6 hl fw3]
    have g6 := g5.trans s6
    have h1 := Dpm s6 h1
    have h2 := Dpm s6 h2
    refine ⟨rfl, _, rfl, iteF ?_⟩
    refine ⟨v, rfl, u1, rfl, u1, rfl, v, u1, u1, room, ls, gF zA, gF zA, rfl, Dpm g6 hv, sh, h1, h1, rA, rA, fun H7 r7 s7 b7 => ?_⟩
    rw [few_is rA b7 hl fw4]
    have g7 := g6.trans s7
    have h1 := Dpm s7 h1
    have h2 := Dpm s7 h2
    refine ⟨rfl, _, rfl, iteF ?_⟩
    -- the third
    refine ⟨v, rfl, v, rfl, by show 1 ≤ sizeLine; decide, fun z8 nz8 => ?_⟩
    refine ⟨z8, 6, _, rfl, rfl, upd_same, by decide, by decide, by decide, fun y8 ny8 => ?_⟩
    have t8 := (same_new (o := .lst [.int 0]) nz8).trans (same_new (o := .lst (iV (zK 0))) ny8)
    refine ⟨v, y8, room, ls, zK 0, rfl, Dpm (g7.trans t8) hv, hl, rfl, .inl (.inl upd_same), fun u8 H8 s8 h8 => ?_⟩
    have t8 := t8.trans s8
    have g8 := g7.trans t8
    have h1 := Dpm t8 h1
    have h2 := Dpm t8 h2
    refine ⟨u2, rfl, v, u8, u2, room, ls, gF (zK 0), gF zB, rfl, Dpm g8 hv, sh, h8, h2, r0, rB, fun H9 r9' s9 b9 => ?_⟩
    rw [few_is r0 b9 hl fw5]
    have g9 := g8.trans s9
    have h1 := Dpm s9 h1
    have h2 := Dpm s9 h2
    refine ⟨rfl, _, rfl, iteF ?_⟩
    refine ⟨v, rfl, v, rfl, by show 1 ≤ sizeLine; decide, fun z10 nz10 => ?_⟩
    refine ⟨z10, 6, _, rfl, rfl, upd_same, by decide, by decide, by decide, fun y10 ny10 => ?_⟩
    have t10 := (same_new (o := .lst [.int 9]) nz10).trans (same_new (o := .lst (iV (zK 9))) ny10)
    refine ⟨v, y10, room, ls, zK 9, rfl, Dpm (g9.trans t10) hv, hl, rfl, .inl (.inl upd_same), fun u10 H10 s10 h10 => ?_⟩
    have t10 := t10.trans s10
    have g10 := g9.trans t10
    have h1 := Dpm t10 h1
    have h2 := Dpm t10 h2
    refine ⟨u2, rfl, v, u10, u2, room, ls, gF (zK 9), gF zB, rfl, Dpm g10 hv, sh, h10, h2, r9, rB, fun H11 r11 s11 b11 => ?_⟩
    rw [few_is r9 b11 hl fw6]
    have g11 := g10.trans s11
    have h1 := Dpm s11 h1
    have h2 := Dpm s11 h2
    refine ⟨rfl, _, rfl, iteF ?_⟩
    -- still
    refine ⟨v, rfl, by show 6 ≤ sizeLine; decide, fun z12 nz12 => ?_⟩
    refine ⟨v, z12, room, ls, zC, rfl, Dpm (g11.trans (same_new nz12)) hv, hl, rfl, .inl (.inl upd_same), fun u12 H12 s12 h12 => ?_⟩
    have t12 := (same_new nz12).trans s12
    have g12 := g11.trans t12
    have h1 := Dpm t12 h1
    have h2 := Dpm t12 h2
    refine ⟨v, rfl, u1, rfl, u12, rfl, v, u1, u12, room, ls, gF zA, gF zC, rfl, Dpm g12 hv, sh, h1, h12, rA, rC, fun H13 r13 s13 b13 => ?_⟩
    rw [few_is rA b13 hl fw7]
    have g13 := g12.trans s13
    have h2 := Dpm s13 h2
    refine ⟨rfl, true, rfl, iteT ?_⟩
    refine ⟨v, rfl, v, rfl, by show 6 ≤ sizeLine; decide, fun z14 nz14 => ?_⟩
    refine ⟨v, z14, room, ls, zD, rfl, Dpm (g13.trans (same_new nz14)) hv, hl, rfl, .inl (.inl upd_same), fun u14 H14 s14 h14 => ?_⟩
    have t14 := (same_new nz14).trans s14
    have g14 := g13.trans t14
    have h2 := Dpm t14 h2
    refine ⟨u2, rfl, v, u14, u2, room, ls, gF zD, gF zB, rfl, Dpm g14 hv, sh, h14, h2, rD, rB, fun H15 r15 s15 b15 => ?_⟩
    rw [few_is rD b15 hl fw8]
    exact ⟨rfl, q _ (g14.trans s15)⟩
theorem nw {H H' : Hp} {p : Addr} {o : HO} (n : H p = none) (e : upd H p o = H') : H' p = some o ∧ Same H H' := by
  subst e
  exact ⟨upd_same, same_new n⟩
theorem same_out {k : Addr} {H0 H1 H2 : Hp} (s : Same H0 H1) (nk : H0 k = none) (t : Same (Off k H1) (Off k H2)) : Same H0 H2 := fun b o h => off_back t (ne_of_none h nk) (s b o h)
theorem pu_dp {H : Hp} {a : Addr} {s : Bool} {g : Nat} {c x b : Int} (h : H a = some (.tup [.str (sideS s), .int (g : Int), .int x])) (e : x = c + pre [b] g) : Dp K H (.ref a) (puD [b] (s, g, c)) := by
  subst e
  exact .tup (.inl (.inl h)) (.cons (.str _) (.cons (.int _) (.cons (.int _) .nil)))
theorem one_dp {H : Hp} {a : Addr} {x : Int} (h : H a = some (.tup [.int x])) : Dp K H (.ref a) (tI [x]) := tI_dp (.inl (.inl h))
theorem dg_dp {H : Hp} {a b c : Addr} {x y : Int} (ha : H a = some (.tup [.int x])) (hb : H b = some (.tup [.int y])) (hc : H c = some (.tup [.ref a, .ref b])) : Dp K H (.ref c) (.tuple [tI [x], tI [y]]) := .tup (.inl (.inl hc)) (.cons (one_dp ha) (.cons (one_dp hb) .nil))
theorem dg1 (b : Int) (lo hi : Nat → Int) : dgD [b] lo hi = .tuple [tI [lo 0], tI [hi 0]] := by
  show PyData.tuple [tI (stL [b] lo), tI (stL [b] hi)] = _
  rw [stL1, stL1]
theorem pk_r {g : Nat} {c : Int} (h : g < 1) (h0 : 0 ≤ c) (h1 : c ≤ 4) : PuOk 1 4 (true, g, c) := ⟨fun _ => h, fun z => (nomatch z), h0, h1⟩
theorem pk_l {g : Nat} {c : Int} (h : 1 ≤ g ∧ g ≤ 1) (h0 : 0 ≤ c) (h1 : c ≤ 4) : PuOk 1 4 (false, g, c) := ⟨fun z => (nomatch z), fun _ => h, h0, h1⟩
theorem pk_2 {p q : Push} (hp : PuOk 1 4 p) (hq : PuOk 1 4 q) : ∀ x ∈ [p, q], PuOk 1 4 x := fun x hx => by
  rcases List.mem_cons.mp hx with rfl | hx
  · exact hp
  · have : x = q := by simpa using hx
    subst this
    exact hq
theorem pk_1 {p : Push} (hp : PuOk 1 4 p) : ∀ x ∈ [p], PuOk 1 4 x := fun x hx => by
  have : x = p := by simpa using hx
  subst this
  exact hp
def sp_law (K : PySem.W.Frag) : Sp := fun vs H Q _ => ∃ (a : Addr) (ns : List Int), vs = [.ref a] ∧ SqL K H a (ns.map V.int) ∧ ns.length ≤ 63 ∧ ∀ H', Q (.bl true) H'
theorem ok_law {f : Addr} {fd : FuncData} (F : Fun K "law" "law" s_law f fd) (T : Tx K mg) : FnOk P w K mg base CX0 11 f fd ["script"] (sp_law K) := by
  have G_law_deck := ok_law_deck (P := P) (w := w) (base := base) T
  have G_law_pick := ok_law_pick (P := P) (w := w) (base := base) T
  have G_law_fewest_right := ok_law_fewest_right (P := P) (w := w) (base := base) T
  have G_doing_of := ok_doing_of (P := P) (w := w) (base := base) T
  have G_doings := ok_doings (P := P) (w := w) (base := base) T
  have G_leading := ok_leading (P := P) (w := w) (base := base) T
  have G_alike := ok_alike (P := P) (w := w) (base := base) T
  have G_Bench_init := ok_Bench_init (P := P) (w := w) (base := base) T
  have G_Bench_push := ok_Bench_push (P := P) (w := w) (base := base) T
  have G_Bench_set_wish := ok_Bench_set_wish (P := P) (w := w) (base := base) T
  have G_Bench_stand := ok_Bench_stand (P := P) (w := w) (base := base) T
  have G_Bench_doing := ok_Bench_doing (P := P) (w := w) (base := base) T
  have G_Bench_pushes := ok_Bench_pushes (P := P) (w := w) (base := base) T
  have G_Bench_fewest := ok_Bench_fewest (P := P) (w := w) (base := base) T
  refine F.ok sc_law (fun vs H Q E h => ?_) (fun cdv A outer s H vs Q E hr h => ?_)
  · obtain ⟨a, ns, rfl, _⟩ := h
    rfl
  · obtain ⟨a, ns, rfl, hS, hlen, q⟩ := h
    refine ⟨_, (pss_cons (ps_for PassesOwn.never rfl (pi_list (pe_slice sl_list (pe_op op_catL (pe_lst (pa_cons pe_int pa_nil)) (pv 0)) po_none (po_some pe_int))) (pg_name (i := 1) sc_law.nd rfl (.inl rfl))
      (pss_cons (ps_set (i := 2) sc_law.nd rfl (.inr rfl) (pe_call (G_law_deck.mono (by first | decide | omega)) hr (by rfl) T.g_law_deck T.F_law_deck.kp T.b_law_deck .nil pass0 (pa_cons (pv 1) (pa_cons pe_int pa_nil))))
      (pss_cons (ps_set (i := 3) sc_law.nd rfl (.inl rfl) (pe_callTy call_tuple_of (by rfl) T.n_tuple (by decide +kernel) (pa_cons (pe_lc (own := [("k", 7)]) (g := gName 7) (tt := tYes) rfl sc_law.nd (pi_range1 (by rfl) T.n_range (pa_cons pe_int pa_nil)) (blkOk_by (own := [("k", 7)]) (N := ["script", "cell", "deck", "blocks", "shelf", "one", "bench", "k", "place"]) (sc := defScope s_law) (by decide +kernel)) (fun _ _ _ _ _ => (pg_name (i := 7) sc_law.nd rfl (.inl rfl))) (fun _ _ _ _ _ => pts_nil) (fun _ _ _ _ _ => (pe_op op_add pe_int (pe_call (G_law_pick.mono (by first | decide | omega)) hr (by rfl) T.g_law_pick T.F_law_pick.kp T.b_law_pick .nil pass0 (pa_cons (pv 2) (pa_cons pe_int pa_nil)))))) pa_nil)))
      (pss_cons (ps_set (i := 4) sc_law.nd rfl (.inl rfl) (pe_tup (pa_cons (pe_op op_add (pe_callB (cr_sumT rfl) (by rfl) T.n_sum (by decide +kernel) (pa_cons (pv 3) pa_nil)) pe_int) (pa_cons (pv 3) pa_nil))))
      (pss_cons (ps_if (pt_not (pt_val (pe_call (G_law_fewest_right.mono (by first | decide | omega)) hr (by rfl) T.g_law_fewest_right T.F_law_fewest_right.kp T.b_law_fewest_right .nil pass0 (pa_cons (pv 4) pa_nil)))) (pss_one (ps_ret pe_bl)) pss_nil)
      (pss_cons (ps_set (i := 5) sc_law.nd rfl (.inr rfl) (pe_tup (pa_cons (pe_op op_add (pe_ix ix_tup (pv 3) pe_int (fun _ _ => rfl)) pe_int) (pa_cons (pe_slice sl_tupA (pv 3) po_none (po_some pe_int)) pa_nil))))
      (pss_cons (ps_if (pt_cmpR (op_neP hr.units) (pe_call (G_doing_of.mono (by first | decide | omega)) hr (by rfl) T.g_doing_of T.F_doing_of.kp T.b_doing_of .nil pass0 (pa_cons (pv 5) (pa_cons (pe_lst (pa_cons (pe_tup (pa_cons pe_str (pa_cons pe_int (pa_cons pe_int pa_nil)))) (pa_cons (pe_tup (pa_cons pe_str (pa_cons pe_int (pa_cons (pe_op op_add (pe_ix ix_tup (pv 3) pe_int (fun _ _ => rfl)) pe_int) pa_nil)))) pa_nil))) pa_nil))) (pe_tup (pa_cons (pe_tup (pa_cons pe_int pa_nil)) (pa_cons (pe_tup (pa_cons pe_int pa_nil)) pa_nil))) (nomark _)) (pss_one (ps_ret pe_bl)) pss_nil)
      (pss_cons (ps_if (PW.pt (pw_or (pt_cmpR (op_neP hr.units) (pe_call (G_doing_of.mono (by first | decide | omega)) hr (by rfl) T.g_doing_of T.F_doing_of.kp T.b_doing_of .nil pass0 (pa_cons (pv 5) (pa_cons (pe_lst (pa_cons (pe_tup (pa_cons pe_str (pa_cons pe_int (pa_cons (pe_op op_add (pe_ix ix_tup (pv 3) pe_int (fun _ _ => rfl)) pe_int) pa_nil)))) (pa_cons (pe_tup (pa_cons pe_str (pa_cons pe_int (pa_cons pe_int pa_nil)))) pa_nil))) pa_nil))) (pe_tup (pa_cons (pe_tup (pa_cons pe_int pa_nil)) (pa_cons (pe_tup (pa_cons pe_int pa_nil)) pa_nil))) (nomark _)) (pw_or1 (pt_cmpR op_ne (pe_call (G_doings.mono (by first | decide | omega)) hr (by rfl) T.g_doings T.F_doings.kp T.b_doings .nil pass0 (pa_cons (pv 5) pa_nil)) pe_int (nomark _))))) (pss_one (ps_ret pe_bl)) pss_nil)
      (pss_cons (ps_if (pt_cmpR (op_neP hr.units) (pe_lc (own := [("place", 8)]) (g := gName 8) (tt := tYes) rfl sc_law.nd (pi_range1 (by rfl) T.n_range (pa_cons pe_int pa_nil)) (blkOk_by (own := [("place", 8)]) (N := ["script", "cell", "deck", "blocks", "shelf", "one", "bench", "k", "place"]) (sc := defScope s_law) (by decide +kernel)) (fun _ _ _ _ _ => (pg_name (i := 8) sc_law.nd rfl (.inl rfl))) (fun _ _ _ _ _ => pts_nil) (fun _ _ _ _ _ => (pe_call (G_leading.mono (by first | decide | omega)) hr (by rfl) T.g_leading T.F_leading.kp T.b_leading .nil pass0 (pa_cons (pv 5) (pa_cons (pe_tup (pa_cons (pe_tup (pa_cons pe_int pa_nil)) (pa_cons (pe_tup (pa_cons pe_int pa_nil)) pa_nil))) (pa_cons (pe_tup (pa_cons (pv 8) pa_nil)) pa_nil)))))) (pe_lst (pa_cons pe_int (pa_cons pe_int (pa_cons pe_int (pa_cons pe_int (pa_cons pe_int pa_nil)))))) (nomark _)) (pss_one (ps_ret pe_bl)) pss_nil)
      (pss_cons (ps_if (pt_cmpR op_notBl (pe_call (G_alike.mono (by first | decide | omega)) hr (by rfl) T.g_alike T.F_alike.kp T.b_alike .nil pass0 (pa_cons (pv 5) (pa_cons (pe_lst (pa_cons (pe_tup (pa_cons pe_str (pa_cons pe_int (pa_cons pe_int pa_nil)))) pa_nil)) (pa_cons (pe_lst (pa_cons (pe_tup (pa_cons pe_str (pa_cons pe_int (pa_cons pe_int pa_nil)))) (pa_cons (pe_tup (pa_cons pe_str (pa_cons pe_int (pa_cons pe_int pa_nil)))) pa_nil))) pa_nil)))) pe_bl (nomark _)) (pss_one (ps_ret pe_bl)) pss_nil)
      (pss_cons (ps_set (i := 6) sc_law.nd rfl (.inl rfl) (pe_make T.mk_Bench (G_Bench_init.mono (by first | decide | omega)) hr (by rfl) T.g_Bench T.b_Bench_init .nil pass0 (pa_cons (pv 5) (pa_cons (pe_tup (pa_cons pe_int pa_nil)) pa_nil))))
      (pss_cons (ps_expr (pe_meth (pv 6) T.cl_Bench T.me_Bench_set_wish (G_Bench_set_wish.mono (by first | decide | omega)) hr T.b_Bench_set_wish .nil pass0 (pa_cons (pe_tup (pa_cons pe_int pa_nil)) pa_nil)))
      (pss_cons (ps_if (pt_cmpR op_ne (pe_meth0 (pv 6) T.cl_Bench T.me_Bench_fewest (G_Bench_fewest.mono (by first | decide | omega)) hr T.b_Bench_fewest .nil pass0) pe_int (nomark _)) (pss_one (ps_ret pe_bl)) pss_nil)
      (pss_cons (ps_expr (pe_meth (pv 6) T.cl_Bench T.me_Bench_push (G_Bench_push.mono (by first | decide | omega)) hr T.b_Bench_push .nil pass0 (pa_cons (pe_tup (pa_cons pe_str (pa_cons pe_int (pa_cons (pe_op op_add (pe_ix ix_tup (pv 3) pe_int (fun _ _ => rfl)) pe_int) pa_nil)))) pa_nil)))
      (pss_cons (ps_if (PW.pt (pw_or (pt_cmpR (op_neP hr.units) (pe_meth0 (pv 6) T.cl_Bench T.me_Bench_stand (G_Bench_stand.mono (by first | decide | omega)) hr T.b_Bench_stand .nil pass0) (pe_tup (pa_cons pe_int pa_nil)) (nomark _)) (pw_or1 (pt_cmpR (op_neP hr.units) (pe_meth0 (pv 6) T.cl_Bench T.me_Bench_doing (G_Bench_doing.mono (by first | decide | omega)) hr T.b_Bench_doing .nil pass0) (pe_tup (pa_cons (pe_tup (pa_cons pe_int pa_nil)) (pa_cons (pe_tup (pa_cons pe_int pa_nil)) pa_nil))) (nomark _))))) (pss_one (ps_ret pe_bl)) pss_nil)
      (pss_one (ps_if (PW.pt (pw_or (pt_cmpR op_ne (pe_meth0 (pv 6) T.cl_Bench T.me_Bench_pushes (G_Bench_pushes.mono (by first | decide | omega)) hr T.b_Bench_pushes .nil pass0) pe_int (nomark _)) (pw_or1 (pt_cmpR op_ne (pe_meth0 (pv 6) T.cl_Bench T.me_Bench_fewest (G_Bench_fewest.mono (by first | decide | omega)) hr T.b_Bench_fewest .nil pass0) pe_int (nomark _))))) (pss_one (ps_ret pe_bl)) pss_nil)))))))))))))))))
      (pss_one (ps_ret pe_bl))), ?_⟩
    refine ⟨by show 1 ≤ sizeLine; decide, fun z nz => ⟨.ref a, rfl, z, a, [.int 0], iV ns, rfl, rfl, .inl (.inl upd_same), (same_new nz).seq hS, ?_, fun p np => ⟨4, rfl, p, _, rfl, .inl (.inl upd_same), fun c nc => ?_⟩⟩⟩
    · have : ([V.int 0] ++ iV ns).length ≤ 64 := by simp; omega
      exact Nat.le_of_lt (small1000 (by simp; omega))
    have ecut : cutV ([V.int 0] ++ iV ns) none (some 4) = iV (((0 : Int) :: ns).take 4) := by
      rw [show (some (4 : Int)) = some ((4 : Nat) : Int) from rfl, cut_to]
      show _ = (((0 : Int) :: ns).take 4).map V.int
      rw [List.map_take]
      rfl
    rw [ecut]
    generalize ((0 : Int) :: ns).take 4 = cells
    generalize hHc : upd (upd (upd H z (.lst [.int 0])) p (.lst ([V.int 0] ++ iV ns))) c (.lst (iV cells)) = Hc
    have hc : SqL K Hc c (iV cells) := by
      rw [← hHc]
      exact .inl (.inl upd_same)
    refine ⟨c, rfl, ⟨_, hc⟩, ?_⟩
    refine for_list (K := K) (a := c) (xs := iV cells) (fun i σ H' => Same Hc H' ∧ ∃ y1 y2 y3 y4 y5 y6 y7 y8, σ = [some (.ref a), y1, y2, y3, y4, y5, y6, y7, y8])
      ⟨Same.refl Hc, _, _, _, _, _, _, _, _, rfl⟩ (fun i σ H' _ p => p.1.seq hc) (fun i x σ H' hx p => ?_) (fun σ H' p => ?_)
    · obtain ⟨s0, y1, y2, y3, y4, y5, y6, y7, y8, rfl⟩ := p
      obtain ⟨cell, _, rfl⟩ := List.mem_map.mp (List.mem_of_getElem? hx)
      refine ⟨_, rfl, cell, 13, rfl, by decide, by decide, fun k H1 s1 nk dk1 => ?_⟩
      have sk : Same Hc H1 := s0.trans s1
      have nkc : Hc k = none := s0.free nk
      -- blocks
      refine ⟨6, rfl, by omega, by omega, fun D nD => ?_⟩
      refine lc_range (lo := 0) (n := 6) (fun i H' => Same (Off k H1) (Off k H') ∧ Dk k H' (1000000 - i) ∧ ∃ ns : List Int, H' D = some (.lst (iV ns)) ∧ ns.length = i ∧ ∀ l ∈ ns, 1 ≤ l ∧ l ≤ 50)
        ⟨off_new nD, dk1.same (same_new nD), [], upd_same, rfl, by simp⟩ (fun i H' hi p => ?_) (fun H' p => ?_)
      · obtain ⟨s2, dk2, ns, hD, hl, hb⟩ := p
        refine ⟨rfl, .ref k, rfl, k, 50, 999999 - i, rfl, by decide, by decide, dk2.le (by omega), fun t H4 t0 t1 dk4 s4 => ?_⟩
        have nDk : D ≠ k := dk1.ne nD
        have hD4 : H4 D = some (.lst (iV ns)) := off_back s4 nDk hD
        have s5 : Same (Off k H1) (Off k H4) := s2.trans s4
        refine ⟨1, t, rfl, rfl, _, hD4, ?_, off_keep s5 nD, ?_, ns ++ [1 + t], ?_, ?_, ?_⟩
        · rw [List.length_map]
          exact small1000 (by omega)
        · obtain ⟨a, b, c, h1, h2⟩ := dk4.le (show 1000000 - (i + 1) ≤ 999999 - i by omega)
          exact ⟨a, b, c, by rw [upd_ne nDk.symm]; exact h1, h2⟩
        · rw [upd_same]
          simp
        · rw [List.length_append, hl]
          rfl
        · intro l hl'
          rcases List.mem_append.mp hl' with z | z
          · exact hb l z
          · have : l = 1 + t := by simpa using z
            omega
      · obtain ⟨s2, dk2, ns, hD, hl, hb⟩ := p
        refine ⟨D, _, rfl, .inl ⟨.inl (.inl hD), fun t nt => ?_⟩⟩
        have gD : Same Hc H' := same_out sk nkc s2
        generalize e4 : upd H' t _ = H4
        obtain ⟨ht, s4⟩ := nw nt e4
        have g4 := gD.trans s4
        clear e4 s4 gD hD dk2 s2 dk1
        obtain ⟨b, rest, rfl⟩ : ∃ b rest, ns = b :: rest := by
          cases ns with
          | nil => simp at hl
          | cons b rest => exact ⟨b, rest, rfl⟩
        have hb0 := hb b (by simp)
        -- shelf
        refine ⟨.ref t, rfl, t, _, rfl, .inl (.inl ht), _, _, rfl, rfl, .ref t, rfl, by show 2 ≤ sizeLine; decide, fun z5 nz5 => ?_⟩
        generalize e5 : upd H4 z5 _ = H5
        obtain ⟨hz5, s5⟩ := nw nz5 e5
        have ht5 := s5 _ _ ht
        have hv5 : Dp K H5 (.ref z5) (shD ((b :: rest).sum + 9) (b :: rest)) := .tup (.inl (.inl hz5)) (.cons (.int _) (.cons (tI_dp (.inl (.inl ht5))) .nil))
        refine ⟨.ref z5, rfl, .ref z5, _, b :: rest, rfl, hv5, ⟨by omega, by omega, hb, by omega, by omega⟩, hl, by omega, fun H6 s6 => ⟨_, rfl, iteF ?_⟩⟩
        have g6 := (g4.trans s5).trans s6
        have ht6 := s6 _ _ ht5
        clear hv5 e5
        clear hz5 s5 s6 ht5 g4
        -- one
        refine ⟨.ref t, rfl, t, _, 0, _, rfl, rfl, .inl (.inl ht6), atI_nat (j := 0) rfl, _, _, rfl, rfl, .ref t, rfl, 1, rfl, t, _, rfl, .inl (.inl ht6), fun z => absurd z.2 ?_, fun _ p np => ?_⟩
        · rw [iV_len, hl]
          decide
        rw [show (some (1 : Int)) = some ((1 : Nat) : Int) from rfl, cut_to, show (iV (b :: rest)).take 1 = [V.int b] from rfl]
        generalize e7 : upd H6 p _ = H7
        obtain ⟨hp7, s7⟩ := nw np e7
        refine ⟨by show 2 ≤ sizeLine; decide, fun o no => ?_⟩
        generalize e8 : upd H7 o _ = H8
        obtain ⟨ho8, s8⟩ := nw no e8
        have ht8 := s8 _ _ (s7 _ _ ht6)
        have hv8 : Dp K H8 (.ref o) (shD (b + 4) [b]) := .tup (.inl (.inl ho8)) (.cons (.int _) (.cons (one_dp (s8 _ _ hp7)) .nil))
        have g8 := (g6.trans s7).trans s8
        have sh1 : ShOk (b + 4) [b] := ⟨Nat.le_refl _, (show 1 ≤ 8 by decide), fun l hl => by
          have : l = b := by simpa using hl
          subst this
          exact hb0, by simp <;> omega, by simp <;> omega⟩
        have ep : b + 4 - [b].sum = 4 := by simp <;> omega
        have cp : ∀ p, PuOk 1 4 p → PuOk [b].length (b + 4 - [b].sum) p := fun p h => by rw [ep]; exact h
        have cr : ∀ y, Rise 1 4 y → Rise [b].length (b + 4 - [b].sum) y := fun p h => by rw [ep]; exact h
        have e10 : pre [b] 0 = 0 := pre_zero _
        have e11 := pre1 b
        clear e7 e8 s7 s8 hp7 ho8 ht6 g6 np no
        -- the first doing
        refine ⟨.ref o, rfl, by show 3 ≤ sizeLine; decide, fun a1 na1 => ?_⟩
        generalize f1 : upd H8 a1 _ = J1
        obtain ⟨ha1, j1⟩ := nw na1 f1
        refine ⟨.ref t, rfl, t, _, 0, _, rfl, rfl, .inl (.inl (j1 _ _ ht8)), atI_nat (j := 0) rfl, _, _, rfl, rfl, by show 3 ≤ sizeLine; decide, fun a2 na2 => ?_⟩
        generalize f2 : upd J1 a2 _ = J2
        obtain ⟨ha2, j2⟩ := nw na2 f2
        refine ⟨by show 2 ≤ sizeLine; decide, fun a3 na3 => ?_⟩
        generalize f3 : upd J2 a3 _ = J3
        obtain ⟨ha3, j3⟩ := nw na3 f3
        have j13 := (j1.trans j2).trans j3
        have hr3 : Dp K J3 (.ref a3) (roD [b] [(true, 0, 3), (false, 1, 1)]) := .lst (.inl (.inl ha3)) (.cons (pu_dp ((j2.trans j3) _ _ ha1) (by omega)) (.cons (pu_dp (j3 _ _ ha2) (by omega)) .nil))
        refine ⟨.ref o, .ref a3, b + 4, [b], _, rfl, Dpm j13 hv8, sh1, hr3, by decide, fun p hp => cp p (pk_2 (pk_r (by decide) (by decide) (by decide)) (pk_l (by decide) (by decide) (by decide)) p hp), fun u1 H9 s9 h9 => ?_⟩
        rw [ep, dg1, lo_a, hi_a] at h9
        have t9 := j13.trans s9
        refine ⟨by show 1 ≤ sizeLine; decide, fun c1 nc1 => ?_⟩
        generalize f4 : upd H9 c1 _ = J4
        obtain ⟨hc1, j4⟩ := nw nc1 f4
        refine ⟨by show 1 ≤ sizeLine; decide, fun c2 nc2 => ?_⟩
        generalize f5 : upd J4 c2 _ = J5
        obtain ⟨hc2, j5⟩ := nw nc2 f5
        refine ⟨by show 2 ≤ sizeLine; decide, fun c3 nc3 => ?_⟩
        generalize f6 : upd J5 c3 _ = J6
        obtain ⟨hc3, j6⟩ := nw nc3 f6
        have j46 := (j4.trans j5).trans j6
        refine ⟨_, _, Dpm j46 h9, dg_dp ((j5.trans j6) _ _ hc1) (j6 _ _ hc2) hc3, by decide, _, rfl, iteF ?_⟩
        have t10 := t9.trans j46
        have g10 := g8.trans t10
        have hv10 := Dpm t10 hv8
        have ht10 := t10 _ _ ht8
        clear f1 f2 f3 f4 f5 f6 j1 j2 j3 j4 j5 j6 j13 j46 ha1 ha2 ha3 hr3 hc1 hc2 hc3 h9 na1 na2 na3 nc1 nc2 nc3 t9 t10 s9 hv8 ht8 g8
        -- the second doing
        refine ⟨.ref o, rfl, .ref t, rfl, t, _, 0, _, rfl, rfl, .inl (.inl ht10), atI_nat (j := 0) rfl, _, _, rfl, rfl, by show 3 ≤ sizeLine; decide, fun a1 na1 => ?_⟩
        generalize f1 : upd J6 a1 _ = J7
        obtain ⟨ha1, j1⟩ := nw na1 f1
        refine ⟨by show 3 ≤ sizeLine; decide, fun a2 na2 => ?_⟩
        generalize f2 : upd J7 a2 _ = J8
        obtain ⟨ha2, j2⟩ := nw na2 f2
        refine ⟨by show 2 ≤ sizeLine; decide, fun a3 na3 => ?_⟩
        generalize f3 : upd J8 a3 _ = J9
        obtain ⟨ha3, j3⟩ := nw na3 f3
        have j13 := (j1.trans j2).trans j3
        have hr3 : Dp K J9 (.ref a3) (roD [b] [(false, 1, 3), (true, 0, 1)]) := .lst (.inl (.inl ha3)) (.cons (pu_dp ((j2.trans j3) _ _ ha1) (by omega)) (.cons (pu_dp (j3 _ _ ha2) (by omega)) .nil))
        refine ⟨.ref o, .ref a3, b + 4, [b], _, rfl, Dpm j13 hv10, sh1, hr3, by decide, fun p hp => cp p (pk_2 (pk_l (by decide) (by decide) (by decide)) (pk_r (by decide) (by decide) (by decide)) p hp), fun u2 H11 s11 h11 => ?_⟩
        rw [ep, dg1, lo_b, hi_b] at h11
        have t11 := j13.trans s11
        refine ⟨by show 1 ≤ sizeLine; decide, fun c1 nc1 => ?_⟩
        generalize f4 : upd H11 c1 _ = J10
        obtain ⟨hc1, j4⟩ := nw nc1 f4
        refine ⟨by show 1 ≤ sizeLine; decide, fun c2 nc2 => ?_⟩
        generalize f5 : upd J10 c2 _ = J11
        obtain ⟨hc2, j5⟩ := nw nc2 f5
        refine ⟨by show 2 ≤ sizeLine; decide, fun c3 nc3 => ?_⟩
        generalize f6 : upd J11 c3 _ = J12
        obtain ⟨hc3, j6⟩ := nw nc3 f6
        have j46 := (j4.trans j5).trans j6
        refine ⟨_, _, Dpm j46 h11, dg_dp ((j5.trans j6) _ _ hc1) (j6 _ _ hc2) hc3, by decide, _, rfl, iteF ?_⟩
        have t12 := t11.trans j46
        have g12 := g10.trans t12
        have hv12 := Dpm t12 hv10
        have ht12 := t12 _ _ ht10
        clear f1 f2 f3 f4 f5 f6 j1 j2 j3 j4 j5 j6 j13 j46 ha1 ha2 ha3 hr3 hc1 hc2 hc3 h11 na1 na2 na3 nc1 nc2 nc3 t11 t12 s11 hv10 ht10 g10
        -- all doings
        refine ⟨.ref o, rfl, .ref o, b + 4, [b], rfl, hv12, sh1, fun H13 s13 => ?_⟩
        rw [ep]
        rw [show ((ch ((4 : Int).toNat + [b].length) [b].length : Int) * (ch ((4 : Int).toNat + [b].length) [b].length : Int) - (ch ((4 : Int).toNat + [b].length) ([b].length - 1) : Int) * (ch ((4 : Int).toNat + [b].length) ([b].length + 1) : Int)) = 15 from chs]
        refine ⟨rfl, _, rfl, iteF ?_⟩
        have g13 := g12.trans s13
        have hv13 := Dpm s13 hv12
        have ht13 := s13 _ _ ht12
        clear hv12 ht12 g12 s13
        -- leading
        refine ⟨5, rfl, by omega, by omega, fun D2 nD2 => ?_⟩
        refine lc_range (lo := 0) (n := 5) (fun i H' => Same H13 H' ∧ H' D2 = some (.lst (iV (([0, 2, 1, 2, 0] : List Int).take i))))
          ⟨same_new nD2, upd_same⟩ (fun i H14 hi p => ?_) (fun H14 p => ?_)
        · obtain ⟨s14, hD14⟩ := p
          refine ⟨rfl, .ref o, rfl, by show 1 ≤ sizeLine; decide, fun c1 nc1 => ?_⟩
          generalize f4 : upd H14 c1 _ = L1
          obtain ⟨hc1, j4⟩ := nw nc1 f4
          refine ⟨by show 1 ≤ sizeLine; decide, fun c2 nc2 => ?_⟩
          generalize f5 : upd L1 c2 _ = L2
          obtain ⟨hc2, j5⟩ := nw nc2 f5
          refine ⟨by show 2 ≤ sizeLine; decide, fun c3 nc3 => ?_⟩
          generalize f6 : upd L2 c3 _ = L3
          obtain ⟨hc3, j6⟩ := nw nc3 f6
          have j46 := (j4.trans j5).trans j6
          refine ⟨_, rfl, by show 1 ≤ sizeLine; decide, fun c4 nc4 => ?_⟩
          generalize f7 : upd L3 c4 _ = L4
          obtain ⟨hc4, j7⟩ := nw nc4 f7
          have j47 := j46.trans j7
          have hd : Dp K L4 (.ref c3) (dgD [b] (gF [1]) (gF [3])) := by
            rw [dg1]
            exact dg_dp (((j5.trans j6).trans j7) _ _ hc1) ((j6.trans j7) _ _ hc2) (j7 _ _ hc3)
          have hs : Dp K L4 (.ref c4) (tI (stL [b] (gF [(i : Int)]))) := by
            rw [stL1]
            refine one_dp ?_
            rw [hc4]
            show some (HO.tup [V.int (0 + (i : Int))]) = some (HO.tup [V.int (i : Int)])
            rw [Int.zero_add]
          have hgi : gF [(i : Int)] 0 = (i : Int) := rfl
          refine ⟨.ref o, .ref c3, .ref c4, b + 4, [b], gF [1], gF [3], gF [(i : Int)], rfl, Dpm (s14.trans j47) hv13, sh1, hd, ⟨cr _ (rise_by (by decide)), cr _ (rise_by (by decide)), fun j hj => ?_⟩, hs, cr _ ⟨fun j hj => ?_, fun j hj => ?_, fun j hj => by omega⟩, fun H15 s15 => ?_⟩
          · obtain rfl : j = 0 := by have : j < 1 := hj; omega
            decide
          · obtain rfl : j = 0 := by omega
            rw [hgi]
            omega
          · obtain rfl : j = 0 := by omega
            rw [hgi]
            omega
          have el : ([0, 2, 1, 2, 0] : List Int)[i]? = some (leadN [b].length (b + 4 - [b].sum) (gF [1]) (gF [3]) (gF [(i : Int)]) : Nat) := by
            rw [ep]
            match i, hi with
            | 0, _ => exact congrArg (fun n : Nat => some (n : Int)) ld0.symm
            | 1, _ => exact congrArg (fun n : Nat => some (n : Int)) ld1.symm
            | 2, _ => exact congrArg (fun n : Nat => some (n : Int)) ld2.symm
            | 3, _ => exact congrArg (fun n : Nat => some (n : Int)) ld3.symm
            | 4, _ => exact congrArg (fun n : Nat => some (n : Int)) ld4.symm
          have hD15 := s15 _ _ (j47 _ _ hD14)
          have nD15 : Same H13 (upd H15 D2 (.lst (iV (([0, 2, 1, 2, 0] : List Int).take i) ++ [V.int (leadN [b].length (b + 4 - [b].sum) (gF [1]) (gF [3]) (gF [(i : Int)]) : Nat)]))) := fun c o h => by
            rw [upd_ne (ne_of_none h nD2)]
            exact ((s14.trans j47).trans s15) _ _ h
          refine ⟨_, hD15, ?_, nD15, ?_⟩
          · rw [List.length_map, List.length_take]
            exact small1000 (by omega)
          · rw [upd_same, List.take_add_one, el]
            simp
        · obtain ⟨s14, hD14⟩ := p
          refine ⟨by show 5 ≤ sizeLine; decide, fun c1 nc1 => ?_⟩
          generalize f4 : upd H14 c1 _ = H15
          obtain ⟨hc1, s15⟩ := nw nc1 f4
          refine ⟨.list (iD [0, 2, 1, 2, 0]), .list (iD [0, 2, 1, 2, 0]), .lst (.inl (.inl (s15 _ _ hD14))) (ints_dpAll _), .lst (.inl (.inl hc1)) (ints_dpAll [0, 2, 1, 2, 0]), by decide, _, rfl, iteF ?_⟩
          have t16 := s14.trans s15
          have g16 := g13.trans t16
          have hv16 := Dpm t16 hv13
          have ht16 := t16 _ _ ht13
          clear f4 hc1 nc1 s14 s15 hD14 hv13 ht13 g13 t16
          -- alike
          refine ⟨.ref o, rfl, by show 3 ≤ sizeLine; decide, fun a1 na1 => ?_⟩
          generalize f1 : upd H15 a1 _ = J7
          obtain ⟨ha1, j1⟩ := nw na1 f1
          refine ⟨by show 1 ≤ sizeLine; decide, fun a2 na2 => ?_⟩
          generalize f2 : upd J7 a2 _ = J8
          obtain ⟨ha2, j2⟩ := nw na2 f2
          refine ⟨by show 3 ≤ sizeLine; decide, fun a3 na3 => ?_⟩
          generalize f3 : upd J8 a3 _ = J9
          obtain ⟨ha3, j3⟩ := nw na3 f3
          refine ⟨by show 3 ≤ sizeLine; decide, fun a4 na4 => ?_⟩
          generalize f4 : upd J9 a4 _ = J10
          obtain ⟨ha4, j4⟩ := nw na4 f4
          refine ⟨by show 2 ≤ sizeLine; decide, fun a5 na5 => ?_⟩
          generalize f5 : upd J10 a5 _ = J11
          obtain ⟨ha5, j5⟩ := nw na5 f5
          have j35 := (j3.trans j4).trans j5
          have j15 := (j1.trans j2).trans j35
          have hr1 : Dp K J11 (.ref a2) (roD [b] [(true, 0, 2)]) := .lst (.inl (.inl (j35 _ _ ha2))) (.cons (pu_dp ((j2.trans j35) _ _ ha1) (by omega)) .nil)
          have hr2 : Dp K J11 (.ref a5) (roD [b] [(true, 0, 1), (true, 0, 2)]) := .lst (.inl (.inl ha5)) (.cons (pu_dp ((j4.trans j5) _ _ ha3) (by omega)) (.cons (pu_dp (j5 _ _ ha4) (by omega)) .nil))
          refine ⟨.ref o, .ref a2, .ref a5, b + 4, [b], _, _, rfl, Dpm j15 hv16, sh1, hr1, hr2, by decide, by decide, fun p hp => cp p (pk_1 (pk_r (by decide) (by decide) (by decide)) p hp), fun p hp => cp p (pk_2 (pk_r (by decide) (by decide) (by decide)) (pk_r (by decide) (by decide) (by decide)) p hp), fun H17 s17 => ?_⟩
          rw [decide_eq_true (show stL [b] (loR [(true, 0, 2)]) = stL [b] (loR [(true, 0, 1), (true, 0, 2)]) ∧ stL [b] (hiR (b + 4 - [b].sum) [(true, 0, 2)]) = stL [b] (hiR (b + 4 - [b].sum) [(true, 0, 1), (true, 0, 2)]) by
            rw [ep, stL1, stL1, stL1, stL1, lo_c, hi_c]
            exact ⟨rfl, rfl⟩)]
          refine ⟨true, true, rfl, rfl, _, rfl, iteF ?_⟩
          have t17 := j15.trans s17
          have g17 := g16.trans t17
          have hv17 := Dpm t17 hv16
          have ht17 := t17 _ _ ht16
          clear f1 f2 f3 f4 f5 ha1 ha2 ha3 ha4 ha5 j1 j2 j3 j4 j5 j35 j15 hr1 hr2 na1 na2 na3 na4 na5 s17 hv16 ht16 g16 t17
          -- the bench
          refine ⟨.ref o, rfl, by show 1 ≤ sizeLine; decide, fun a1 na1 => ?_⟩
          generalize f1 : upd H17 a1 _ = H18
          obtain ⟨ha1, s18⟩ := nw na1 f1
          have hst : Dp K H18 (.ref a1) (tI (stL [b] (gF [4]))) := by
            rw [stL1]
            exact one_dp ha1
          intro x dx nx ndx nex
          have sm : Same H18 (upd (upd H18 dx (.own x)) x (.ins T.C_Bench dx [])) := (same_new ndx).trans (same_new (by rw [upd_ne nex.symm]; exact nx))
          have r4 : Rise 1 4 (gF [4]) := rise_by (by decide)
          have r2 : Rise 1 4 (gF [2]) := rise_by (by decide)
          refine ⟨x, dx, .ref o, .ref a1, b + 4, [b], gF [4], rfl, upd_same, Dpm (s18.trans sm) hv17, sh1, Dpm sm hst, cr _ r4, fun H19 s19 bn => ⟨rfl, ?_⟩⟩
          have t19 := s18.trans (same_out sm nx s19)
          have g19 := g17.trans t19
          have ht19 := t19 _ _ ht17
          have nxc : Hc x = none := g17.free (s18.free nx)
          clear f1 ha1 na1 hst sm s19 t19 hv17 ht17 s18
          -- its wish
          obtain ⟨dx1, w1, w2, w3, w4, w6, hx1, _⟩ := id bn
          refine ⟨.ref x, rfl, x, dx1, _, rfl, hx1, rfl, by show 1 ≤ sizeLine; decide, fun a2 na2 => ?_⟩
          generalize f2 : upd H19 a2 _ = H20
          obtain ⟨ha2, s20⟩ := nw na2 f2
          have hwi : Dp K H20 (.ref a2) (tI (stL [b] (gF [2]))) := by
            rw [stL1]
            exact one_dp ha2
          refine ⟨x, .ref a2, b + 4, [b], _, _, _, _, _, gF [2], rfl, bn.same s20, sh1, hwi, cr _ r2, fun H21 s21 bn => ?_⟩
          have g21 := same_out (g19.trans s20) nxc s21
          have ntx : t ≠ x := ne_of ht19 hx1 (by intro z; cases z)
          have ht21 := off_back s21 ntx (s20 _ _ ht19)
          clear hx1 f2 ha2 na2 hwi s20 s21 g19 ht19
          obtain ⟨dx2, w1, w2, w3, w4, w6, hx1, _⟩ := id bn
          refine ⟨.ref x, rfl, x, dx2, _, rfl, hx1, rfl, x, b + 4, [b], _, _, _, _, gF [2], rfl, bn, sh1, cr _ r4, cr _ r2, fun H22 r22 s22 b22 => ?_⟩
          rw [few_is (cr _ r4) b22 rfl fw9]
          refine ⟨rfl, _, rfl, iteF ?_⟩
          have bn := bn.same s22
          have hx1 := s22 _ _ hx1
          have ht22 := s22 _ _ ht21
          have g22 := g21.trans s22
          -- its push
          refine ⟨.ref x, rfl, x, dx2, _, rfl, hx1, rfl, .ref t, rfl, t, _, 0, _, rfl, rfl, .inl (.inl ht22), atI_nat (j := 0) rfl, _, _, rfl, rfl, by show 3 ≤ sizeLine; decide, fun a3 na3 => ?_⟩
          generalize f3 : upd H22 a3 _ = H23
          obtain ⟨ha3, s23⟩ := nw na3 f3
          have hpu : Dp K H23 (.ref a3) (puD [b] (false, 1, 2)) := pu_dp ha3 (by omega)
          have rl : Rise 1 4 (fun _ => 0) := rise_by (by decide)
          have rh : Rise 1 4 (fun _ => 4) := rise_by (by decide)
          have bn := bn.same s23
          rw [ep] at bn
          refine ⟨x, .ref a3, b + 4, [b], _, _, _, _, _, (false, 1, 2), rfl, bn, sh1, hpu, cp _ (pk_l (by decide) (by decide) (by decide)), cr _ r4, cr _ rl, cr _ rh, fun H24 s24 bn => ?_⟩
          have g24 := same_out (g22.trans s23) nxc s24
          clear hx1 f3 ha3 na3 hpu s23 s24 s22 ht21 ht22 g21 g22
          -- what it tells
          obtain ⟨dx3, w1, w2, w3, w4, w6, hx1, _⟩ := id bn
          refine ⟨.ref x, rfl, x, dx3, _, rfl, hx1, rfl, x, b + 4, [b], _, _, _, _, _, rfl, bn, fun u25 H25 s25 h25 => ?_⟩
          rw [stL1, do_n] at h25
          refine ⟨by show 1 ≤ sizeLine; decide, fun a4 na4 => ?_⟩
          generalize f4 : upd H25 a4 _ = H26
          obtain ⟨ha4, s26⟩ := nw na4 f4
          refine ⟨_, _, Dpm s26 h25, one_dp ha4, by decide, _, rfl, iteF ?_⟩
          have t26 := s25.trans s26
          have bn := bn.same t26
          have hx1 := t26 _ _ hx1
          refine ⟨.ref x, rfl, x, dx3, _, rfl, hx1, rfl, x, b + 4, [b], _, _, _, _, _, rfl, bn, fun u27 H27 s27 h27 => ?_⟩
          rw [dg1, do_l, do_h] at h27
          refine ⟨by show 1 ≤ sizeLine; decide, fun c1 nc1 => ?_⟩
          generalize f5 : upd H27 c1 _ = J12
          obtain ⟨hc1, j5⟩ := nw nc1 f5
          refine ⟨by show 1 ≤ sizeLine; decide, fun c2 nc2 => ?_⟩
          generalize f6 : upd J12 c2 _ = J13
          obtain ⟨hc2, j6⟩ := nw nc2 f6
          refine ⟨by show 2 ≤ sizeLine; decide, fun c3 nc3 => ?_⟩
          generalize f7 : upd J13 c3 _ = J14
          obtain ⟨hc3, j7⟩ := nw nc3 f7
          have j57 := (j5.trans j6).trans j7
          refine ⟨_, _, Dpm j57 h27, dg_dp ((j6.trans j7) _ _ hc1) (j7 _ _ hc2) hc3, by decide, _, rfl, iteF ?_⟩
          have t28 := s27.trans j57
          have bn := bn.same t28
          have hx1 := t28 _ _ hx1
          refine ⟨.ref x, rfl, x, dx3, _, rfl, hx1, rfl, x, b + 4, [b], _, _, _, _, _, rfl, bn, rfl, _, rfl, iteF ?_⟩
          refine ⟨.ref x, rfl, x, dx3, _, rfl, hx1, rfl, x, b + 4, [b], _, _, _, _, gF [2], rfl, bn, sh1, cr _ (doP_rise r4 (pk_l (by decide) (by decide) (by decide))), cr _ r2, fun H29 r29 s29 b29 => ?_⟩
          rw [few_is (cr _ (doP_rise r4 (pk_l (by decide) (by decide) (by decide)))) b29 rfl fw10]
          refine ⟨rfl, _, rfl, iteF ?_⟩
          exact ⟨((g24.trans t26).trans t28).trans s29, _, _, _, _, _, _, _, _, rfl⟩
    · exact q _
end PS

namespace PS
open PySem PySem.Spec PyProof.Rows L2
theorem all_mk {l : PySem.W.OpenLaw} {w : World} {K : PySem.W.Frag} {h : Heap} {mg : Str → Option Value} {fa : Addr} (X : K.In h) (G : h.Ns mainGlobals mg) (hfa : mg "law" = some (.ref fa))
    {C_Band : Addr}
    {C_Bench : Addr}
    {f0 : Addr} {od0 an0 : Option Addr} {sl0 : Array (Option Value)} {oc0 kV0 dc0 pm0 cd0 ct0 : Value}
    (a0 : PySem.W.nsIn K mainGlobals "is_whole" = some (some (.ref f0))) (l0 : K.lookup f0 = some ⟨oc0, od0, .func (PySem.W.fnOf "is_whole" "is_whole" (defArgs s_is_whole) (defBody s_is_whole) (defScope s_is_whole) .none kV0 dc0 pm0 an0 cd0 ct0), sl0⟩) (c0 : PySem.W.codeIn K cd0 "is_whole" = true) (k0 : PySem.W.keepIn K (.ref f0) = true)
    {f1 : Addr} {od1 an1 : Option Addr} {sl1 : Array (Option Value)} {oc1 kV1 dc1 pm1 cd1 ct1 : Value}
    (a1 : PySem.W.nsIn K mainGlobals "is_within" = some (some (.ref f1))) (l1 : K.lookup f1 = some ⟨oc1, od1, .func (PySem.W.fnOf "is_within" "is_within" (defArgs s_is_within) (defBody s_is_within) (defScope s_is_within) .none kV1 dc1 pm1 an1 cd1 ct1), sl1⟩) (c1 : PySem.W.codeIn K cd1 "is_within" = true) (k1 : PySem.W.keepIn K (.ref f1) = true)
    {f2 : Addr} {od2 an2 : Option Addr} {sl2 : Array (Option Value)} {oc2 kV2 dc2 pm2 cd2 ct2 : Value}
    (a2 : PySem.W.nsIn K mainGlobals "is_tuple_of" = some (some (.ref f2))) (l2 : K.lookup f2 = some ⟨oc2, od2, .func (PySem.W.fnOf "is_tuple_of" "is_tuple_of" (defArgs s_is_tuple_of) (defBody s_is_tuple_of) (defScope s_is_tuple_of) .none kV2 dc2 pm2 an2 cd2 ct2), sl2⟩) (c2 : PySem.W.codeIn K cd2 "is_tuple_of" = true) (k2 : PySem.W.keepIn K (.ref f2) = true)
    {f3 : Addr} {od3 an3 : Option Addr} {sl3 : Array (Option Value)} {oc3 kV3 dc3 pm3 cd3 ct3 : Value}
    (a3 : PySem.W.nsIn K mainGlobals "are_blocks" = some (some (.ref f3))) (l3 : K.lookup f3 = some ⟨oc3, od3, .func (PySem.W.fnOf "are_blocks" "are_blocks" (defArgs s_are_blocks) (defBody s_are_blocks) (defScope s_are_blocks) .none kV3 dc3 pm3 an3 cd3 ct3), sl3⟩) (c3 : PySem.W.codeIn K cd3 "are_blocks" = true) (k3 : PySem.W.keepIn K (.ref f3) = true)
    {f4 : Addr} {od4 an4 : Option Addr} {sl4 : Array (Option Value)} {oc4 kV4 dc4 pm4 cd4 ct4 : Value}
    (a4 : PySem.W.nsIn K mainGlobals "is_shelf" = some (some (.ref f4))) (l4 : K.lookup f4 = some ⟨oc4, od4, .func (PySem.W.fnOf "is_shelf" "is_shelf" (defArgs s_is_shelf) (defBody s_is_shelf) (defScope s_is_shelf) .none kV4 dc4 pm4 an4 cd4 ct4), sl4⟩) (c4 : PySem.W.codeIn K cd4 "is_shelf" = true) (k4 : PySem.W.keepIn K (.ref f4) = true)
    {f5 : Addr} {od5 an5 : Option Addr} {sl5 : Array (Option Value)} {oc5 kV5 dc5 pm5 cd5 ct5 : Value}
    (a5 : PySem.W.nsIn K mainGlobals "need_shelf" = some (some (.ref f5))) (l5 : K.lookup f5 = some ⟨oc5, od5, .func (PySem.W.fnOf "need_shelf" "need_shelf" (defArgs s_need_shelf) (defBody s_need_shelf) (defScope s_need_shelf) .none kV5 dc5 pm5 an5 cd5 ct5), sl5⟩) (c5 : PySem.W.codeIn K cd5 "need_shelf" = true) (k5 : PySem.W.keepIn K (.ref f5) = true)
    {f6 : Addr} {od6 an6 : Option Addr} {sl6 : Array (Option Value)} {oc6 kV6 dc6 pm6 cd6 ct6 : Value}
    (a6 : PySem.W.nsIn K mainGlobals "play_of" = some (some (.ref f6))) (l6 : K.lookup f6 = some ⟨oc6, od6, .func (PySem.W.fnOf "play_of" "play_of" (defArgs s_play_of) (defBody s_play_of) (defScope s_play_of) .none kV6 dc6 pm6 an6 cd6 ct6), sl6⟩) (c6 : PySem.W.codeIn K cd6 "play_of" = true) (k6 : PySem.W.keepIn K (.ref f6) = true)
    {f7 : Addr} {od7 an7 : Option Addr} {sl7 : Array (Option Value)} {oc7 kV7 dc7 pm7 cd7 ct7 : Value}
    (a7 : PySem.W.nsIn K mainGlobals "gap_length" = some (some (.ref f7))) (l7 : K.lookup f7 = some ⟨oc7, od7, .func (PySem.W.fnOf "gap_length" "gap_length" (defArgs s_gap_length) (defBody s_gap_length) (defScope s_gap_length) .none kV7 dc7 pm7 an7 cd7 ct7), sl7⟩) (c7 : PySem.W.codeIn K cd7 "gap_length" = true) (k7 : PySem.W.keepIn K (.ref f7) = true)
    {f8 : Addr} {od8 an8 : Option Addr} {sl8 : Array (Option Value)} {oc8 kV8 dc8 pm8 cd8 ct8 : Value}
    (a8 : PySem.W.nsIn K mainGlobals "places_of" = some (some (.ref f8))) (l8 : K.lookup f8 = some ⟨oc8, od8, .func (PySem.W.fnOf "places_of" "places_of" (defArgs s_places_of) (defBody s_places_of) (defScope s_places_of) .none kV8 dc8 pm8 an8 cd8 ct8), sl8⟩) (c8 : PySem.W.codeIn K cd8 "places_of" = true) (k8 : PySem.W.keepIn K (.ref f8) = true)
    {f9 : Addr} {od9 an9 : Option Addr} {sl9 : Array (Option Value)} {oc9 kV9 dc9 pm9 cd9 ct9 : Value}
    (a9 : PySem.W.nsIn K mainGlobals "packed" = some (some (.ref f9))) (l9 : K.lookup f9 = some ⟨oc9, od9, .func (PySem.W.fnOf "packed" "packed" (defArgs s_packed) (defBody s_packed) (defScope s_packed) .none kV9 dc9 pm9 an9 cd9 ct9), sl9⟩) (c9 : PySem.W.codeIn K cd9 "packed" = true) (k9 : PySem.W.keepIn K (.ref f9) = true)
    {f10 : Addr} {od10 an10 : Option Addr} {sl10 : Array (Option Value)} {oc10 kV10 dc10 pm10 cd10 ct10 : Value}
    (a10 : PySem.W.nsIn K mainGlobals "leftmost" = some (some (.ref f10))) (l10 : K.lookup f10 = some ⟨oc10, od10, .func (PySem.W.fnOf "leftmost" "leftmost" (defArgs s_leftmost) (defBody s_leftmost) (defScope s_leftmost) .none kV10 dc10 pm10 an10 cd10 ct10), sl10⟩) (c10 : PySem.W.codeIn K cd10 "leftmost" = true) (k10 : PySem.W.keepIn K (.ref f10) = true)
    {f11 : Addr} {od11 an11 : Option Addr} {sl11 : Array (Option Value)} {oc11 kV11 dc11 pm11 cd11 ct11 : Value}
    (a11 : PySem.W.nsIn K mainGlobals "rightmost" = some (some (.ref f11))) (l11 : K.lookup f11 = some ⟨oc11, od11, .func (PySem.W.fnOf "rightmost" "rightmost" (defArgs s_rightmost) (defBody s_rightmost) (defScope s_rightmost) .none kV11 dc11 pm11 an11 cd11 ct11), sl11⟩) (c11 : PySem.W.codeIn K cd11 "rightmost" = true) (k11 : PySem.W.keepIn K (.ref f11) = true)
    {f12 : Addr} {od12 an12 : Option Addr} {sl12 : Array (Option Value)} {oc12 kV12 dc12 pm12 cd12 ct12 : Value}
    (a12 : PySem.W.nsIn K mainGlobals "is_stand" = some (some (.ref f12))) (l12 : K.lookup f12 = some ⟨oc12, od12, .func (PySem.W.fnOf "is_stand" "is_stand" (defArgs s_is_stand) (defBody s_is_stand) (defScope s_is_stand) .none kV12 dc12 pm12 an12 cd12 ct12), sl12⟩) (c12 : PySem.W.codeIn K cd12 "is_stand" = true) (k12 : PySem.W.keepIn K (.ref f12) = true)
    {f13 : Addr} {od13 an13 : Option Addr} {sl13 : Array (Option Value)} {oc13 kV13 dc13 pm13 cd13 ct13 : Value}
    (a13 : PySem.W.nsIn K mainGlobals "need_stand" = some (some (.ref f13))) (l13 : K.lookup f13 = some ⟨oc13, od13, .func (PySem.W.fnOf "need_stand" "need_stand" (defArgs s_need_stand) (defBody s_need_stand) (defScope s_need_stand) .none kV13 dc13 pm13 an13 cd13 ct13), sl13⟩) (c13 : PySem.W.codeIn K cd13 "need_stand" = true) (k13 : PySem.W.keepIn K (.ref f13) = true)
    {f14 : Addr} {od14 an14 : Option Addr} {sl14 : Array (Option Value)} {oc14 kV14 dc14 pm14 cd14 ct14 : Value}
    (a14 : PySem.W.nsIn K mainGlobals "is_gap" = some (some (.ref f14))) (l14 : K.lookup f14 = some ⟨oc14, od14, .func (PySem.W.fnOf "is_gap" "is_gap" (defArgs s_is_gap) (defBody s_is_gap) (defScope s_is_gap) .none kV14 dc14 pm14 an14 cd14 ct14), sl14⟩) (c14 : PySem.W.codeIn K cd14 "is_gap" = true) (k14 : PySem.W.keepIn K (.ref f14) = true)
    {f15 : Addr} {od15 an15 : Option Addr} {sl15 : Array (Option Value)} {oc15 kV15 dc15 pm15 cd15 ct15 : Value}
    (a15 : PySem.W.nsIn K mainGlobals "is_push" = some (some (.ref f15))) (l15 : K.lookup f15 = some ⟨oc15, od15, .func (PySem.W.fnOf "is_push" "is_push" (defArgs s_is_push) (defBody s_is_push) (defScope s_is_push) .none kV15 dc15 pm15 an15 cd15 ct15), sl15⟩) (c15 : PySem.W.codeIn K cd15 "is_push" = true) (k15 : PySem.W.keepIn K (.ref f15) = true)
    {f16 : Addr} {od16 an16 : Option Addr} {sl16 : Array (Option Value)} {oc16 kV16 dc16 pm16 cd16 ct16 : Value}
    (a16 : PySem.W.nsIn K mainGlobals "is_row" = some (some (.ref f16))) (l16 : K.lookup f16 = some ⟨oc16, od16, .func (PySem.W.fnOf "is_row" "is_row" (defArgs s_is_row) (defBody s_is_row) (defScope s_is_row) .none kV16 dc16 pm16 an16 cd16 ct16), sl16⟩) (c16 : PySem.W.codeIn K cd16 "is_row" = true) (k16 : PySem.W.keepIn K (.ref f16) = true)
    {f17 : Addr} {od17 an17 : Option Addr} {sl17 : Array (Option Value)} {oc17 kV17 dc17 pm17 cd17 ct17 : Value}
    (a17 : PySem.W.nsIn K mainGlobals "need_row" = some (some (.ref f17))) (l17 : K.lookup f17 = some ⟨oc17, od17, .func (PySem.W.fnOf "need_row" "need_row" (defArgs s_need_row) (defBody s_need_row) (defScope s_need_row) .none kV17 dc17 pm17 an17 cd17 ct17), sl17⟩) (c17 : PySem.W.codeIn K cd17 "need_row" = true) (k17 : PySem.W.keepIn K (.ref f17) = true)
    {f18 : Addr} {od18 an18 : Option Addr} {sl18 : Array (Option Value)} {oc18 kV18 dc18 pm18 cd18 ct18 : Value}
    (a18 : PySem.W.nsIn K mainGlobals "pushed_right" = some (some (.ref f18))) (l18 : K.lookup f18 = some ⟨oc18, od18, .func (PySem.W.fnOf "pushed_right" "pushed_right" (defArgs s_pushed_right) (defBody s_pushed_right) (defScope s_pushed_right) .none kV18 dc18 pm18 an18 cd18 ct18), sl18⟩) (c18 : PySem.W.codeIn K cd18 "pushed_right" = true) (k18 : PySem.W.keepIn K (.ref f18) = true)
    {f19 : Addr} {od19 an19 : Option Addr} {sl19 : Array (Option Value)} {oc19 kV19 dc19 pm19 cd19 ct19 : Value}
    (a19 : PySem.W.nsIn K mainGlobals "pushed_left" = some (some (.ref f19))) (l19 : K.lookup f19 = some ⟨oc19, od19, .func (PySem.W.fnOf "pushed_left" "pushed_left" (defArgs s_pushed_left) (defBody s_pushed_left) (defScope s_pushed_left) .none kV19 dc19 pm19 an19 cd19 ct19), sl19⟩) (c19 : PySem.W.codeIn K cd19 "pushed_left" = true) (k19 : PySem.W.keepIn K (.ref f19) = true)
    {f20 : Addr} {od20 an20 : Option Addr} {sl20 : Array (Option Value)} {oc20 kV20 dc20 pm20 cd20 ct20 : Value}
    (a20 : PySem.W.nsIn K mainGlobals "pushed" = some (some (.ref f20))) (l20 : K.lookup f20 = some ⟨oc20, od20, .func (PySem.W.fnOf "pushed" "pushed" (defArgs s_pushed) (defBody s_pushed) (defScope s_pushed) .none kV20 dc20 pm20 an20 cd20 ct20), sl20⟩) (c20 : PySem.W.codeIn K cd20 "pushed" = true) (k20 : PySem.W.keepIn K (.ref f20) = true)
    {f21 : Addr} {od21 an21 : Option Addr} {sl21 : Array (Option Value)} {oc21 kV21 dc21 pm21 cd21 ct21 : Value}
    (a21 : PySem.W.nsIn K mainGlobals "done" = some (some (.ref f21))) (l21 : K.lookup f21 = some ⟨oc21, od21, .func (PySem.W.fnOf "done" "done" (defArgs s_done) (defBody s_done) (defScope s_done) .none kV21 dc21 pm21 an21 cd21 ct21), sl21⟩) (c21 : PySem.W.codeIn K cd21 "done" = true) (k21 : PySem.W.keepIn K (.ref f21) = true)
    {f22 : Addr} {od22 an22 : Option Addr} {sl22 : Array (Option Value)} {oc22 kV22 dc22 pm22 cd22 ct22 : Value}
    (a22 : PySem.W.findIn K (.ref C_Band) "__init__" = some (some (.ref f22))) (i22 : PySem.W.isFn K (.ref f22) = true) (l22 : K.lookup f22 = some ⟨oc22, od22, .func (PySem.W.fnOf "__init__" "Band.__init__" (defArgs s_Band_init) (defBody s_Band_init) (defScope s_Band_init) .none kV22 dc22 pm22 an22 cd22 ct22), sl22⟩) (c22 : PySem.W.codeIn K cd22 "Band.__init__" = true) (k22 : PySem.W.keepIn K (.ref f22) = true)
    {f23 : Addr} {od23 an23 : Option Addr} {sl23 : Array (Option Value)} {oc23 kV23 dc23 pm23 cd23 ct23 : Value}
    (a23 : PySem.W.nsIn K mainGlobals "band_from" = some (some (.ref f23))) (l23 : K.lookup f23 = some ⟨oc23, od23, .func (PySem.W.fnOf "band_from" "band_from" (defArgs s_band_from) (defBody s_band_from) (defScope s_band_from) .none kV23 dc23 pm23 an23 cd23 ct23), sl23⟩) (c23 : PySem.W.codeIn K cd23 "band_from" = true) (k23 : PySem.W.keepIn K (.ref f23) = true)
    {f24 : Addr} {od24 an24 : Option Addr} {sl24 : Array (Option Value)} {oc24 kV24 dc24 pm24 cd24 ct24 : Value}
    (a24 : PySem.W.nsIn K mainGlobals "bands_of" = some (some (.ref f24))) (l24 : K.lookup f24 = some ⟨oc24, od24, .func (PySem.W.fnOf "bands_of" "bands_of" (defArgs s_bands_of) (defBody s_bands_of) (defScope s_bands_of) .none kV24 dc24 pm24 an24 cd24 ct24), sl24⟩) (c24 : PySem.W.codeIn K cd24 "bands_of" = true) (k24 : PySem.W.keepIn K (.ref f24) = true)
    {f25 : Addr} {od25 an25 : Option Addr} {sl25 : Array (Option Value)} {oc25 kV25 dc25 pm25 cd25 ct25 : Value}
    (a25 : PySem.W.nsIn K mainGlobals "raised" = some (some (.ref f25))) (l25 : K.lookup f25 = some ⟨oc25, od25, .func (PySem.W.fnOf "raised" "raised" (defArgs s_raised) (defBody s_raised) (defScope s_raised) .none kV25 dc25 pm25 an25 cd25 ct25), sl25⟩) (c25 : PySem.W.codeIn K cd25 "raised" = true) (k25 : PySem.W.keepIn K (.ref f25) = true)
    {f26 : Addr} {od26 an26 : Option Addr} {sl26 : Array (Option Value)} {oc26 kV26 dc26 pm26 cd26 ct26 : Value}
    (a26 : PySem.W.nsIn K mainGlobals "lowered" = some (some (.ref f26))) (l26 : K.lookup f26 = some ⟨oc26, od26, .func (PySem.W.fnOf "lowered" "lowered" (defArgs s_lowered) (defBody s_lowered) (defScope s_lowered) .none kV26 dc26 pm26 an26 cd26 ct26), sl26⟩) (c26 : PySem.W.codeIn K cd26 "lowered" = true) (k26 : PySem.W.keepIn K (.ref f26) = true)
    {f27 : Addr} {od27 an27 : Option Addr} {sl27 : Array (Option Value)} {oc27 kV27 dc27 pm27 cd27 ct27 : Value}
    (a27 : PySem.W.nsIn K mainGlobals "row_alone" = some (some (.ref f27))) (l27 : K.lookup f27 = some ⟨oc27, od27, .func (PySem.W.fnOf "row_alone" "row_alone" (defArgs s_row_alone) (defBody s_row_alone) (defScope s_row_alone) .none kV27 dc27 pm27 an27 cd27 ct27), sl27⟩) (c27 : PySem.W.codeIn K cd27 "row_alone" = true) (k27 : PySem.W.keepIn K (.ref f27) = true)
    {f28 : Addr} {od28 an28 : Option Addr} {sl28 : Array (Option Value)} {oc28 kV28 dc28 pm28 cd28 ct28 : Value}
    (a28 : PySem.W.nsIn K mainGlobals "row_served_by_last" = some (some (.ref f28))) (l28 : K.lookup f28 = some ⟨oc28, od28, .func (PySem.W.fnOf "row_served_by_last" "row_served_by_last" (defArgs s_row_served_by_last) (defBody s_row_served_by_last) (defScope s_row_served_by_last) .none kV28 dc28 pm28 an28 cd28 ct28), sl28⟩) (c28 : PySem.W.codeIn K cd28 "row_served_by_last" = true) (k28 : PySem.W.keepIn K (.ref f28) = true)
    {f29 : Addr} {od29 an29 : Option Addr} {sl29 : Array (Option Value)} {oc29 kV29 dc29 pm29 cd29 ct29 : Value}
    (a29 : PySem.W.nsIn K mainGlobals "row_served_by_first" = some (some (.ref f29))) (l29 : K.lookup f29 = some ⟨oc29, od29, .func (PySem.W.fnOf "row_served_by_first" "row_served_by_first" (defArgs s_row_served_by_first) (defBody s_row_served_by_first) (defScope s_row_served_by_first) .none kV29 dc29 pm29 an29 cd29 ct29), sl29⟩) (c29 : PySem.W.codeIn K cd29 "row_served_by_first" = true) (k29 : PySem.W.keepIn K (.ref f29) = true)
    {f30 : Addr} {od30 an30 : Option Addr} {sl30 : Array (Option Value)} {oc30 kV30 dc30 pm30 cd30 ct30 : Value}
    (a30 : PySem.W.nsIn K mainGlobals "row_together" = some (some (.ref f30))) (l30 : K.lookup f30 = some ⟨oc30, od30, .func (PySem.W.fnOf "row_together" "row_together" (defArgs s_row_together) (defBody s_row_together) (defScope s_row_together) .none kV30 dc30 pm30 an30 cd30 ct30), sl30⟩) (c30 : PySem.W.codeIn K cd30 "row_together" = true) (k30 : PySem.W.keepIn K (.ref f30) = true)
    {f31 : Addr} {od31 an31 : Option Addr} {sl31 : Array (Option Value)} {oc31 kV31 dc31 pm31 cd31 ct31 : Value}
    (a31 : PySem.W.nsIn K mainGlobals "shortest_row" = some (some (.ref f31))) (l31 : K.lookup f31 = some ⟨oc31, od31, .func (PySem.W.fnOf "shortest_row" "shortest_row" (defArgs s_shortest_row) (defBody s_shortest_row) (defScope s_shortest_row) .none kV31 dc31 pm31 an31 cd31 ct31), sl31⟩) (c31 : PySem.W.codeIn K cd31 "shortest_row" = true) (k31 : PySem.W.keepIn K (.ref f31) = true)
    {f32 : Addr} {od32 an32 : Option Addr} {sl32 : Array (Option Value)} {oc32 kV32 dc32 pm32 cd32 ct32 : Value}
    (a32 : PySem.W.nsIn K mainGlobals "need_both" = some (some (.ref f32))) (l32 : K.lookup f32 = some ⟨oc32, od32, .func (PySem.W.fnOf "need_both" "need_both" (defArgs s_need_both) (defBody s_need_both) (defScope s_need_both) .none kV32 dc32 pm32 an32 cd32 ct32), sl32⟩) (c32 : PySem.W.codeIn K cd32 "need_both" = true) (k32 : PySem.W.keepIn K (.ref f32) = true)
    {f33 : Addr} {od33 an33 : Option Addr} {sl33 : Array (Option Value)} {oc33 kV33 dc33 pm33 cd33 ct33 : Value}
    (a33 : PySem.W.nsIn K mainGlobals "fewest" = some (some (.ref f33))) (l33 : K.lookup f33 = some ⟨oc33, od33, .func (PySem.W.fnOf "fewest" "fewest" (defArgs s_fewest) (defBody s_fewest) (defScope s_fewest) .none kV33 dc33 pm33 an33 cd33 ct33), sl33⟩) (c33 : PySem.W.codeIn K cd33 "fewest" = true) (k33 : PySem.W.keepIn K (.ref f33) = true)
    {f34 : Addr} {od34 an34 : Option Addr} {sl34 : Array (Option Value)} {oc34 kV34 dc34 pm34 cd34 ct34 : Value}
    (a34 : PySem.W.nsIn K mainGlobals "doing_of" = some (some (.ref f34))) (l34 : K.lookup f34 = some ⟨oc34, od34, .func (PySem.W.fnOf "doing_of" "doing_of" (defArgs s_doing_of) (defBody s_doing_of) (defScope s_doing_of) .none kV34 dc34 pm34 an34 cd34 ct34), sl34⟩) (c34 : PySem.W.codeIn K cd34 "doing_of" = true) (k34 : PySem.W.keepIn K (.ref f34) = true)
    {f35 : Addr} {od35 an35 : Option Addr} {sl35 : Array (Option Value)} {oc35 kV35 dc35 pm35 cd35 ct35 : Value}
    (a35 : PySem.W.nsIn K mainGlobals "is_doing" = some (some (.ref f35))) (l35 : K.lookup f35 = some ⟨oc35, od35, .func (PySem.W.fnOf "is_doing" "is_doing" (defArgs s_is_doing) (defBody s_is_doing) (defScope s_is_doing) .none kV35 dc35 pm35 an35 cd35 ct35), sl35⟩) (c35 : PySem.W.codeIn K cd35 "is_doing" = true) (k35 : PySem.W.keepIn K (.ref f35) = true)
    {f36 : Addr} {od36 an36 : Option Addr} {sl36 : Array (Option Value)} {oc36 kV36 dc36 pm36 cd36 ct36 : Value}
    (a36 : PySem.W.nsIn K mainGlobals "need_doing" = some (some (.ref f36))) (l36 : K.lookup f36 = some ⟨oc36, od36, .func (PySem.W.fnOf "need_doing" "need_doing" (defArgs s_need_doing) (defBody s_need_doing) (defScope s_need_doing) .none kV36 dc36 pm36 an36 cd36 ct36), sl36⟩) (c36 : PySem.W.codeIn K cd36 "need_doing" = true) (k36 : PySem.W.keepIn K (.ref f36) = true)
    {f37 : Addr} {od37 an37 : Option Addr} {sl37 : Array (Option Value)} {oc37 kV37 dc37 pm37 cd37 ct37 : Value}
    (a37 : PySem.W.nsIn K mainGlobals "parted" = some (some (.ref f37))) (l37 : K.lookup f37 = some ⟨oc37, od37, .func (PySem.W.fnOf "parted" "parted" (defArgs s_parted) (defBody s_parted) (defScope s_parted) .none kV37 dc37 pm37 an37 cd37 ct37), sl37⟩) (c37 : PySem.W.codeIn K cd37 "parted" = true) (k37 : PySem.W.keepIn K (.ref f37) = true)
    {f38 : Addr} {od38 an38 : Option Addr} {sl38 : Array (Option Value)} {oc38 kV38 dc38 pm38 cd38 ct38 : Value}
    (a38 : PySem.W.nsIn K mainGlobals "alike" = some (some (.ref f38))) (l38 : K.lookup f38 = some ⟨oc38, od38, .func (PySem.W.fnOf "alike" "alike" (defArgs s_alike) (defBody s_alike) (defScope s_alike) .none kV38 dc38 pm38 an38 cd38 ct38), sl38⟩) (c38 : PySem.W.codeIn K cd38 "alike" = true) (k38 : PySem.W.keepIn K (.ref f38) = true)
    {f39 : Addr} {od39 an39 : Option Addr} {sl39 : Array (Option Value)} {oc39 kV39 dc39 pm39 cd39 ct39 : Value}
    (a39 : PySem.W.nsIn K mainGlobals "choices" = some (some (.ref f39))) (l39 : K.lookup f39 = some ⟨oc39, od39, .func (PySem.W.fnOf "choices" "choices" (defArgs s_choices) (defBody s_choices) (defScope s_choices) .none kV39 dc39 pm39 an39 cd39 ct39), sl39⟩) (c39 : PySem.W.codeIn K cd39 "choices" = true) (k39 : PySem.W.keepIn K (.ref f39) = true)
    {f40 : Addr} {od40 an40 : Option Addr} {sl40 : Array (Option Value)} {oc40 kV40 dc40 pm40 cd40 ct40 : Value}
    (a40 : PySem.W.nsIn K mainGlobals "doings" = some (some (.ref f40))) (l40 : K.lookup f40 = some ⟨oc40, od40, .func (PySem.W.fnOf "doings" "doings" (defArgs s_doings) (defBody s_doings) (defScope s_doings) .none kV40 dc40 pm40 an40 cd40 ct40), sl40⟩) (c40 : PySem.W.codeIn K cd40 "doings" = true) (k40 : PySem.W.keepIn K (.ref f40) = true)
    {f41 : Addr} {od41 an41 : Option Addr} {sl41 : Array (Option Value)} {oc41 kV41 dc41 pm41 cd41 ct41 : Value}
    (a41 : PySem.W.nsIn K mainGlobals "sources" = some (some (.ref f41))) (l41 : K.lookup f41 = some ⟨oc41, od41, .func (PySem.W.fnOf "sources" "sources" (defArgs s_sources) (defBody s_sources) (defScope s_sources) .none kV41 dc41 pm41 an41 cd41 ct41), sl41⟩) (c41 : PySem.W.codeIn K cd41 "sources" = true) (k41 : PySem.W.keepIn K (.ref f41) = true)
    {f42 : Addr} {od42 an42 : Option Addr} {sl42 : Array (Option Value)} {oc42 kV42 dc42 pm42 cd42 ct42 : Value}
    (a42 : PySem.W.nsIn K mainGlobals "with_next_block" = some (some (.ref f42))) (l42 : K.lookup f42 = some ⟨oc42, od42, .func (PySem.W.fnOf "with_next_block" "with_next_block" (defArgs s_with_next_block) (defBody s_with_next_block) (defScope s_with_next_block) .none kV42 dc42 pm42 an42 cd42 ct42), sl42⟩) (c42 : PySem.W.codeIn K cd42 "with_next_block" = true) (k42 : PySem.W.keepIn K (.ref f42) = true)
    {f43 : Addr} {od43 an43 : Option Addr} {sl43 : Array (Option Value)} {oc43 kV43 dc43 pm43 cd43 ct43 : Value}
    (a43 : PySem.W.nsIn K mainGlobals "leading" = some (some (.ref f43))) (l43 : K.lookup f43 = some ⟨oc43, od43, .func (PySem.W.fnOf "leading" "leading" (defArgs s_leading) (defBody s_leading) (defScope s_leading) .none kV43 dc43 pm43 an43 cd43 ct43), sl43⟩) (c43 : PySem.W.codeIn K cd43 "leading" = true) (k43 : PySem.W.keepIn K (.ref f43) = true)
    {f44 : Addr} {od44 an44 : Option Addr} {sl44 : Array (Option Value)} {oc44 kV44 dc44 pm44 cd44 ct44 : Value}
    (a44 : PySem.W.nsIn K mainGlobals "copied" = some (some (.ref f44))) (l44 : K.lookup f44 = some ⟨oc44, od44, .func (PySem.W.fnOf "copied" "copied" (defArgs s_copied) (defBody s_copied) (defScope s_copied) .none kV44 dc44 pm44 an44 cd44 ct44), sl44⟩) (c44 : PySem.W.codeIn K cd44 "copied" = true) (k44 : PySem.W.keepIn K (.ref f44) = true)
    {f45 : Addr} {od45 an45 : Option Addr} {sl45 : Array (Option Value)} {oc45 kV45 dc45 pm45 cd45 ct45 : Value}
    (a45 : PySem.W.findIn K (.ref C_Bench) "__init__" = some (some (.ref f45))) (i45 : PySem.W.isFn K (.ref f45) = true) (l45 : K.lookup f45 = some ⟨oc45, od45, .func (PySem.W.fnOf "__init__" "Bench.__init__" (defArgs s_Bench_init) (defBody s_Bench_init) (defScope s_Bench_init) .none kV45 dc45 pm45 an45 cd45 ct45), sl45⟩) (c45 : PySem.W.codeIn K cd45 "Bench.__init__" = true) (k45 : PySem.W.keepIn K (.ref f45) = true)
    {f46 : Addr} {od46 an46 : Option Addr} {sl46 : Array (Option Value)} {oc46 kV46 dc46 pm46 cd46 ct46 : Value}
    (a46 : PySem.W.findIn K (.ref C_Bench) "push" = some (some (.ref f46))) (i46 : PySem.W.isFn K (.ref f46) = true) (l46 : K.lookup f46 = some ⟨oc46, od46, .func (PySem.W.fnOf "push" "Bench.push" (defArgs s_Bench_push) (defBody s_Bench_push) (defScope s_Bench_push) .none kV46 dc46 pm46 an46 cd46 ct46), sl46⟩) (c46 : PySem.W.codeIn K cd46 "Bench.push" = true) (k46 : PySem.W.keepIn K (.ref f46) = true)
    {f47 : Addr} {od47 an47 : Option Addr} {sl47 : Array (Option Value)} {oc47 kV47 dc47 pm47 cd47 ct47 : Value}
    (a47 : PySem.W.findIn K (.ref C_Bench) "set_wish" = some (some (.ref f47))) (i47 : PySem.W.isFn K (.ref f47) = true) (l47 : K.lookup f47 = some ⟨oc47, od47, .func (PySem.W.fnOf "set_wish" "Bench.set_wish" (defArgs s_Bench_set_wish) (defBody s_Bench_set_wish) (defScope s_Bench_set_wish) .none kV47 dc47 pm47 an47 cd47 ct47), sl47⟩) (c47 : PySem.W.codeIn K cd47 "Bench.set_wish" = true) (k47 : PySem.W.keepIn K (.ref f47) = true)
    {f48 : Addr} {od48 an48 : Option Addr} {sl48 : Array (Option Value)} {oc48 kV48 dc48 pm48 cd48 ct48 : Value}
    (a48 : PySem.W.findIn K (.ref C_Bench) "stand" = some (some (.ref f48))) (i48 : PySem.W.isFn K (.ref f48) = true) (l48 : K.lookup f48 = some ⟨oc48, od48, .func (PySem.W.fnOf "stand" "Bench.stand" (defArgs s_Bench_stand) (defBody s_Bench_stand) (defScope s_Bench_stand) .none kV48 dc48 pm48 an48 cd48 ct48), sl48⟩) (c48 : PySem.W.codeIn K cd48 "Bench.stand" = true) (k48 : PySem.W.keepIn K (.ref f48) = true)
    {f49 : Addr} {od49 an49 : Option Addr} {sl49 : Array (Option Value)} {oc49 kV49 dc49 pm49 cd49 ct49 : Value}
    (a49 : PySem.W.findIn K (.ref C_Bench) "doing" = some (some (.ref f49))) (i49 : PySem.W.isFn K (.ref f49) = true) (l49 : K.lookup f49 = some ⟨oc49, od49, .func (PySem.W.fnOf "doing" "Bench.doing" (defArgs s_Bench_doing) (defBody s_Bench_doing) (defScope s_Bench_doing) .none kV49 dc49 pm49 an49 cd49 ct49), sl49⟩) (c49 : PySem.W.codeIn K cd49 "Bench.doing" = true) (k49 : PySem.W.keepIn K (.ref f49) = true)
    {f50 : Addr} {od50 an50 : Option Addr} {sl50 : Array (Option Value)} {oc50 kV50 dc50 pm50 cd50 ct50 : Value}
    (a50 : PySem.W.findIn K (.ref C_Bench) "pushes" = some (some (.ref f50))) (i50 : PySem.W.isFn K (.ref f50) = true) (l50 : K.lookup f50 = some ⟨oc50, od50, .func (PySem.W.fnOf "pushes" "Bench.pushes" (defArgs s_Bench_pushes) (defBody s_Bench_pushes) (defScope s_Bench_pushes) .none kV50 dc50 pm50 an50 cd50 ct50), sl50⟩) (c50 : PySem.W.codeIn K cd50 "Bench.pushes" = true) (k50 : PySem.W.keepIn K (.ref f50) = true)
    {f51 : Addr} {od51 an51 : Option Addr} {sl51 : Array (Option Value)} {oc51 kV51 dc51 pm51 cd51 ct51 : Value}
    (a51 : PySem.W.findIn K (.ref C_Bench) "fewest" = some (some (.ref f51))) (i51 : PySem.W.isFn K (.ref f51) = true) (l51 : K.lookup f51 = some ⟨oc51, od51, .func (PySem.W.fnOf "fewest" "Bench.fewest" (defArgs s_Bench_fewest) (defBody s_Bench_fewest) (defScope s_Bench_fewest) .none kV51 dc51 pm51 an51 cd51 ct51), sl51⟩) (c51 : PySem.W.codeIn K cd51 "Bench.fewest" = true) (k51 : PySem.W.keepIn K (.ref f51) = true)
    {f52 : Addr} {od52 an52 : Option Addr} {sl52 : Array (Option Value)} {oc52 kV52 dc52 pm52 cd52 ct52 : Value}
    (a52 : PySem.W.findIn K (.ref C_Bench) "__len__" = some (some (.ref f52))) (i52 : PySem.W.isFn K (.ref f52) = true) (l52 : K.lookup f52 = some ⟨oc52, od52, .func (PySem.W.fnOf "__len__" "Bench.__len__" (defArgs s_Bench_len) (defBody s_Bench_len) (defScope s_Bench_len) .none kV52 dc52 pm52 an52 cd52 ct52), sl52⟩) (c52 : PySem.W.codeIn K cd52 "Bench.__len__" = true) (k52 : PySem.W.keepIn K (.ref f52) = true)
    {f53 : Addr} {od53 an53 : Option Addr} {sl53 : Array (Option Value)} {oc53 kV53 dc53 pm53 cd53 ct53 : Value}
    (a53 : PySem.W.findIn K (.ref C_Bench) "__eq__" = some (some (.ref f53))) (i53 : PySem.W.isFn K (.ref f53) = true) (l53 : K.lookup f53 = some ⟨oc53, od53, .func (PySem.W.fnOf "__eq__" "Bench.__eq__" (defArgs s_Bench_eq) (defBody s_Bench_eq) (defScope s_Bench_eq) .none kV53 dc53 pm53 an53 cd53 ct53), sl53⟩) (c53 : PySem.W.codeIn K cd53 "Bench.__eq__" = true) (k53 : PySem.W.keepIn K (.ref f53) = true)
    {f54 : Addr} {od54 an54 : Option Addr} {sl54 : Array (Option Value)} {oc54 kV54 dc54 pm54 cd54 ct54 : Value}
    (a54 : PySem.W.nsIn K mainGlobals "_law_deck" = some (some (.ref f54))) (l54 : K.lookup f54 = some ⟨oc54, od54, .func (PySem.W.fnOf "_law_deck" "_law_deck" (defArgs s_law_deck) (defBody s_law_deck) (defScope s_law_deck) .none kV54 dc54 pm54 an54 cd54 ct54), sl54⟩) (c54 : PySem.W.codeIn K cd54 "_law_deck" = true) (k54 : PySem.W.keepIn K (.ref f54) = true)
    {f55 : Addr} {od55 an55 : Option Addr} {sl55 : Array (Option Value)} {oc55 kV55 dc55 pm55 cd55 ct55 : Value}
    (a55 : PySem.W.nsIn K mainGlobals "_law_pick" = some (some (.ref f55))) (l55 : K.lookup f55 = some ⟨oc55, od55, .func (PySem.W.fnOf "_law_pick" "_law_pick" (defArgs s_law_pick) (defBody s_law_pick) (defScope s_law_pick) .none kV55 dc55 pm55 an55 cd55 ct55), sl55⟩) (c55 : PySem.W.codeIn K cd55 "_law_pick" = true) (k55 : PySem.W.keepIn K (.ref f55) = true)
    {f56 : Addr} {od56 an56 : Option Addr} {sl56 : Array (Option Value)} {oc56 kV56 dc56 pm56 cd56 ct56 : Value}
    (a56 : PySem.W.nsIn K mainGlobals "_law_stand_of" = some (some (.ref f56))) (l56 : K.lookup f56 = some ⟨oc56, od56, .func (PySem.W.fnOf "_law_stand_of" "_law_stand_of" (defArgs s_law_stand_of) (defBody s_law_stand_of) (defScope s_law_stand_of) .none kV56 dc56 pm56 an56 cd56 ct56), sl56⟩) (c56 : PySem.W.codeIn K cd56 "_law_stand_of" = true) (k56 : PySem.W.keepIn K (.ref f56) = true)
    {f57 : Addr} {od57 an57 : Option Addr} {sl57 : Array (Option Value)} {oc57 kV57 dc57 pm57 cd57 ct57 : Value}
    (a57 : PySem.W.nsIn K mainGlobals "_law_stood" = some (some (.ref f57))) (l57 : K.lookup f57 = some ⟨oc57, od57, .func (PySem.W.fnOf "_law_stood" "_law_stood" (defArgs s_law_stood) (defBody s_law_stood) (defScope s_law_stood) .none kV57 dc57 pm57 an57 cd57 ct57), sl57⟩) (c57 : PySem.W.codeIn K cd57 "_law_stood" = true) (k57 : PySem.W.keepIn K (.ref f57) = true)
    {f58 : Addr} {od58 an58 : Option Addr} {sl58 : Array (Option Value)} {oc58 kV58 dc58 pm58 cd58 ct58 : Value}
    (a58 : PySem.W.nsIn K mainGlobals "_law_fewest_right" = some (some (.ref f58))) (l58 : K.lookup f58 = some ⟨oc58, od58, .func (PySem.W.fnOf "_law_fewest_right" "_law_fewest_right" (defArgs s_law_fewest_right) (defBody s_law_fewest_right) (defScope s_law_fewest_right) .none kV58 dc58 pm58 an58 cd58 ct58), sl58⟩) (c58 : PySem.W.codeIn K cd58 "_law_fewest_right" = true) (k58 : PySem.W.keepIn K (.ref f58) = true)
    {f59 : Addr} {od59 an59 : Option Addr} {sl59 : Array (Option Value)} {oc59 kV59 dc59 pm59 cd59 ct59 : Value}
    (a59 : PySem.W.nsIn K mainGlobals "law" = some (some (.ref f59))) (l59 : K.lookup f59 = some ⟨oc59, od59, .func (PySem.W.fnOf "law" "law" (defArgs s_law) (defBody s_law) (defScope s_law) .none kV59 dc59 pm59 an59 cd59 ct59), sl59⟩) (c59 : PySem.W.codeIn K cd59 "law" = true) (k59 : PySem.W.keepIn K (.ref f59) = true)
    (aC_Band : PySem.W.nsIn K mainGlobals "Band" = some (some (.ref C_Band))) (pg_Band : PySem.W.plainGet K C_Band Str.empty = true) (hd_Band : PySem.W.hasDictIn K C_Band = true) (po_Band : PySem.W.plainOver K C_Band = true) (sa_Band : PySem.W.findIn K (.ref C_Band) "__setattr__" = some (some (.builtin "object.__setattr__"))) (mk_Band : PySem.W.makesIn K C_Band = true) (kc_Band : PySem.W.keepIn K (.ref C_Band) = true)
    (na_Band_first : PySem.W.findIn K (.ref C_Band) "first" = some none)
    (na_Band_beyond : PySem.W.findIn K (.ref C_Band) "beyond" = some none)
    (na_Band_place : PySem.W.findIn K (.ref C_Band) "place" = some none)
    (na_Band_up : PySem.W.findIn K (.ref C_Band) "up" = some none)
    (na_Band_down : PySem.W.findIn K (.ref C_Band) "down" = some none)
    (aC_Bench : PySem.W.nsIn K mainGlobals "Bench" = some (some (.ref C_Bench))) (pg_Bench : PySem.W.plainGet K C_Bench Str.empty = true) (hd_Bench : PySem.W.hasDictIn K C_Bench = true) (po_Bench : PySem.W.plainOver K C_Bench = true) (sa_Bench : PySem.W.findIn K (.ref C_Bench) "__setattr__" = some (some (.builtin "object.__setattr__"))) (mk_Bench : PySem.W.makesIn K C_Bench = true) (kc_Bench : PySem.W.keepIn K (.ref C_Bench) = true)
    (na_Bench_shelf : PySem.W.findIn K (.ref C_Bench) "shelf" = some none)
    (na_Bench_now : PySem.W.findIn K (.ref C_Bench) "now" = some none)
    (na_Bench_least : PySem.W.findIn K (.ref C_Bench) "least" = some none)
    (na_Bench_greatest : PySem.W.findIn K (.ref C_Bench) "greatest" = some none)
    (na_Bench_many : PySem.W.findIn K (.ref C_Bench) "many" = some none)
    (na_Bench_wish : PySem.W.findIn K (.ref C_Bench) "wish" = some none)
    (z_all : PySem.W.nsIn K mainGlobals "all" = some none)
    (z_bool : PySem.W.nsIn K mainGlobals "bool" = some none)
    (z_enumerate : PySem.W.nsIn K mainGlobals "enumerate" = some none)
    (z_int : PySem.W.nsIn K mainGlobals "int" = some none)
    (z_isinstance : PySem.W.nsIn K mainGlobals "isinstance" = some none)
    (z_len : PySem.W.nsIn K mainGlobals "len" = some none)
    (z_list : PySem.W.nsIn K mainGlobals "list" = some none)
    (z_max : PySem.W.nsIn K mainGlobals "max" = some none)
    (z_min : PySem.W.nsIn K mainGlobals "min" = some none)
    (z_range : PySem.W.nsIn K mainGlobals "range" = some none)
    (z_reversed : PySem.W.nsIn K mainGlobals "reversed" = some none)
    (z_sum : PySem.W.nsIn K mainGlobals "sum" = some none)
    (z_tuple : PySem.W.nsIn K mainGlobals "tuple" = some none)
    (z_zip : PySem.W.nsIn K mainGlobals "zip" = some none)
    {t_MOST_BLOCKS : Tok} (v_MOST_BLOCKS : PySem.W.nsIn K mainGlobals "MOST_BLOCKS" = some (some (.int 8 t_MOST_BLOCKS)))
    {t_MOST_LENGTH : Tok} (v_MOST_LENGTH : PySem.W.nsIn K mainGlobals "MOST_LENGTH" = some (some (.int 50 t_MOST_LENGTH)))
    {t_MOST_PLAY : Tok} (v_MOST_PLAY : PySem.W.nsIn K mainGlobals "MOST_PLAY" = some (some (.int 400 t_MOST_PLAY)))
    {t_MOST_PUSHES : Tok} (v_MOST_PUSHES : PySem.W.nsIn K mainGlobals "MOST_PUSHES" = some (some (.int 200 t_MOST_PUSHES)))
    : ∃ fd : FuncData, (∀ (s : Shared) (v : Value), BindsTo s fd ⟨[v], []⟩ [("script", v)]) ∧ ∀ base : Heap, K.In base → base.Ns mainGlobals mg → FnOk l.prog w K mg base CX0 11 fa fd ["script"] (sp_law K) := by
  have e := hfa.symm.trans (PySem.W.mg_of X G a59)
  cases e
  have T : Tx K mg := {
    F_is_whole := fun_mk (st := s_is_whole) l0 c0 k0
    g_is_whole := PySem.W.mg_of X G a0
    F_is_within := fun_mk (st := s_is_within) l1 c1 k1
    g_is_within := PySem.W.mg_of X G a1
    F_is_tuple_of := fun_mk (st := s_is_tuple_of) l2 c2 k2
    g_is_tuple_of := PySem.W.mg_of X G a2
    F_are_blocks := fun_mk (st := s_are_blocks) l3 c3 k3
    g_are_blocks := PySem.W.mg_of X G a3
    F_is_shelf := fun_mk (st := s_is_shelf) l4 c4 k4
    g_is_shelf := PySem.W.mg_of X G a4
    F_need_shelf := fun_mk (st := s_need_shelf) l5 c5 k5
    g_need_shelf := PySem.W.mg_of X G a5
    F_play_of := fun_mk (st := s_play_of) l6 c6 k6
    g_play_of := PySem.W.mg_of X G a6
    F_gap_length := fun_mk (st := s_gap_length) l7 c7 k7
    g_gap_length := PySem.W.mg_of X G a7
    F_places_of := fun_mk (st := s_places_of) l8 c8 k8
    g_places_of := PySem.W.mg_of X G a8
    F_packed := fun_mk (st := s_packed) l9 c9 k9
    g_packed := PySem.W.mg_of X G a9
    F_leftmost := fun_mk (st := s_leftmost) l10 c10 k10
    g_leftmost := PySem.W.mg_of X G a10
    F_rightmost := fun_mk (st := s_rightmost) l11 c11 k11
    g_rightmost := PySem.W.mg_of X G a11
    F_is_stand := fun_mk (st := s_is_stand) l12 c12 k12
    g_is_stand := PySem.W.mg_of X G a12
    F_need_stand := fun_mk (st := s_need_stand) l13 c13 k13
    g_need_stand := PySem.W.mg_of X G a13
    F_is_gap := fun_mk (st := s_is_gap) l14 c14 k14
    g_is_gap := PySem.W.mg_of X G a14
    F_is_push := fun_mk (st := s_is_push) l15 c15 k15
    g_is_push := PySem.W.mg_of X G a15
    F_is_row := fun_mk (st := s_is_row) l16 c16 k16
    g_is_row := PySem.W.mg_of X G a16
    F_need_row := fun_mk (st := s_need_row) l17 c17 k17
    g_need_row := PySem.W.mg_of X G a17
    F_pushed_right := fun_mk (st := s_pushed_right) l18 c18 k18
    g_pushed_right := PySem.W.mg_of X G a18
    F_pushed_left := fun_mk (st := s_pushed_left) l19 c19 k19
    g_pushed_left := PySem.W.mg_of X G a19
    F_pushed := fun_mk (st := s_pushed) l20 c20 k20
    g_pushed := PySem.W.mg_of X G a20
    F_done := fun_mk (st := s_done) l21 c21 k21
    g_done := PySem.W.mg_of X G a21
    F_Band_init := fun_mk (st := s_Band_init) l22 c22 k22
    F_band_from := fun_mk (st := s_band_from) l23 c23 k23
    g_band_from := PySem.W.mg_of X G a23
    F_bands_of := fun_mk (st := s_bands_of) l24 c24 k24
    g_bands_of := PySem.W.mg_of X G a24
    F_raised := fun_mk (st := s_raised) l25 c25 k25
    g_raised := PySem.W.mg_of X G a25
    F_lowered := fun_mk (st := s_lowered) l26 c26 k26
    g_lowered := PySem.W.mg_of X G a26
    F_row_alone := fun_mk (st := s_row_alone) l27 c27 k27
    g_row_alone := PySem.W.mg_of X G a27
    F_row_served_by_last := fun_mk (st := s_row_served_by_last) l28 c28 k28
    g_row_served_by_last := PySem.W.mg_of X G a28
    F_row_served_by_first := fun_mk (st := s_row_served_by_first) l29 c29 k29
    g_row_served_by_first := PySem.W.mg_of X G a29
    F_row_together := fun_mk (st := s_row_together) l30 c30 k30
    g_row_together := PySem.W.mg_of X G a30
    F_shortest_row := fun_mk (st := s_shortest_row) l31 c31 k31
    g_shortest_row := PySem.W.mg_of X G a31
    F_need_both := fun_mk (st := s_need_both) l32 c32 k32
    g_need_both := PySem.W.mg_of X G a32
    F_fewest := fun_mk (st := s_fewest) l33 c33 k33
    g_fewest := PySem.W.mg_of X G a33
    F_doing_of := fun_mk (st := s_doing_of) l34 c34 k34
    g_doing_of := PySem.W.mg_of X G a34
    F_is_doing := fun_mk (st := s_is_doing) l35 c35 k35
    g_is_doing := PySem.W.mg_of X G a35
    F_need_doing := fun_mk (st := s_need_doing) l36 c36 k36
    g_need_doing := PySem.W.mg_of X G a36
    F_parted := fun_mk (st := s_parted) l37 c37 k37
    g_parted := PySem.W.mg_of X G a37
    F_alike := fun_mk (st := s_alike) l38 c38 k38
    g_alike := PySem.W.mg_of X G a38
    F_choices := fun_mk (st := s_choices) l39 c39 k39
    g_choices := PySem.W.mg_of X G a39
    F_doings := fun_mk (st := s_doings) l40 c40 k40
    g_doings := PySem.W.mg_of X G a40
    F_sources := fun_mk (st := s_sources) l41 c41 k41
    g_sources := PySem.W.mg_of X G a41
    F_with_next_block := fun_mk (st := s_with_next_block) l42 c42 k42
    g_with_next_block := PySem.W.mg_of X G a42
    F_leading := fun_mk (st := s_leading) l43 c43 k43
    g_leading := PySem.W.mg_of X G a43
    F_copied := fun_mk (st := s_copied) l44 c44 k44
    g_copied := PySem.W.mg_of X G a44
    F_Bench_init := fun_mk (st := s_Bench_init) l45 c45 k45
    F_Bench_push := fun_mk (st := s_Bench_push) l46 c46 k46
    F_Bench_set_wish := fun_mk (st := s_Bench_set_wish) l47 c47 k47
    F_Bench_stand := fun_mk (st := s_Bench_stand) l48 c48 k48
    F_Bench_doing := fun_mk (st := s_Bench_doing) l49 c49 k49
    F_Bench_pushes := fun_mk (st := s_Bench_pushes) l50 c50 k50
    F_Bench_fewest := fun_mk (st := s_Bench_fewest) l51 c51 k51
    F_Bench_len := fun_mk (st := s_Bench_len) l52 c52 k52
    F_Bench_eq := fun_mk (st := s_Bench_eq) l53 c53 k53
    F_law_deck := fun_mk (st := s_law_deck) l54 c54 k54
    g_law_deck := PySem.W.mg_of X G a54
    F_law_pick := fun_mk (st := s_law_pick) l55 c55 k55
    g_law_pick := PySem.W.mg_of X G a55
    F_law_stand_of := fun_mk (st := s_law_stand_of) l56 c56 k56
    g_law_stand_of := PySem.W.mg_of X G a56
    F_law_stood := fun_mk (st := s_law_stood) l57 c57 k57
    g_law_stood := PySem.W.mg_of X G a57
    F_law_fewest_right := fun_mk (st := s_law_fewest_right) l58 c58 k58
    g_law_fewest_right := PySem.W.mg_of X G a58
    cl_Band := ⟨pg_Band, hd_Band, po_Band, sa_Band⟩
    g_Band := PySem.W.mg_of X G aC_Band
    mk_Band := ⟨mk_Band, a22, i22, kc_Band⟩
    na_Band_first := na_Band_first
    na_Band_beyond := na_Band_beyond
    na_Band_place := na_Band_place
    na_Band_up := na_Band_up
    na_Band_down := na_Band_down
    cl_Bench := ⟨pg_Bench, hd_Bench, po_Bench, sa_Bench⟩
    g_Bench := PySem.W.mg_of X G aC_Bench
    mk_Bench := ⟨mk_Bench, a45, i45, kc_Bench⟩
    me_Bench_push := ⟨a46, i46, k46⟩
    me_Bench_set_wish := ⟨a47, i47, k47⟩
    me_Bench_stand := ⟨a48, i48, k48⟩
    me_Bench_doing := ⟨a49, i49, k49⟩
    me_Bench_pushes := ⟨a50, i50, k50⟩
    me_Bench_fewest := ⟨a51, i51, k51⟩
    me_Bench_len := ⟨a52, i52, k52⟩
    me_Bench_eq := ⟨a53, i53, k53⟩
    na_Bench_shelf := na_Bench_shelf
    na_Bench_now := na_Bench_now
    na_Bench_least := na_Bench_least
    na_Bench_greatest := na_Bench_greatest
    na_Bench_many := na_Bench_many
    na_Bench_wish := na_Bench_wish
    n_all := PySem.W.mg_none_of X G z_all
    n_bool := PySem.W.mg_none_of X G z_bool
    n_enumerate := PySem.W.mg_none_of X G z_enumerate
    n_int := PySem.W.mg_none_of X G z_int
    n_isinstance := PySem.W.mg_none_of X G z_isinstance
    n_len := PySem.W.mg_none_of X G z_len
    n_list := PySem.W.mg_none_of X G z_list
    n_max := PySem.W.mg_none_of X G z_max
    n_min := PySem.W.mg_none_of X G z_min
    n_range := PySem.W.mg_none_of X G z_range
    n_reversed := PySem.W.mg_none_of X G z_reversed
    n_sum := PySem.W.mg_none_of X G z_sum
    n_tuple := PySem.W.mg_none_of X G z_tuple
    n_zip := PySem.W.mg_none_of X G z_zip
    c_MOST_BLOCKS := ⟨⟨_, rfl⟩, PySem.W.mg_of X G v_MOST_BLOCKS⟩
    c_MOST_LENGTH := ⟨⟨_, rfl⟩, PySem.W.mg_of X G v_MOST_LENGTH⟩
    c_MOST_PLAY := ⟨⟨_, rfl⟩, PySem.W.mg_of X G v_MOST_PLAY⟩
    c_MOST_PUSHES := ⟨⟨_, rfl⟩, PySem.W.mg_of X G v_MOST_PUSHES⟩ }
  exact ⟨PySem.W.fnOf "law" "law" (defArgs s_law) (defBody s_law) (defScope s_law) .none kV59 dc59 pm59 an59 cd59 ct59, fun s v => .of_eq rfl, fun base _ _ => ok_law (fun_mk (st := s_law) l59 c59 k59) T⟩
end PS
open PySem PySem.W PyProof.Rows
set_option maxHeartbeats 0 in
theorem PySem.Challenge.cw_pushshelf_k13_whole_small_shelves_by_wor_holds : PySem.Challenge.rw_pushshelf_k13_whole_small_shelves_by_wor.Holds := by
  w_on; o_law; k_head; (case hw => w_witness2)
  k_fill
  refine L2.walk_of (l := PySem.Challenge.rw_pushshelf_k13_whole_small_shelves_by_wor) (n := 63) (k := 11) (x := "script") (CX := fun _ => L2.CX0) (sp := fun w => PS.sp_law _) rfl (by decide) rfl ⟨rfl, by decide, by decide⟩ (fun w h Y => PySem.W.kIn_of Y) ?F (fun _ _ a ns hl _ hS => ⟨a, ns, rfl, hS, hl, fun _ => rfl⟩) (fun _ _ _ _ _ h => h)
  case F =>
    intro w mg fa h KX G hmg
    refine' PS.all_mk KX G hmg ?a0 ?l0 ?c0 ?k0 ?a1 ?l1 ?c1 ?k1 ?a2 ?l2 ?c2 ?k2 ?a3 ?l3 ?c3 ?k3 ?a4 ?l4 ?c4 ?k4 ?a5 ?l5 ?c5 ?k5 ?a6 ?l6 ?c6 ?k6 ?a7 ?l7 ?c7 ?k7 ?a8 ?l8 ?c8 ?k8 ?a9 ?l9 ?c9 ?k9 ?a10 ?l10 ?c10 ?k10 ?a11 ?l11 ?c11 ?k11 ?a12 ?l12 ?c12 ?k12 ?a13 ?l13 ?c13 ?k13 ?a14 ?l14 ?c14 ?k14 ?a15 ?l15 ?c15 ?k15 ?a16 ?l16 ?c16 ?k16 ?a17 ?l17 ?c17 ?k17 ?a18 ?l18 ?c18 ?k18 ?a19 ?l19 ?c19 ?k19 ?a20 ?l20 ?c20 ?k20 ?a21 ?l21 ?c21 ?k21 ?a22 ?i22 ?l22 ?c22 ?k22 ?a23 ?l23 ?c23 ?k23 ?a24 ?l24 ?c24 ?k24 ?a25 ?l25 ?c25 ?k25 ?a26 ?l26 ?c26 ?k26 ?a27 ?l27 ?c27 ?k27 ?a28 ?l28 ?c28 ?k28 ?a29 ?l29 ?c29 ?k29 ?a30 ?l30 ?c30 ?k30 ?a31 ?l31 ?c31 ?k31 ?a32 ?l32 ?c32 ?k32 ?a33 ?l33 ?c33 ?k33 ?a34 ?l34 ?c34 ?k34 ?a35 ?l35 ?c35 ?k35 ?a36 ?l36 ?c36 ?k36 ?a37 ?l37 ?c37 ?k37 ?a38 ?l38 ?c38 ?k38 ?a39 ?l39 ?c39 ?k39 ?a40 ?l40 ?c40 ?k40 ?a41 ?l41 ?c41 ?k41 ?a42 ?l42 ?c42 ?k42 ?a43 ?l43 ?c43 ?k43 ?a44 ?l44 ?c44 ?k44 ?a45 ?i45 ?l45 ?c45 ?k45 ?a46 ?i46 ?l46 ?c46 ?k46 ?a47 ?i47 ?l47 ?c47 ?k47 ?a48 ?i48 ?l48 ?c48 ?k48 ?a49 ?i49 ?l49 ?c49 ?k49 ?a50 ?i50 ?l50 ?c50 ?k50 ?a51 ?i51 ?l51 ?c51 ?k51 ?a52 ?i52 ?l52 ?c52 ?k52 ?a53 ?i53 ?l53 ?c53 ?k53 ?a54 ?l54 ?c54 ?k54 ?a55 ?l55 ?c55 ?k55 ?a56 ?l56 ?c56 ?k56 ?a57 ?l57 ?c57 ?k57 ?a58 ?l58 ?c58 ?k58 ?a59 ?l59 ?c59 ?k59 ?aC_Band ?pg_Band ?hd_Band ?po_Band ?sa_Band ?mk_Band ?kc_Band ?na_Band_first ?na_Band_beyond ?na_Band_place ?na_Band_up ?na_Band_down ?aC_Bench ?pg_Bench ?hd_Bench ?po_Bench ?sa_Bench ?mk_Bench ?kc_Bench ?na_Bench_shelf ?na_Bench_now ?na_Bench_least ?na_Bench_greatest ?na_Bench_many ?na_Bench_wish ?z_all ?z_bool ?z_enumerate ?z_int ?z_isinstance ?z_len ?z_list ?z_max ?z_min ?z_range ?z_reversed ?z_sum ?z_tuple ?z_zip ?v_MOST_BLOCKS ?v_MOST_LENGTH ?v_MOST_PLAY ?v_MOST_PUSHES
    (case aC_Band => k_is); (case aC_Bench => k_is); (case a0 => k_is); (case l0 => k_is); (case c0 => k_is); (case k0 => k_is); (case a1 => k_is); (case l1 => k_is); (case c1 => k_is); (case k1 => k_is); (case a2 => k_is); (case l2 => k_is); (case c2 => k_is); (case k2 => k_is); (case a3 => k_is); (case l3 => k_is); (case c3 => k_is); (case k3 => k_is); (case a4 => k_is); (case l4 => k_is); (case c4 => k_is); (case k4 => k_is); (case a5 => k_is); (case l5 => k_is); (case c5 => k_is); (case k5 => k_is); (case a6 => k_is); (case l6 => k_is); (case c6 => k_is); (case k6 => k_is); (case a7 => k_is); (case l7 => k_is); (case c7 => k_is); (case k7 => k_is); (case a8 => k_is); (case l8 => k_is); (case c8 => k_is); (case k8 => k_is); (case a9 => k_is); (case l9 => k_is); (case c9 => k_is); (case k9 => k_is); (case a10 => k_is); (case l10 => k_is); (case c10 => k_is); (case k10 => k_is); (case a11 => k_is); (case l11 => k_is); (case c11 => k_is); (case k11 => k_is); (case a12 => k_is); (case l12 => k_is); (case c12 => k_is); (case k12 => k_is); (case a13 => k_is); (case l13 => k_is); (case c13 => k_is); (case k13 => k_is); (case a14 => k_is); (case l14 => k_is); (case c14 => k_is); (case k14 => k_is); (case a15 => k_is); (case l15 => k_is); (case c15 => k_is); (case k15 => k_is); (case a16 => k_is); (case l16 => k_is); (case c16 => k_is); (case k16 => k_is); (case a17 => k_is); (case l17 => k_is); (case c17 => k_is); (case k17 => k_is); (case a18 => k_is); (case l18 => k_is); (case c18 => k_is); (case k18 => k_is); (case a19 => k_is); (case l19 => k_is); (case c19 => k_is); (case k19 => k_is); (case a20 => k_is); (case l20 => k_is); (case c20 => k_is); (case k20 => k_is); (case a21 => k_is); (case l21 => k_is); (case c21 => k_is); (case k21 => k_is); (case a22 => k_is); (case i22 => k_is); (case l22 => k_is); (case c22 => k_is); (case k22 => k_is); (case a23 => k_is); (case l23 => k_is); (case c23 => k_is); (case k23 => k_is); (case a24 => k_is); (case l24 => k_is); (case c24 => k_is); (case k24 => k_is); (case a25 => k_is); (case l25 => k_is); (case c25 => k_is); (case k25 => k_is); (case a26 => k_is); (case l26 => k_is); (case c26 => k_is); (case k26 => k_is); (case a27 => k_is); (case l27 => k_is); (case c27 => k_is); (case k27 => k_is); (case a28 => k_is); (case l28 => k_is); (case c28 => k_is); (case k28 => k_is); (case a29 => k_is); (case l29 => k_is); (case c29 => k_is); (case k29 => k_is); (case a30 => k_is); (case l30 => k_is); (case c30 => k_is); (case k30 => k_is); (case a31 => k_is); (case l31 => k_is); (case c31 => k_is); (case k31 => k_is); (case a32 => k_is); (case l32 => k_is); (case c32 => k_is); (case k32 => k_is); (case a33 => k_is); (case l33 => k_is); (case c33 => k_is); (case k33 => k_is); (case a34 => k_is); (case l34 => k_is); (case c34 => k_is); (case k34 => k_is); (case a35 => k_is); (case l35 => k_is); (case c35 => k_is); (case k35 => k_is); (case a36 => k_is); (case l36 => k_is); (case c36 => k_is); (case k36 => k_is); (case a37 => k_is); (case l37 => k_is); (case c37 => k_is); (case k37 => k_is); (case a38 => k_is); (case l38 => k_is); (case c38 => k_is); (case k38 => k_is); (case a39 => k_is); (case l39 => k_is); (case c39 => k_is); (case k39 => k_is); (case a40 => k_is); (case l40 => k_is); (case c40 => k_is); (case k40 => k_is); (case a41 => k_is); (case l41 => k_is); (case c41 => k_is); (case k41 => k_is); (case a42 => k_is); (case l42 => k_is); (case c42 => k_is); (case k42 => k_is); (case a43 => k_is); (case l43 => k_is); (case c43 => k_is); (case k43 => k_is); (case a44 => k_is); (case l44 => k_is); (case c44 => k_is); (case k44 => k_is); (case a45 => k_is); (case i45 => k_is); (case l45 => k_is); (case c45 => k_is); (case k45 => k_is); (case a46 => k_is); (case i46 => k_is); (case l46 => k_is); (case c46 => k_is); (case k46 => k_is); (case a47 => k_is); (case i47 => k_is); (case l47 => k_is); (case c47 => k_is); (case k47 => k_is); (case a48 => k_is); (case i48 => k_is); (case l48 => k_is); (case c48 => k_is); (case k48 => k_is); (case a49 => k_is); (case i49 => k_is); (case l49 => k_is); (case c49 => k_is); (case k49 => k_is); (case a50 => k_is); (case i50 => k_is); (case l50 => k_is); (case c50 => k_is); (case k50 => k_is); (case a51 => k_is); (case i51 => k_is); (case l51 => k_is); (case c51 => k_is); (case k51 => k_is); (case a52 => k_is); (case i52 => k_is); (case l52 => k_is); (case c52 => k_is); (case k52 => k_is); (case a53 => k_is); (case i53 => k_is); (case l53 => k_is); (case c53 => k_is); (case k53 => k_is); (case a54 => k_is); (case l54 => k_is); (case c54 => k_is); (case k54 => k_is); (case a55 => k_is); (case l55 => k_is); (case c55 => k_is); (case k55 => k_is); (case a56 => k_is); (case l56 => k_is); (case c56 => k_is); (case k56 => k_is); (case a57 => k_is); (case l57 => k_is); (case c57 => k_is); (case k57 => k_is); (case a58 => k_is); (case l58 => k_is); (case c58 => k_is); (case k58 => k_is); (case a59 => k_is); (case l59 => k_is); (case c59 => k_is); (case k59 => k_is); (case pg_Band => k_is); (case hd_Band => k_is); (case po_Band => k_is); (case sa_Band => k_is); (case mk_Band => k_is); (case kc_Band => k_is); (case na_Band_first => k_is); (case na_Band_beyond => k_is); (case na_Band_place => k_is); (case na_Band_up => k_is); (case na_Band_down => k_is); (case pg_Bench => k_is); (case hd_Bench => k_is); (case po_Bench => k_is); (case sa_Bench => k_is); (case mk_Bench => k_is); (case kc_Bench => k_is); (case na_Bench_shelf => k_is); (case na_Bench_now => k_is); (case na_Bench_least => k_is); (case na_Bench_greatest => k_is); (case na_Bench_many => k_is); (case na_Bench_wish => k_is); (case z_all => k_is); (case z_bool => k_is); (case z_enumerate => k_is); (case z_int => k_is); (case z_isinstance => k_is); (case z_len => k_is); (case z_list => k_is); (case z_max => k_is); (case z_min => k_is); (case z_range => k_is); (case z_reversed => k_is); (case z_sum => k_is); (case z_tuple => k_is); (case z_zip => k_is); (case v_MOST_BLOCKS => k_is); (case v_MOST_LENGTH => k_is); (case v_MOST_PLAY => k_is); (case v_MOST_PUSHES => k_is)



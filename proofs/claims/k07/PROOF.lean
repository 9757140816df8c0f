import PyProof.Rows.All
import Wide.All
import OpenK.AllK
import Wide.FinOn
import HandS.ForMost
import HandS.IsInst
import HandS.TupAny
import HandS.RevRange
import HandS.Walk
import HandS.Zip
import HandS.SortInts
import KE.GoesNew
import KE.DataEq
import HandS.Deep
import HandS.Wide
import HandS.NoneIn
import HandS.Style
import PySem.Challenge.RW_pushshelf_k07_whole_counted_at_any_size
set_option Elab.async false
set_option linter.all false
set_option maxRecDepth 100000
set_option maxHeartbeats 8000000
namespace PS
open PySem PySem.Spec PyProof.Rows L2

/-! ### lists and tuples at once -/
def SqK (b : Bool) (K : PySem.W.Frag) (H : Hp) (a : Addr) (xs : List V) : Prop := match b with
  | true => SqL K H a xs
  | false => SqT K H a xs
def IsK (b : Bool) (h : Heap) (a : Addr) (its : Array Value) : Prop := match b with
  | true => h.IsList a its
  | false => h.IsTuple a its
def ItK (b : Bool) (h : Heap) (it a : Addr) (i : Nat) : Prop := match b with
  | true => h.IsListIter it a i
  | false => h.IsTupleIter it a i
def itO (b : Bool) (a : Addr) : Obj := match b with
  | true => { cls := .type "list_iterator", data := .fields #[.ref a, .int 0 0] }
  | false => { cls := .type "tuple_iterator", data := .fields #[.ref a, .int 0 0] }
theorem beginsK (b : Bool) (a : Addr) (its : Array Value) : Begins (.ref a) (itO b a) (fun h => IsK b h a its) := by
  cases b
  · exact begins_tuple a its
  · exact begins_list a its
theorem drawsK {prog : Program} {w : World} {A : Around} (b : Bool) (hh : A.handled = none) (it a : Addr) (hne : a ≠ it) (its : Array Value) :
    Draws prog w A it [it, a] its.size (fun i v => its[i]? = some v) (fun i h => ItK b h it a i ∧ IsK b h a its) := by
  cases b
  · exact Draws.tuple hh it a hne its
  · exact Draws.list hh it a hne its
theorem seqK {X : Cx} {pins : List (Addr × Obj)} {σ : L2.St} {H : Hp} {s : Shared} {b : Bool} {a : Addr} {xs : List V} (I : Inv X pins σ H s) (h : SqK b X.K H a xs) :
    ∃ its : List Value, Vals xs its ∧ IsK b s.heap a its.toArray ∧ a < s.heap.objs.size := by
  cases b
  · obtain ⟨its, r, p, _⟩ := I.tuple h
    exact ⟨its, r, p, p.lt⟩
  · obtain ⟨its, r, p, _⟩ := I.list h
    exact ⟨its, r, p.isList, p.lt⟩
theorem seqK_inj {X : Cx} {pins : List (Addr × Obj)} {σ : L2.St} {H : Hp} {s : Shared} {b : Bool} {a : Addr} {xs ys : List V} (I : Inv X pins σ H s) (h : SqK b X.K H a xs) (h' : SqK b X.K H a ys) : xs = ys := by
  cases b
  · exact I.tuple_inj h h'
  · exact I.list_inj h h'
theorem itK_obj {b : Bool} {h : Heap} {it a : Addr} {i : Nat} (x : ItK b h it a i) : ∃ o, h.get? it = some o ∧ ∀ v, o.data ≠ .cell v := by
  cases b
  · obtain ⟨o, e, _, d⟩ := x
    exact ⟨o, e, fun v q => by rw [d] at q; cases q⟩
  · obtain ⟨o, e, _, d⟩ := x
    exact ⟨o, e, fun v q => by rw [d] at q; cases q⟩
theorem itK_keep {b : Bool} {h h' : Heap} {it a : Addr} {i : Nat} (x : ItK b h it a i) (k : ∀ o, h.get? it = some o → h'.get? it = some o) : ItK b h' it a i := by
  cases b
  · obtain ⟨o, e, r⟩ := x
    exact ⟨o, k o e, r⟩
  · obtain ⟨o, e, r⟩ := x
    exact ⟨o, k o e, r⟩
theorem itK_new {b : Bool} {h : Heap} {it a : Addr} (e : h.get? it = some (itO b a)) : ItK b h it a 0 := by
  cases b
  · exact ⟨_, e, rfl, rfl⟩
  · exact ⟨_, e, rfl, rfl⟩

/-! ### one turn, by the library's walk of tuples -/
theorem item_of {X : Cx} {elts : List Expr} {kk : Nat} {tp : Pos} {it : Addr} {fp0 fp wr : List Addr} {n i : Nat} {Pt : Nat → Array Value → Prop} {S0 : Nat → Heap → Prop} {Mid : Nat → Addr → Heap → Prop}
    {pins : List (Addr × Obj)} {σ : L2.St} {H : Hp} {s : Shared} {E : Value → Shared → Prop} (G : WalksT X.prog X.w X.A it fp0 wr n Pt S0 Mid) (hw : ∀ b ∈ wr, b ∈ fp) (I : Inv X pins σ H s) (hf : ∀ b ∈ fp, FpOk X pins H b) (hi : i < n) (st : S0 i s.heap)
    (lt : ∀ b ∈ fp, b < s.heap.objs.size) {J : It} {tn : Nat → Heap → Prop} {xs : List V} (hP : ∀ vals, Pt i vals → Vals xs vals.toList) (hx : xs.length ≤ sizeLine)
    (hJ : ∀ T, H T = none → J.yld i H (.ref T) (upd H T (.tup xs))) (ht : ∀ h', S0 (i + 1) h' → tn (i + 1) h') :
    wpAny (model X.prog X.w) X.A (pyNext (.ref it)) (fun r s1 => ∃ u, r = some u ∧
      wpAny (model X.prog X.w) X.A (letOwnedTupleGo (.Tuple elts kk tp) (.ref it) u) (fun _ s2 => ∃ x H', Inv X pins σ H' s2 ∧ RelV x u ∧ J.yld i H x H' ∧ tn (i + 1) s2.heap ∧ ∀ b ∈ fp, H' b = none) E s1) E s := by
  refine (GoesN.ofWalksT (elts := elts) (k := kk) (pos := tp) G).goes i s _ E hi st fun v h' tk hY st' hk _ => ?_
  obtain ⟨T, vals, rfl, hT, hv, tup⟩ := hY
  have fT : H T = none := I.hok.fresh hT
  have hxs := hP vals hv
  have new : ObjOk X.prog X.w (upd H T (.tup xs)) h' T (.tup xs) := ⟨hx, vals.toList, hxs, by
    rw [show vals.toList.toArray = vals from by simp]
    exact tup⟩
  have I1 := I.turnedNew (t' := tk) (ch := fp) (fun b o hb q => hk b o (fun z => hb (hw b z)) q) hf hT new
  refine ⟨.ref T, upd H T (.tup xs), I1, rfl, hJ T fT, ht h' st', fun b hb => ?_⟩
  rw [upd_ne (Nat.ne_of_lt (Nat.lt_of_lt_of_le (lt b hb) hT))]
  exact (hf b hb).1
theorem done_of {X : Cx} {it : Addr} {fp0 fp wr : List Addr} {n : Nat} {Pt : Nat → Array Value → Prop} {S0 : Nat → Heap → Prop} {Mid : Nat → Addr → Heap → Prop}
    {pins : List (Addr × Obj)} {σ : L2.St} {H : Hp} {s : Shared} {E : Value → Shared → Prop} (G : WalksT X.prog X.w X.A it fp0 wr n Pt S0 Mid) (hw : ∀ b ∈ wr, b ∈ fp) (I : Inv X pins σ H s) (hf : ∀ b ∈ fp, FpOk X pins H b) (st : S0 n s.heap) :
    wpAny (model X.prog X.w) X.A (pyNext (.ref it)) (fun r s1 => r = none ∧ Inv X pins σ H s1) E s :=
  (GoesN.ofWalksT (elts := []) (k := 0) (pos := ⟨0, 0, 0, 0⟩) G).stops s (fun s1 => Inv X pins σ H s1) E st fun h' tk hk _ => I.turnedL (ch := fp) (fun b o hb q => hk b o (fun z => hb (hw b z)) q) hf

/-! ### zip of two, of three; enumerate: each of lists or tuples -/
def It2 (b1 b2 : Bool) (K : PySem.W.Frag) (a1 a2 : Addr) : It where
  go := fun i H => ∃ (xs ys : List V) (x y : V), SqK b1 K H a1 xs ∧ SqK b2 K H a2 ys ∧ xs[i]? = some x ∧ ys[i]? = some y
  yld := fun i H v H' => ∃ T x y, v = .ref T ∧ H T = none ∧ H' = upd H T (.tup [x, y]) ∧ (∀ xs, SqK b1 K H a1 xs → xs[i]? = some x) ∧ ∀ ys, SqK b2 K H a2 ys → ys[i]? = some y
  stop := fun i H => ∃ xs ys : List V, SqK b1 K H a1 xs ∧ SqK b2 K H a2 ys ∧ i = min xs.length ys.length
theorem mem5 {c z t o i j : Addr} (h : c ∈ [z, t, o, i, j]) : c = z ∨ c = t ∨ c = o ∨ c = i ∨ c = j := by simpa using h
theorem mem6 {c z t o i j k : Addr} (h : c ∈ [z, t, o, i, j, k]) : c = z ∨ c = t ∨ c = o ∨ c = i ∨ c = j ∨ c = k := by simpa using h
abbrev T2 (b1 b2 : Bool) (a1 a2 N : Addr) (i : Nat) (h : Heap) : Prop := IsZip h (N + 4) (N + 2) (N + 3) .none ∧ IsTupOf2 h (N + 2) (.ref N) (.ref (N + 1)) ∧ (∃ u v, IsTupOf2 h (N + 3) u v) ∧ ItK b1 h N a1 i ∧ ItK b2 h (N + 1) a2 i
theorem turn_2 {P : Program} {w : World} {K : PySem.W.Frag} {elts : List Expr} {kk : Nat} {tp : Pos} {b1 b2 : Bool} {a1 a2 N : Addr} (l1 : a1 < N) (l2 : a2 < N) :
    Turn P w K (.Tuple elts kk tp) (It2 b1 b2 K a1 a2) [N + 4, N + 2, N + 3, N, N + 1] (N + 4) (T2 b1 b2 a1 a2 N) where
  mem := by simp
  obj := fun i h st c hc => by
    obtain ⟨z1, z2, ⟨u, v, z3⟩, z4, z5⟩ := st
    rcases mem5 hc with q | q | q | q | q <;> rw [q]
    · exact ⟨_, z1, fun v q => nomatch q⟩
    · exact ⟨_, z2, fun v q => nomatch q⟩
    · exact ⟨_, z3, fun v q => nomatch q⟩
    · exact itK_obj z4
    · exact itK_obj z5
  keep := fun i h h' st k => by
    obtain ⟨z1, z2, ⟨u, v, z3⟩, z4, z5⟩ := st
    exact ⟨k _ (by simp) _ z1, k _ (by simp) _ z2, ⟨u, v, k _ (by simp) _ z3⟩, itK_keep z4 fun o e => k _ (by simp) o e, itK_keep z5 fun o e => k _ (by simp) o e⟩
  item := by
    intro X hP hw hK hc i pins s σ H E I hf st hg
    subst hP hw hK
    obtain ⟨xs, ys, x, y, q1, q2, e1, e2⟩ := hg
    obtain ⟨us, r1, p1, m1⟩ := seqK I q1
    obtain ⟨ws, r2, p2, m2⟩ := seqK I q2
    obtain ⟨u, g1, v1⟩ := r1.get e1
    obtain ⟨v, g2, v2⟩ := r2.get e2
    obtain ⟨z1, z2, z3, z4, z5⟩ := st
    have D1 := drawsK (prog := X.prog) (w := X.w) (A := X.A.in1) b1 (I.ok.hd hc) N a1 (Nat.ne_of_lt l1) us.toArray
    have D2 := drawsK (prog := X.prog) (w := X.w) (A := X.A.in1) b2 (I.ok.hd hc) (N + 1) a2 (Nat.ne_of_lt (Nat.lt_succ_of_lt l2)) ws.toArray
    have S := zip_sep2 (N := N) (fp1 := [a1]) (fp2 := [a2]) (by simpa using l1) (by simpa using l2)
    have n1 : i < us.length := (List.getElem?_eq_some_iff.mp g1).1
    have n2 : i < ws.length := (List.getElem?_eq_some_iff.mp g2).1
    have lt : ∀ c ∈ [N + 4, N + 2, N + 3, N, N + 1], c < s.heap.objs.size := fun c hc' => by
      obtain ⟨u', v', z3⟩ := z3
      rcases mem5 hc' with q | q | q | q | q <;> rw [q]
      · exact Heap.lt_size z1
      · exact Heap.lt_size z2
      · exact Heap.lt_size z3
      · obtain ⟨o, e, _⟩ := itK_obj z4; exact Heap.lt_size e
      · obtain ⟨o, e, _⟩ := itK_obj z5; exact Heap.lt_size e
    refine item_of (xs := [x, y]) (WalksT.zipD2 S D1 D2) (by simp) I hf (by simp; omega) ⟨z1, z2, z3, ⟨z4, p1⟩, ⟨z5, p2⟩⟩ lt (fun vals hv => ?_) (by show 2 ≤ sizeLine; decide) (fun T fT => ?_) (fun h' t => ?_)
    · obtain ⟨x', y', h1, h2, rfl⟩ := hv
      simp only [List.getElem?_toArray] at h1 h2
      rw [g1] at h1; rw [g2] at h2
      cases h1; cases h2
      exact .cons v1 (.cons v2 .nil)
    · exact ⟨T, x, y, rfl, fT, rfl, fun l hl => by rw [seqK_inj I hl q1]; exact e1, fun l hl => by rw [seqK_inj I hl q2]; exact e2⟩
    · exact ⟨t.1, t.2.1, t.2.2.1, t.2.2.2.1.1, t.2.2.2.2.1⟩
  done := by
    intro X hP hw hK hc i pins s σ H E I hf st hg
    subst hP hw hK
    obtain ⟨xs, ys, q1, q2, e⟩ := hg
    obtain ⟨us, r1, p1, m1⟩ := seqK I q1
    obtain ⟨ws, r2, p2, m2⟩ := seqK I q2
    obtain ⟨z1, z2, z3, z4, z5⟩ := st
    have D1 := drawsK (prog := X.prog) (w := X.w) (A := X.A.in1) b1 (I.ok.hd hc) N a1 (Nat.ne_of_lt l1) us.toArray
    have D2 := drawsK (prog := X.prog) (w := X.w) (A := X.A.in1) b2 (I.ok.hd hc) (N + 1) a2 (Nat.ne_of_lt (Nat.lt_succ_of_lt l2)) ws.toArray
    have S := zip_sep2 (N := N) (fp1 := [a1]) (fp2 := [a2]) (by simpa using l1) (by simpa using l2)
    have en : i = min us.toArray.size ws.toArray.size := by
      have := r1.length
      have := r2.length
      simp only [List.size_toArray]
      omega
    subst en
    exact done_of (WalksT.zipD2 S D1 D2) (by simp) I hf ⟨z1, z2, z3, ⟨z4, p1⟩, ⟨z5, p2⟩⟩
  self := fun A i s Q E st h => wpAny_pyIter_zip st.1 h

/-- what zip(e, e2) asks: the kinds of both -/
def iZip2 (b1 b2 : Bool) (K : PySem.W.Frag) (ta : TA) : TI := fun σ H R => ta σ H fun vs H1 => ∃ a1 a2 xs ys, vs = [.ref a1, .ref a2] ∧ SqK b1 K H1 a1 xs ∧ SqK b2 K H1 a2 ys ∧ R (It2 b1 b2 K a1 a2) H1
theorem fpNew {X : Cx} {pins : List (Addr × Obj)} {σ : L2.St} {H : Hp} {s : Shared} {c : Addr} (I : Inv X pins σ H s) (h : s.heap.objs.size ≤ c) : FpOk X pins H c := I.fpOk h (I.hok.fresh h)
theorem pi_zip2 {X : Cx} {e e2 : Expr} {ta : TA} {p pos tpos : Pos} {elts : List Expr} {kk : Nat} (b1 b2 : Bool) (hg : Gl X "zip") (hm : X.mg "zip" = none) (ha : PA X [e, e2] ta)
    (hs : starEach [e, e2] X.env = (false, eval e X.env) :: starEach [e2] X.env := by rfl) (hpl : (backTo pos (starEach [e2] X.env)).any (·.1) = false := by rfl) :
    PI X (.Tuple elts kk tpos) (.Call (.Name "zip" p) [e, e2] [] pos) (iZip2 b1 b2 X.K ta) := by
  constructor
  intro pins s σ H R I h
  refine Call_ ?_
  refine ld_blt I hg hm PyProof.Rows.boot_zip ?_
  refine PyProof.Rows.callWith_type1 (thn (ha.run pos pins s σ H _ I h) ?_) hs hpl
  rintro us s1 ⟨vs, H1, I1, r1, a1, a2, xs, ys, rfl, q1, q2, q⟩
  obtain ⟨u1, u2, rfl, e1, e2⟩ := vals2 r1
  cases e1; cases e2
  obtain ⟨us, w1, p1, m1⟩ := seqK I1 q1
  obtain ⟨ws, w2, p2, m2⟩ := seqK I1 q2
  refine zip_begins2 (beginsK b1 a1 us.toArray) (beginsK b2 a2 ws.toArray) p1 p2 fun h' c1 c2 c3 c4 c5 _ hk => wpAny_pyIter_zip c1 ?_
  refine ⟨_, _, _, _, H1, rfl, I1.kept (t' := s1.toks) hk, turn_2 (b1 := b1) (b2 := b2) m1 m2, ⟨c1, c2, ⟨_, _, c3⟩, itK_new c4, itK_new c5⟩, fun c hc => ?_, q⟩
  refine fpNew I1 ?_
  rcases mem5 hc with z | z | z | z | z <;> rw [z] <;> first | exact Nat.le_refl _ | exact Nat.le_add_right _ _

def It3 (b1 b2 b3 : Bool) (K : PySem.W.Frag) (a1 a2 a3 : Addr) : It where
  go := fun i H => ∃ (xs ys zs : List V) (x y z : V), SqK b1 K H a1 xs ∧ SqK b2 K H a2 ys ∧ SqK b3 K H a3 zs ∧ xs[i]? = some x ∧ ys[i]? = some y ∧ zs[i]? = some z
  yld := fun i H v H' => ∃ T x y z, v = .ref T ∧ H T = none ∧ H' = upd H T (.tup [x, y, z]) ∧ (∀ xs, SqK b1 K H a1 xs → xs[i]? = some x) ∧ (∀ ys, SqK b2 K H a2 ys → ys[i]? = some y) ∧ ∀ zs, SqK b3 K H a3 zs → zs[i]? = some z
  stop := fun i H => ∃ xs ys zs : List V, SqK b1 K H a1 xs ∧ SqK b2 K H a2 ys ∧ SqK b3 K H a3 zs ∧ i = min (min xs.length ys.length) zs.length
abbrev T3 (b1 b2 b3 : Bool) (a1 a2 a3 N : Addr) (i : Nat) (h : Heap) : Prop := IsZip h (N + 5) (N + 3) (N + 4) .none ∧ IsTupOf3 h (N + 3) (.ref N) (.ref (N + 1)) (.ref (N + 2)) ∧ (∃ u v z, IsTupOf3 h (N + 4) u v z) ∧ ItK b1 h N a1 i ∧ ItK b2 h (N + 1) a2 i ∧ ItK b3 h (N + 2) a3 i
theorem turn_3 {P : Program} {w : World} {K : PySem.W.Frag} {elts : List Expr} {kk : Nat} {tp : Pos} {b1 b2 b3 : Bool} {a1 a2 a3 N : Addr} (l1 : a1 < N) (l2 : a2 < N) (l3 : a3 < N) :
    Turn P w K (.Tuple elts kk tp) (It3 b1 b2 b3 K a1 a2 a3) [N + 5, N + 3, N + 4, N, N + 1, N + 2] (N + 5) (T3 b1 b2 b3 a1 a2 a3 N) where
  mem := by simp
  obj := fun i h st c hc => by
    obtain ⟨z1, z2, ⟨u, v, t, z3⟩, z4, z5, z6⟩ := st
    rcases mem6 hc with q | q | q | q | q | q <;> rw [q]
    · exact ⟨_, z1, fun v q => nomatch q⟩
    · exact ⟨_, z2, fun v q => nomatch q⟩
    · exact ⟨_, z3, fun v q => nomatch q⟩
    · exact itK_obj z4
    · exact itK_obj z5
    · exact itK_obj z6
  keep := fun i h h' st k => by
    obtain ⟨z1, z2, ⟨u, v, t, z3⟩, z4, z5, z6⟩ := st
    exact ⟨k _ (by simp) _ z1, k _ (by simp) _ z2, ⟨u, v, t, k _ (by simp) _ z3⟩, itK_keep z4 fun o e => k _ (by simp) o e, itK_keep z5 fun o e => k _ (by simp) o e, itK_keep z6 fun o e => k _ (by simp) o e⟩
  item := by
    intro X hP hw hK hc i pins s σ H E I hf st hg
    subst hP hw hK
    obtain ⟨xs, ys, zs, x, y, z, q1, q2, q3, e1, e2, e3⟩ := hg
    obtain ⟨us, r1, p1, m1⟩ := seqK I q1
    obtain ⟨ws, r2, p2, m2⟩ := seqK I q2
    obtain ⟨ts, r3, p3, m3⟩ := seqK I q3
    obtain ⟨u, g1, v1⟩ := r1.get e1
    obtain ⟨v, g2, v2⟩ := r2.get e2
    obtain ⟨t, g3, v3⟩ := r3.get e3
    obtain ⟨z1, z2, z3, z4, z5, z6⟩ := st
    have D1 := drawsK (prog := X.prog) (w := X.w) (A := X.A.in1) b1 (I.ok.hd hc) N a1 (Nat.ne_of_lt l1) us.toArray
    have D2 := drawsK (prog := X.prog) (w := X.w) (A := X.A.in1) b2 (I.ok.hd hc) (N + 1) a2 (Nat.ne_of_lt (Nat.lt_succ_of_lt l2)) ws.toArray
    have D3 := drawsK (prog := X.prog) (w := X.w) (A := X.A.in1) b3 (I.ok.hd hc) (N + 2) a3 (Nat.ne_of_lt (Nat.lt_succ_of_lt (Nat.lt_succ_of_lt l3))) ts.toArray
    have S := zip_sep3 (N := N) (fp1 := [a1]) (fp2 := [a2]) (fp3 := [a3]) (by simpa using l1) (by simpa using l2) (by simpa using l3)
    have n1 : i < us.length := (List.getElem?_eq_some_iff.mp g1).1
    have n2 : i < ws.length := (List.getElem?_eq_some_iff.mp g2).1
    have n3 : i < ts.length := (List.getElem?_eq_some_iff.mp g3).1
    have lt : ∀ c ∈ [N + 5, N + 3, N + 4, N, N + 1, N + 2], c < s.heap.objs.size := fun c hc' => by
      obtain ⟨u', v', t', z3⟩ := z3
      rcases mem6 hc' with q | q | q | q | q | q <;> rw [q]
      · exact Heap.lt_size z1
      · exact Heap.lt_size z2
      · exact Heap.lt_size z3
      · obtain ⟨o, e, _⟩ := itK_obj z4; exact Heap.lt_size e
      · obtain ⟨o, e, _⟩ := itK_obj z5; exact Heap.lt_size e
      · obtain ⟨o, e, _⟩ := itK_obj z6; exact Heap.lt_size e
    refine item_of (xs := [x, y, z]) (WalksT.zipD3 S D1 D2 D3) (by simp) I hf (by simp; omega) ⟨z1, z2, z3, ⟨z4, p1⟩, ⟨z5, p2⟩, ⟨z6, p3⟩⟩ lt (fun vals hv => ?_) (by show 3 ≤ sizeLine; decide) (fun T fT => ?_) (fun h' t => ?_)
    · obtain ⟨x', y', z', h1, h2, h3, rfl⟩ := hv
      simp only [List.getElem?_toArray] at h1 h2 h3
      rw [g1] at h1; rw [g2] at h2; rw [g3] at h3
      cases h1; cases h2; cases h3
      exact .cons v1 (.cons v2 (.cons v3 .nil))
    · exact ⟨T, x, y, z, rfl, fT, rfl, fun l hl => by rw [seqK_inj I hl q1]; exact e1, fun l hl => by rw [seqK_inj I hl q2]; exact e2, fun l hl => by rw [seqK_inj I hl q3]; exact e3⟩
    · exact ⟨t.1, t.2.1, t.2.2.1, t.2.2.2.1.1, t.2.2.2.2.1.1, t.2.2.2.2.2.1⟩
  done := by
    intro X hP hw hK hc i pins s σ H E I hf st hg
    subst hP hw hK
    obtain ⟨xs, ys, zs, q1, q2, q3, e⟩ := hg
    obtain ⟨us, r1, p1, m1⟩ := seqK I q1
    obtain ⟨ws, r2, p2, m2⟩ := seqK I q2
    obtain ⟨ts, r3, p3, m3⟩ := seqK I q3
    obtain ⟨z1, z2, z3, z4, z5, z6⟩ := st
    have D1 := drawsK (prog := X.prog) (w := X.w) (A := X.A.in1) b1 (I.ok.hd hc) N a1 (Nat.ne_of_lt l1) us.toArray
    have D2 := drawsK (prog := X.prog) (w := X.w) (A := X.A.in1) b2 (I.ok.hd hc) (N + 1) a2 (Nat.ne_of_lt (Nat.lt_succ_of_lt l2)) ws.toArray
    have D3 := drawsK (prog := X.prog) (w := X.w) (A := X.A.in1) b3 (I.ok.hd hc) (N + 2) a3 (Nat.ne_of_lt (Nat.lt_succ_of_lt (Nat.lt_succ_of_lt l3))) ts.toArray
    have S := zip_sep3 (N := N) (fp1 := [a1]) (fp2 := [a2]) (fp3 := [a3]) (by simpa using l1) (by simpa using l2) (by simpa using l3)
    have en : i = min (min us.toArray.size ws.toArray.size) ts.toArray.size := by
      have := r1.length
      have := r2.length
      have := r3.length
      simp only [List.size_toArray]
      omega
    subst en
    exact done_of (WalksT.zipD3 S D1 D2 D3) (by simp) I hf ⟨z1, z2, z3, ⟨z4, p1⟩, ⟨z5, p2⟩, ⟨z6, p3⟩⟩
  self := fun A i s Q E st h => wpAny_pyIter_zip st.1 h
def iZip3 (b1 b2 b3 : Bool) (K : PySem.W.Frag) (ta : TA) : TI := fun σ H R => ta σ H fun vs H1 => ∃ a1 a2 a3 xs ys zs, vs = [.ref a1, .ref a2, .ref a3] ∧ SqK b1 K H1 a1 xs ∧ SqK b2 K H1 a2 ys ∧ SqK b3 K H1 a3 zs ∧ R (It3 b1 b2 b3 K a1 a2 a3) H1
theorem vals3 {a b c : V} {us : List Value} (r : Vals [a, b, c] us) : ∃ x y z, us = [x, y, z] ∧ RelV a x ∧ RelV b y ∧ RelV c z := by
  cases r with
  | cons r1 rr =>
    obtain ⟨y, z, rfl, h1, h2⟩ := vals2 rr
    exact ⟨_, y, z, rfl, r1, h1, h2⟩
theorem pi_zip3 {X : Cx} {e e2 e3 : Expr} {ta : TA} {p pos tpos : Pos} {elts : List Expr} {kk : Nat} (b1 b2 b3 : Bool) (hg : Gl X "zip") (hm : X.mg "zip" = none) (ha : PA X [e, e2, e3] ta)
    (hs : starEach [e, e2, e3] X.env = (false, eval e X.env) :: starEach [e2, e3] X.env := by rfl) (hpl : (backTo pos (starEach [e2, e3] X.env)).any (·.1) = false := by rfl) :
    PI X (.Tuple elts kk tpos) (.Call (.Name "zip" p) [e, e2, e3] [] pos) (iZip3 b1 b2 b3 X.K ta) := by
  constructor
  intro pins s σ H R I h
  refine Call_ ?_
  refine ld_blt I hg hm PyProof.Rows.boot_zip ?_
  refine PyProof.Rows.callWith_type1 (thn (ha.run pos pins s σ H _ I h) ?_) hs hpl
  rintro us s1 ⟨vs, H1, I1, r1, a1, a2, a3, xs, ys, zs, rfl, q1, q2, q3, q⟩
  obtain ⟨u1, u2, u3, rfl, e1, e2, e3⟩ := vals3 r1
  cases e1; cases e2; cases e3
  obtain ⟨us, w1, p1, m1⟩ := seqK I1 q1
  obtain ⟨ws, w2, p2, m2⟩ := seqK I1 q2
  obtain ⟨ts, w3, p3, m3⟩ := seqK I1 q3
  refine zip_begins3 (beginsK b1 a1 us.toArray) (beginsK b2 a2 ws.toArray) (beginsK b3 a3 ts.toArray) p1 p2 p3 fun h' c1 c2 c3 c4 c5 c6 _ hk => wpAny_pyIter_zip c1 ?_
  refine ⟨_, _, _, _, H1, rfl, I1.kept (t' := s1.toks) hk, turn_3 (b1 := b1) (b2 := b2) (b3 := b3) m1 m2 m3, ⟨c1, c2, ⟨_, _, _, c3⟩, itK_new c4, itK_new c5, itK_new c6⟩, fun c hc => ?_, q⟩
  refine fpNew I1 ?_
  rcases mem6 hc with z | z | z | z | z | z <;> rw [z] <;> first | exact Nat.le_refl _ | exact Nat.le_add_right _ _

/-! ### enumerate of a list or a tuple -/
def It1 (b : Bool) (K : PySem.W.Frag) (a : Addr) : It where
  go := fun i H => ∃ (xs : List V) (x : V), SqK b K H a xs ∧ xs[i]? = some x
  yld := fun i H v H' => ∃ T x, v = .ref T ∧ H T = none ∧ H' = upd H T (.tup [.int (i : Nat), x]) ∧ ∀ xs, SqK b K H a xs → xs[i]? = some x
  stop := fun i H => ∃ xs : List V, SqK b K H a xs ∧ i = xs.length
abbrev T1 (b : Bool) (a N : Addr) (i : Nat) (h : Heap) : Prop := (∃ old, IsEnum h (N + 1) N (0 + (i : Int)) old) ∧ ItK b h N a i
theorem turn_1 {P : Program} {w : World} {K : PySem.W.Frag} {elts : List Expr} {kk : Nat} {tp : Pos} {b : Bool} {a N : Addr} (l1 : a < N) :
    Turn P w K (.Tuple elts kk tp) (It1 b K a) [N + 1, N] (N + 1) (T1 b a N) where
  mem := by simp
  obj := fun i h st c hc => by
    obtain ⟨⟨old, z1⟩, z2⟩ := st
    have hc' : c = N + 1 ∨ c = N := by simpa using hc
    rcases hc' with q | q <;> rw [q]
    · exact ⟨_, z1, fun v q => nomatch q⟩
    · exact itK_obj z2
  keep := fun i h h' st k => by
    obtain ⟨⟨old, z1⟩, z2⟩ := st
    exact ⟨⟨old, k _ (by simp) _ z1⟩, itK_keep z2 fun o e => k _ (by simp) o e⟩
  item := by
    intro X hP hw hK hc i pins s σ H E I hf st hg
    subst hP hw hK
    obtain ⟨xs, x, q1, e1⟩ := hg
    obtain ⟨us, r1, p1, m1⟩ := seqK I q1
    obtain ⟨u, g1, v1⟩ := r1.get e1
    obtain ⟨z1, z2⟩ := st
    have D1 := drawsK (prog := X.prog) (w := X.w) (A := X.A.in1) b (I.ok.hd hc) N a (Nat.ne_of_lt l1) us.toArray
    have n1 : i < us.length := (List.getElem?_eq_some_iff.mp g1).1
    have lt : ∀ c ∈ [N + 1, N], c < s.heap.objs.size := fun c hc' => by
      obtain ⟨old, z1⟩ := z1
      have hc' : c = N + 1 ∨ c = N := by simpa using hc'
      rcases hc' with q | q <;> rw [q]
      · exact Heap.lt_size z1
      · obtain ⟨o, e, _⟩ := itK_obj z2; exact Heap.lt_size e
    have W := WalksT.enumFrom 0 D1 (N + 1) (Nat.ne_of_gt (Nat.lt_succ_self N)) (by
      intro hm
      have hm' : N + 1 = N ∨ N + 1 = a := by simpa using hm
      rcases hm' with q | q
      · exact absurd q (Nat.ne_of_gt (Nat.lt_succ_self N))
      · exact absurd q.symm (Nat.ne_of_lt (Nat.lt_succ_of_lt l1))) (by simp)
    refine item_of (xs := [.int (i : Nat), x]) W (by simp) I hf (by simpa using n1) ⟨z1, ⟨z2, p1⟩⟩ lt (fun vals hv => ?_) (by show 2 ≤ sizeLine; decide) (fun T fT => ?_) (fun h' t => ?_)
    · obtain ⟨t, x', h1, rfl⟩ := hv
      simp only [List.getElem?_toArray] at h1
      rw [g1] at h1
      cases h1
      exact .cons ⟨t, by rw [Int.zero_add]⟩ (.cons v1 .nil)
    · exact ⟨T, x, rfl, fT, rfl, fun l hl => by rw [seqK_inj I hl q1]; exact e1⟩
    · exact ⟨t.1, t.2.1⟩
  done := by
    intro X hP hw hK hc i pins s σ H E I hf st hg
    subst hP hw hK
    obtain ⟨xs, q1, e⟩ := hg
    obtain ⟨us, r1, p1, m1⟩ := seqK I q1
    obtain ⟨z1, z2⟩ := st
    have D1 := drawsK (prog := X.prog) (w := X.w) (A := X.A.in1) b (I.ok.hd hc) N a (Nat.ne_of_lt l1) us.toArray
    have W := WalksT.enumFrom 0 D1 (N + 1) (Nat.ne_of_gt (Nat.lt_succ_self N)) (by
      intro hm
      have hm' : N + 1 = N ∨ N + 1 = a := by simpa using hm
      rcases hm' with q | q
      · exact absurd q (Nat.ne_of_gt (Nat.lt_succ_self N))
      · exact absurd q.symm (Nat.ne_of_lt (Nat.lt_succ_of_lt l1))) (by simp)
    have en : i = us.toArray.size := by
      have := r1.length
      simp only [List.size_toArray]
      omega
    subst en
    exact done_of W (by simp) I hf ⟨z1, ⟨z2, p1⟩⟩
  self := fun A i s Q E st h => by
    obtain ⟨⟨old, z1⟩, _⟩ := st
    exact wpAny_pyIter_enum z1 h
set_option maxHeartbeats 1000000 in
theorem meets_enum1 {v : Value} {o : Obj} {H : Heap → Prop} (B : Begins v o H) :
    Meets (Builtin.«enumerate.__new__» ⟨[.type "enumerate", v], []⟩) (fun _ R s => H s.heap ∧
      R (.ok (.ret (.ref (s.heap.push o).objs.size))) { s with heap := (s.heap.push o).push ⟨.type "enumerate", none, .fields #[.none, .bool false, .ref s.heap.objs.size, rawInt 0, .none, .none], #[]⟩ }) :=
  .of_wp fun prog w A R s h => by
    obtain ⟨hp, g, d, tk, os⟩ := s
    obtain ⟨h1, h⟩ := h
    have hsub := sub_enumerate
    have q1 : ∀ {A' : Around} {E : Value → Shared → Prop} {Q : Value → Shared → Prop}, Q (.ref hp.objs.size) ⟨hp.push o, g, d, tk, os⟩ → wpAny (model prog w) A' (pyIter v) Q E ⟨hp, g, d, tk, os⟩ := by
      intro A' E Q q
      exact B.iter prog w _ _ ⟨hp, g, d, tk, os⟩ _ h1 q
    wp_walk using q1
    apply wpAny_stack_any
    intro st
    apply wpAny_pure
    split
    · rename_i c _ _ _ _ _
      cases (c == Value.type "enumerate") <;> (wp_walk using q1; exact ⟨_, rfl, h⟩)
    · wp_walk using q1
      exact ⟨_, rfl, h⟩
theorem enum_begins1 {prog : Program} {w : World} {A : Around} {E : Value → Shared → Prop} {s : Shared} {v : Value} {o : Obj} {H : Heap → Prop} {Q : Value → Shared → Prop} (B : Begins v o H) (h1 : H s.heap)
    (h : ∀ h', IsEnum h' (s.heap.objs.size + 1) s.heap.objs.size 0 .none → h'.get? s.heap.objs.size = some o → (∀ b o, s.heap.get? b = some o → h'.get? b = some o) → Q (.ref (s.heap.objs.size + 1)) { s with heap := h' }) :
    wpAny (model prog w) A (call (.type "enumerate") [v]) Q E s := by
  refine callType_new F.called_enumerate (by decide) (F.typeCall_enumerate_1 _) (F.newCall_enumerate_1 _) (fun obj => F.args_object_init_2 obj _) F.entry_enumerate_new (meets_enum1 B) ⟨h1, ?_⟩
  have hz : (s.heap.push o).objs.size = s.heap.objs.size + 1 := Heap.size_push ..
  have he := Heap.get?_push_size (s.heap.push o) (o := ⟨.type "enumerate", none, .fields #[.none, .bool false, .ref s.heap.objs.size, rawInt 0, .none, .none], #[]⟩) rfl
  rw [hz] at he
  show _ ∧ _
  rw [hz]
  exact ⟨⟨_, he, rfl⟩, h _ he (Heap.get?_push_of_some _ (Heap.get?_push_size _ B.free)) fun b o x => Heap.get?_push_of_some _ (Heap.get?_push_of_some _ x)⟩
def iEnum1 (K : PySem.W.Frag) (ta : TA) : TI := fun σ H R => ta σ H fun vs H1 => ∃ b a xs, vs = [.ref a] ∧ SqK b K H1 a xs ∧ R (It1 b K a) H1
theorem pi_enum1 {X : Cx} {e : Expr} {ta : TA} {p pos tpos : Pos} {elts : List Expr} {kk : Nat} (hg : Gl X "enumerate") (hm : X.mg "enumerate" = none) (ha : PA X [e] ta)
    (hs : starEach [e] X.env = (false, eval e X.env) :: starEach [] X.env := by rfl) (hpl : (backTo pos (starEach [] X.env)).any (·.1) = false := by rfl) :
    PI X (.Tuple elts kk tpos) (.Call (.Name "enumerate" p) [e] [] pos) (iEnum1 X.K ta) := by
  constructor
  intro pins s σ H R I h
  refine Call_ ?_
  refine ld_blt I hg hm PyProof.Rows.boot_enumerate ?_
  refine PyProof.Rows.callWith_type1 (thn (ha.run pos pins s σ H _ I h) ?_) hs hpl
  rintro us s1 ⟨vs, H1, I1, r1, b, a, xs, rfl, q1, q⟩
  obtain ⟨u1, rfl, e1⟩ := vals1 r1
  cases e1
  obtain ⟨us, w1, p1, m1⟩ := seqK I1 q1
  refine enum_begins1 (beginsK b a us.toArray) p1 fun h' c1 c2 hk => wpAny_pyIter_enum c1 ?_
  refine ⟨_, _, _, _, H1, rfl, I1.kept (t' := s1.toks) hk, turn_1 (b := b) m1, ⟨⟨_, c1⟩, itK_new c2⟩, fun c hc => ?_, q⟩
  refine fpNew I1 ?_
  have hc' : c = s1.heap.objs.size + 1 ∨ c = s1.heap.objs.size := by simpa using hc
  rcases hc' with z | z <;> rw [z] <;> first | exact Nat.le_refl _ | exact Nat.le_add_right _ _

/-! ### list + list, both read -/
def rCatL (K : PySem.W.Frag) : R2 := fun x y H Q => ∃ l b xs zs, x = .ref l ∧ y = .ref b ∧ SqL K H l xs ∧ SqL K H b zs ∧ xs.length + zs.length ≤ sizeLine ∧ ∀ p, H p = none → Q (.ref p) (upd H p (.lst (xs ++ zs)))
theorem op_catL {X : Cx} : OpR X (binaryOp .Add) (rCatL X.K) := by
  intro pins s σ H x y v u Q I rx ry h
  obtain ⟨l, b, xs, zs, rfl, rfl, h1, h2, hz, q⟩ := h
  cases rx
  cases ry
  obtain ⟨i1, r1, p1, _⟩ := I.list h1
  obtain ⟨i2, r2, p2, _⟩ := I.list h2
  have l1 := r1.length
  have l2 := r2.length
  obtain ⟨⟨c1, d1, t1, w1⟩, n1, o1, k1, g1, e1⟩ := p1
  obtain ⟨⟨c2, d2, t2, w2⟩, n2, o2, k2, g2, e2⟩ := p2
  simp only at k1 g1 e1 k2 g2 e2
  subst k1 g1 e1 k2 g2 e2
  have ea : i1.toArray ++ i2.toArray = (i1 ++ i2).toArray := by simp
  refine concat_meets ⟨_, o1, rfl⟩ ⟨_, o2, rfl⟩ noFill_list_add seq_list_add PySem.F.slot_list_add PySem.F.entry_list_add (PySem.F.args_list_add_2 _ _) (list_addW l b i1.toArray i2.toArray n1 n2 none none w1 w2 (by simp; omega)) ⟨o1, o2, ?_⟩
  rw [ea]
  exact ⟨.ref _, _, I.lnew (t' := s.toks) (r1.append r2) (by rw [List.length_append]; omega), rfl, q _ I.fresh⟩
/-! ### sum of a tuple of ints -/
def rSumT (K : PySem.W.Frag) : List V → Hp → VK → Prop := fun vs H Q => ∃ (a : Addr) (ns : List Int), vs = [V.ref a] ∧ SqT K H a (ns.map V.int) ∧ Q (.int ns.sum) H
theorem preSum_list (ns : List Int) : ∀ k, k ≤ ns.length → preSum (fun i => ns.getD i 0) k = (ns.take k).sum
  | 0, _ => by simp [preSum]
  | k + 1, h => by
    have ih := preSum_list ns k (by omega)
    have e : ns[k]? = some ns[k] := List.getElem?_eq_getElem (by omega)
    rw [sum_take e, ← ih]
    show preSum (fun i => ns.getD i 0) k + ns.getD k 0 = _
    rw [List.getD_eq_getElem?_getD, e]
    rfl
theorem cr_sumT {X : Cx} (hc : X.calm = true) : CallR X (.builtin "sum") (rSumT X.K) := by
  intro pins s σ H vs us Q I r h
  obtain ⟨a, ns, rfl, hs, q⟩ := h
  obtain ⟨its, rv, p, _⟩ := I.tuple hs
  have hlt := p.lt
  have hlen := rv.length
  rw [Vals.ref1 r]
  refine call_sum_walkG (wpAny_pyIter_tuple p ?_)
  refine ⟨_, _, _, _, _, _, fun i => ns.getD i 0, rfl, Walks.tuple (A := X.A.in1) (I.ok.hd hc) _ a (Nat.ne_of_lt hlt) its.toArray, ⟨⟨_, Heap.get?_push_size _ rfl, rfl, rfl⟩, ?_⟩, fun b hb => ?_, fun i v hv => ?_, fun h' tk t' hk => ?_⟩
  · obtain ⟨o, e, r⟩ := id p
    exact ⟨o, Heap.get?_push_of_some _ e, r⟩
  · show b < (s.heap.push _).objs.size
    rw [Heap.size_push]
    have hb' : b = s.heap.objs.size ∨ b = a := by simpa using hb
    rcases hb' with z | z <;> rw [z]
    · exact Nat.lt_succ_self _
    · exact Nat.lt_succ_of_lt hlt
  · have hv' : its[i]? = some v := by simpa using hv
    have hi : i < its.length := (List.getElem?_eq_some_iff.mp hv').1
    rw [List.length_map] at hlen
    have hn : i < ns.length := by omega
    have e : (ns.map V.int)[i]? = some (.int (ns.getD i 0)) := by
      rw [List.getElem?_map, List.getElem?_eq_getElem hn, List.getD_eq_getElem?_getD, List.getElem?_eq_getElem hn]
      rfl
    obtain ⟨u, hu, t, ru⟩ := rv.get e
    rw [hv'] at hu
    cases hu
    exact ⟨t, ru⟩
  · rw [List.length_map] at hlen
    have hk' : ∀ b o, s.heap.get? b = some o → h'.get? b = some o := fun b o e => hk b o (by
      have := Heap.lt_size e
      simp
      exact Nat.ne_of_lt this) (Heap.get?_push_of_some _ e)
    refine ⟨.int _, H, I.kept hk', ⟨t', rfl⟩, ?_⟩
    rw [List.size_toArray, ← hlen, preSum_list ns _ (Nat.le_refl _), List.take_length]
    exact q
end PS

namespace PS
open PySem PySem.Spec PyProof.Rows L2
/-! ### data in the heap -/
section
variable {K : PySem.W.Frag} {H H' : Hp}
theorem seqT_mono {a : Addr} {xs : List V} (e : Same H H') (h : SqT K H a xs) : SqT K H' a xs := by
  rcases h with (h | ⟨o, h⟩) | h
  · exact .inl (.inl (e _ _ h))
  · exact .inl (.inr ⟨o, e _ _ h⟩)
  · exact .inr h
mutual
theorem dp_mono (e : Same H H') : ∀ (d : PyData) (v : V), Dp K H v d → Dp K H' v d
  | .none, _, h => by cases h; exact .non
  | .bool b, _, h => by cases h; exact .bl b
  | .int i, _, h => by cases h; exact .int i
  | .str x, _, h => by cases h; exact .str x
  | .list ds, _, h => by
    cases h with
    | lst s a => exact .lst (e.seq s) (dpAll_mono e ds _ a)
  | .tuple ds, _, h => by
    cases h with
    | tup s a => exact .tup (seqT_mono e s) (dpAll_mono e ds _ a)
  | .dict _, _, h => by cases h
theorem dpAll_mono (e : Same H H') : ∀ (ds : List PyData) (vs : List V), DpAll K H vs ds → DpAll K H' vs ds
  | [], _, h => by cases h; exact .nil
  | d :: ds, _, h => by
    cases h with
    | cons h1 h2 => exact .cons (dp_mono e d _ h1) (dpAll_mono e ds _ h2)
end
theorem Dpm {d : PyData} {v : V} (e : Same H H') (h : Dp K H v d) : Dp K H' v d := dp_mono e d v h
theorem dpAll_len : ∀ {ds : List PyData} {vs : List V}, DpAll K H vs ds → vs.length = ds.length
  | [], _, h => by cases h; rfl
  | d :: ds, _, h => by
    cases h with
    | cons h1 h2 => simp [dpAll_len h2]
theorem dpAll_get : ∀ {ds : List PyData} {vs : List V} {i : Nat} {v : V}, DpAll K H vs ds → vs[i]? = some v → ∃ d, ds[i]? = some d ∧ Dp K H v d
  | [], _, i, v, h, e => by cases h; simp at e
  | d :: ds, _, i, v, h, e => by
    cases h with
    | cons h1 h2 =>
      cases i with
      | zero => simp at e; subst e; exact ⟨d, rfl, h1⟩
      | succ i =>
        obtain ⟨d', e1, e2⟩ := dpAll_get (i := i) (v := v) h2 (by simpa using e)
        exact ⟨d', by simpa using e1, e2⟩
theorem dpAll_at : ∀ {ds : List PyData} {vs : List V} {i : Nat} {d : PyData}, DpAll K H vs ds → ds[i]? = some d → ∃ v, vs[i]? = some v ∧ Dp K H v d
  | [], _, i, v, h, e => by simp at e
  | d :: ds, _, i, v, h, e => by
    cases h with
    | cons h1 h2 =>
      cases i with
      | zero => simp at e; subst e; exact ⟨_, rfl, h1⟩
      | succ i =>
        obtain ⟨d', e1, e2⟩ := dpAll_at (i := i) (d := v) h2 (by simpa using e)
        exact ⟨d', by simpa using e1, e2⟩
theorem dpAll_app : ∀ {ds es : List PyData} {vs us : List V}, DpAll K H vs ds → DpAll K H us es → DpAll K H (vs ++ us) (ds ++ es)
  | [], _, _, _, h, g => by cases h; exact g
  | d :: ds, _, _, _, h, g => by
    cases h with
    | cons h1 h2 => exact .cons h1 (dpAll_app h2 g)
theorem dpAll_take : ∀ {ds : List PyData} {vs : List V} (n : Nat), DpAll K H vs ds → DpAll K H (vs.take n) (ds.take n)
  | ds, vs, 0, h => by simp; exact .nil
  | [], _, n + 1, h => by cases h; exact .nil
  | d :: ds, _, n + 1, h => by
    cases h with
    | cons h1 h2 => exact .cons h1 (dpAll_take n h2)
theorem dpAll_drop : ∀ {ds : List PyData} {vs : List V} (n : Nat), DpAll K H vs ds → DpAll K H (vs.drop n) (ds.drop n)
  | ds, vs, 0, h => by simpa using h
  | [], _, n + 1, h => by cases h; exact .nil
  | d :: ds, _, n + 1, h => by
    cases h with
    | cons h1 h2 => exact dpAll_drop n h2
theorem dp_tup {v : V} {ds : List PyData} (h : Dp K H v (.tuple ds)) : ∃ a xs, v = .ref a ∧ SqT K H a xs ∧ DpAll K H xs ds := by
  cases h with
  | tup s a => exact ⟨_, _, rfl, s, a⟩
theorem dp_lst {v : V} {ds : List PyData} (h : Dp K H v (.list ds)) : ∃ a xs, v = .ref a ∧ SqL K H a xs ∧ DpAll K H xs ds := by
  cases h with
  | lst s a => exact ⟨_, _, rfl, s, a⟩
/-- ints -/
abbrev iD (ns : List Int) : List PyData := ns.map PyData.int
abbrev iV (ns : List Int) : List V := ns.map V.int
theorem dpAll_ints : ∀ {ns : List Int} {vs : List V}, DpAll K H vs (iD ns) → vs = iV ns
  | [], _, h => by cases h; rfl
  | n :: ns, _, h => by
    cases h with
    | cons h1 h2 =>
      cases h1
      rw [dpAll_ints (ns := ns) h2]
      rfl
theorem ints_dpAll : ∀ (ns : List Int), DpAll K H (iV ns) (iD ns)
  | [] => .nil
  | n :: ns => .cons (.int n) (ints_dpAll ns)
abbrev tI (ns : List Int) : PyData := .tuple (iD ns)
theorem dp_tI {v : V} {ns : List Int} (h : Dp K H v (tI ns)) : ∃ a, v = .ref a ∧ SqT K H a (iV ns) := by
  obtain ⟨a, xs, rfl, s, t⟩ := dp_tup h
  rw [dpAll_ints t] at s
  exact ⟨a, rfl, s⟩
theorem tI_dp {a : Addr} {ns : List Int} (h : SqT K H a (iV ns)) : Dp K H (.ref a) (tI ns) := .tup h (ints_dpAll ns)
theorem dp_int {v : V} {i : Int} (h : Dp K H v (.int i)) : v = .int i := by cases h; rfl
theorem dp_str {v : V} {x : Str} (h : Dp K H v (.str x)) : v = .str x := by cases h; rfl
/-! ### kinds -/
def tyN : PyData → String
  | .none => "NoneType" | .bool _ => "bool" | .int _ => "int" | .str _ => "str" | .list _ => "list" | .tuple _ => "tuple" | .dict _ => "dict"
theorem dp_ty {v : V} {d : PyData} (h : Dp K H v d) : TyX K H v (.type (tyN d)) := by
  cases h with
  | non => exact .base .non
  | bl b => exact .base (.bl b)
  | int i => exact .base (.int i)
  | str x => exact .base (.str x)
  | lst s a =>
    rcases s with (s | ⟨o, s⟩) | ⟨o, its, n, e, c, _⟩
    · exact .base (.lst s)
    · exact .base (.frz s)
    · exact .kList e c
  | tup s a =>
    rcases s with (s | ⟨o, s⟩) | ⟨o, its, n, e, c, _⟩
    · exact .base (.tup s)
    · exact .fTuple s
    · exact .kTuple e c
end
/-- isinstance(x, n) of data -/
def isA (d : PyData) (n : String) : Bool := (kitB (tyN d) n).getD false
def rIsD (K : PySem.W.Frag) : List V → Hp → VK → Prop := fun xs H Q => ∃ (x : V) (n : String) (d : PyData), xs = [x, .ty n] ∧ Dp K H x d ∧ (kitB (tyN d) n).isSome = true ∧ Q (.bl (isA d n)) H
theorem call_isD {X : Cx} : CallR X (.builtin "isinstance") (rIsD X.K) := by
  intro pins s σ H xs us Q I r h
  obtain ⟨x, n, d, rfl, hd, hs, q⟩ := h
  refine call_isi pins s σ H _ us Q I r ⟨x, .ty n, _, _, isA d n, rfl, .ty n, dp_ty hd, ?_, q⟩
  apply kit_ty
  unfold isA
  cases e : kitB (tyN d) n with
  | none => rw [e] at hs; cases hs
  | some b => rfl
theorem kS (d : PyData) (n : String) (h : n = "int" ∨ n = "bool" ∨ n = "str" ∨ n = "list" ∨ n = "tuple") : (kitB (tyN d) n).isSome = true := by
  rcases h with rfl | rfl | rfl | rfl | rfl <;> cases d <;> simp only [tyN] <;> decide +kernel
theorem kInt (d : PyData) : (kitB (tyN d) "int").isSome = true := kS d _ (by simp)
theorem kBool (d : PyData) : (kitB (tyN d) "bool").isSome = true := kS d _ (by simp)
theorem kStr (d : PyData) : (kitB (tyN d) "str").isSome = true := kS d _ (by simp)
theorem kList (d : PyData) : (kitB (tyN d) "list").isSome = true := kS d _ (by simp)
theorem kTuple (d : PyData) : (kitB (tyN d) "tuple").isSome = true := kS d _ (by simp)
def isW : PyData → Bool | .int _ => true | _ => false
def isT : PyData → Bool | .tuple _ => true | _ => false
def isL : PyData → Bool | .list _ => true | _ => false
def isS : PyData → Bool | .str _ => true | _ => false
def isB : PyData → Bool | .bool _ => true | _ => false
def isIB : PyData → Bool | .bool _ => true | .int _ => true | _ => false
theorem isA_tuple (d : PyData) : isA d "tuple" = isT d := by cases d <;> simp only [isA, tyN, isT] <;> decide +kernel
theorem isA_list (d : PyData) : isA d "list" = isL d := by cases d <;> simp only [isA, tyN, isL] <;> decide +kernel
theorem isA_str (d : PyData) : isA d "str" = isS d := by cases d <;> simp only [isA, tyN, isS] <;> decide +kernel
theorem isA_bool (d : PyData) : isA d "bool" = isB d := by cases d <;> simp only [isA, tyN, isB] <;> decide +kernel
theorem isA_int (d : PyData) : isA d "int" = isIB d := by cases d <;> simp only [isA, tyN, isIB] <;> decide +kernel
/-! ### shapes -/
mutual
theorem dp_can {K : PySem.W.Frag} {H : Hp} : ∀ (d : PyData) (v : V), Dp K H v d → d.plain = true
  | .none, _, _ => rfl
  | .bool _, _, _ => rfl
  | .int _, _, _ => rfl
  | .str _, _, _ => rfl
  | .list ds, _, h => by
    cases h with
    | lst s a => simpa [PyData.plain] using dpAll_can ds _ a
  | .tuple ds, _, h => by
    cases h with
    | tup s a => simpa [PyData.plain] using dpAll_can ds _ a
  | .dict _, _, h => by cases h
theorem dpAll_can {K : PySem.W.Frag} {H : Hp} : ∀ (ds : List PyData) (vs : List V), DpAll K H vs ds → PyData.plainAll ds = true
  | [], _, _ => rfl
  | d :: ds, _, h => by
    cases h with
    | cons h1 h2 => simp [PyData.plainAll, dp_can d _ h1, dpAll_can ds _ h2]
end
/-- == and != of data, nested less than 65 deep on the left -/
def rEqP (K : PySem.W.Frag) : R2 := fun x y H Q => ∃ d e, Dp K H x d ∧ Dp K H y e ∧ d.depth ≤ 64 ∧ Q (.bl (PyData.eqv d e)) H
def rNeP (K : PySem.W.Frag) : R2 := fun x y H Q => ∃ d e, Dp K H x d ∧ Dp K H y e ∧ d.depth ≤ 64 ∧ Q (.bl (!PyData.eqv d e)) H
theorem op_eqP {X : Cx} (hu : X.A.units + 64 < cLine) : OpR X (compareOp .Eq) (rEqP X.K) := by
  intro pins s σ H x y v u Q I rx ry h
  obtain ⟨d, e, hd, he, hl, q⟩ := h
  obtain ⟨as, r1⟩ := Dp.reads I d x v hd rx
  obtain ⟨bs, r2⟩ := Dp.reads I e y u he ry
  exact SeqAt.eq_plain r1 r2 (dp_can d x hd) (dp_can e y he) (by omega) ⟨.bl _, H, I, rfl, q⟩
theorem op_neP {X : Cx} (hu : X.A.units + 64 < cLine) : OpR X (compareOp .NotEq) (rNeP X.K) := by
  intro pins s σ H x y v u Q I rx ry h
  obtain ⟨d, e, hd, he, hl, q⟩ := h
  obtain ⟨as, r1⟩ := Dp.reads I d x v hd rx
  obtain ⟨bs, r2⟩ := Dp.reads I e y u he ry
  exact SeqAt.ne_plain r1 r2 (dp_can d x hd) (dp_can e y he) (by omega) ⟨.bl _, H, I, rfl, q⟩
theorem eqv_self {K : PySem.W.Frag} {H : Hp} {d : PyData} {v : V} (h : Dp K H v d) : PyData.eqv d d = true := SeqAt.eqv_refl_plain d (dp_can d v h)
theorem depthAll_le {n : Nat} : ∀ (ds : List PyData), (∀ d ∈ ds, d.depth ≤ n) → PyData.depthAll ds ≤ n
  | [], _ => by simp [PyData.depthAll]
  | d :: ds, h => by
    rw [PyData.depthAll]
    exact Nat.max_le.mpr ⟨h d (by simp), depthAll_le ds fun x hx => h x (by simp [hx])⟩
theorem depth_of_all {n : Nat} : ∀ (ds : List PyData), PyData.depthAll ds ≤ n → ∀ d ∈ ds, d.depth ≤ n
  | [], _, d, h => by simp at h
  | x :: ds, h, d, hd => by
    rw [PyData.depthAll] at h
    obtain ⟨h1, h2⟩ := Nat.max_le.mp h
    rcases List.mem_cons.mp hd with rfl | hd
    · exact h1
    · exact depth_of_all ds h2 d hd
theorem depth_tI (ns : List Int) : (tI ns).depth ≤ 1 := by
  rw [PyData.depth]
  have : PyData.depthAll (iD ns) ≤ 0 := depthAll_le _ fun d hd => by
    obtain ⟨i, _, rfl⟩ := List.mem_map.mp hd
    simp [PyData.depth]
  omega
/-! ### the heap without one cell -/
def Off (k : Addr) (H : Hp) : Hp := fun b => if b = k then none else H b
theorem off_same (k : Addr) (H : Hp) : Same (Off k H) H := fun b o h => by
  unfold Off at h
  split at h
  · cases h
  · exact h
theorem off_mono {k : Addr} {H H' : Hp} (e : Same H H') : Same (Off k H) (Off k H') := fun b o h => by
  unfold Off at h ⊢
  split at h
  · cases h
  · rename_i n
    rw [if_neg n]
    exact e b o h
theorem off_of {k : Addr} {H H' : Hp} (e : ∀ b o, b ≠ k → H b = some o → H' b = some o) : Same (Off k H) (Off k H') := fun b o h => by
  unfold Off at h ⊢
  split at h
  · cases h
  · rename_i n
    rw [if_neg n]
    exact e b o n h
theorem off_back {k : Addr} {H H' : Hp} (e : Same (Off k H) (Off k H')) {b : Addr} {o : HO} (n : b ≠ k) (h : H b = some o) : H' b = some o := by
  have h1 : Off k H b = some o := by unfold Off; rw [if_neg n]; exact h
  have h2 := e b o h1
  unfold Off at h2
  rw [if_neg n] at h2
  exact h2
theorem off_at {k b : Addr} {H : Hp} {o : HO} (n : b ≠ k) (h : H b = some o) : Off k H b = some o := by
  unfold Off
  rw [if_neg n]
  exact h
theorem same_new {H : Hp} {p : Addr} {o : HO} (h : H p = none) : Same H (upd H p o) := fun b x e => by
  rw [upd_ne (ne_of_none e h)]
  exact e
/-! data without lists does not hold the cell of a list -/
mutual
def noL : PyData → Bool
  | .list _ => false
  | .tuple ds => noLs ds
  | .none | .bool _ | .int _ | .str _ | .dict _ => true
def noLs : List PyData → Bool
  | [] => true
  | d :: ds => noL d && noLs ds
end
theorem noLs_all : ∀ (ds : List PyData), (∀ d ∈ ds, noL d = true) → noLs ds = true
  | [], _ => rfl
  | d :: ds, h => by simp [noLs, h d (by simp), noLs_all ds fun x hx => h x (by simp [hx])]
theorem noL_tI (ns : List Int) : noL (tI ns) = true := by
  rw [noL]
  exact noLs_all _ fun d hd => by
    obtain ⟨i, _, rfl⟩ := List.mem_map.mp hd
    rfl
mutual
theorem dp_off {K : PySem.W.Frag} {H : Hp} {k : Addr} {l : List V} (hk : H k = some (.lst l)) : ∀ (d : PyData) (v : V), noL d = true → Dp K H v d → Dp K (Off k H) v d
  | .none, _, _, h => by cases h; exact .non
  | .bool b, _, _, h => by cases h; exact .bl b
  | .int i, _, _, h => by cases h; exact .int i
  | .str x, _, _, h => by cases h; exact .str x
  | .list ds, _, n, h => by simp [noL] at n
  | .tuple ds, _, n, h => by
    cases h with
    | @tup a xs _ s al =>
      refine .tup ?_ (dpAll_off hk ds _ (by simpa [noL] using n) al)
      rcases s with (s | ⟨o, s⟩) | s
      · exact .inl (.inl (off_at (ne_of s hk (by intro z; cases z)) s))
      · exact .inl (.inr ⟨o, off_at (ne_of s hk (by intro z; cases z)) s⟩)
      · exact .inr s
  | .dict _, _, _, h => by cases h
theorem dpAll_off {K : PySem.W.Frag} {H : Hp} {k : Addr} {l : List V} (hk : H k = some (.lst l)) : ∀ (ds : List PyData) (vs : List V), noLs ds = true → DpAll K H vs ds → DpAll K (Off k H) vs ds
  | [], _, _, h => by cases h; exact .nil
  | d :: ds, _, n, h => by
    cases h with
    | cons h1 h2 =>
      have n' : noL d = true ∧ noLs ds = true := by simpa [noLs] using n
      exact .cons (dp_off hk d _ n'.1 h1) (dpAll_off hk ds _ n'.2 h2)
end
/-! ### what a def gives back -/
abbrev RB (H : Hp) (Q : VK) (b : Bool) : Prop := ∀ H', Same H H' → Q (.bl b) H'
abbrev RI (H : Hp) (Q : VK) (n : Int) : Prop := ∀ H', Same H H' → Q (.int n) H'
abbrev RD (K : PySem.W.Frag) (H : Hp) (Q : VK) (d : PyData) : Prop := ∀ v H', Same H H' → Dp K H' v d → Q v H'
end PS

namespace PS
open PySem PySem.Spec PyProof.Rows L2
/-! ### l.count(x) of data -/
def rCountD (K : PySem.W.Frag) : V → List V → Hp → VK → Prop := fun x xs H Q => ∃ (a : Addr) (y : V) (d : PyData) (ds : List PyData), x = V.ref a ∧ xs = [y] ∧ Dp K H (V.ref a) (.list ds) ∧ Dp K H y d ∧
  SeqAt.shaped (.list ds) = true ∧ SeqAt.shaped d = true ∧ d.depth ≤ 60 ∧ Q (.int (ds.countP (fun z => PyData.eqv z d) : Nat)) H
theorem mt_lcountD {X : Cx} (hu : X.A.units + 64 < cLine) : MtR X "list.count" (rCountD X.K) := by
  intro pins s σ H x xs v us Q I rx rxs h
  obtain ⟨a, y, d, ds, rfl, rfl, hl, hy, sl, sd, d60, q⟩ := h
  cases rx
  cases rxs with
  | cons ry rt =>
    rename_i uy ut
    cases rt
    obtain ⟨bs, r1⟩ := Dp.reads I d y uy hy ry
    have hxs : PyData.canLayAll0 ds = true := SeqAt.canLay_of_shaped sl
    have hroom : X.A.units + 1 + min (PyData.depthAll ds) d.depth < cLine := by
      have := Nat.min_le_right (PyData.depthAll ds) d.depth
      omega
    cases hl with
    | lst hs ha =>
      obtain ⟨its, rv, ⟨⟨cls, dd, data, sls⟩, n, ho, hc, hdn, hdt⟩, hlen⟩ := I.list hs
      simp only at hc hdt
      subst hc hdt
      obtain ⟨as, h4⟩ := Dp.readsAll I ds _ its ha rv
      have hmap : its.map (SeqAt.readOf s.heap) = ds := SeqAt.readsAll_map ds its as hxs h4
      refine call_meets PySem.F.slot_list_count ⟨_, ho, rfl⟩ PySem.F.entry_list_count (PySem.F.args_list_count_2 _ _)
        (SeqAt.list_countAt a its.toArray n dd sls uy (fun u => PyData.eqv (SeqAt.readOf s.heap u) d)) ⟨ho, SeqAt.items_eqAt (vs := its.toArray) (show ReadsAll s.heap its.toArray.toList ds as from h4) r1 hxs (SeqAt.canLay_of_shaped sd) hroom, ?_⟩
      refine ⟨.int _, H, I.tok _, ⟨_, rfl⟩, ?_⟩
      rw [← hmap, List.countP_map] at q
      exact q
theorem canLay_iD : ∀ ns : List Int, PyData.canLayAll0 (iD ns) = true
  | [] => by simp [PyData.canLayAll0]
  | n :: ns => by
    show PyData.canLayAll0 (PyData.int n :: iD ns) = true
    simp [PyData.canLayAll0, PyData.canLay0]
    exact canLay_iD ns
theorem canLay_tI (ns : List Int) : (tI ns).canLay0 = true := by
  simp [PyData.canLay0]
  exact canLay_iD ns
theorem shaped_tI (ns : List Int) : SeqAt.shaped (tI ns) = true := by
  unfold SeqAt.shaped
  rw [canLay_tI, decide_eq_true (Nat.le_trans (depth_tI ns) (by decide))]
  rfl
theorem canLay_all : ∀ ds : List PyData, (∀ d ∈ ds, d.canLay0 = true) → PyData.canLayAll0 ds = true
  | [], _ => by simp [PyData.canLayAll0]
  | d :: ds, h => by
    simp only [PyData.canLayAll0, Bool.and_eq_true]
    exact ⟨h d (by simp), canLay_all ds fun x hx => h x (by simp [hx])⟩
theorem shaped_list {ds : List PyData} (h : ∀ d ∈ ds, d.canLay0 = true ∧ d.depth ≤ 63) : SeqAt.shaped (.list ds) = true := by
  unfold SeqAt.shaped
  have e1 : (PyData.list ds).canLay0 = true := by
    simp only [PyData.canLay0]
    exact canLay_all ds fun d hd => (h d hd).1
  have e2 : (PyData.list ds).depth ≤ 64 := by
    rw [PyData.depth]
    have := depthAll_le (n := 63) ds fun d hd => (h d hd).2
    omega
  rw [e1, decide_eq_true e2]
  rfl
end PS

namespace PS
open PySem PySem.Spec PyProof.Rows L2
/-! ### what the defs tell, over data -/
def within (d : PyData) (lo hi : Int) : Bool := match d with
  | .int i => if lo ≤ i then decide (i ≤ hi) else false
  | _ => false
def tupOf (d : PyData) (n : Int) : Bool := match d with
  | .tuple ds => decide ((ds.length : Int) = n)
  | _ => false
def areBlocks (d : PyData) : Bool := match d with
  | .tuple ds => if 1 ≤ (ds.length : Int) ∧ (ds.length : Int) ≤ 8 then ds.all (fun x => within x 1 50) else false
  | _ => false
def intOf : PyData → Int
  | .int i => i
  | _ => 0
def isShelf (d : PyData) : Bool := match d with
  | .tuple [r, .tuple bs] => if areBlocks (.tuple bs) = true then within r (bs.map intOf).sum ((bs.map intOf).sum + 400) else false
  | _ => false
theorem within_ints : ∀ {ds : List PyData} {lo hi : Int}, ds.all (fun x => within x lo hi) = true → ∃ ns : List Int, ds = iD ns ∧ ∀ n ∈ ns, lo ≤ n ∧ n ≤ hi
  | [], _, _, _ => ⟨[], rfl, by simp⟩
  | d :: ds, lo, hi, h => by
    rw [List.all_cons, Bool.and_eq_true] at h
    obtain ⟨ns, e, q⟩ := within_ints h.2
    cases d with
    | int i =>
      have h1 := h.1
      unfold within at h1
      simp only at h1
      by_cases hl : lo ≤ i
      · rw [if_pos hl] at h1
        have h2 := of_decide_eq_true h1
        exact ⟨i :: ns, by rw [e]; rfl, fun n hn => by
          rcases List.mem_cons.mp hn with rfl | hn
          · exact ⟨hl, h2⟩
          · exact q n hn⟩
      · rw [if_neg hl] at h1; cases h1
    | _ => simp [within] at h
theorem intOf_iD : ∀ ns : List Int, (iD ns).map intOf = ns
  | [] => rfl
  | n :: ns => by
    show n :: (iD ns).map intOf = n :: ns
    rw [intOf_iD ns]
/-- a shelf -/
abbrev shD (room : Int) (ls : List Int) : PyData := .tuple [.int room, tI ls]
structure ShOk (room : Int) (ls : List Int) : Prop where
  n1 : 1 ≤ ls.length
  n8 : ls.length ≤ 8
  l1 : ∀ l ∈ ls, 1 ≤ l ∧ l ≤ 50
  lo : ls.sum ≤ room
  hi : room ≤ ls.sum + 400
theorem areBlocks_ints {ds : List PyData} (h : areBlocks (.tuple ds) = true) : ∃ ls : List Int, ds = iD ls ∧ 1 ≤ ls.length ∧ ls.length ≤ 8 ∧ ∀ l ∈ ls, 1 ≤ l ∧ l ≤ 50 := by
  unfold areBlocks at h
  simp only at h
  split at h
  · rename_i hc
    obtain ⟨ls, rfl, q⟩ := within_ints h
    rw [List.length_map] at hc
    exact ⟨ls, rfl, by omega, by omega, q⟩
  · cases h
theorem all_within {ls : List Int} {lo hi : Int} (h : ∀ l ∈ ls, lo ≤ l ∧ l ≤ hi) : (iD ls).all (fun x => within x lo hi) = true := by
  rw [List.all_eq_true]
  intro x hx
  obtain ⟨l, hl, rfl⟩ := List.mem_map.mp hx
  unfold within
  simp only
  rw [if_pos (h l hl).1]
  exact decide_eq_true (h l hl).2
theorem areBlocks_ok {ls : List Int} (h1 : 1 ≤ ls.length) (h8 : ls.length ≤ 8) (h : ∀ l ∈ ls, 1 ≤ l ∧ l ≤ 50) : areBlocks (tI ls) = true := by
  unfold areBlocks
  simp only
  rw [if_pos ⟨by rw [List.length_map]; omega, by rw [List.length_map]; omega⟩]
  exact all_within h
theorem isShelf_ok {room : Int} {ls : List Int} (h : ShOk room ls) : isShelf (shD room ls) = true := by
  unfold isShelf
  simp only
  rw [if_pos (areBlocks_ok h.n1 h.n8 h.l1), intOf_iD]
  unfold within
  simp only
  rw [if_pos h.lo]
  exact decide_eq_true h.hi
end PS

namespace PS
open PySem PySem.Spec PyProof.Rows L2
/-! ### slices, walks -/
theorem cut_to (xs : List V) (k : Nat) : cutV xs none (some (k : Int)) = xs.take k := by
  unfold cutV
  rw [HT.sIx_none, HT.sIx_nat, List.drop_zero, Nat.sub_zero]
  by_cases h : k ≤ xs.length
  · rw [Nat.min_eq_left h]
  · rw [Nat.min_eq_right (by omega), List.take_length, List.take_of_length_le (by omega)]
theorem cut_from (xs : List V) (k : Nat) : cutV xs (some (k : Int)) none = xs.drop k := by
  unfold cutV
  rw [HT.sIx_none, HT.sIx_nat]
  by_cases h : k ≤ xs.length
  · rw [Nat.min_eq_left h, List.take_of_length_le (by rw [List.length_drop]; omega)]
  · rw [Nat.min_eq_right (by omega), Nat.sub_self, List.take_zero, List.drop_of_length_le (by omega)]
/-- t[:k] of a tuple, whatever it is -/
theorem slT_to {K : PySem.W.Frag} {H : Hp} {Q : VK} {a : Addr} {xs : List V} {k : Nat} (s : SqT K H a xs) (q : ∀ p H', Same H H' → SqT K H' p (xs.take k) → Q (.ref p) H') : rSlA K (.ref a) none (some (k : Int)) H Q := by
  refine ⟨a, xs, rfl, s, fun h => ?_, fun h p np => ?_⟩
  · have e : xs.take k = xs := List.take_of_length_le (by
      have := h.2
      rw [HT.sIx_nat] at this
      omega)
    exact q a H (Same.refl H) (by rw [e]; exact s)
  · rw [cut_to]
    exact q p _ (same_new np) (.inl (.inl upd_same))
theorem slT_from {K : PySem.W.Frag} {H : Hp} {Q : VK} {a : Addr} {xs : List V} {k : Nat} (s : SqT K H a xs) (q : ∀ p H', Same H H' → SqT K H' p (xs.drop k) → Q (.ref p) H') : rSlA K (.ref a) (some (k : Int)) none H Q := by
  refine ⟨a, xs, rfl, s, fun h => ?_, fun h p np => ?_⟩
  · have e : xs.drop k = xs := by
      have := h.1
      rw [HT.sIx_nat] at this
      by_cases hk : k = 0
      · subst hk; rfl
      · have : xs.length = 0 := by omega
        rw [List.length_eq_zero_iff.mp this]; simp
    exact q a H (Same.refl H) (by rw [e]; exact s)
  · rw [cut_from]
    exact q p _ (same_new np) (.inl (.inl upd_same))
theorem walk_2 {b1 b2 : Bool} {K : PySem.W.Frag} {a1 a2 : Addr} {xs ys : List V} {n : Nat} (hn : n = min xs.length ys.length) :
    Walk (It2 b1 b2 K a1 a2) n (fun H => SqK b1 K H a1 xs ∧ SqK b2 K H a2 ys) (fun i H v H' => ∃ T x y, v = .ref T ∧ H T = none ∧ H' = upd H T (.tup [x, y]) ∧ xs[i]? = some x ∧ ys[i]? = some y) where
  goes := fun i H hi g => ⟨xs, ys, xs[i], ys[i], g.1, g.2, List.getElem?_eq_getElem (by omega), List.getElem?_eq_getElem (by omega)⟩
  stops := fun H g => ⟨xs, ys, g.1, g.2, hn⟩
  yields := fun i H x H' hi g y => by
    obtain ⟨T, x, y, rfl, nT, rfl, f1, f2⟩ := y
    exact ⟨T, x, y, rfl, nT, rfl, f1 xs g.1, f2 ys g.2⟩
theorem walk_3 {b1 b2 b3 : Bool} {K : PySem.W.Frag} {a1 a2 a3 : Addr} {xs ys zs : List V} {n : Nat} (hn : n = min (min xs.length ys.length) zs.length) :
    Walk (It3 b1 b2 b3 K a1 a2 a3) n (fun H => SqK b1 K H a1 xs ∧ SqK b2 K H a2 ys ∧ SqK b3 K H a3 zs) (fun i H v H' => ∃ T x y z, v = .ref T ∧ H T = none ∧ H' = upd H T (.tup [x, y, z]) ∧ xs[i]? = some x ∧ ys[i]? = some y ∧ zs[i]? = some z) where
  goes := fun i H hi g => ⟨xs, ys, zs, xs[i], ys[i], zs[i], g.1, g.2.1, g.2.2, List.getElem?_eq_getElem (by omega), List.getElem?_eq_getElem (by omega), List.getElem?_eq_getElem (by omega)⟩
  stops := fun H g => ⟨xs, ys, zs, g.1, g.2.1, g.2.2, hn⟩
  yields := fun i H x H' hi g y => by
    obtain ⟨T, x, y, z, rfl, nT, rfl, f1, f2, f3⟩ := y
    exact ⟨T, x, y, z, rfl, nT, rfl, f1 xs g.1, f2 ys g.2.1, f3 zs g.2.2⟩
theorem walk_1 {b : Bool} {K : PySem.W.Frag} {a : Addr} {xs : List V} {n : Nat} (hn : n = xs.length) :
    Walk (It1 b K a) n (fun H => SqK b K H a xs) (fun i H v H' => ∃ T x, v = .ref T ∧ H T = none ∧ H' = upd H T (.tup [.int (i : Nat), x]) ∧ xs[i]? = some x) where
  goes := fun i H hi g => ⟨xs, xs[i], g, List.getElem?_eq_getElem (by omega)⟩
  stops := fun H g => ⟨xs, g, hn⟩
  yields := fun i H x H' hi g y => by
    obtain ⟨T, x, rfl, nT, rfl, f⟩ := y
    exact ⟨T, x, rfl, nT, rfl, f xs g⟩
theorem ixN_at {n j : Nat} {z : Int} (e : z = (j : Int)) (h : j < n) : ixN n z = some j := by
  subst e
  unfold ixN
  rw [if_pos (by omega), if_pos (by omega)]
  simp
theorem iV_get {ns : List Int} {j : Nat} {v : Int} (h : ns[j]? = some v) : (iV ns)[j]? = some (.int v) := by
  rw [List.getElem?_map, h]
  rfl
theorem iV_set (ns : List Int) (j : Nat) (v : Int) : (iV ns).set j (.int v) = iV (ns.set j v) := List.map_set.symm
theorem iV_len (ns : List Int) : (iV ns).length = ns.length := List.length_map ..
/-! ### stands by their places -/
def pre (ls : List Int) (j : Nat) : Int := (ls.take j).sum
def stL (ls : List Int) (y : Nat → Int) : List Int := (List.range ls.length).map fun j => y j + pre ls j
structure Rise (n : Nat) (pl : Int) (y : Nat → Int) : Prop where
  lo : ∀ j, j < n → 0 ≤ y j
  hi : ∀ j, j < n → y j ≤ pl
  up : ∀ j, j + 1 < n → y j ≤ y (j + 1)
theorem pre_zero (ls : List Int) : pre ls 0 = 0 := by simp [pre]
theorem pre_succ {ls : List Int} {j : Nat} (h : j < ls.length) : pre ls (j + 1) = pre ls j + ls[j] := by
  unfold pre
  exact L2.sum_take (List.getElem?_eq_getElem h)
theorem pre_all (ls : List Int) {j : Nat} (h : ls.length ≤ j) : pre ls j = ls.sum := by
  unfold pre
  rw [List.take_of_length_le h]
theorem stL_len (ls : List Int) (y : Nat → Int) : (stL ls y).length = ls.length := by simp [stL]
theorem stL_get {ls : List Int} {y : Nat → Int} {j : Nat} (h : j < ls.length) : (stL ls y)[j]? = some (y j + pre ls j) := by
  simp [stL, h]
theorem stL_congr {ls : List Int} {y z : Nat → Int} (h : ∀ j, j < ls.length → y j = z j) : stL ls y = stL ls z := by
  apply List.ext_getElem?
  intro j
  by_cases hj : j < ls.length
  · rw [stL_get hj, stL_get hj, h j hj]
  · rw [List.getElem?_eq_none (by rw [stL_len]; omega), List.getElem?_eq_none (by rw [stL_len]; omega)]
theorem stL_inj {ls : List Int} {y z : Nat → Int} (h : stL ls y = stL ls z) : ∀ j, j < ls.length → y j = z j := fun j hj => by
  have e := congrArg (fun l : List Int => l[j]?) h
  simp only [stL_get hj] at e
  have := Option.some.inj e
  omega
theorem stL_set {ls : List Int} {y : Nat → Int} {k : Nat} {v : Int} (h : k < ls.length) : (stL ls y).set k v = stL ls (fun j => if j = k then v - pre ls k else y j) := by
  apply List.ext_getElem?
  intro j
  by_cases hj : j < ls.length
  · rw [stL_get hj, List.getElem?_set, stL_len]
    by_cases e : k = j
    · subst e
      rw [if_pos rfl, if_pos h, if_pos rfl]
      congr 1
      omega
    · rw [if_neg e, stL_get hj, if_neg (Ne.symm e)]
  · rw [List.getElem?_eq_none (by rw [List.length_set, stL_len]; omega), List.getElem?_eq_none (by rw [stL_len]; omega)]
def pR (g : Nat) (b : Int) (y : Nat → Int) : Nat → Int := fun j => if g ≤ j then max (y j) b else y j
def pL (g : Nat) (b : Int) (y : Nat → Int) : Nat → Int := fun j => if j < g then min (y j) b else y j
theorem pR_rise {n g : Nat} {pl b : Int} {y : Nat → Int} (h : Rise n pl y) (b0 : 0 ≤ b) (b1 : b ≤ pl) : Rise n pl (pR g b y) where
  lo := fun j hj => by
    have := h.lo j hj
    unfold pR; split <;> omega
  hi := fun j hj => by
    have := h.hi j hj
    unfold pR; split <;> omega
  up := fun j hj => by
    have := h.up j hj
    unfold pR; split <;> split <;> omega
theorem pL_rise {n g : Nat} {pl b : Int} {y : Nat → Int} (h : Rise n pl y) (b0 : 0 ≤ b) (b1 : b ≤ pl) : Rise n pl (pL g b y) where
  lo := fun j hj => by
    have := h.lo j hj
    unfold pL; split <;> omega
  hi := fun j hj => by
    have := h.hi j hj
    unfold pL; split <;> omega
  up := fun j hj => by
    have := h.up j hj
    unfold pL; split <;> split <;> omega
/-! ### is it a stand -/
def standG (room : Int) : Int → List PyData → List Int → Bool
  | e, d :: ds, l :: ls => match d with
    | .int i => if i < e then false else standG room (i + l) ds ls
    | _ => false
  | e, _, _ => decide (e ≤ room)
def isStand (room : Int) (ls : List Int) (d : PyData) : Bool := match d with
  | .tuple ds => if (ds.length : Int) = ls.length then standG room 0 ds ls else false
  | _ => false
theorem standG_ok {room : Int} {ls : List Int} {y : Nat → Int} (h : Rise ls.length (room - ls.sum) y) : ∀ (m k : Nat) (e : Int), m + k = ls.length → (k < ls.length → e ≤ y k + pre ls k) → (k = ls.length → e ≤ room) → standG room e ((iD (stL ls y)).drop k) (ls.drop k) = true
  | 0, k, e, hk, _, h2 => by
    rw [List.drop_of_length_le (by rw [List.length_map, stL_len]; omega), List.drop_of_length_le (by omega)]
    exact decide_eq_true (h2 (by omega))
  | m + 1, k, e, hk, h1, h2 => by
    have hlt : k < ls.length := by omega
    have e1 : (iD (stL ls y))[k]? = some (.int (y k + pre ls k)) := by
      rw [List.getElem?_map, stL_get hlt]
      rfl
    have hl : k < (iD (stL ls y)).length := by rw [List.length_map, stL_len]; exact hlt
    rw [List.drop_eq_getElem_cons hl, List.drop_eq_getElem_cons hlt]
    rw [List.getElem?_eq_getElem hl] at e1
    rw [Option.some.inj e1]
    unfold standG
    simp only
    rw [if_neg (by have := h1 hlt; omega)]
    have hp := pre_succ hlt
    refine standG_ok h m (k + 1) _ (by omega) (fun hq => ?_) (fun hq => ?_)
    · have := h.up k hq
      omega
    · have := h.hi k hlt
      have := pre_all ls (j := k + 1) (by omega)
      omega
theorem isStand_ok {room : Int} {ls : List Int} {y : Nat → Int} (h : Rise ls.length (room - ls.sum) y) (h0 : ls.sum ≤ room) : isStand room ls (tI (stL ls y)) = true := by
  unfold isStand
  simp only
  rw [if_pos (by rw [List.length_map, stL_len])]
  have := standG_ok h ls.length 0 0 (by omega) (fun hq => by
    have := h.lo 0 hq
    rw [pre_zero]
    omega) (fun hq => by
      have : ls = [] := List.length_eq_zero_iff.mp hq.symm
      subst this
      simpa using h0)
  simpa using this
/-! ### pushes, rows -/
/-- right or left, the gap, the place less the gap's length -/
abbrev Push := Bool × Nat × Int
def sideS (r : Bool) : Str := if r = true then "right" else "left"
def puD (ls : List Int) (p : Push) : PyData := .tuple [.str (sideS p.1), .int p.2.1, .int (p.2.2 + pre ls p.2.1)]
def roD (ls : List Int) (r : List Push) : PyData := .list (r.map (puD ls))
structure PuOk (n : Nat) (pl : Int) (p : Push) : Prop where
  g0 : p.1 = true → p.2.1 < n
  g1 : p.1 = false → 1 ≤ p.2.1 ∧ p.2.1 ≤ n
  b0 : 0 ≤ p.2.2
  b1 : p.2.2 ≤ pl
def doP (y : Nat → Int) (p : Push) : Nat → Int := if p.1 = true then pR p.2.1 p.2.2 y else pL p.2.1 p.2.2 y
def doR (y : Nat → Int) (r : List Push) : Nat → Int := r.foldl doP y
theorem doP_rise {n : Nat} {pl : Int} {y : Nat → Int} {p : Push} (h : Rise n pl y) (k : PuOk n pl p) : Rise n pl (doP y p) := by
  unfold doP
  split
  · exact pR_rise h k.b0 k.b1
  · exact pL_rise h k.b0 k.b1
theorem doR_rise {n : Nat} {pl : Int} : ∀ {r : List Push} {y : Nat → Int}, Rise n pl y → (∀ p ∈ r, PuOk n pl p) → Rise n pl (doR y r)
  | [], y, h, _ => h
  | p :: r, y, h, k => doR_rise (r := r) (doP_rise h (k p (by simp))) fun q hq => k q (by simp [hq])
theorem doR_app (y : Nat → Int) (r s : List Push) : doR y (r ++ s) = doR (doR y r) s := by simp [doR, List.foldl_append]
def isGap (n : Int) (s g : PyData) : Bool := if PyData.eqv s (.str "right") = true then within g 0 (n - 1) else if PyData.eqv s (.str "left") = true then within g 1 n else false
def isPush (room : Int) (ls : List Int) (d : PyData) : Bool := match d with
  | .tuple [s, g, p] => if isGap ls.length s g = true then within p (pre ls (intOf g).toNat) (pre ls (intOf g).toNat + (room - ls.sum)) else false
  | _ => false
def isRow (room : Int) (ls : List Int) (d : PyData) : Bool := match d with
  | .list ds => if (ds.length : Int) > 200 then false else ds.all (isPush room ls)
  | _ => false
theorem within_ok {i lo hi : Int} (h1 : lo ≤ i) (h2 : i ≤ hi) : within (.int i) lo hi = true := by
  unfold within
  simp only
  rw [if_pos h1]
  exact decide_eq_true h2
theorem isPush_ok {room : Int} {ls : List Int} {p : Push} (h : PuOk ls.length (room - ls.sum) p) : isPush room ls (puD ls p) = true := by
  obtain ⟨r, g, b⟩ := p
  obtain ⟨g0, g1, b0, b1⟩ := h
  simp only at g0 g1 b0 b1
  unfold isPush puD
  simp only
  have hg : isGap ls.length (.str (sideS r)) (.int (g : Int)) = true := by
    unfold isGap
    cases r with
    | true =>
      have := g0 rfl
      rw [if_pos (by decide +kernel)]
      exact within_ok (by omega) (by omega)
    | false =>
      have := g1 rfl
      rw [if_neg (by decide +kernel), if_pos (by decide +kernel)]
      exact within_ok (by omega) (by omega)
  rw [if_pos hg]
  exact within_ok (by simp [intOf]; omega) (by simp [intOf]; omega)
theorem isRow_ok {room : Int} {ls : List Int} {r : List Push} (hl : r.length ≤ 200) (h : ∀ p ∈ r, PuOk ls.length (room - ls.sum) p) : isRow room ls (roD ls r) = true := by
  unfold isRow roD
  simp only
  rw [if_neg (by rw [List.length_map]; omega), List.all_eq_true]
  intro d hd
  obtain ⟨p, hp, rfl⟩ := List.mem_map.mp hd
  exact isPush_ok (h p hp)
theorem puD_depth (ls : List Int) (p : Push) : (puD ls p).depth ≤ 1 := by
  unfold puD
  simp [PyData.depth, PyData.depthAll]
theorem noL_puD (ls : List Int) (p : Push) : noL (puD ls p) = true := rfl
end PS

namespace PS
open PySem PySem.Spec PyProof.Rows L2
/-! ### what a row does to one block -/
def clamp (l h x : Int) : Int := min (max x l) h
/-- one push at the j-th block -/
def act (j : Nat) (x : Int) (p : Push) : Int := if p.1 = true then (if p.2.1 ≤ j then max x p.2.2 else x) else (if j < p.2.1 then min x p.2.2 else x)
theorem doP_at (y : Nat → Int) (p : Push) (j : Nat) : doP y p j = act j (y j) p := by
  unfold doP act
  split <;> rfl
theorem doR_at : ∀ (r : List Push) (y : Nat → Int) (j : Nat), doR y r j = r.foldl (act j) (y j)
  | [], y, j => rfl
  | p :: r, y, j => by
    show doR (doP y p) r j = r.foldl (act j) (act j (y j) p)
    rw [doR_at r, doP_at]
theorem act_mono {j : Nat} {x z : Int} (h : x ≤ z) (p : Push) : act j x p ≤ act j z p := by
  unfold act
  split <;> split <;> omega
theorem fold_mono {j : Nat} : ∀ (r : List Push) {x z : Int}, x ≤ z → r.foldl (act j) x ≤ r.foldl (act j) z
  | [], x, z, h => h
  | p :: r, x, z, h => fold_mono r (act_mono h p)
theorem act_in {j : Nat} {x pl : Int} {p : Push} (b0 : 0 ≤ p.2.2) (b1 : p.2.2 ≤ pl) (h0 : 0 ≤ x) (h1 : x ≤ pl) : 0 ≤ act j x p ∧ act j x p ≤ pl := by
  unfold act
  split <;> split <;> omega
theorem fold_clamp {j : Nat} {pl : Int} (hp : 0 ≤ pl) : ∀ (r : List Push), (∀ p ∈ r, 0 ≤ p.2.2 ∧ p.2.2 ≤ pl) → ∀ x, 0 ≤ x → x ≤ pl → r.foldl (act j) x = clamp (r.foldl (act j) 0) (r.foldl (act j) pl) x
  | [], _, x, h0, h1 => by
    show x = min (max x 0) pl
    omega
  | p :: r, hb, x, h0, h1 => by
    have hp1 := hb p (by simp)
    have ih := fold_clamp (j := j) hp r fun q hq => hb q (by simp [hq])
    have m := fold_mono (j := j) r hp
    have a1 := act_in (j := j) hp1.1 hp1.2 h0 h1
    have a2 := act_in (j := j) hp1.1 hp1.2 (Int.le_refl 0) hp
    have a3 := act_in (j := j) hp1.1 hp1.2 hp (Int.le_refl pl)
    show r.foldl (act j) (act j x p) = clamp (r.foldl (act j) (act j 0 p)) (r.foldl (act j) (act j pl p)) x
    rw [ih _ a1.1 a1.2, ih _ a2.1 a2.2, ih _ a3.1 a3.2]
    generalize r.foldl (act j) 0 = l at m ⊢
    generalize r.foldl (act j) pl = h at m ⊢
    unfold clamp act
    split <;> split <;> omega
def loR (r : List Push) : Nat → Int := doR (fun _ => 0) r
def hiR (pl : Int) (r : List Push) : Nat → Int := doR (fun _ => pl) r
theorem rise_const {n : Nat} {pl c : Int} (h0 : 0 ≤ c) (h1 : c ≤ pl) : Rise n pl (fun _ => c) := ⟨fun _ _ => h0, fun _ _ => h1, fun _ _ => Int.le_refl c⟩
theorem lo_le_hi {pl : Int} (hp : 0 ≤ pl) (r : List Push) (j : Nat) : loR r j ≤ hiR pl r j := by
  unfold loR hiR
  rw [doR_at, doR_at]
  exact fold_mono r hp
theorem doR_clamp {n : Nat} {pl : Int} {y : Nat → Int} {r : List Push} (hp : 0 ≤ pl) (hy : Rise n pl y) (hr : ∀ p ∈ r, PuOk n pl p) {j : Nat} (hj : j < n) : doR y r j = clamp (loR r j) (hiR pl r j) (y j) := by
  unfold loR hiR
  rw [doR_at, doR_at, doR_at]
  exact fold_clamp hp r (fun p h => ⟨(hr p h).b0, (hr p h).b1⟩) _ (hy.lo j hj) (hy.hi j hj)
theorem clamp_twice {l h x : Int} (e : l ≤ h) : clamp l h (clamp l h x) = clamp l h x := by
  unfold clamp
  omega
theorem doR_twice {n : Nat} {pl : Int} {y : Nat → Int} {r : List Push} (hp : 0 ≤ pl) (hy : Rise n pl y) (hr : ∀ p ∈ r, PuOk n pl p) {j : Nat} (hj : j < n) : doR (doR y r) r j = doR y r j := by
  rw [doR_clamp hp (doR_rise hy hr) hr hj, doR_clamp hp hy hr hj, clamp_twice (lo_le_hi hp r j)]
/-- a doing done by places -/
def ledF (lo hi y : Nat → Int) : Nat → Int := fun j => clamp (lo j) (hi j) (y j)
theorem led_rise {n : Nat} {pl : Int} {lo hi y : Nat → Int} (h1 : Rise n pl lo) (h2 : Rise n pl hi) (h3 : Rise n pl y) : Rise n pl (ledF lo hi y) where
  lo := fun j hj => by
    have := h1.lo j hj; have := h2.lo j hj; have := h3.lo j hj
    unfold ledF clamp; omega
  hi := fun j hj => by
    have := h1.hi j hj; have := h2.hi j hj; have := h3.hi j hj
    unfold ledF clamp; omega
  up := fun j hj => by
    have := h1.up j hj; have := h2.up j hj; have := h3.up j hj
    unfold ledF clamp; omega
/-- a doing -/
abbrev dgD (ls : List Int) (lo hi : Nat → Int) : PyData := .tuple [tI (stL ls lo), tI (stL ls hi)]
structure DoOk (n : Nat) (pl : Int) (lo hi : Nat → Int) : Prop where
  l : Rise n pl lo
  h : Rise n pl hi
  le : ∀ j, j < n → lo j ≤ hi j
theorem row_doOk {n : Nat} {pl : Int} {r : List Push} (hp : 0 ≤ pl) (hr : ∀ p ∈ r, PuOk n pl p) : DoOk n pl (loR r) (hiR pl r) :=
  ⟨doR_rise (rise_const (Int.le_refl 0) hp) hr, doR_rise (rise_const hp (Int.le_refl pl)) hr, fun j _ => lo_le_hi hp r j⟩
/-! ### is it a doing -/
def allLe : List PyData → List PyData → Bool
  | .int a :: ds, .int b :: es => if a ≤ b then allLe ds es else false
  | _, _ => true
def isDoing (room : Int) (ls : List Int) (d : PyData) : Bool := match d with
  | .tuple [.tuple a, .tuple b] => if isStand room ls (.tuple a) = true then (if isStand room ls (.tuple b) = true then allLe a b else false) else false
  | _ => false
theorem standG_ints {room : Int} : ∀ {ds : List PyData} {ls : List Int} {e : Int}, ds.length = ls.length → standG room e ds ls = true → ∃ ns : List Int, ds = iD ns
  | [], [], e, _, _ => ⟨[], rfl⟩
  | [], l :: ls, e, h, _ => by simp at h
  | d :: ds, [], e, h, _ => by simp at h
  | d :: ds, l :: ls, e, h, hg => by
    cases d with
    | int i =>
      have hg : (if i < e then false else standG room (i + l) ds ls) = true := hg
      split at hg
      · cases hg
      · obtain ⟨ns, rfl⟩ := standG_ints (by simpa using h) hg
        exact ⟨i :: ns, rfl⟩
    | _ => cases hg
theorem isStand_ints {room : Int} {ls : List Int} {d : PyData} (h : isStand room ls d = true) : ∃ ns : List Int, d = tI ns ∧ ns.length = ls.length := by
  cases d with
  | tuple ds =>
    have h : (if (ds.length : Int) = ls.length then standG room 0 ds ls else false) = true := h
    split at h
    · rename_i e
      obtain ⟨ns, rfl⟩ := standG_ints (by omega) h
      exact ⟨ns, rfl, by rw [List.length_map] at e; omega⟩
    · cases h
  | _ => cases h
theorem allLe_ints : ∀ (ns ms : List Int), allLe (iD ns) (iD ms) = (List.zipWith (fun a b => decide (a ≤ b)) ns ms).all id
  | [], _ => by cases ‹List Int› <;> rfl
  | _ :: _, [] => rfl
  | n :: ns, m :: ms => by
    show (if n ≤ m then allLe (iD ns) (iD ms) else false) = (decide (n ≤ m) && (List.zipWith (fun a b => decide (a ≤ b)) ns ms).all id)
    rw [allLe_ints ns ms]
    by_cases h : n ≤ m
    · rw [if_pos h, decide_eq_true h]; simp
    · rw [if_neg h, decide_eq_false h]; simp
theorem allLe_stL {ls : List Int} {lo hi : Nat → Int} (h : ∀ j, j < ls.length → lo j ≤ hi j) : allLe (iD (stL ls lo)) (iD (stL ls hi)) = true := by
  rw [allLe_ints, List.all_eq_true]
  intro b hb
  obtain ⟨i, hi', e⟩ := List.mem_iff_getElem.mp hb
  have hi2 : i < ls.length := by simpa [stL_len] using hi'
  have e1 := stL_get (y := lo) hi2
  have e2 := stL_get (y := hi) hi2
  have g1 : i < (stL ls lo).length := by rw [stL_len]; exact hi2
  have g2 : i < (stL ls hi).length := by rw [stL_len]; exact hi2
  rw [List.getElem?_eq_getElem g1] at e1
  rw [List.getElem?_eq_getElem g2] at e2
  rw [List.getElem_zipWith, Option.some.inj e1, Option.some.inj e2] at e
  rw [← e]
  have := h i hi2
  simp only [id]
  exact decide_eq_true (by omega)
theorem isDoing_ok {room : Int} {ls : List Int} {lo hi : Nat → Int} (sh : ls.sum ≤ room) (h : DoOk ls.length (room - ls.sum) lo hi) : isDoing room ls (dgD ls lo hi) = true := by
  show (if isStand room ls (tI (stL ls lo)) = true then (if isStand room ls (tI (stL ls hi)) = true then allLe (iD (stL ls lo)) (iD (stL ls hi)) else false) else false) = true
  rw [if_pos (isStand_ok h.l sh), if_pos (isStand_ok h.h sh)]
  exact allLe_stL h.le
end PS

namespace PS
/-! ### choices -/
def ch : Nat → Nat → Nat
  | _, 0 => 1
  | 0, _ + 1 => 0
  | n + 1, k + 1 => ch n k + ch n (k + 1)
theorem ch_zero (n : Nat) : ch n 0 = 1 := by cases n <;> rfl
theorem ch_succ (n k : Nat) : ch (n + 1) (k + 1) = ch n k + ch n (k + 1) := rfl
theorem ch_over : ∀ (n k : Nat), n < k → ch n k = 0
  | 0, k + 1, _ => rfl
  | n + 1, k + 1, h => by rw [ch_succ, ch_over n k (by omega), ch_over n (k + 1) (by omega)]
theorem ch_self : ∀ n : Nat, ch n n = 1
  | 0 => rfl
  | n + 1 => by rw [ch_succ, ch_self n, ch_over n (n + 1) (by omega)]
theorem ch_absorb : ∀ (n k : Nat), ch (n + 1) (k + 1) * (k + 1) = (n + 1) * ch n k
  | 0, 0 => rfl
  | 0, k + 1 => by
    rw [ch_over 1 (k + 2) (by omega), ch_over 0 (k + 1) (by omega)]
    simp
  | n + 1, 0 => by
    have := ch_absorb n 0
    rw [ch_zero] at this
    rw [ch_succ (n + 1) 0, ch_zero]
    simp only [Nat.zero_add, Nat.mul_one] at this ⊢
    omega
  | n + 1, k + 1 => by
    have h1 := ch_absorb n (k + 1)
    have h2 := ch_absorb n k
    rw [ch_succ (n + 1) (k + 1)]
    have e : (ch (n + 1) (k + 1) + ch (n + 1) (k + 2)) * (k + 1 + 1) = ch (n + 1) (k + 1) * (k + 1) + ch (n + 1) (k + 1) + ch (n + 1) (k + 2) * (k + 1 + 1) := by
      rw [Nat.add_mul, Nat.mul_add (ch (n + 1) (k + 1)) (k + 1) 1, Nat.mul_one]
    rw [e, h1, h2]
    have e2 : (n + 1 + 1) * ch (n + 1) (k + 1) = (n + 1) * (ch n k + ch n (k + 1)) + ch (n + 1) (k + 1) := by
      rw [Nat.add_mul (n + 1) 1, Nat.one_mul, ← ch_succ]
    rw [e2, Nat.mul_add]
    omega
theorem ch_step {t s : Nat} (h : s ≤ t) : ch t (s + 1) * (s + 1) = ch t s * (t - s) := by
  have h1 := ch_absorb t s
  rw [ch_succ, Nat.add_mul] at h1
  have e : (t + 1) * ch t s = ch t s * (s + 1) + ch t s * (t - s) := by
    rw [← Nat.mul_add, Nat.mul_comm]
    congr 1
    omega
  omega
theorem ch_le : ∀ (n k : Nat), ch n k ≤ 2 ^ n
  | n, 0 => by rw [ch_zero]; exact Nat.one_le_two_pow
  | 0, k + 1 => by simp [ch]
  | n + 1, k + 1 => by
    have := ch_le n k
    have := ch_le n (k + 1)
    rw [ch_succ, Nat.pow_succ]
    omega
/-! ### rising rows within boxes, counted place by place -/
def sumTo (W : Nat → Nat) : Nat → Nat
  | 0 => 0
  | m + 1 => sumTo W m + W m
theorem sumTo_congr {W V : Nat → Nat} : ∀ {m : Nat}, (∀ q, q < m → W q = V q) → sumTo W m = sumTo V m
  | 0, _ => rfl
  | m + 1, h => by rw [sumTo, sumTo, sumTo_congr (fun q hq => h q (by omega)), h m (by omega)]
theorem sumTo_add (W V : Nat → Nat) : ∀ m : Nat, sumTo (fun q => W q + V q) m = sumTo W m + sumTo V m
  | 0 => rfl
  | m + 1 => by
    rw [sumTo, sumTo, sumTo, sumTo_add W V m]
    omega
theorem sumTo_zero : ∀ m : Nat, sumTo (fun _ => 0) m = 0
  | 0 => rfl
  | m + 1 => by rw [sumTo, sumTo_zero m]
def stp (b : Int × Int) (W : Nat → Nat) : Nat → Nat := fun p => if b.1 ≤ (p : Int) ∧ (p : Int) ≤ b.2 then sumTo W (p + 1) else 0
def W0 : Nat → Nat := fun p => if p = 0 then 1 else 0
def dpW (bs : List (Int × Int)) : Nat → Nat := bs.foldl (fun W b => stp b W) W0
def cnt (pl : Nat) (bs : List (Int × Int)) : Nat := sumTo (dpW bs) (pl + 1)
theorem dpW_snoc (bs : List (Int × Int)) (b : Int × Int) : dpW (bs ++ [b]) = stp b (dpW bs) := by simp [dpW]
/-! full boxes -/
theorem hockey (k : Nat) : ∀ p : Nat, sumTo (fun q => ch (q + k) k) (p + 1) = ch (p + k + 1) (k + 1)
  | 0 => by
    show 0 + ch (0 + k) k = ch (0 + k + 1) (k + 1)
    rw [Nat.zero_add, Nat.zero_add, ch_self, ch_self]
  | p + 1 => by
    rw [sumTo, hockey k p, show p + 1 + k = p + k + 1 from by omega, ch_succ (p + k + 1) k, Nat.add_comm]
theorem full_W (pl : Nat) : ∀ k p : Nat, p ≤ pl → sumTo (dpW (List.replicate k (0, (pl : Int)))) (p + 1) = ch (p + k) k
  | 0, p, _ => by
    have : ∀ m, sumTo W0 (m + 1) = 1 := fun m => by
      induction m with
      | zero => rfl
      | succ m ih => rw [sumTo, ih]; rfl
    show sumTo W0 (p + 1) = ch (p + 0) 0
    rw [this, ch_zero]
  | k + 1, p, hp => by
    rw [List.replicate_succ', dpW_snoc, show p + (k + 1) = p + k + 1 from rfl, ← hockey]
    apply sumTo_congr
    intro q hq
    unfold stp
    rw [if_pos ⟨by simp, by simp only; omega⟩]
    exact full_W pl k q (by omega)
theorem cnt_full (pl n : Nat) : cnt pl (List.replicate n (0, (pl : Int))) = ch (pl + n) n := full_W pl n pl (Nat.le_refl _)
/-! one by one -/
def lastJ : List Int → Int
  | [] => 0
  | n :: ns => (n :: ns).getLast (List.cons_ne_nil n ns)
theorem lastJ_snoc (r : List Int) (z : Int) : lastJ (r ++ [z]) = z := by
  cases h : r ++ [z] with
  | nil => simp at h
  | cons a l =>
    show (a :: l).getLast _ = z
    have : (r ++ [z]).getLast (by simp) = z := by simp
    rw [← this]
    congr 1
    exact h.symm
def ext (pl : Nat) (r : List Int) : List (List Int) := (List.range ((pl : Int) + 1 - lastJ r).toNat).map fun q : Nat => r ++ [lastJ r + (q : Int)]
def allY (pl : Nat) : Nat → List (List Int)
  | 0 => [[]]
  | k + 1 => (allY pl k).flatMap (ext pl)
theorem allY_len {pl : Nat} : ∀ {k : Nat} {r : List Int}, r ∈ allY pl k → r.length = k
  | 0, r, h => by
    have : r = [] := by simpa [allY] using h
    rw [this]; rfl
  | k + 1, r, h => by
    obtain ⟨r', h1, h2⟩ := List.mem_flatMap.mp h
    obtain ⟨q, _, rfl⟩ := List.mem_map.mp h2
    rw [List.length_append, allY_len h1]
    rfl
theorem allY_last {pl : Nat} : ∀ {k : Nat} {r : List Int}, r ∈ allY pl k → 0 ≤ lastJ r ∧ lastJ r ≤ pl
  | 0, r, h => by
    have : r = [] := by simpa [allY] using h
    rw [this]
    exact ⟨Int.le_refl _, Int.natCast_nonneg _⟩
  | k + 1, r, h => by
    obtain ⟨r', h1, h2⟩ := List.mem_flatMap.mp h
    obtain ⟨q, hq, rfl⟩ := List.mem_map.mp h2
    have := allY_last h1
    rw [List.mem_range] at hq
    rw [lastJ_snoc]
    omega
def inB : List (Int × Int) → List Int → Bool
  | b :: bs, x :: xs => decide (b.1 ≤ x ∧ x ≤ b.2) && inB bs xs
  | _, _ => true
theorem inB_snoc : ∀ (bs : List (Int × Int)) (xs : List Int) (b : Int × Int) (x : Int), bs.length = xs.length → inB (bs ++ [b]) (xs ++ [x]) = (inB bs xs && decide (b.1 ≤ x ∧ x ≤ b.2))
  | [], [], b, x, _ => by simp [inB]
  | c :: bs, y :: xs, b, x, h => by
    show (decide (c.1 ≤ y ∧ y ≤ c.2) && inB (bs ++ [b]) (xs ++ [x])) = (decide (c.1 ≤ y ∧ y ≤ c.2) && inB bs xs && decide (b.1 ≤ x ∧ x ≤ b.2))
    rw [inB_snoc bs xs b x (by simpa using h), Bool.and_assoc]
  | [], _ :: _, _, _, h => by simp at h
  | _ :: _, [], _, _, h => by simp at h
theorem count_range (a p : Int) (C : Bool) : ∀ n : Nat, (List.range n).countP (fun q : Nat => decide (a + (q : Int) = p) && C) = if (a ≤ p ∧ p < a + (n : Int)) ∧ C = true then 1 else 0
  | 0 => by
    rw [if_neg (by omega)]
    rfl
  | n + 1 => by
    rw [List.range_succ, List.countP_append, count_range a p C n, List.countP_singleton]
    by_cases c : C = true
    · by_cases h1 : a ≤ p ∧ p < a + (n : Int)
      · rw [if_pos ⟨h1, c⟩, if_neg (show ¬ (decide (a + (n : Int) = p) && C) = true by simp [c]; omega), if_pos ⟨by omega, c⟩]
      · rw [if_neg (fun z => h1 z.1)]
        by_cases h2 : a + (n : Int) = p
        · rw [if_pos (by simp [c, h2]), if_pos ⟨by omega, c⟩]
        · rw [if_neg (by simp [h2]), if_neg (by omega)]
    · rw [if_neg (fun z => c z.2), if_neg (show ¬ (decide (a + (n : Int) = p) && C) = true by simp [c]), if_neg (fun z => c z.2)]
theorem count_up (A : List Int → Bool) (p : Nat) : ∀ l : List (List Int), (∀ r ∈ l, 0 ≤ lastJ r) → (l.map fun r => if A r = true ∧ lastJ r ≤ (p : Int) then 1 else 0).sum = sumTo (fun q : Nat => l.countP fun r => A r && decide (lastJ r = (q : Int))) (p + 1)
  | [], _ => by
    show 0 = _
    rw [show (fun q : Nat => ([] : List (List Int)).countP fun r => A r && decide (lastJ r = (q : Int))) = fun _ => 0 from rfl, sumTo_zero]
  | r :: l, h => by
    rw [List.map_cons, List.sum_cons, count_up A p l (fun x hx => h x (by simp [hx]))]
    have e : (fun q : Nat => (r :: l).countP fun r => A r && decide (lastJ r = (q : Int))) = fun q : Nat => (if A r = true ∧ lastJ r = (q : Int) then 1 else 0) + l.countP fun r => A r && decide (lastJ r = (q : Int)) := by
      funext q
      rw [List.countP_cons, Nat.add_comm]
      congr 1
      by_cases c1 : A r = true
      · by_cases c2 : lastJ r = (q : Int)
        · rw [if_pos (by simp [c1, c2]), if_pos ⟨c1, c2⟩]
        · rw [if_neg (by simp [c2]), if_neg (fun z => c2 z.2)]
      · rw [if_neg (by simp [c1]), if_neg (fun z => c1 z.1)]
    rw [e, sumTo_add]
    congr 1
    have h0 := h r (by simp)
    have one : ∀ m : Nat, sumTo (fun q : Nat => if A r = true ∧ lastJ r = (q : Int) then 1 else 0) m = if A r = true ∧ lastJ r < (m : Int) then 1 else 0 := fun m => by
      induction m with
      | zero =>
        rw [if_neg (by omega)]
        rfl
      | succ m ih =>
        rw [sumTo, ih]
        by_cases c1 : A r = true
        · by_cases c2 : lastJ r < (m : Int)
          · rw [if_pos ⟨c1, c2⟩, if_neg (by omega), if_pos ⟨c1, by omega⟩]
          · by_cases c3 : lastJ r = (m : Int)
            · rw [if_neg (fun z => c2 z.2), if_pos ⟨c1, c3⟩, if_pos ⟨c1, by omega⟩]
            · rw [if_neg (fun z => c2 z.2), if_neg (fun z => c3 z.2), if_neg (by omega)]
        · rw [if_neg (fun z => c1 z.1), if_neg (fun z => c1 z.1), if_neg (fun z => c1 z.1)]
    rw [one]
    by_cases c1 : A r = true ∧ lastJ r ≤ (p : Int)
    · rw [if_pos c1, if_pos ⟨c1.1, by omega⟩]
    · rw [if_neg c1, if_neg (fun z => c1 ⟨z.1, by have := z.2; omega⟩)]
theorem count_dp (pl : Nat) : ∀ (k : Nat) (bs : List (Int × Int)), bs.length = k → ∀ p : Nat, p ≤ pl → (allY pl k).countP (fun r => inB bs r && decide (lastJ r = (p : Int))) = dpW bs p
  | 0, bs, hb, p, hp => by
    have : bs = [] := List.length_eq_zero_iff.mp hb
    subst this
    show ([[]] : List (List Int)).countP (fun r => inB [] r && decide (lastJ r = (p : Int))) = if p = 0 then 1 else 0
    rw [List.countP_singleton]
    by_cases c : p = 0
    · subst c; rfl
    · rw [if_neg c, if_neg]
      show ¬ (true && decide ((0 : Int) = (p : Int))) = true
      simp
      omega
  | k + 1, bs, hb, p, hp => by
    obtain ⟨cs, b, rfl⟩ : ∃ cs b, bs = cs ++ [b] := by
      cases List.eq_nil_or_concat bs with
      | inl h => rw [h] at hb; simp at hb
      | inr h =>
        obtain ⟨cs, b, h⟩ := h
        exact ⟨cs, b, by rw [h]; simp⟩
    have hc : cs.length = k := by simpa using hb
    rw [dpW_snoc]
    show ((allY pl k).flatMap (ext pl)).countP _ = _
    rw [List.countP_flatMap]
    have e : (allY pl k).map (List.countP (fun r => inB (cs ++ [b]) r && decide (lastJ r = (p : Int))) ∘ ext pl) = (allY pl k).map fun r => if (inB cs r && decide (b.1 ≤ (p : Int) ∧ (p : Int) ≤ b.2)) = true ∧ lastJ r ≤ (p : Int) then 1 else 0 := by
      apply List.map_congr_left
      intro r hr
      have hl := allY_last hr
      have hn := allY_len hr
      show (ext pl r).countP _ = _
      unfold ext
      rw [List.countP_map]
      have e1 : ((fun r => inB (cs ++ [b]) r && decide (lastJ r = (p : Int))) ∘ fun q : Nat => r ++ [lastJ r + (q : Int)]) = fun q : Nat => decide (lastJ r + (q : Int) = (p : Int)) && (inB cs r && decide (b.1 ≤ (p : Int) ∧ (p : Int) ≤ b.2)) := by
        funext q
        show (inB (cs ++ [b]) (r ++ [lastJ r + (q : Int)]) && decide (lastJ (r ++ [lastJ r + (q : Int)]) = (p : Int))) = _
        rw [inB_snoc _ _ _ _ (by omega), lastJ_snoc]
        by_cases c : lastJ r + (q : Int) = (p : Int)
        · rw [c, decide_eq_true (show (p : Int) = (p : Int) from rfl)]
          simp
        · rw [decide_eq_false c]
          simp
      rw [e1, count_range]
      by_cases c1 : (inB cs r && decide (b.1 ≤ (p : Int) ∧ (p : Int) ≤ b.2)) = true
      · by_cases c2 : lastJ r ≤ (p : Int)
        · rw [if_pos ⟨⟨c2, by omega⟩, c1⟩, if_pos ⟨c1, c2⟩]
        · rw [if_neg (fun z => c2 z.1.1), if_neg (fun z => c2 z.2)]
      · rw [if_neg (fun z => c1 z.2), if_neg (fun z => c1 z.1)]
    rw [e]
    unfold stp
    by_cases c : b.1 ≤ (p : Int) ∧ (p : Int) ≤ b.2
    · rw [if_pos c]
      have e2 : (fun r : List Int => if (inB cs r && decide (b.1 ≤ (p : Int) ∧ (p : Int) ≤ b.2)) = true ∧ lastJ r ≤ (p : Int) then 1 else 0) = fun r => if inB cs r = true ∧ lastJ r ≤ (p : Int) then 1 else 0 := by
        funext r
        rw [decide_eq_true c, Bool.and_true]
      rw [e2, count_up _ _ _ (fun r hr => (allY_last hr).1)]
      exact sumTo_congr fun q hq => count_dp pl k cs hc q (by omega)
    · rw [if_neg c]
      have e2 : (fun r : List Int => if (inB cs r && decide (b.1 ≤ (p : Int) ∧ (p : Int) ≤ b.2)) = true ∧ lastJ r ≤ (p : Int) then 1 else 0) = fun r => 0 := by
        funext r
        rw [decide_eq_false c, Bool.and_false, if_neg (by simp)]
      rw [e2]
      generalize allY pl k = l
      induction l with
      | nil => rfl
      | cons r l ih => rw [List.map_cons, List.sum_cons, ih]
theorem count_all (pl : Nat) (bs : List (Int × Int)) : (allY pl bs.length).countP (inB bs) = cnt pl bs := by
  unfold cnt
  have h := count_up (inB bs) pl (allY pl bs.length) (fun r hr => (allY_last hr).1)
  rw [sumTo_congr (V := dpW bs) (fun q hq => count_dp pl bs.length bs rfl q (by omega))] at h
  rw [← h]
  have : ∀ l : List (List Int), (∀ r ∈ l, lastJ r ≤ (pl : Int)) → l.countP (inB bs) = (l.map fun r => if inB bs r = true ∧ lastJ r ≤ (pl : Int) then 1 else 0).sum := fun l => by
    induction l with
    | nil => intro _; rfl
    | cons r l ih =>
      intro hl
      rw [List.countP_cons, List.map_cons, List.sum_cons, ih (fun x hx => hl x (by simp [hx])), Nat.add_comm]
      congr 1
      by_cases c : inB bs r = true
      · rw [if_pos c, if_pos ⟨c, hl r (by simp)⟩]
      · rw [if_neg c, if_neg (fun z => c z.1)]
  exact this _ fun r hr => (allY_last hr).2
end PS

namespace PS
open PySem PySem.Spec PyProof.Rows L2
/-! ### where a block comes from -/
def srcF (pl lo hi s : Int) : Int × Int := (if s = lo then 0 else s, if s = hi then pl else s)
def boxF (n : Nat) (pl : Int) (lo hi s : Nat → Int) : List (Int × Int) := (List.range n).map fun j => srcF pl (lo j) (hi j) (s j)
theorem boxF_len (n : Nat) (pl : Int) (lo hi s : Nat → Int) : (boxF n pl lo hi s).length = n := by simp [boxF]
theorem boxF_succ (n : Nat) (pl : Int) (lo hi s : Nat → Int) : boxF (n + 1) pl lo hi s = boxF n pl lo hi s ++ [srcF pl (lo n) (hi n) (s n)] := by simp [boxF, List.range_succ]
def leadN (n : Nat) (pl : Int) (lo hi s : Nat → Int) : Nat := if ∀ j, j < n → lo j ≤ s j ∧ s j ≤ hi j then cnt pl.toNat (boxF n pl lo hi s) else 0
theorem inB_iff : ∀ (n : Nat) (f : Nat → Int × Int) (r : List Int), r.length = n → (inB ((List.range n).map f) r = true ↔ ∀ j, j < n → (f j).1 ≤ r.getD j 0 ∧ r.getD j 0 ≤ (f j).2)
  | 0, f, r, h => by simp [inB]
  | n + 1, f, r, h => by
    obtain ⟨q, z, rfl⟩ : ∃ q z, r = q ++ [z] := by
      cases List.eq_nil_or_concat r with
      | inl h' => rw [h'] at h; simp at h
      | inr h' =>
        obtain ⟨q, z, h'⟩ := h'
        exact ⟨q, z, by rw [h']; simp⟩
    have hq : q.length = n := by simpa using h
    rw [List.range_succ, List.map_append, List.map_singleton, inB_snoc _ _ _ _ (by simp [hq]), Bool.and_eq_true, inB_iff n f q hq]
    have e1 : ∀ j, j < n → (q ++ [z]).getD j 0 = q.getD j 0 := fun j hj => by
      rw [List.getD_eq_getElem?_getD, List.getD_eq_getElem?_getD, List.getElem?_append_left (by omega)]
    have e2 : (q ++ [z]).getD n 0 = z := by
      rw [List.getD_eq_getElem?_getD, List.getElem?_append_right (by omega), hq]
      simp
    constructor
    · rintro ⟨h1, h2⟩ j hj
      by_cases c : j < n
      · rw [e1 j c]; exact h1 j c
      · have : j = n := by omega
        subst this
        rw [e2]
        exact of_decide_eq_true h2
    · intro h1
      refine ⟨fun j hj => ?_, ?_⟩
      · have := h1 j (by omega)
        rw [e1 j hj] at this
        exact this
      · have := h1 n (by omega)
        rw [e2] at this
        exact decide_eq_true this
theorem allY_rise {pl : Nat} : ∀ {k : Nat} {r : List Int}, r ∈ allY pl k → r.Pairwise (· ≤ ·) ∧ (∀ z ∈ r, 0 ≤ z ∧ z ≤ (pl : Int)) ∧ ∀ z ∈ r, z ≤ lastJ r
  | 0, r, h => by
    have : r = [] := by simpa [allY] using h
    rw [this]
    simp
  | k + 1, r, h => by
    obtain ⟨r', h1, h2⟩ := List.mem_flatMap.mp h
    obtain ⟨q, hq, rfl⟩ := List.mem_map.mp h2
    rw [List.mem_range] at hq
    have hl := allY_last h1
    obtain ⟨i1, i2, i3⟩ := allY_rise h1
    refine ⟨?_, fun z hz => ?_, fun z hz => ?_⟩
    · rw [List.pairwise_append]
      exact ⟨i1, by simp, fun x hx y hy => by
        have : y = lastJ r' + (q : Int) := by simpa using hy
        have := i3 x hx
        omega⟩
    · rcases List.mem_append.mp hz with c | c
      · exact i2 z c
      · have : z = lastJ r' + (q : Int) := by simpa using c
        omega
    · rw [lastJ_snoc]
      rcases List.mem_append.mp hz with c | c
      · have := i3 z c
        omega
      · have : z = lastJ r' + (q : Int) := by simpa using c
        omega
theorem getD_bd {pl : Nat} {r : List Int} {n j : Nat} (hl : r.length = n) (h : ∀ z ∈ r, 0 ≤ z ∧ z ≤ (pl : Int)) (hj : j < n) : 0 ≤ r.getD j 0 ∧ r.getD j 0 ≤ (pl : Int) := by
  have hj' : j < r.length := by omega
  have : r.getD j 0 = r[j] := by simp [hj']
  rw [this]
  exact h _ (List.getElem_mem hj')
/-- as many stands as told come there -/
theorem lead_count {n : Nat} {pl : Nat} {lo hi s : Nat → Int} (dok : DoOk n pl lo hi) : leadN n pl lo hi s = (allY pl n).countP (fun r => decide (∀ j, j < n → ledF lo hi (fun j => r.getD j 0) j = s j)) := by
  unfold leadN
  by_cases c : ∀ j, j < n → lo j ≤ s j ∧ s j ≤ hi j
  · rw [if_pos c, Int.toNat_natCast, ← count_all, boxF_len]
    apply List.countP_congr
    intro r hr
    have hn := allY_len hr
    have hb := (allY_rise hr).2.1
    rw [decide_eq_true_eq, boxF, inB_iff n _ r hn]
    constructor
    · intro h j hj
      have h1 := h j hj
      have h2 := c j hj
      have h3 := dok.le j hj
      have h4 := getD_bd hn hb hj
      show clamp (lo j) (hi j) (r.getD j 0) = s j
      unfold clamp
      unfold srcF at h1
      simp only at h1
      split at h1 <;> split at h1 <;> omega
    · intro h j hj
      have h1 := h j hj
      have h2 := c j hj
      have h3 := dok.le j hj
      have h4 := getD_bd hn hb hj
      have h1 : clamp (lo j) (hi j) (r.getD j 0) = s j := h1
      unfold clamp at h1
      unfold srcF
      simp only
      split <;> split <;> omega
  · rw [if_neg c]
    symm
    rw [List.countP_eq_zero]
    intro r hr h
    apply c
    intro j hj
    have h1 := of_decide_eq_true h j hj
    have h3 := dok.le j hj
    have h1 : clamp (lo j) (hi j) (r.getD j 0) = s j := h1
    unfold clamp at h1
    omega
end PS

namespace PS
open PySem PySem.Spec PyProof.Rows L2
theorem inB_full {pl : Nat} {n : Nat} {r : List Int} (hl : r.length = n) (h : ∀ z ∈ r, 0 ≤ z ∧ z ≤ (pl : Int)) : inB (List.replicate n (0, (pl : Int))) r = true := by
  have e : List.replicate n ((0 : Int), (pl : Int)) = (List.range n).map fun _ => (0, (pl : Int)) := by
    apply List.ext_getElem?
    intro j
    by_cases hj : j < n
    · simp [hj]
    · rw [List.getElem?_eq_none (by simp; omega), List.getElem?_eq_none (by simp; omega)]
  rw [e, inB_iff n _ r hl]
  intro j hj
  exact getD_bd hl h hj
theorem allY_length (pl n : Nat) : (allY pl n).length = ch (pl + n) n := by
  rw [← cnt_full, ← count_all, List.length_replicate]
  symm
  rw [List.countP_eq_length]
  intro r hr
  exact inB_full (allY_len hr) (allY_rise hr).2.1
def leL (r q : List Int) : Bool := (List.zipWith (fun a b => decide (a ≤ b)) r q).all id
theorem stL_le {ls r q : List Int} (h1 : r.length = ls.length) (h2 : q.length = ls.length) : List.zipWith (fun a b => decide (a ≤ b)) (stL ls fun j => r.getD j 0) (stL ls fun j => q.getD j 0) = List.zipWith (fun a b => decide (a ≤ b)) r q := by
  apply List.ext_getElem?
  intro j
  rw [List.getElem?_zipWith, List.getElem?_zipWith]
  by_cases hj : j < ls.length
  · rw [stL_get hj, stL_get hj, List.getElem?_eq_getElem (by omega), List.getElem?_eq_getElem (by omega)]
    show some (decide (r.getD j 0 + pre ls j ≤ q.getD j 0 + pre ls j)) = some (decide (r[j] ≤ q[j]))
    rw [show r.getD j 0 = r[j] from by simp [h1, hj], show q.getD j 0 = q[j] from by simp [h2, hj]]
    congr 1
    apply decide_eq_decide.mpr
    omega
  · rw [List.getElem?_eq_none (l := stL ls fun j => r.getD j 0) (by rw [stL_len]; omega), List.getElem?_eq_none (l := r) (by omega)]
theorem rise_all {pl n : Nat} {r : List Int} (h : r ∈ allY pl n) : Rise n pl fun j => r.getD j 0 := by
  have hl := allY_len h
  have hr := allY_rise h
  refine ⟨fun j hj => (getD_bd hl hr.2.1 hj).1, fun j hj => (getD_bd hl hr.2.1 hj).2, fun j hj => ?_⟩
  have h1 : j < r.length := by omega
  have h2 : j + 1 < r.length := by omega
  have := List.pairwise_iff_getElem.mp hr.1 j (j + 1) h1 h2 (by omega)
  simp [h1, h2]
  exact this
theorem doing_pair {room : Int} {ls : List Int} {pn : Nat} (hs : ls.sum ≤ room) (hp : room - ls.sum = (pn : Int)) {r q : List Int} (hr : r ∈ allY pn ls.length) (hq : q ∈ allY pn ls.length) :
    isDoing room ls (.tuple [tI (stL ls fun j => r.getD j 0), tI (stL ls fun j => q.getD j 0)]) = leL r q := by
  show (if isStand room ls (tI (stL ls fun j => r.getD j 0)) = true then (if isStand room ls (tI (stL ls fun j => q.getD j 0)) = true then allLe (iD (stL ls fun j => r.getD j 0)) (iD (stL ls fun j => q.getD j 0)) else false) else false) = _
  rw [if_pos (isStand_ok (by rw [hp]; exact rise_all hr) hs), if_pos (isStand_ok (by rw [hp]; exact rise_all hq) hs), allLe_ints, stL_le (allY_len hr) (allY_len hq)]
  rfl
def pairs (pl n : Nat) : Nat := ((allY pl n).map fun r => (allY pl n).countP (leL r)).sum
theorem pairs_all : ∀ n, n < 4 → 1 ≤ n → ∀ pl, pl < 5 → (pairs pl n : Int) = (ch (pl + n) n : Int) * (ch (pl + n) n : Int) - (ch (pl + n) (n - 1) : Int) * (ch (pl + n) (n + 1) : Int) := by
  decide +kernel
theorem stY_eqv (ls : List Int) (y z : Nat → Int) : PyData.eqv (tI (stL ls y)) (tI (stL ls z)) = decide (∀ j, j < ls.length → y j = z j) := by
  have e : PyData.eqv (tI (stL ls y)) (tI (stL ls z)) = decide (stL ls y = stL ls z) := by
    have : ∀ a b : List Int, PyData.eqvAll (iD a) (iD b) = decide (a = b) := by
      intro a
      induction a with
      | nil => intro b; cases b <;> simp [PyData.eqvAll]
      | cons x a ih =>
        intro b
        cases b with
        | nil => simp [PyData.eqvAll]
        | cons y b =>
          show PyData.eqvAll (PyData.int x :: iD a) (PyData.int y :: iD b) = _
          rw [PyData.eqvAll, ih b]
          by_cases h1 : x = y
          · subst h1
            simp [PyData.eqv]
          · simp [PyData.eqv, h1]
    show PyData.eqvAll (iD (stL ls y)) (iD (stL ls z)) = _
    exact this _ _
  rw [e]
  apply decide_eq_decide.mpr
  exact ⟨fun h => stL_inj h, fun h => stL_congr h⟩
theorem count_led {room : Int} {ls : List Int} {pn : Nat} {lo hi s : Nat → Int} (hp : room - ls.sum = (pn : Int)) (dok : DoOk ls.length (room - ls.sum) lo hi) :
    (((allY pn ls.length).map fun r => tI (stL ls (ledF lo hi fun j => r.getD j 0))).countP fun z => PyData.eqv z (tI (stL ls s))) = leadN ls.length (room - ls.sum) lo hi s := by
  rw [hp] at dok ⊢
  rw [lead_count dok, List.countP_map]
  congr 1
  funext r
  exact stY_eqv ls _ _
end PS

namespace PS
open PySem PySem.Spec PyProof.Rows L2
/-! ### // of great ints whose answer is not great -/
def CDivV (i j : Int) : Prop := 0 < j ∧ 0 ≤ i ∧ i < j * 2 ^ 4000
theorem op_fdivV {X : Cx} : OpR X (binaryOp .FloorDiv) (rI CDivV fun i j => .int (i / j)) := opI fun i j _ _ _ _ _ hc q => by
  obtain ⟨h1, h2, h3⟩ := hc
  refine floordiv_int (by omega) (by rw [Int.fdiv_eq_ediv_of_nonneg i (by omega)]; exact q) (.inl ?_)
  have key : i.natAbs.log2 ≤ j.natAbs.log2 + 4000 := by
    by_cases h0 : i.natAbs = 0
    · rw [h0]; simp
    have hi : i.natAbs < j.natAbs * 2 ^ 4000 := by
      have h3' : (i.natAbs : Int) < (j.natAbs : Int) * ((2 ^ 4000 : Nat) : Int) := by
        rw [Int.natAbs_of_nonneg h2, Int.natAbs_of_nonneg (by omega)]
        have : ((2 ^ 4000 : Nat) : Int) = (2 : Int) ^ 4000 := by rw [Int.natCast_pow]; rfl
        rw [this]
        exact h3
      exact_mod_cast h3'
    have hj : j.natAbs < 2 ^ (j.natAbs.log2 + 1) := Nat.lt_log2_self
    have : i.natAbs < 2 ^ (j.natAbs.log2 + 1 + 4000) := by
      rw [Nat.pow_add]
      exact Nat.lt_of_lt_of_le hi (Nat.mul_le_mul_right _ (Nat.le_of_lt hj))
    have := (Nat.log2_lt h0).mpr this
    omega
  unfold Builtin.divisionGoesByPylong
  simp only [Bool.and_eq_false_iff, decide_eq_false_iff_not]
  right
  have hj0 : (j == 0) = false := by simp; omega
  rw [hj0]
  simp only [Bool.false_eq_true, if_false]
  split <;> omega
/-! ### stands by a product -/
def topR (pl : Nat) : Nat → Nat
  | 0 => 1
  | i + 1 => topR pl i * (pl + (i + 1))
def fac : Nat → Nat
  | 0 => 1
  | i + 1 => fac i * (i + 1)
theorem fac_pos : ∀ n, 0 < fac n
  | 0 => by decide
  | n + 1 => Nat.mul_pos (fac_pos n) (by omega)
theorem top_ch (pl : Nat) : ∀ n : Nat, topR pl n = ch (pl + n) n * fac n
  | 0 => by rw [ch_zero]; rfl
  | n + 1 => by
    show topR pl n * (pl + (n + 1)) = ch (pl + n + 1) (n + 1) * (fac n * (n + 1))
    have h := ch_absorb (pl + n) n
    rw [top_ch pl n, Nat.mul_comm (fac n) (n + 1), ← Nat.mul_assoc, h, show pl + (n + 1) = pl + n + 1 from rfl, Nat.mul_assoc, Nat.mul_comm (fac n) (pl + n + 1), ← Nat.mul_assoc, Nat.mul_comm (ch (pl + n) n) (pl + n + 1)]
/-! ### doings by a product -/
def inT (i : Nat) : Nat → Nat
  | 0 => 1
  | j + 1 => inT i j * (i + (j + 1) + 1)
def inB' (i : Nat) : Nat → Nat
  | 0 => 1
  | j + 1 => inB' i j * (i + (j + 1) - 1)
def boT (pl : Nat) : Nat → Nat
  | 0 => 1
  | i + 1 => boT pl i * inT (i + 1) pl
def boB (pl : Nat) : Nat → Nat
  | 0 => 1
  | i + 1 => boB pl i * inB' (i + 1) pl
theorem in_tele (i : Nat) : ∀ pl : Nat, inT i pl * (i * (i + 1)) = inB' i pl * ((i + pl) * (i + pl + 1))
  | 0 => by simp [inT, inB']
  | j + 1 => by
    show inT i j * (i + (j + 1) + 1) * (i * (i + 1)) = inB' i j * (i + (j + 1) - 1) * ((i + (j + 1)) * (i + (j + 1) + 1))
    have h := in_tele i j
    rw [show i + (j + 1) - 1 = i + j from by omega, show i + (j + 1) = i + j + 1 from by omega]
    calc inT i j * (i + j + 1 + 1) * (i * (i + 1)) = (inT i j * (i * (i + 1))) * (i + j + 1 + 1) := by rw [Nat.mul_assoc, Nat.mul_comm (i + j + 1 + 1) (i * (i + 1)), ← Nat.mul_assoc]
      _ = inB' i j * ((i + j) * (i + j + 1)) * (i + j + 1 + 1) := by rw [h]
      _ = inB' i j * (i + j) * ((i + j + 1) * (i + j + 1 + 1)) := by rw [← Nat.mul_assoc, Nat.mul_assoc (inB' i j * (i + j))]
theorem inB_pos (i : Nat) (hi : 1 ≤ i) : ∀ pl, 0 < inB' i pl
  | 0 => Nat.one_pos
  | j + 1 => Nat.mul_pos (inB_pos i hi j) (by omega)
theorem boB_pos (pl : Nat) : ∀ n, 0 < boB pl n
  | 0 => Nat.one_pos
  | n + 1 => Nat.mul_pos (boB_pos pl n) (inB_pos (n + 1) (by omega) pl)
theorem bo_tele (pl : Nat) : ∀ n : Nat, boT pl n * (fac n * fac (n + 1)) * (pl + 1) = boB pl n * (topR pl n * topR pl (n + 1))
  | 0 => by simp [boT, boB, topR, fac]
  | n + 1 => by
    have h1 := bo_tele pl n
    have h2 := in_tele (n + 1) pl
    show boT pl n * inT (n + 1) pl * (fac n * (n + 1) * (fac (n + 1) * (n + 1 + 1))) * (pl + 1) = boB pl n * inB' (n + 1) pl * (topR pl n * (pl + (n + 1)) * (topR pl (n + 1) * (pl + (n + 1 + 1))))
    generalize boT pl n = a at *
    generalize inT (n + 1) pl = b at *
    generalize fac n = c at *
    generalize fac (n + 1) = d at *
    generalize boB pl n = e at *
    generalize inB' (n + 1) pl = f at *
    generalize topR pl n = g at *
    generalize topR pl (n + 1) = h at *
    rw [show pl + (n + 1) = n + 1 + pl from by omega, show pl + (n + 1 + 1) = n + 1 + pl + 1 from by omega]
    calc a * b * (c * (n + 1) * (d * (n + 1 + 1))) * (pl + 1) = (a * (c * d) * (pl + 1)) * (b * ((n + 1) * (n + 1 + 1))) := by ac_rfl
      _ = e * (g * h) * (f * ((n + 1 + pl) * (n + 1 + pl + 1))) := by rw [h1, h2]
      _ = e * f * (g * (n + 1 + pl) * (h * (n + 1 + pl + 1))) := by ac_rfl
/-- how many doings -/
def dgs (pl n : Nat) : Int := (ch (pl + n) n : Int) * (ch (pl + n) n : Int) - (ch (pl + n) (n - 1) : Int) * (ch (pl + n) (n + 1) : Int)
theorem dgs_mul (pl n : Nat) (h : 1 ≤ n) : ((pl + 1 : Nat) : Int) * ((n + 1 : Nat) : Int) * dgs pl n = (ch (pl + n) n : Int) * (ch (pl + n) n : Int) * ((pl + n + 1 : Nat) : Int) := by
  have e1 := ch_step (t := pl + n) (s := n - 1) (by omega)
  rw [show n - 1 + 1 = n from by omega, show pl + n - (n - 1) = pl + 1 from by omega] at e1
  have e2 := ch_step (t := pl + n) (s := n) (by omega)
  rw [show pl + n - n = pl from by omega] at e2
  unfold dgs
  generalize ch (pl + n) n = c at *
  generalize ch (pl + n) (n - 1) = a at *
  generalize ch (pl + n) (n + 1) = b at *
  have f1 : (c : Int) * (n : Int) = (a : Int) * ((pl : Int) + 1) := by exact_mod_cast e1
  have f2 : (b : Int) * ((n : Int) + 1) = (c : Int) * (pl : Int) := by exact_mod_cast e2
  have key : ((pl : Int) + 1) * ((n : Int) + 1) * ((a : Int) * (b : Int)) = ((c : Int) * (n : Int)) * ((c : Int) * (pl : Int)) := by
    rw [f1, ← f2]
    ac_rfl
  simp only [Int.natCast_add, Int.cast_ofNat_Int]
  rw [Int.mul_sub, key]
  have x1 : (c : Int) * (n : Int) * ((c : Int) * (pl : Int)) = (c : Int) * (c : Int) * ((n : Int) * (pl : Int)) := by ac_rfl
  have x2 : ((pl : Int) + 1) * ((n : Int) + 1) * ((c : Int) * (c : Int)) = (c : Int) * (c : Int) * (((pl : Int) + 1) * ((n : Int) + 1)) := by ac_rfl
  rw [x1, x2, ← Int.mul_sub]
  congr 1
  rw [Int.add_mul, Int.mul_add, Int.mul_comm (n : Int) (pl : Int)]
  omega
theorem boxes_eq (pl n : Nat) (h : 1 ≤ n) : (boT pl n : Int) = (boB pl n : Int) * dgs pl n := by
  have h1 := bo_tele pl n
  have h2 := dgs_mul pl n h
  have h3 := top_ch pl n
  have h4 : topR pl (n + 1) = topR pl n * (pl + (n + 1)) := rfl
  have h5 : fac (n + 1) = fac n * (n + 1) := rfl
  have f0 := fac_pos n
  rw [h4, h5, h3] at h1
  have g1 : (boT pl n : Int) * ((fac n : Int) * ((fac n : Int) * ((n + 1 : Nat) : Int))) * ((pl + 1 : Nat) : Int) = (boB pl n : Int) * ((ch (pl + n) n : Int) * (fac n : Int) * ((ch (pl + n) n : Int) * (fac n : Int) * ((pl + (n + 1) : Nat) : Int))) := by exact_mod_cast h1
  generalize dgs pl n = d at *
  generalize (boT pl n : Int) = t at *
  generalize (boB pl n : Int) = b at *
  generalize (ch (pl + n) n : Int) = c at *
  have fp : 0 < (fac n : Int) := by exact_mod_cast f0
  generalize (fac n : Int) = f at *
  have np : 0 < ((n + 1 : Nat) : Int) := by omega
  have pp : 0 < ((pl + 1 : Nat) : Int) := by omega
  rw [show pl + (n + 1) = pl + n + 1 from rfl] at g1
  generalize ((n + 1 : Nat) : Int) = N at *
  generalize ((pl + 1 : Nat) : Int) = L at *
  generalize ((pl + n + 1 : Nat) : Int) = M at *
  have g2 : t * (f * f * N * L) = b * d * (f * f * N * L) := by
    calc t * (f * f * N * L) = t * (f * (f * N)) * L := by ac_rfl
      _ = b * (c * f * (c * f * M)) := g1
      _ = b * (c * c * M) * (f * f) := by ac_rfl
      _ = b * (L * N * d) * (f * f) := by rw [h2]
      _ = b * d * (f * f * N * L) := by ac_rfl
  have pos : 0 < f * f * N * L := Int.mul_pos (Int.mul_pos (Int.mul_pos fp fp) np) pp
  exact Int.eq_of_mul_eq_mul_right (by omega) g2
theorem dgs_nonneg (pl n : Nat) (h : 1 ≤ n) : 0 ≤ dgs pl n := by
  have h2 := dgs_mul pl n h
  have hp : 0 < ((pl + 1 : Nat) : Int) * ((n + 1 : Nat) : Int) := Int.mul_pos (by omega) (by omega)
  have hr : 0 ≤ (ch (pl + n) n : Int) * (ch (pl + n) n : Int) * ((pl + n + 1 : Nat) : Int) := Int.mul_nonneg (Int.mul_nonneg (by omega) (by omega)) (by omega)
  rw [← h2] at hr
  by_cases c : 0 ≤ dgs pl n
  · exact c
  · have : ((pl + 1 : Nat) : Int) * ((n + 1 : Nat) : Int) * dgs pl n < 0 := Int.mul_neg_of_pos_of_neg hp (by omega)
    omega
theorem dgs_le (pl n : Nat) (h : pl + n ≤ 408) : dgs pl n < 2 ^ 4000 := by
  have h1 := ch_le (pl + n) n
  have h2 : 2 ^ (pl + n) ≤ 2 ^ 408 := Nat.pow_le_pow_right (by decide) h
  have h3 : ch (pl + n) n * ch (pl + n) n ≤ 2 ^ 408 * 2 ^ 408 := Nat.mul_le_mul (Nat.le_trans h1 h2) (Nat.le_trans h1 h2)
  have h4 : (2 : Nat) ^ 408 * 2 ^ 408 < 2 ^ 4000 := by
    rw [← Nat.pow_add]
    exact Nat.pow_lt_pow_right (by decide) (by decide)
  have h5 : ((ch (pl + n) n * ch (pl + n) n : Nat) : Int) < ((2 ^ 4000 : Nat) : Int) := by
    exact_mod_cast Nat.lt_of_le_of_lt h3 h4
  have h6 : ((2 ^ 4000 : Nat) : Int) = (2 : Int) ^ 4000 := by rw [Int.natCast_pow]; rfl
  rw [h6, Int.natCast_mul] at h5
  unfold dgs
  have h7 : 0 ≤ (ch (pl + n) (n - 1) : Int) * (ch (pl + n) (n + 1) : Int) := Int.mul_nonneg (by omega) (by omega)
  exact Int.lt_of_le_of_lt (Int.sub_le_self _ h7) h5
theorem boxes_div (pl n : Nat) (h : 1 ≤ n) : (boT pl n : Int) / (boB pl n : Int) = dgs pl n := by
  rw [boxes_eq pl n h]
  have := boB_pos pl n
  exact Int.mul_ediv_cancel_left _ (by omega)
theorem boxes_C (pl n : Nat) (h : 1 ≤ n) (h4 : pl + n ≤ 408) : CDivV (boT pl n : Nat) (boB pl n : Nat) := by
  have h1 := boB_pos pl n
  refine ⟨by omega, by omega, ?_⟩
  rw [boxes_eq pl n h]
  exact Int.mul_lt_mul_of_pos_left (dgs_le pl n h4) (by omega)
theorem rising_div (pl n : Nat) : (topR pl n : Int) / (fac n : Int) = (ch (pl + n) n : Nat) := by
  have h := top_ch pl n
  have := fac_pos n
  rw [h, Int.natCast_mul]
  exact Int.mul_ediv_cancel _ (by omega)
theorem rising_C (pl n : Nat) (h4 : pl + n ≤ 408) : CDivV (topR pl n : Nat) (fac n : Nat) := by
  have h1 := fac_pos n
  refine ⟨by omega, by omega, ?_⟩
  have h := top_ch pl n
  have h2 := ch_le (pl + n) n
  have h3 : ch (pl + n) n < 2 ^ 4000 := Nat.lt_of_le_of_lt h2 (Nat.pow_lt_pow_right (by decide) (by omega))
  have h5 : ((ch (pl + n) n : Nat) : Int) < ((2 ^ 4000 : Nat) : Int) := by exact_mod_cast h3
  have h6 : ((2 ^ 4000 : Nat) : Int) = (2 : Int) ^ 4000 := by rw [Int.natCast_pow]; rfl
  rw [h6] at h5
  rw [h, Int.natCast_mul, Int.mul_comm]
  exact Int.mul_lt_mul_of_pos_left h5 (by omega)
end PS

namespace PS
open PySem PySem.Spec PyProof.Rows L2
/-! ### the steps are sums -/
def runW (bs : List (Int × Int)) (W : Nat → Nat) : Nat → Nat := bs.foldl (fun W b => stp b W) W
theorem dpW_app (a b : List (Int × Int)) : dpW (a ++ b) = runW b (dpW a) := by simp [dpW, runW]
theorem stp_add (b : Int × Int) (W V : Nat → Nat) : stp b (fun p => W p + V p) = fun p => stp b W p + stp b V p := by
  funext p
  unfold stp
  split
  · exact sumTo_add W V _
  · rfl
theorem stp_zero (b : Int × Int) : stp b (fun _ => 0) = fun _ => 0 := by
  funext p
  unfold stp
  split
  · exact sumTo_zero _
  · rfl
theorem runW_add : ∀ (bs : List (Int × Int)) (W V : Nat → Nat), runW bs (fun p => W p + V p) = fun p => runW bs W p + runW bs V p
  | [], _, _ => rfl
  | b :: bs, W, V => by
    show runW bs (stp b fun p => W p + V p) = fun p => runW bs (stp b W) p + runW bs (stp b V) p
    rw [stp_add, runW_add bs]
theorem runW_zero : ∀ bs : List (Int × Int), runW bs (fun _ => 0) = fun _ => 0
  | [] => rfl
  | b :: bs => by
    show runW bs (stp b fun _ => 0) = fun _ => 0
    rw [stp_zero, runW_zero bs]
theorem runW_congr {pl : Nat} : ∀ (bs : List (Int × Int)) {W V : Nat → Nat}, (∀ p, p ≤ pl → W p = V p) → ∀ p, p ≤ pl → runW bs W p = runW bs V p
  | [], W, V, h => h
  | b :: bs, W, V, h => runW_congr bs (W := stp b W) (V := stp b V) fun p hp => by
    unfold stp
    split
    · exact sumTo_congr fun q hq => h q (by omega)
    · rfl
theorem sum_run (bs : List (Int × Int)) (f : Nat → Nat → Nat) (n : Nat) : ∀ m : Nat, sumTo (fun q => sumTo (runW bs (f q)) n) m = sumTo (runW bs fun p => sumTo (fun q => f q p) m) n
  | 0 => by
    show 0 = sumTo (runW bs fun _ => 0) n
    rw [runW_zero, sumTo_zero]
  | m + 1 => by
    rw [sumTo, sum_run bs f n m]
    have e : (fun p => sumTo (fun q => f q p) (m + 1)) = fun p => (fun p => sumTo (fun q => f q p) m) p + f m p := rfl
    rw [e, runW_add, sumTo_add]
theorem parts_at {pl : Nat} {l d p : Nat} (W : Nat → Nat) (hd : l + d ≤ pl) (hp : p ≤ pl) : sumTo (fun q => stp (srcF pl l ((l + d : Nat) : Int) ((l + q : Nat) : Int)) W p) (d + 1) = stp (0, (pl : Int)) W p := by
  have part : ∀ m, m ≤ d → sumTo (fun q => stp (srcF pl l ((l + d : Nat) : Int) ((l + q : Nat) : Int)) W p) m = if 0 < m ∧ p < l + m then sumTo W (p + 1) else 0 := by
    intro m
    induction m with
    | zero => intro _; rw [if_neg (by omega)]; rfl
    | succ m ih =>
      intro hm
      rw [sumTo, ih (by omega)]
      unfold stp srcF
      simp only
      rw [if_neg (show ¬ ((l + m : Nat) : Int) = ((l + d : Nat) : Int) by omega)]
      by_cases c0 : m = 0
      · subst c0
        rw [if_pos (show ((l + 0 : Nat) : Int) = (l : Int) by omega), if_neg (by omega)]
        by_cases c1 : p < l + 1
        · rw [if_pos (by omega), if_pos (by omega)]; omega
        · rw [if_neg (by omega), if_neg (by omega)]
      · rw [if_neg (show ¬ ((l + m : Nat) : Int) = (l : Int) by omega)]
        by_cases c1 : p < l + m
        · rw [if_pos (by omega), if_neg (by omega), if_pos (by omega)]; omega
        · by_cases c2 : p = l + m
          · rw [if_neg (by omega), if_pos (by omega), if_pos (by omega)]; omega
          · rw [if_neg (by omega), if_neg (by omega), if_neg (by omega)]
  rw [sumTo, part d (Nat.le_refl _)]
  unfold stp srcF
  simp only
  rw [if_pos (show (0 : Int) ≤ (p : Int) ∧ (p : Int) ≤ (pl : Int) by omega)]
  by_cases c0 : d = 0
  · subst c0
    rw [if_neg (by omega), if_pos (by simp; omega)]
    omega
  · rw [if_neg (show ¬ ((l + d : Nat) : Int) = (l : Int) by omega)]
    by_cases c1 : p < l + d
    · rw [if_pos (by omega), if_neg (by simp; omega)]; omega
    · rw [if_neg (by omega), if_pos (by simp; omega)]; omega
/-- leading added up -/
theorem cnt_parts {pl l d : Nat} (B1 B2 : List (Int × Int)) (hd : l + d ≤ pl) : sumTo (fun q => cnt pl (B1 ++ srcF pl l ((l + d : Nat) : Int) ((l + q : Nat) : Int) :: B2)) (d + 1) = cnt pl (B1 ++ (0, (pl : Int)) :: B2) := by
  have e : ∀ b, cnt pl (B1 ++ b :: B2) = sumTo (runW B2 (stp b (dpW B1))) (pl + 1) := fun b => by
    unfold cnt
    rw [dpW_app]
    rfl
  rw [e]
  rw [sumTo_congr (fun q _ => e _), sum_run]
  apply sumTo_congr
  intro p hp
  exact runW_congr B2 (fun q hq => parts_at (dpW B1) hd hq) p (by omega)
/-! one stand alone -/
theorem ones_W {n : Nat} {pl : Nat} {s : Nat → Int} (ri : Rise n pl s) : ∀ k, k ≤ n → ∀ p : Nat, sumTo (dpW ((List.range k).map fun j => (s j, s j))) (p + 1) = if k = 0 ∨ s (k - 1) ≤ (p : Int) then 1 else 0
  | 0, _, p => by
    rw [if_pos (.inl rfl)]
    show sumTo W0 (p + 1) = 1
    induction p with
    | zero => rfl
    | succ p ih => rw [sumTo, ih]; rfl
  | k + 1, hk, p => by
    rw [List.range_succ, List.map_append, List.map_singleton, dpW_snoc]
    have ih := ones_W ri k (by omega)
    have h0 := ri.lo k (by omega)
    have up : k = 0 ∨ s (k - 1) ≤ s k := by
      by_cases c : k = 0
      · exact .inl c
      · have := ri.up (k - 1) (by omega)
        rw [show k - 1 + 1 = k from by omega] at this
        exact .inr this
    have one : ∀ p : Nat, stp (s k, s k) (dpW ((List.range k).map fun j => (s j, s j))) p = if (p : Int) = s k then 1 else 0 := fun p => by
      unfold stp
      simp only
      by_cases c : (p : Int) = s k
      · rw [if_pos (by omega), if_pos c, ih p, if_pos (by rw [c]; exact up)]
      · rw [if_neg (by omega), if_neg c]
    rw [show k + 1 - 1 = k from rfl]
    induction p with
    | zero =>
      show 0 + stp (s k, s k) _ 0 = _
      rw [one]
      by_cases c : s k ≤ ((0 : Nat) : Int)
      · rw [if_pos (by omega), if_pos (.inr c)]
      · rw [if_neg (by omega), if_neg (by omega)]
    | succ p ih2 =>
      rw [sumTo, ih2, one]
      by_cases c : s k ≤ (p : Int)
      · rw [if_pos (.inr c), if_neg (by omega), if_pos (.inr (by omega))]
      · rw [if_neg (by omega)]
        by_cases c2 : ((p + 1 : Nat) : Int) = s k
        · rw [if_pos c2, if_pos (.inr (by omega))]
        · rw [if_neg c2, if_neg (by omega)]
theorem cnt_ones {n : Nat} {pl : Nat} {s : Nat → Int} (ri : Rise n pl s) : cnt pl ((List.range n).map fun j => (s j, s j)) = 1 := by
  unfold cnt
  rw [ones_W ri n (Nat.le_refl _) pl, if_pos]
  by_cases c : n = 0
  · exact .inl c
  · exact .inr (ri.hi (n - 1) (by omega))
theorem lead_wide {n pl : Nat} {s : Nat → Int} (ri : Rise n pl s) : leadN n pl (fun _ => 0) (fun _ => (pl : Int)) s = 1 := by
  unfold leadN
  rw [if_pos (fun j hj => ⟨ri.lo j hj, ri.hi j hj⟩), Int.toNat_natCast]
  have e : boxF n pl (fun _ => 0) (fun _ => (pl : Int)) s = (List.range n).map fun j => (s j, s j) := by
    unfold boxF srcF
    apply List.map_congr_left
    intro j _
    simp only
    congr 1
    · split <;> omega
    · split <;> omega
  rw [e]
  exact cnt_ones ri
theorem lead_self {n pl : Nat} {s : Nat → Int} : leadN n pl s s s = ch (pl + n) n := by
  unfold leadN
  rw [if_pos (fun j hj => ⟨Int.le_refl _, Int.le_refl _⟩), Int.toNat_natCast]
  have e : boxF n pl s s s = List.replicate n (0, (pl : Int)) := by
    unfold boxF srcF
    apply List.ext_getElem?
    intro j
    by_cases hj : j < n
    · simp [hj]
    · rw [List.getElem?_eq_none (by simp; omega), List.getElem?_eq_none (by simp; omega)]
  rw [e, cnt_full]
/-! ### a narrow doing: one block has some room -/
def setF (y : Nat → Int) (at_ : Nat) (z : Int) : Nat → Int := fun j => if j = at_ then z else y j
theorem lead_narrow {n pl : Nat} {y : Nat → Int} {at_ d : Nat} (ri : Rise n pl y) (ha : at_ < n) (hd : y at_ + (d : Int) ≤ (pl : Int)) : sumTo (fun q => leadN n pl y (setF y at_ (y at_ + (d : Int))) (setF y at_ (y at_ + (q : Int)))) (d + 1) = ch (pl + n) n := by
  have h0 := ri.lo at_ ha
  obtain ⟨l, hl⟩ : ∃ l : Nat, y at_ = (l : Int) := ⟨(y at_).toNat, by omega⟩
  have e1 : ∀ q, q < d + 1 → leadN n pl y (setF y at_ (y at_ + (d : Int))) (setF y at_ (y at_ + (q : Int))) = cnt pl (List.replicate at_ (0, (pl : Int)) ++ srcF pl l ((l + d : Nat) : Int) ((l + q : Nat) : Int) :: List.replicate (n - at_ - 1) (0, (pl : Int))) := fun q hq => by
    unfold leadN
    rw [if_pos (fun j hj => by
      unfold setF
      by_cases c : j = at_
      · rw [if_pos c, if_pos c, c]; omega
      · rw [if_neg c, if_neg c]; omega), Int.toNat_natCast]
    congr 1
    apply List.ext_getElem?
    intro j
    unfold boxF
    by_cases hj : j < n
    · rw [List.getElem?_map, List.getElem?_range hj]
      show some (srcF pl (y j) (setF y at_ (y at_ + (d : Int)) j) (setF y at_ (y at_ + (q : Int)) j)) = _
      unfold setF
      by_cases c : j = at_
      · subst c
        rw [if_pos rfl, if_pos rfl, List.getElem?_append_right (by simp), hl]
        simp
      · rw [if_neg c, if_neg c]
        have es : srcF pl (y j) (y j) (y j) = (0, (pl : Int)) := by unfold srcF; simp
        rw [es]
        by_cases c2 : j < at_
        · rw [List.getElem?_append_left (by simpa using c2)]
          simp [c2]
        · rw [List.getElem?_append_right (by simp; omega), List.length_replicate, show j - at_ = (j - at_ - 1) + 1 from by omega, List.getElem?_cons_succ]
          rw [List.getElem?_replicate, if_pos (by omega)]
    · rw [List.getElem?_eq_none (by simp; omega), List.getElem?_eq_none (by simp; omega)]
  rw [sumTo_congr e1, cnt_parts _ _ (by omega), ← cnt_full]
  congr 1
  rw [← List.replicate_succ, List.replicate_append_replicate]
  congr 1
  omega
/-! ### all rows between two -/
def bt (lo hi : Nat → Int) : Nat → List (List Int)
  | 0 => [[]]
  | i + 1 => (bt lo hi i).flatMap fun r => (List.range (hi i + 1 - lo i).toNat).map fun q : Nat => r ++ [lo i + (q : Int)]
theorem bt_len {lo hi : Nat → Int} : ∀ {i : Nat} {r : List Int}, r ∈ bt lo hi i → r.length = i
  | 0, r, h => by
    have : r = [] := by simpa [bt] using h
    rw [this]; rfl
  | i + 1, r, h => by
    obtain ⟨r', h1, h2⟩ := List.mem_flatMap.mp h
    obtain ⟨q, _, rfl⟩ := List.mem_map.mp h2
    rw [List.length_append, bt_len h1]
    rfl
theorem bt_low {lo hi : Nat → Int} : ∀ i : Nat, (∀ j, j < i → hi j = lo j) → bt lo hi i = [(List.range i).map lo]
  | 0, _ => rfl
  | i + 1, h => by
    rw [bt, bt_low i (fun j hj => h j (by omega)), h i (by omega), show (lo i + 1 - lo i).toNat = 1 from by omega, List.range_succ (n := i)]
    simp
theorem bt_one {lo hi : Nat → Int} {at_ d : Nat} (h1 : ∀ j, j ≠ at_ → hi j = lo j) (h2 : hi at_ = lo at_ + (d : Int)) : ∀ i : Nat, at_ < i → bt lo hi i = (List.range (d + 1)).map fun q : Nat => (List.range i).map (setF lo at_ (lo at_ + (q : Int)))
  | 0, h => by omega
  | i + 1, h => by
    by_cases c : at_ = i
    · subst c
      rw [bt, bt_low at_ (fun j hj => h1 j (by omega)), h2, show (lo at_ + (d : Int) + 1 - lo at_).toNat = d + 1 from by omega]
      simp only [List.flatMap_cons, List.flatMap_nil, List.append_nil]
      apply List.map_congr_left
      intro q _
      rw [List.range_succ, List.map_append, List.map_singleton]
      congr 1
      · apply List.map_congr_left
        intro j hj
        rw [List.mem_range] at hj
        unfold setF
        rw [if_neg (by omega)]
      · unfold setF
        rw [if_pos rfl]
    · rw [bt, bt_one h1 h2 i (by omega), h1 i (fun e => c e.symm), show (lo i + 1 - lo i).toNat = 1 from by omega, List.flatMap_map, List.flatMap_def]
      have e : ((List.range (d + 1)).map fun q : Nat => (List.range 1).map fun q' : Nat => (List.range i).map (setF lo at_ (lo at_ + (q : Int))) ++ [lo i + (q' : Int)]) = (List.range (d + 1)).map fun q : Nat => [(List.range (i + 1)).map (setF lo at_ (lo at_ + (q : Int)))] := by
        apply List.map_congr_left
        intro q _
        rw [List.range_succ, List.range_zero]
        simp only [List.nil_append, List.map_cons, List.map_nil]
        congr 1
        rw [List.range_succ, List.map_append, List.map_singleton]
        congr 2
        unfold setF
        rw [if_neg (fun e => c e.symm)]
        simp
      rw [e]
      generalize List.range (d + 1) = l
      induction l with
      | nil => rfl
      | cons a l ih => rw [List.map_cons, List.flatten_cons, List.map_cons, ih]; rfl
end PS

namespace PS
open PySem PySem.Spec PyProof.Rows L2
def topS (i : Nat) : Stmt := PySem.Challenge.pw_pushshelf_k07_whole_counted_at_any_size.main.body.getD i (.Pass ⟨0, 0, 0, 0⟩)
abbrev s_is_whole : Stmt := topS 9
theorem sc_is_whole : FnScope ["thing"] ["thing"] (defScope s_is_whole) := ⟨rfl, rfl, rfl, by decide +kernel, rfl, by decide +kernel, by decide +kernel⟩
abbrev s_is_within : Stmt := topS 10
theorem sc_is_within : FnScope ["thing", "low", "high"] ["thing", "low", "high"] (defScope s_is_within) := ⟨rfl, rfl, rfl, by decide +kernel, rfl, by decide +kernel, by decide +kernel⟩
abbrev s_is_tuple_of : Stmt := topS 11
theorem sc_is_tuple_of : FnScope ["thing", "many"] ["thing", "many"] (defScope s_is_tuple_of) := ⟨rfl, rfl, rfl, by decide +kernel, rfl, by decide +kernel, by decide +kernel⟩
abbrev s_are_blocks : Stmt := topS 12
theorem sc_are_blocks : FnScope ["thing", "length"] ["thing"] (defScope s_are_blocks) := ⟨rfl, rfl, rfl, by decide +kernel, rfl, by decide +kernel, by decide +kernel⟩
abbrev s_is_shelf : Stmt := topS 13
theorem sc_is_shelf : FnScope ["thing", "room", "blocks", "total"] ["thing"] (defScope s_is_shelf) := ⟨rfl, rfl, rfl, by decide +kernel, rfl, by decide +kernel, by decide +kernel⟩
abbrev s_need_shelf : Stmt := topS 14
theorem sc_need_shelf : FnScope ["thing"] ["thing"] (defScope s_need_shelf) := ⟨rfl, rfl, rfl, by decide +kernel, rfl, by decide +kernel, by decide +kernel⟩
abbrev s_play_of : Stmt := topS 15
theorem sc_play_of : FnScope ["shelf", "room", "blocks"] ["shelf"] (defScope s_play_of) := ⟨rfl, rfl, rfl, by decide +kernel, rfl, by decide +kernel, by decide +kernel⟩
abbrev s_gap_length : Stmt := topS 16
theorem sc_gap_length : FnScope ["shelf", "gap"] ["shelf", "gap"] (defScope s_gap_length) := ⟨rfl, rfl, rfl, by decide +kernel, rfl, by decide +kernel, by decide +kernel⟩
abbrev s_places_of : Stmt := topS 17
theorem sc_places_of : FnScope ["shelf", "stand", "at", "left"] ["shelf", "stand"] (defScope s_places_of) := ⟨rfl, rfl, rfl, by decide +kernel, rfl, by decide +kernel, by decide +kernel⟩
abbrev s_is_stand : Stmt := topS 18
theorem sc_is_stand : FnScope ["shelf", "thing", "room", "blocks", "edge", "left", "length"] ["shelf", "thing"] (defScope s_is_stand) := ⟨rfl, rfl, rfl, by decide +kernel, rfl, by decide +kernel, by decide +kernel⟩
abbrev s_need_stand : Stmt := topS 19
theorem sc_need_stand : FnScope ["shelf", "thing"] ["shelf", "thing"] (defScope s_need_stand) := ⟨rfl, rfl, rfl, by decide +kernel, rfl, by decide +kernel, by decide +kernel⟩
abbrev s_is_doing : Stmt := topS 21
theorem sc_is_doing : FnScope ["shelf", "thing", "least", "greatest", "low", "high"] ["shelf", "thing"] (defScope s_is_doing) := ⟨rfl, rfl, rfl, by decide +kernel, rfl, by decide +kernel, by decide +kernel⟩
abbrev s_need_doing : Stmt := topS 22
theorem sc_need_doing : FnScope ["shelf", "thing"] ["shelf", "thing"] (defScope s_need_doing) := ⟨rfl, rfl, rfl, by decide +kernel, rfl, by decide +kernel, by decide +kernel⟩
abbrev s_choices : Stmt := topS 24
theorem sc_choices : FnScope ["total", "many", "ways", "step"] ["total", "many"] (defScope s_choices) := ⟨rfl, rfl, rfl, by decide +kernel, rfl, by decide +kernel, by decide +kernel⟩
abbrev s_stands : Stmt := topS 25
theorem sc_stands : FnScope ["shelf", "many"] ["shelf"] (defScope s_stands) := ⟨rfl, rfl, rfl, by decide +kernel, rfl, by decide +kernel, by decide +kernel⟩
abbrev s_doings : Stmt := topS 26
theorem sc_doings : FnScope ["shelf", "many", "total", "crossing"] ["shelf"] (defScope s_doings) := ⟨rfl, rfl, rfl, by decide +kernel, rfl, by decide +kernel, by decide +kernel⟩
abbrev s_sources : Stmt := topS 27
theorem sc_sources : FnScope ["low", "place", "high", "play", "first", "last"] ["low", "place", "high", "play"] (defScope s_sources) := ⟨rfl, rfl, rfl, by decide +kernel, rfl, by decide +kernel, by decide +kernel⟩
abbrev s_with_next_block : Stmt := topS 28
theorem sc_with_next_block : FnScope ["ways", "first", "last", "told", "total", "place", "many"] ["ways", "first", "last"] (defScope s_with_next_block) := ⟨rfl, rfl, rfl, by decide +kernel, rfl, by decide +kernel, by decide +kernel⟩
abbrev s_leading : Stmt := topS 29
theorem sc_leading : FnScope ["shelf", "doing", "stand", "play", "least", "greatest", "ways", "low", "place", "high", "first", "last"] ["shelf", "doing", "stand"] (defScope s_leading) := ⟨rfl, rfl, rfl, by decide +kernel, rfl, by decide +kernel, by decide +kernel⟩
abbrev s_law_deck : Stmt := topS 31
theorem sc_law_deck : FnScope ["cell", "turn"] ["cell", "turn"] (defScope s_law_deck) := ⟨rfl, rfl, rfl, by decide +kernel, rfl, by decide +kernel, by decide +kernel⟩
abbrev s_law_pick : Stmt := topS 32
theorem sc_law_pick : FnScope ["deck", "size", "found", "number"] ["deck", "size"] (defScope s_law_pick) := ⟨rfl, rfl, rfl, by decide +kernel, rfl, by decide +kernel, by decide +kernel⟩
abbrev s_law_whole : Stmt := topS 33
theorem sc_law_whole : FnScope ["thing"] ["thing"] (defScope s_law_whole) := ⟨rfl, rfl, rfl, by decide +kernel, rfl, by decide +kernel, by decide +kernel⟩
abbrev s_law_one : Stmt := topS 34
theorem sc_law_one : FnScope ["deck", "some"] ["deck", "some"] (defScope s_law_one) := ⟨rfl, rfl, rfl, by decide +kernel, rfl, by decide +kernel, by decide +kernel⟩
abbrev s_law_sort : Stmt := topS 35
theorem sc_law_sort : FnScope ["thing"] ["thing"] (defScope s_law_sort) := ⟨rfl, rfl, rfl, by decide +kernel, rfl, by decide +kernel, by decide +kernel⟩
abbrev s_law_same : Stmt := topS 36
theorem sc_law_same : FnScope ["told", "due", "k", "part"] ["told", "due"] (defScope s_law_same) := ⟨rfl, rfl, rfl, by decide +kernel, rfl, by decide +kernel, by decide +kernel⟩
abbrev s_law_shelf : Stmt := topS 37
theorem sc_law_shelf : FnScope ["deck", "at_most", "play", "blocks", "k"] ["deck", "at_most", "play"] (defScope s_law_shelf) := ⟨rfl, rfl, rfl, by decide +kernel, rfl, by decide +kernel, by decide +kernel⟩
abbrev s_law_play : Stmt := topS 38
theorem sc_law_play : FnScope ["shelf"] ["shelf"] (defScope s_law_play) := ⟨rfl, rfl, rfl, by decide +kernel, rfl, by decide +kernel, by decide +kernel⟩
abbrev s_law_stand_of : Stmt := topS 39
theorem sc_law_stand_of : FnScope ["shelf", "places", "found", "ahead", "place", "long"] ["shelf", "places"] (defScope s_law_stand_of) := ⟨rfl, rfl, rfl, by decide +kernel, rfl, by decide +kernel, by decide +kernel⟩
abbrev s_law_stand : Stmt := topS 40
theorem sc_law_stand : FnScope ["deck", "shelf", "places", "long"] ["deck", "shelf"] (defScope s_law_stand) := ⟨rfl, rfl, rfl, by decide +kernel, rfl, by decide +kernel, by decide +kernel⟩
abbrev s_law_ends : Stmt := topS 41
theorem sc_law_ends : FnScope ["shelf", "many"] ["shelf"] (defScope s_law_ends) := ⟨rfl, rfl, rfl, by decide +kernel, rfl, by decide +kernel, by decide +kernel⟩
abbrev s_law_is_stand : Stmt := topS 42
theorem sc_law_is_stand : FnScope ["shelf", "thing", "end", "at", "left"] ["shelf", "thing"] (defScope s_law_is_stand) := ⟨rfl, rfl, rfl, by decide +kernel, rfl, by decide +kernel, by decide +kernel⟩
abbrev s_law_boxes : Stmt := topS 43
theorem sc_law_boxes : FnScope ["many", "play", "top", "bottom", "one", "other"] ["many", "play"] (defScope s_law_boxes) := ⟨rfl, rfl, rfl, by decide +kernel, rfl, by decide +kernel, by decide +kernel⟩
abbrev s_law_rising : Stmt := topS 44
theorem sc_law_rising : FnScope ["many", "play", "top", "bottom", "one"] ["many", "play"] (defScope s_law_rising) := ⟨rfl, rfl, rfl, by decide +kernel, rfl, by decide +kernel, by decide +kernel⟩
abbrev s_law_between : Stmt := topS 45
theorem sc_law_between : FnScope ["doing", "found", "low", "high", "more", "row", "left"] ["doing"] (defScope s_law_between) := ⟨rfl, rfl, rfl, by decide +kernel, rfl, by decide +kernel, by decide +kernel⟩
abbrev s_law : Stmt := topS 46
theorem sc_law : FnScope ["script", "cell", "deck", "shelf", "many", "play", "due", "low", "at", "room", "doing", "some", "parts_so", "wide", "stand"] ["script"] (defScope s_law) := ⟨rfl, rfl, rfl, by decide +kernel, rfl, by decide +kernel, by decide +kernel⟩
/-- what the top has left -/
structure Tx (K : PySem.W.Frag) (mg : Str → Option Value) where
  {f_is_whole : Addr}
  {fd_is_whole : FuncData}
  F_is_whole : Fun K "is_whole" "is_whole" s_is_whole f_is_whole fd_is_whole
  g_is_whole : mg "is_whole" = some (.ref f_is_whole)
  {f_is_within : Addr}
  {fd_is_within : FuncData}
  F_is_within : Fun K "is_within" "is_within" s_is_within f_is_within fd_is_within
  g_is_within : mg "is_within" = some (.ref f_is_within)
  {f_is_tuple_of : Addr}
  {fd_is_tuple_of : FuncData}
  F_is_tuple_of : Fun K "is_tuple_of" "is_tuple_of" s_is_tuple_of f_is_tuple_of fd_is_tuple_of
  g_is_tuple_of : mg "is_tuple_of" = some (.ref f_is_tuple_of)
  {f_are_blocks : Addr}
  {fd_are_blocks : FuncData}
  F_are_blocks : Fun K "are_blocks" "are_blocks" s_are_blocks f_are_blocks fd_are_blocks
  g_are_blocks : mg "are_blocks" = some (.ref f_are_blocks)
  {f_is_shelf : Addr}
  {fd_is_shelf : FuncData}
  F_is_shelf : Fun K "is_shelf" "is_shelf" s_is_shelf f_is_shelf fd_is_shelf
  g_is_shelf : mg "is_shelf" = some (.ref f_is_shelf)
  {f_need_shelf : Addr}
  {fd_need_shelf : FuncData}
  F_need_shelf : Fun K "need_shelf" "need_shelf" s_need_shelf f_need_shelf fd_need_shelf
  g_need_shelf : mg "need_shelf" = some (.ref f_need_shelf)
  {f_play_of : Addr}
  {fd_play_of : FuncData}
  F_play_of : Fun K "play_of" "play_of" s_play_of f_play_of fd_play_of
  g_play_of : mg "play_of" = some (.ref f_play_of)
  {f_gap_length : Addr}
  {fd_gap_length : FuncData}
  F_gap_length : Fun K "gap_length" "gap_length" s_gap_length f_gap_length fd_gap_length
  g_gap_length : mg "gap_length" = some (.ref f_gap_length)
  {f_places_of : Addr}
  {fd_places_of : FuncData}
  F_places_of : Fun K "places_of" "places_of" s_places_of f_places_of fd_places_of
  g_places_of : mg "places_of" = some (.ref f_places_of)
  {f_is_stand : Addr}
  {fd_is_stand : FuncData}
  F_is_stand : Fun K "is_stand" "is_stand" s_is_stand f_is_stand fd_is_stand
  g_is_stand : mg "is_stand" = some (.ref f_is_stand)
  {f_need_stand : Addr}
  {fd_need_stand : FuncData}
  F_need_stand : Fun K "need_stand" "need_stand" s_need_stand f_need_stand fd_need_stand
  g_need_stand : mg "need_stand" = some (.ref f_need_stand)
  {f_is_doing : Addr}
  {fd_is_doing : FuncData}
  F_is_doing : Fun K "is_doing" "is_doing" s_is_doing f_is_doing fd_is_doing
  g_is_doing : mg "is_doing" = some (.ref f_is_doing)
  {f_need_doing : Addr}
  {fd_need_doing : FuncData}
  F_need_doing : Fun K "need_doing" "need_doing" s_need_doing f_need_doing fd_need_doing
  g_need_doing : mg "need_doing" = some (.ref f_need_doing)
  {f_choices : Addr}
  {fd_choices : FuncData}
  F_choices : Fun K "choices" "choices" s_choices f_choices fd_choices
  g_choices : mg "choices" = some (.ref f_choices)
  {f_stands : Addr}
  {fd_stands : FuncData}
  F_stands : Fun K "stands" "stands" s_stands f_stands fd_stands
  g_stands : mg "stands" = some (.ref f_stands)
  {f_doings : Addr}
  {fd_doings : FuncData}
  F_doings : Fun K "doings" "doings" s_doings f_doings fd_doings
  g_doings : mg "doings" = some (.ref f_doings)
  {f_sources : Addr}
  {fd_sources : FuncData}
  F_sources : Fun K "sources" "sources" s_sources f_sources fd_sources
  g_sources : mg "sources" = some (.ref f_sources)
  {f_with_next_block : Addr}
  {fd_with_next_block : FuncData}
  F_with_next_block : Fun K "with_next_block" "with_next_block" s_with_next_block f_with_next_block fd_with_next_block
  g_with_next_block : mg "with_next_block" = some (.ref f_with_next_block)
  {f_leading : Addr}
  {fd_leading : FuncData}
  F_leading : Fun K "leading" "leading" s_leading f_leading fd_leading
  g_leading : mg "leading" = some (.ref f_leading)
  {f_law_deck : Addr}
  {fd_law_deck : FuncData}
  F_law_deck : Fun K "_law_deck" "_law_deck" s_law_deck f_law_deck fd_law_deck
  g_law_deck : mg "_law_deck" = some (.ref f_law_deck)
  {f_law_pick : Addr}
  {fd_law_pick : FuncData}
  F_law_pick : Fun K "_law_pick" "_law_pick" s_law_pick f_law_pick fd_law_pick
  g_law_pick : mg "_law_pick" = some (.ref f_law_pick)
  {f_law_whole : Addr}
  {fd_law_whole : FuncData}
  F_law_whole : Fun K "_law_whole" "_law_whole" s_law_whole f_law_whole fd_law_whole
  g_law_whole : mg "_law_whole" = some (.ref f_law_whole)
  {f_law_one : Addr}
  {fd_law_one : FuncData}
  F_law_one : Fun K "_law_one" "_law_one" s_law_one f_law_one fd_law_one
  g_law_one : mg "_law_one" = some (.ref f_law_one)
  {f_law_sort : Addr}
  {fd_law_sort : FuncData}
  F_law_sort : Fun K "_law_sort" "_law_sort" s_law_sort f_law_sort fd_law_sort
  g_law_sort : mg "_law_sort" = some (.ref f_law_sort)
  {f_law_same : Addr}
  {fd_law_same : FuncData}
  F_law_same : Fun K "_law_same" "_law_same" s_law_same f_law_same fd_law_same
  g_law_same : mg "_law_same" = some (.ref f_law_same)
  {f_law_shelf : Addr}
  {fd_law_shelf : FuncData}
  F_law_shelf : Fun K "_law_shelf" "_law_shelf" s_law_shelf f_law_shelf fd_law_shelf
  g_law_shelf : mg "_law_shelf" = some (.ref f_law_shelf)
  {f_law_play : Addr}
  {fd_law_play : FuncData}
  F_law_play : Fun K "_law_play" "_law_play" s_law_play f_law_play fd_law_play
  g_law_play : mg "_law_play" = some (.ref f_law_play)
  {f_law_stand_of : Addr}
  {fd_law_stand_of : FuncData}
  F_law_stand_of : Fun K "_law_stand_of" "_law_stand_of" s_law_stand_of f_law_stand_of fd_law_stand_of
  g_law_stand_of : mg "_law_stand_of" = some (.ref f_law_stand_of)
  {f_law_stand : Addr}
  {fd_law_stand : FuncData}
  F_law_stand : Fun K "_law_stand" "_law_stand" s_law_stand f_law_stand fd_law_stand
  g_law_stand : mg "_law_stand" = some (.ref f_law_stand)
  {f_law_ends : Addr}
  {fd_law_ends : FuncData}
  F_law_ends : Fun K "_law_ends" "_law_ends" s_law_ends f_law_ends fd_law_ends
  g_law_ends : mg "_law_ends" = some (.ref f_law_ends)
  {f_law_is_stand : Addr}
  {fd_law_is_stand : FuncData}
  F_law_is_stand : Fun K "_law_is_stand" "_law_is_stand" s_law_is_stand f_law_is_stand fd_law_is_stand
  g_law_is_stand : mg "_law_is_stand" = some (.ref f_law_is_stand)
  {f_law_boxes : Addr}
  {fd_law_boxes : FuncData}
  F_law_boxes : Fun K "_law_boxes" "_law_boxes" s_law_boxes f_law_boxes fd_law_boxes
  g_law_boxes : mg "_law_boxes" = some (.ref f_law_boxes)
  {f_law_rising : Addr}
  {fd_law_rising : FuncData}
  F_law_rising : Fun K "_law_rising" "_law_rising" s_law_rising f_law_rising fd_law_rising
  g_law_rising : mg "_law_rising" = some (.ref f_law_rising)
  {f_law_between : Addr}
  {fd_law_between : FuncData}
  F_law_between : Fun K "_law_between" "_law_between" s_law_between f_law_between fd_law_between
  g_law_between : mg "_law_between" = some (.ref f_law_between)
  n_all : mg "all" = none
  n_bool : mg "bool" = none
  n_enumerate : mg "enumerate" = none
  n_int : mg "int" = none
  n_isinstance : mg "isinstance" = none
  n_len : mg "len" = none
  n_list : mg "list" = none
  n_min : mg "min" = none
  n_range : mg "range" = none
  n_sorted : mg "sorted" = none
  n_str : mg "str" = none
  n_sum : mg "sum" = none
  n_tuple : mg "tuple" = none
  n_zip : mg "zip" = none
  {cu_MOST_BLOCKS : Value}
  c_MOST_BLOCKS : RelV (.int 8) cu_MOST_BLOCKS ∧ mg "MOST_BLOCKS" = some cu_MOST_BLOCKS
  {cu_MOST_LENGTH : Value}
  c_MOST_LENGTH : RelV (.int 50) cu_MOST_LENGTH ∧ mg "MOST_LENGTH" = some cu_MOST_LENGTH
  {cu_MOST_PLAY : Value}
  c_MOST_PLAY : RelV (.int 400) cu_MOST_PLAY ∧ mg "MOST_PLAY" = some cu_MOST_PLAY
variable {P : Program} {w : World} {K : PySem.W.Frag} {mg : Str → Option Value} {base : Heap}
theorem Tx.b_is_whole (T : Tx K mg) : Binds K T.fd_is_whole ["thing"] [] := T.F_is_whole.binds fun _ _ _ _ _ _ us hl => match us, hl with | [_], _ => rfl
theorem Tx.b_is_within (T : Tx K mg) : Binds K T.fd_is_within ["thing", "low", "high"] [] := T.F_is_within.binds fun _ _ _ _ _ _ us hl => match us, hl with | [_, _, _], _ => rfl
theorem Tx.b_is_tuple_of (T : Tx K mg) : Binds K T.fd_is_tuple_of ["thing", "many"] [] := T.F_is_tuple_of.binds fun _ _ _ _ _ _ us hl => match us, hl with | [_, _], _ => rfl
theorem Tx.b_are_blocks (T : Tx K mg) : Binds K T.fd_are_blocks ["thing"] [] := T.F_are_blocks.binds fun _ _ _ _ _ _ us hl => match us, hl with | [_], _ => rfl
theorem Tx.b_is_shelf (T : Tx K mg) : Binds K T.fd_is_shelf ["thing"] [] := T.F_is_shelf.binds fun _ _ _ _ _ _ us hl => match us, hl with | [_], _ => rfl
theorem Tx.b_need_shelf (T : Tx K mg) : Binds K T.fd_need_shelf ["thing"] [] := T.F_need_shelf.binds fun _ _ _ _ _ _ us hl => match us, hl with | [_], _ => rfl
theorem Tx.b_play_of (T : Tx K mg) : Binds K T.fd_play_of ["shelf"] [] := T.F_play_of.binds fun _ _ _ _ _ _ us hl => match us, hl with | [_], _ => rfl
theorem Tx.b_gap_length (T : Tx K mg) : Binds K T.fd_gap_length ["shelf", "gap"] [] := T.F_gap_length.binds fun _ _ _ _ _ _ us hl => match us, hl with | [_, _], _ => rfl
theorem Tx.b_places_of (T : Tx K mg) : Binds K T.fd_places_of ["shelf", "stand"] [] := T.F_places_of.binds fun _ _ _ _ _ _ us hl => match us, hl with | [_, _], _ => rfl
theorem Tx.b_is_stand (T : Tx K mg) : Binds K T.fd_is_stand ["shelf", "thing"] [] := T.F_is_stand.binds fun _ _ _ _ _ _ us hl => match us, hl with | [_, _], _ => rfl
theorem Tx.b_need_stand (T : Tx K mg) : Binds K T.fd_need_stand ["shelf", "thing"] [] := T.F_need_stand.binds fun _ _ _ _ _ _ us hl => match us, hl with | [_, _], _ => rfl
theorem Tx.b_is_doing (T : Tx K mg) : Binds K T.fd_is_doing ["shelf", "thing"] [] := T.F_is_doing.binds fun _ _ _ _ _ _ us hl => match us, hl with | [_, _], _ => rfl
theorem Tx.b_need_doing (T : Tx K mg) : Binds K T.fd_need_doing ["shelf", "thing"] [] := T.F_need_doing.binds fun _ _ _ _ _ _ us hl => match us, hl with | [_, _], _ => rfl
theorem Tx.b_choices (T : Tx K mg) : Binds K T.fd_choices ["total", "many"] [] := T.F_choices.binds fun _ _ _ _ _ _ us hl => match us, hl with | [_, _], _ => rfl
theorem Tx.b_stands (T : Tx K mg) : Binds K T.fd_stands ["shelf"] [] := T.F_stands.binds fun _ _ _ _ _ _ us hl => match us, hl with | [_], _ => rfl
theorem Tx.b_doings (T : Tx K mg) : Binds K T.fd_doings ["shelf"] [] := T.F_doings.binds fun _ _ _ _ _ _ us hl => match us, hl with | [_], _ => rfl
theorem Tx.b_sources (T : Tx K mg) : Binds K T.fd_sources ["low", "place", "high", "play"] [] := T.F_sources.binds fun _ _ _ _ _ _ us hl => match us, hl with | [_, _, _, _], _ => rfl
theorem Tx.b_with_next_block (T : Tx K mg) : Binds K T.fd_with_next_block ["ways", "first", "last"] [] := T.F_with_next_block.binds fun _ _ _ _ _ _ us hl => match us, hl with | [_, _, _], _ => rfl
theorem Tx.b_leading (T : Tx K mg) : Binds K T.fd_leading ["shelf", "doing", "stand"] [] := T.F_leading.binds fun _ _ _ _ _ _ us hl => match us, hl with | [_, _, _], _ => rfl
theorem Tx.b_law_deck (T : Tx K mg) : Binds K T.fd_law_deck ["cell", "turn"] [] := T.F_law_deck.binds fun _ _ _ _ _ _ us hl => match us, hl with | [_, _], _ => rfl
theorem Tx.b_law_pick (T : Tx K mg) : Binds K T.fd_law_pick ["deck", "size"] [] := T.F_law_pick.binds fun _ _ _ _ _ _ us hl => match us, hl with | [_, _], _ => rfl
theorem Tx.b_law_whole (T : Tx K mg) : Binds K T.fd_law_whole ["thing"] [] := T.F_law_whole.binds fun _ _ _ _ _ _ us hl => match us, hl with | [_], _ => rfl
theorem Tx.b_law_one (T : Tx K mg) : Binds K T.fd_law_one ["deck", "some"] [] := T.F_law_one.binds fun _ _ _ _ _ _ us hl => match us, hl with | [_, _], _ => rfl
theorem Tx.b_law_sort (T : Tx K mg) : Binds K T.fd_law_sort ["thing"] [] := T.F_law_sort.binds fun _ _ _ _ _ _ us hl => match us, hl with | [_], _ => rfl
theorem Tx.b_law_same (T : Tx K mg) : Binds K T.fd_law_same ["told", "due"] [] := T.F_law_same.binds fun _ _ _ _ _ _ us hl => match us, hl with | [_, _], _ => rfl
theorem Tx.b_law_shelf (T : Tx K mg) : Binds K T.fd_law_shelf ["deck", "at_most", "play"] [] := T.F_law_shelf.binds fun _ _ _ _ _ _ us hl => match us, hl with | [_, _, _], _ => rfl
theorem Tx.b_law_play (T : Tx K mg) : Binds K T.fd_law_play ["shelf"] [] := T.F_law_play.binds fun _ _ _ _ _ _ us hl => match us, hl with | [_], _ => rfl
theorem Tx.b_law_stand_of (T : Tx K mg) : Binds K T.fd_law_stand_of ["shelf", "places"] [] := T.F_law_stand_of.binds fun _ _ _ _ _ _ us hl => match us, hl with | [_, _], _ => rfl
theorem Tx.b_law_stand (T : Tx K mg) : Binds K T.fd_law_stand ["deck", "shelf"] [] := T.F_law_stand.binds fun _ _ _ _ _ _ us hl => match us, hl with | [_, _], _ => rfl
theorem Tx.b_law_ends (T : Tx K mg) : Binds K T.fd_law_ends ["shelf"] [] := T.F_law_ends.binds fun _ _ _ _ _ _ us hl => match us, hl with | [_], _ => rfl
theorem Tx.b_law_is_stand (T : Tx K mg) : Binds K T.fd_law_is_stand ["shelf", "thing"] [] := T.F_law_is_stand.binds fun _ _ _ _ _ _ us hl => match us, hl with | [_, _], _ => rfl
theorem Tx.b_law_boxes (T : Tx K mg) : Binds K T.fd_law_boxes ["many", "play"] [] := T.F_law_boxes.binds fun _ _ _ _ _ _ us hl => match us, hl with | [_, _], _ => rfl
theorem Tx.b_law_rising (T : Tx K mg) : Binds K T.fd_law_rising ["many", "play"] [] := T.F_law_rising.binds fun _ _ _ _ _ _ us hl => match us, hl with | [_, _], _ => rfl
theorem Tx.b_law_between (T : Tx K mg) : Binds K T.fd_law_between ["doing"] [] := T.F_law_between.binds fun _ _ _ _ _ _ us hl => match us, hl with | [_], _ => rfl

end PS

namespace PS
open PySem PySem.Spec PyProof.Rows L2
variable {P : Program} {w : World} {K : PySem.W.Frag} {mg : Str → Option Value} {base : Heap}
def sp_is_whole (K : PySem.W.Frag) : Sp := fun vs H Q _ => ∃ v d, vs = [v] ∧ Dp K H v d ∧ Q (.bl (isW d)) H
theorem ok_is_whole (T : Tx K mg) : FnOk P w K mg base CX0 1 T.f_is_whole T.fd_is_whole ["thing"] (sp_is_whole K) := by
  refine T.F_is_whole.ok sc_is_whole (fun vs H Q E h => ?_) (fun cdv A outer s H vs Q E hr h => ?_)
  · obtain ⟨v, d, rfl, _⟩ := h
    rfl
  · obtain ⟨v, d, rfl, hd, q⟩ := h
    refine ⟨_, (pss_one (ps_ret (pe_and (pe_callB call_isD (by rfl) T.n_isinstance (by decide +kernel) (pa_cons (pv 0) (pa_cons (pe_bltn (v := .ty "int") (by rfl) T.n_int (by decide +kernel) rfl) pa_nil))) (pe_one (pe_not (pe_callB call_isD (by rfl) T.n_isinstance (by decide +kernel) (pa_cons (pv 0) (pa_cons (pe_bltn (v := .ty "bool") (by rfl) T.n_bool (by decide +kernel) rfl) pa_nil)))))))), ?_⟩
    refine ⟨v, rfl, v, _, d, rfl, hd, kInt d, _, rfl, ?_⟩
    rw [isA_int]
    cases hd with
    | bl b => exact iteT ⟨_, rfl, _, _, _, rfl, .bl b, kBool _, _, rfl, by rw [isA_bool]; exact q⟩
    | int b => exact iteT ⟨_, rfl, _, _, _, rfl, .int b, kBool _, _, rfl, by rw [isA_bool]; exact q⟩
    | _ => exact iteF q
def sp_is_within (K : PySem.W.Frag) : Sp := fun vs H Q _ => ∃ v d lo hi, vs = [v, .int lo, .int hi] ∧ Dp K H v d ∧ Q (.bl (within d lo hi)) H
theorem ok_is_within (T : Tx K mg) : FnOk P w K mg base CX0 2 T.f_is_within T.fd_is_within ["thing", "low", "high"] (sp_is_within K) := by
  have G_is_whole := ok_is_whole (P := P) (w := w) (base := base) T
  refine T.F_is_within.ok sc_is_within (fun vs H Q E h => ?_) (fun cdv A outer s H vs Q E hr h => ?_)
  · obtain ⟨v, d, lo, hi, rfl, _⟩ := h
    rfl
  · obtain ⟨v, d, lo, hi, rfl, hd, q⟩ := h
    refine ⟨_, (pss_one (ps_ret (pe_and (pe_call (G_is_whole.mono (by first | decide | omega)) hr (by rfl) T.g_is_whole T.F_is_whole.kp T.b_is_whole .nil pass0 (pa_cons (pv 0) pa_nil)) (pe_one (pe_chain op_le op_le (pv 1) (pv 0) (pv 2)))))), ?_⟩
    refine ⟨v, rfl, v, d, rfl, hd, _, rfl, ?_⟩
    cases hd with
    | int i =>
      refine iteT ⟨_, rfl, _, rfl, _, _, rfl, rfl, _, rfl, ?_⟩
      unfold within at q
      simp only at q
      by_cases hl : lo ≤ i
      · rw [if_pos hl] at q
        rw [if_pos (decide_eq_true hl)]
        exact ⟨_, rfl, _, _, rfl, rfl, q⟩
      · rw [if_neg hl] at q
        rw [if_neg (by simp [hl])]
        exact q
    | _ => exact iteF q
def sp_is_tuple_of (K : PySem.W.Frag) : Sp := fun vs H Q _ => ∃ v d n, vs = [v, .int n] ∧ Dp K H v d ∧ Q (.bl (tupOf d n)) H
theorem ok_is_tuple_of (T : Tx K mg) : FnOk P w K mg base CX0 1 T.f_is_tuple_of T.fd_is_tuple_of ["thing", "many"] (sp_is_tuple_of K) := by
  refine T.F_is_tuple_of.ok sc_is_tuple_of (fun vs H Q E h => ?_) (fun cdv A outer s H vs Q E hr h => ?_)
  · obtain ⟨v, d, n, rfl, _⟩ := h
    rfl
  · obtain ⟨v, d, n, rfl, hd, q⟩ := h
    refine ⟨_, (pss_one (ps_ret (pe_and (pe_callB call_isD (by rfl) T.n_isinstance (by decide +kernel) (pa_cons (pv 0) (pa_cons (pe_bltn (v := .ty "tuple") (by rfl) T.n_tuple (by decide +kernel) rfl) pa_nil))) (pe_one (pe_cmpR op_eq (pe_callB call_len_seq (by rfl) T.n_len (by decide +kernel) (pa_cons (pv 0) pa_nil)) (pv 1) (nomark _)))))), ?_⟩
    refine ⟨v, rfl, v, _, d, rfl, hd, kTuple d, _, rfl, ?_⟩
    rw [isA_tuple]
    cases hd with
    | @tup a xs ds s al =>
      refine iteT ⟨_, rfl, a, xs, rfl, .inr s, _, rfl, rfl, ?_⟩
      rw [dpAll_len al]
      unfold tupOf at q
      simp only at q
      have e : decide (V.int (ds.length : Int) = V.int n) = decide ((ds.length : Int) = n) := by
        by_cases h : (ds.length : Int) = n
        · rw [h]; simp
        · rw [decide_eq_false h, decide_eq_false (fun z => h (V.int.inj z))]
      rw [e]
      exact q
    | _ => exact iteF q
def sp_are_blocks (K : PySem.W.Frag) : Sp := fun vs H Q _ => ∃ v d, vs = [v] ∧ Dp K H v d ∧ RB H Q (areBlocks d)
theorem ok_are_blocks (T : Tx K mg) : FnOk P w K mg base CX0 3 T.f_are_blocks T.fd_are_blocks ["thing"] (sp_are_blocks K) := by
  have G_is_within := ok_is_within (P := P) (w := w) (base := base) T
  refine T.F_are_blocks.ok sc_are_blocks (fun vs H Q E h => ?_) (fun cdv A outer s H vs Q E hr h => ?_)
  · obtain ⟨v, d, rfl, _⟩ := h
    rfl
  · obtain ⟨v, d, rfl, hd, q⟩ := h
    refine ⟨_, (pss_cons (ps_if (PW.pt (pw_or (pt_not (pt_val (pe_callB call_isD (by rfl) T.n_isinstance (by decide +kernel) (pa_cons (pv 0) (pa_cons (pe_bltn (v := .ty "tuple") (by rfl) T.n_tuple (by decide +kernel) rfl) pa_nil))))) (pw_or1 (pt_not (pt_chain op_le op_le pe_int (pe_callB call_len_seq (by rfl) T.n_len (by decide +kernel) (pa_cons (pv 0) pa_nil)) (pe_glob (by rfl) T.c_MOST_BLOCKS.2 T.c_MOST_BLOCKS.1)))))) (pss_one (ps_ret pe_bl)) pss_nil)
      (pss_one (ps_ret (pe_callB (cr_all rfl) (by rfl) T.n_all (by decide +kernel) (pa_cons (pe_lc (own := [("length", 1)]) (g := gName 1) (tt := tYes) rfl sc_are_blocks.nd (pi_tup (pv 0)) (blkOk_by (own := [("length", 1)]) (N := ["thing", "length"]) (sc := defScope s_are_blocks) (by decide +kernel)) (fun _ _ _ _ _ => (pg_name (i := 1) sc_are_blocks.nd rfl (.inl rfl))) (fun _ _ _ _ _ => pts_nil) (fun _ _ _ _ _ => (pe_call (G_is_within.mono (by first | decide | omega)) hr (by rfl) T.g_is_within T.F_is_within.kp T.b_is_within .nil pass0 (pa_cons (pv 1) (pa_cons pe_int (pa_cons (pe_glob (by rfl) T.c_MOST_LENGTH.2 T.c_MOST_LENGTH.1) pa_nil)))))) pa_nil))))), ?_⟩
    refine ⟨v, rfl, v, _, d, rfl, hd, kTuple d, _, rfl, ?_⟩
    rw [isA_tuple]
    cases hd with
    | @tup a xs ds s al =>
      have hl := dpAll_len al
      refine iteF ⟨.ref a, rfl, a, xs, rfl, .inr s, _, _, rfl, rfl, _, rfl, ?_⟩
      have hn : xs.length ≤ sizeLine → True := fun _ => trivial
      unfold areBlocks at q
      simp only at q
      by_cases h1 : 1 ≤ (xs.length : Int)
      · rw [if_pos (decide_eq_true h1)]
        refine ⟨_, _, rfl, rfl, _, rfl, ?_⟩
        by_cases h8 : (xs.length : Int) ≤ 8
        · rw [if_pos ⟨by rw [← hl]; exact h1, by rw [← hl]; exact h8⟩] at q
          rw [decide_eq_true h8]
          refine iteF ?_
          -- all([..])
          refine ⟨.ref a, rfl, a, rfl, ⟨xs, s⟩, fun D nD => ?_⟩
          refine lc_tup (K := K) (a := a) (xs := xs) (fun i H' => Same H H' ∧ H' D = some (.lst ((ds.take i).map fun x => V.bl (within x 1 50)))) ⟨same_new nD, by rw [upd_same]; rfl⟩ (fun i H' _ p => seqT_mono p.1 s) (fun i x H' hx p => ?_) (fun H' p => ?_)
          · obtain ⟨d, e1, e2⟩ := dpAll_get al hx
            have hi : i < xs.length := (List.getElem?_eq_some_iff.mp hx).1
            refine ⟨rfl, x, rfl, x, d, _, _, rfl, Dpm p.1 e2, ?_⟩
            refine ⟨_, p.2, ?_, ?_, ?_⟩
            · rw [List.length_map, List.length_take]
              exact small1000 (by omega)
            · intro b o hb
              have nb : b ≠ D := ne_of_none hb nD
              rw [upd_ne nb]
              exact p.1 b o hb
            · rw [upd_same, List.take_add_one, e1, List.map_append]
              rfl
          · refine ⟨D, (ds.map fun x => within x 1 50), rfl, .inl (.inl ?_), ?_⟩
            · rw [p.2, hl, List.take_length, List.map_map]
              rfl
            · rw [show (ds.map fun x => within x 1 50).all id = ds.all (fun x => within x 1 50) from by rw [List.all_map]; rfl]
              exact q H' p.1
        · rw [if_neg (by rw [← hl]; exact fun z => h8 z.2)] at q
          rw [decide_eq_false h8]
          exact iteT (q H (Same.refl H))
      · rw [if_neg (by rw [← hl]; exact fun z => h1 z.1)] at q
        rw [if_neg (by simp [h1])]
        exact ⟨_, rfl, iteT (q H (Same.refl H))⟩
    | _ => exact iteT (q H (Same.refl H))
end PS

namespace PS
open PySem PySem.Spec PyProof.Rows L2
variable {P : Program} {w : World} {K : PySem.W.Frag} {mg : Str → Option Value} {base : Heap}
theorem tupOf2 {d : PyData} (h : tupOf d 2 = true) : ∃ r b, d = .tuple [r, b] := by
  cases d with
  | tuple ds =>
    have h1 : (ds.length : Int) = 2 := of_decide_eq_true h
    match ds, h1 with
    | [r, b], _ => exact ⟨r, b, rfl⟩
    | [], h => simp at h
    | [_], h => simp at h
    | _ :: _ :: _ :: _, h => simp at h; omega
  | _ => simp [tupOf] at h
theorem tupOf3 {d : PyData} (h : tupOf d 3 = true) : ∃ r b c, d = .tuple [r, b, c] := by
  cases d with
  | tuple ds =>
    have h1 : (ds.length : Int) = 3 := of_decide_eq_true h
    match ds, h1 with
    | [r, b, c], _ => exact ⟨r, b, c, rfl⟩
    | [], h => simp at h
    | [_], h => simp at h
    | [_, _], h => simp at h
    | _ :: _ :: _ :: _ :: _, h => simp at h; omega
  | _ => simp [tupOf] at h
theorem dp_two {H : Hp} {v : V} {r b : PyData} (h : Dp K H v (.tuple [r, b])) : ∃ a x y, v = .ref a ∧ SqT K H a [x, y] ∧ Dp K H x r ∧ Dp K H y b := by
  obtain ⟨a, xs, rfl, s, al⟩ := dp_tup h
  cases al with
  | cons h1 h2 =>
    cases h2 with
    | cons h3 h4 => cases h4; exact ⟨a, _, _, rfl, s, h1, h3⟩
theorem dp_three {H : Hp} {v : V} {r b c : PyData} (h : Dp K H v (.tuple [r, b, c])) : ∃ a x y z, v = .ref a ∧ SqT K H a [x, y, z] ∧ Dp K H x r ∧ Dp K H y b ∧ Dp K H z c := by
  obtain ⟨a, xs, rfl, s, al⟩ := dp_tup h
  cases al with
  | cons h1 h2 =>
    cases h2 with
    | cons h3 h4 =>
      cases h4 with
      | cons h5 h6 => cases h6; exact ⟨a, _, _, _, rfl, s, h1, h3, h5⟩
theorem dp_shelf {H : Hp} {v : V} {room : Int} {ls : List Int} (h : Dp K H v (shD room ls)) : ∃ a b, v = .ref a ∧ SqT K H a [.int room, .ref b] ∧ SqT K H b (iV ls) := by
  obtain ⟨a, x, y, rfl, s, h1, h2⟩ := dp_two h
  obtain ⟨b, rfl, t⟩ := dp_tI h2
  cases dp_int h1
  exact ⟨a, b, rfl, s, t⟩
/-! ### is_shelf, need_shelf -/
def sp_is_shelf (K : PySem.W.Frag) : Sp := fun vs H Q _ => ∃ v d, vs = [v] ∧ Dp K H v d ∧ RB H Q (isShelf d)
theorem ok_is_shelf (T : Tx K mg) : FnOk P w K mg base CX0 4 T.f_is_shelf T.fd_is_shelf ["thing"] (sp_is_shelf K) := by
  have G_is_tuple_of := ok_is_tuple_of (P := P) (w := w) (base := base) T
  have G_are_blocks := ok_are_blocks (P := P) (w := w) (base := base) T
  have G_is_within := ok_is_within (P := P) (w := w) (base := base) T
  refine T.F_is_shelf.ok sc_is_shelf (fun vs H Q E h => ?_) (fun cdv A outer s H vs Q E hr h => ?_)
  · obtain ⟨v, d, rfl, _⟩ := h
    rfl
  · obtain ⟨v, d, rfl, hd, q⟩ := h
    refine ⟨_, (pss_cons (ps_if (pt_not (pt_val (pe_call (G_is_tuple_of.mono (by first | decide | omega)) hr (by rfl) T.g_is_tuple_of T.F_is_tuple_of.kp T.b_is_tuple_of .nil pass0 (pa_cons (pv 0) (pa_cons pe_int pa_nil))))) (pss_one (ps_ret pe_bl)) pss_nil)
      (pss_cons (ps_asg (pv 0) (pg_tup rfl (pgs_cons (pg_name (i := 1) sc_is_shelf.nd rfl (.inl rfl)) (pgs_cons (pg_name (i := 2) sc_is_shelf.nd rfl (.inl rfl)) pgs_nil))))
      (pss_cons (ps_if (pt_not (pt_val (pe_call (G_are_blocks.mono (by first | decide | omega)) hr (by rfl) T.g_are_blocks T.F_are_blocks.kp T.b_are_blocks .nil pass0 (pa_cons (pv 2) pa_nil)))) (pss_one (ps_ret pe_bl)) pss_nil)
      (pss_cons (ps_set (i := 3) sc_is_shelf.nd rfl (.inl rfl) (pe_callB (cr_sumT rfl) (by rfl) T.n_sum (by decide +kernel) (pa_cons (pv 2) pa_nil)))
      (pss_one (ps_ret (pe_call (G_is_within.mono (by first | decide | omega)) hr (by rfl) T.g_is_within T.F_is_within.kp T.b_is_within .nil pass0 (pa_cons (pv 1) (pa_cons (pv 3) (pa_cons (pe_op op_add (pv 3) (pe_glob (by rfl) T.c_MOST_PLAY.2 T.c_MOST_PLAY.1)) pa_nil)))))))))), ?_⟩
    refine ⟨v, rfl, v, d, _, rfl, hd, _, rfl, ?_⟩
    cases e : tupOf d 2 with
    | false =>
      have ef : isShelf d = false := by
        unfold isShelf
        split
        · simp [tupOf] at e
        · rfl
      rw [ef] at q
      exact iteT (q H (Same.refl H))
    | true =>
      refine iteF ?_
      obtain ⟨r, b, rfl⟩ := tupOf2 e
      obtain ⟨a, x, y, rfl, s, h1, h2⟩ := dp_two hd
      refine ⟨.ref a, rfl, a, [x, y], rfl, s, rfl, x, [y], rfl, y, [], rfl, rfl, ?_⟩
      refine ⟨y, rfl, y, b, rfl, h2, fun H' sm => ⟨_, rfl, ?_⟩⟩
      cases e2 : areBlocks b with
      | false =>
        have ef : isShelf (.tuple [r, b]) = false := by
          unfold isShelf
          split
          · rename_i h; cases h
            rw [e2]; rfl
          · rfl
        rw [ef] at q
        exact iteT (q H' sm)
      | true =>
        refine iteF ?_
        cases b with
        | tuple bs =>
          obtain ⟨ls, rfl, n1, n8, l1⟩ := areBlocks_ints e2
          obtain ⟨c, rfl, t⟩ := dp_tI h2
          refine ⟨.ref c, rfl, c, ls, rfl, seqT_mono sm t, ?_⟩
          refine ⟨x, rfl, _, rfl, _, rfl, _, _, rfl, rfl, x, r, _, _, rfl, Dpm sm h1, ?_⟩
          unfold isShelf at q
          simp only at q
          rw [if_pos e2, intOf_iD] at q
          exact q H' sm
        | _ => simp [areBlocks] at e2
def sp_need_shelf (K : PySem.W.Frag) : Sp := fun vs H Q _ => ∃ v d, vs = [v] ∧ Dp K H v d ∧ isShelf d = true ∧ ∀ H', Same H H' → Q .non H'
theorem ok_need_shelf (T : Tx K mg) : FnOk P w K mg base CX0 5 T.f_need_shelf T.fd_need_shelf ["thing"] (sp_need_shelf K) := by
  have G_is_shelf := ok_is_shelf (P := P) (w := w) (base := base) T
  refine T.F_need_shelf.ok sc_need_shelf (fun vs H Q E h => ?_) (fun cdv A outer s H vs Q E hr h => ?_)
  · obtain ⟨v, d, rfl, _⟩ := h
    rfl
  · obtain ⟨v, d, rfl, hd, e, q⟩ := h
    refine ⟨_, (pss_one (ps_if (pt_not (pt_val (pe_call (G_is_shelf.mono (by first | decide | omega)) hr (by rfl) T.g_is_shelf T.F_is_shelf.kp T.b_is_shelf .nil pass0 (pa_cons (pv 0) pa_nil)))) (pss_one ps_never) pss_nil)), ?_⟩
    refine ⟨v, rfl, v, d, rfl, hd, fun H' sm => ⟨_, rfl, ?_⟩⟩
    rw [e]
    exact iteF (q H' sm)
/-! ### play_of, gap_length -/
def sp_play_of (K : PySem.W.Frag) : Sp := fun vs H Q _ => ∃ v room ls, vs = [v] ∧ Dp K H v (shD room ls) ∧ Q (.int (room - ls.sum)) H
theorem ok_play_of (T : Tx K mg) : FnOk P w K mg base CX0 1 T.f_play_of T.fd_play_of ["shelf"] (sp_play_of K) := by
  refine T.F_play_of.ok sc_play_of (fun vs H Q E h => ?_) (fun cdv A outer s H vs Q E hr h => ?_)
  · obtain ⟨v, d, _, rfl, _⟩ := h
    rfl
  · obtain ⟨v, room, ls, rfl, hd, q⟩ := h
    obtain ⟨a, b, rfl, s, t⟩ := dp_shelf hd
    refine ⟨_, (pss_cons (ps_asg (pv 0) (pg_tup rfl (pgs_cons (pg_name (i := 1) sc_play_of.nd rfl (.inl rfl)) (pgs_cons (pg_name (i := 2) sc_play_of.nd rfl (.inl rfl)) pgs_nil))))
      (pss_one (ps_ret (pe_op op_sub (pv 1) (pe_callB (cr_sumT rfl) (by rfl) T.n_sum (by decide +kernel) (pa_cons (pv 2) pa_nil)))))), ?_⟩
    exact ⟨.ref a, rfl, a, _, rfl, s, rfl, _, _, rfl, _, [], rfl, rfl, _, rfl, _, rfl, b, ls, rfl, t, _, _, rfl, rfl, q⟩
def sp_gap_length (K : PySem.W.Frag) : Sp := fun vs H Q _ => ∃ v room ls g, vs = [v, .int (g : Nat)] ∧ Dp K H v (shD room ls) ∧ RI H Q (pre ls g)
theorem ok_gap_length (T : Tx K mg) : FnOk P w K mg base CX0 1 T.f_gap_length T.fd_gap_length ["shelf", "gap"] (sp_gap_length K) := by
  refine T.F_gap_length.ok sc_gap_length (fun vs H Q E h => ?_) (fun cdv A outer s H vs Q E hr h => ?_)
  · obtain ⟨v, d, _, _, rfl, _⟩ := h
    rfl
  · obtain ⟨v, room, ls, g, rfl, hd, q⟩ := h
    obtain ⟨a, b, rfl, s, t⟩ := dp_shelf hd
    refine ⟨_, (pss_one (ps_ret (pe_callB (cr_sumT rfl) (by rfl) T.n_sum (by decide +kernel) (pa_cons (pe_slice sl_tupA (pe_ix ix_tup (pv 0) pe_int (fun _ _ => rfl)) po_none (po_some (pv 1))) pa_nil)))), ?_⟩
    refine ⟨.ref a, rfl, a, _, 1, _, rfl, rfl, s, atI_nat (j := 1) rfl, _, rfl, _, rfl, ?_⟩
    refine slT_to (k := g) t fun p H' sm st => ⟨p, ls.take g, rfl, ?_, q H' sm⟩
    rw [← List.map_take] at st
    exact st
/-! ### is_stand, need_stand -/
def sp_is_stand (K : PySem.W.Frag) : Sp := fun vs H Q _ => ∃ v u room ls d, vs = [v, u] ∧ Dp K H v (shD room ls) ∧ ShOk room ls ∧ Dp K H u d ∧ RB H Q (isStand room ls d)
theorem ok_is_stand (T : Tx K mg) : FnOk P w K mg base CX0 6 T.f_is_stand T.fd_is_stand ["shelf", "thing"] (sp_is_stand K) := by
  have G_need_shelf := ok_need_shelf (P := P) (w := w) (base := base) T
  have G_is_tuple_of := ok_is_tuple_of (P := P) (w := w) (base := base) T
  have G_is_whole := ok_is_whole (P := P) (w := w) (base := base) T
  refine T.F_is_stand.ok sc_is_stand (fun vs H Q E h => ?_) (fun cdv A outer s H vs Q E hr h => ?_)
  · obtain ⟨v, u, _, _, d, rfl, _⟩ := h
    rfl
  · obtain ⟨v, u, room, ls, d, rfl, hs, sh, hd, q⟩ := h
    refine ⟨_, (pss_cons (ps_expr (pe_call (G_need_shelf.mono (by first | decide | omega)) hr (by rfl) T.g_need_shelf T.F_need_shelf.kp T.b_need_shelf .nil pass0 (pa_cons (pv 0) pa_nil)))
      (pss_cons (ps_asg (pv 0) (pg_tup rfl (pgs_cons (pg_name (i := 2) sc_is_stand.nd rfl (.inl rfl)) (pgs_cons (pg_name (i := 3) sc_is_stand.nd rfl (.inl rfl)) pgs_nil))))
      (pss_cons (ps_if (pt_not (pt_val (pe_call (G_is_tuple_of.mono (by first | decide | omega)) hr (by rfl) T.g_is_tuple_of T.F_is_tuple_of.kp T.b_is_tuple_of .nil pass0 (pa_cons (pv 1) (pa_cons (pe_callB call_len_seq (by rfl) T.n_len (by decide +kernel) (pa_cons (pv 3) pa_nil)) pa_nil))))) (pss_one (ps_ret pe_bl)) pss_nil)
      (pss_cons (ps_set (i := 4) sc_is_stand.nd rfl (.inl rfl) pe_int)
      (pss_cons (ps_for PassesOwn.never rfl (pi_zip2 false false (by rfl) T.n_zip (pa_cons (pv 1) (pa_cons (pv 3) pa_nil))) (pg_tup rfl (pgs_cons (pg_name (i := 5) sc_is_stand.nd rfl (.inl rfl)) (pgs_cons (pg_name (i := 6) sc_is_stand.nd rfl (.inl rfl)) pgs_nil)))
      (pss_cons (ps_if (PW.pt (pw_or (pt_not (pt_val (pe_call (G_is_whole.mono (by first | decide | omega)) hr (by rfl) T.g_is_whole T.F_is_whole.kp T.b_is_whole .nil pass0 (pa_cons (pv 5) pa_nil)))) (pw_or1 (pt_cmpR op_lt (pv 5) (pv 4) (nomark _))))) (pss_one (ps_ret pe_bl)) pss_nil)
      (pss_one (ps_set (i := 4) sc_is_stand.nd rfl (.inl rfl) (pe_op op_add (pv 5) (pv 6))))))
      (pss_one (ps_ret (pe_cmpR op_le (pv 4) (pv 2) (nomark _))))))))), ?_⟩
    refine ⟨v, rfl, v, _, rfl, hs, isShelf_ok sh, fun H1 s1 => ?_⟩
    obtain ⟨a, b, rfl, sa, sb⟩ := dp_shelf (Dpm s1 hs)
    refine ⟨.ref a, rfl, a, _, rfl, sa, rfl, _, _, rfl, _, [], rfl, rfl, ?_⟩
    refine ⟨u, rfl, .ref b, rfl, b, _, rfl, .inr sb, u, d, _, rfl, Dpm s1 hd, _, rfl, ?_⟩
    rw [List.length_map]
    cases e : tupOf d ls.length with
    | false =>
      have ef : isStand room ls d = false := by
        unfold isStand
        cases d with
        | tuple ds =>
          simp only
          rw [if_neg (of_decide_eq_false e)]
        | _ => rfl
      rw [ef] at q
      exact iteT (q H1 s1)
    | true =>
      refine iteF ?_
      cases d with
      | tuple ds =>
        have el : (ds.length : Int) = ls.length := of_decide_eq_true e
        unfold isStand at q
        simp only at q
        rw [if_pos el] at q
        obtain ⟨c, xs, rfl, sc, al⟩ := dp_tup (Dpm s1 hd)
        have hxl := dpAll_len al
        refine ⟨.ref c, rfl, .ref b, rfl, c, b, xs, iV ls, rfl, sc, sb, ?_⟩
        refine for_it (walk_2 (n := ls.length) (xs := xs) (ys := iV ls) (by rw [List.length_map]; omega)) (fun i σ H' => Same H1 H' ∧ ∃ e y5 y6, σ = [some (.ref a), some (.ref c), some (.int room), some (.ref b), some (.int e), y5, y6] ∧ standG room e (ds.drop i) (ls.drop i) = standG room 0 ds ls)
          ⟨Same.refl H1, 0, none, none, rfl, rfl⟩ (fun i σ H' _ p => ⟨seqT_mono p.1 sc, seqT_mono p.1 sb⟩) (fun i x σ H' H2 hi p y => ?_) (fun σ H' p => ?_)
        · obtain ⟨s2, e0, y5, y6, rfl, eq⟩ := p
          obtain ⟨Tt, x, y, rfl, nT, rfl, hx, hy⟩ := y
          have s3 : Same H1 (upd H' Tt (.tup [x, y])) := s2.trans (same_new nT)
          obtain ⟨dx, e1, e2⟩ := dpAll_get al hx
          have hy' : y = .int ls[i] := by
            rw [List.getElem?_map, List.getElem?_eq_getElem hi] at hy
            exact (Option.some.inj hy).symm
          subst hy'
          refine ⟨Tt, _, rfl, .inl (.inl upd_same), rfl, _, _, rfl, _, [], rfl, rfl, ?_⟩
          refine ⟨x, rfl, x, dx, rfl, Dpm s3 e2, _, rfl, ?_⟩
          have hd1 : i < ds.length := by omega
          have e1' : ds[i] = dx := by
            rw [List.getElem?_eq_getElem hd1] at e1
            exact Option.some.inj e1
          rw [List.drop_eq_getElem_cons hd1, List.drop_eq_getElem_cons hi, e1'] at eq
          cases e2 with
          | int k =>
            refine iteF ⟨_, rfl, _, rfl, _, _, rfl, rfl, _, rfl, ?_⟩
            have eq : (if k < e0 then false else standG room (k + ls[i]) (ds.drop (i + 1)) (ls.drop (i + 1))) = standG room 0 ds ls := eq
            by_cases hk : k < e0
            · rw [if_pos hk] at eq
              rw [← eq] at q
              rw [decide_eq_true hk]
              exact iteT (q _ (s1.trans s3))
            · rw [if_neg hk] at eq
              rw [decide_eq_false hk]
              exact iteF ⟨_, rfl, _, rfl, _, _, rfl, rfl, s3, _, _, _, rfl, eq⟩
          | _ =>
            refine iteT ?_
            have eq : false = standG room 0 ds ls := eq
            rw [← eq] at q
            exact q _ (s1.trans s3)
        · obtain ⟨s2, e0, y5, y6, rfl, eq⟩ := p
          rw [List.drop_of_length_le (by omega), List.drop_of_length_le (Nat.le_refl _)] at eq
          refine ⟨_, rfl, _, rfl, _, _, rfl, rfl, ?_⟩
          rw [← eq] at q
          exact q _ (s1.trans s2)
      | _ => simp [tupOf] at e
def sp_need_stand (K : PySem.W.Frag) : Sp := fun vs H Q _ => ∃ v u room ls d, vs = [v, u] ∧ Dp K H v (shD room ls) ∧ ShOk room ls ∧ Dp K H u d ∧ isStand room ls d = true ∧ ∀ H', Same H H' → Q .non H'
theorem ok_need_stand (T : Tx K mg) : FnOk P w K mg base CX0 7 T.f_need_stand T.fd_need_stand ["shelf", "thing"] (sp_need_stand K) := by
  have G_is_stand := ok_is_stand (P := P) (w := w) (base := base) T
  refine T.F_need_stand.ok sc_need_stand (fun vs H Q E h => ?_) (fun cdv A outer s H vs Q E hr h => ?_)
  · obtain ⟨v, u, _, _, d, rfl, _⟩ := h
    rfl
  · obtain ⟨v, u, room, ls, d, rfl, hs, sh, hd, e, q⟩ := h
    refine ⟨_, (pss_one (ps_if (pt_not (pt_val (pe_call (G_is_stand.mono (by first | decide | omega)) hr (by rfl) T.g_is_stand T.F_is_stand.kp T.b_is_stand .nil pass0 (pa_cons (pv 0) (pa_cons (pv 1) pa_nil))))) (pss_one ps_never) pss_nil)), ?_⟩
    refine ⟨v, rfl, u, rfl, v, u, room, ls, d, rfl, hs, sh, hd, fun H' sm => ⟨_, rfl, ?_⟩⟩
    rw [e]
    exact iteF (q H' sm)
end PS

namespace PS
open PySem PySem.Spec PyProof.Rows L2
variable {P : Program} {w : World} {K : PySem.W.Frag} {mg : Str → Option Value} {base : Heap}
/-! ### is_doing, need_doing, led -/
def sp_is_doing (K : PySem.W.Frag) : Sp := fun vs H Q _ => ∃ v u room ls d, vs = [v, u] ∧ Dp K H v (shD room ls) ∧ ShOk room ls ∧ Dp K H u d ∧ RB H Q (isDoing room ls d)
theorem zip_all (ns ms : List Int) (i : Nat) (n m : Int) (e1 : ns[i]? = some n) (e2 : ms[i]? = some m) : (List.zipWith (fun a b => decide (a ≤ b)) ns ms)[i]? = some (decide (n ≤ m)) := by
  rw [List.getElem?_zipWith, e1, e2]
theorem ok_is_doing (T : Tx K mg) : FnOk P w K mg base CX0 7 T.f_is_doing T.fd_is_doing ["shelf", "thing"] (sp_is_doing K) := by
  have G_need_shelf := ok_need_shelf (P := P) (w := w) (base := base) T
  have G_is_tuple_of := ok_is_tuple_of (P := P) (w := w) (base := base) T
  have G_is_stand := ok_is_stand (P := P) (w := w) (base := base) T
  refine T.F_is_doing.ok sc_is_doing (fun vs H Q E h => ?_) (fun cdv A outer s H vs Q E hr h => ?_)
  · obtain ⟨v, u, _, _, d, rfl, _⟩ := h
    rfl
  · obtain ⟨v, u, room, ls, d, rfl, hv, sh, hd, q⟩ := h
    refine ⟨_, (pss_cons (ps_expr (pe_call (G_need_shelf.mono (by first | decide | omega)) hr (by rfl) T.g_need_shelf T.F_need_shelf.kp T.b_need_shelf .nil pass0 (pa_cons (pv 0) pa_nil)))
      (pss_cons (ps_if (pt_not (pt_val (pe_call (G_is_tuple_of.mono (by first | decide | omega)) hr (by rfl) T.g_is_tuple_of T.F_is_tuple_of.kp T.b_is_tuple_of .nil pass0 (pa_cons (pv 1) (pa_cons pe_int pa_nil))))) (pss_one (ps_ret pe_bl)) pss_nil)
      (pss_cons (ps_asg (pv 1) (pg_tup rfl (pgs_cons (pg_name (i := 2) sc_is_doing.nd rfl (.inl rfl)) (pgs_cons (pg_name (i := 3) sc_is_doing.nd rfl (.inl rfl)) pgs_nil))))
      (pss_cons (ps_if (PW.pt (pw_or (pt_not (pt_val (pe_call (G_is_stand.mono (by first | decide | omega)) hr (by rfl) T.g_is_stand T.F_is_stand.kp T.b_is_stand .nil pass0 (pa_cons (pv 0) (pa_cons (pv 2) pa_nil))))) (pw_or1 (pt_not (pt_val (pe_call (G_is_stand.mono (by first | decide | omega)) hr (by rfl) T.g_is_stand T.F_is_stand.kp T.b_is_stand .nil pass0 (pa_cons (pv 0) (pa_cons (pv 3) pa_nil)))))))) (pss_one (ps_ret pe_bl)) pss_nil)
      (pss_one (ps_ret (pe_callB (cr_all rfl) (by rfl) T.n_all (by decide +kernel) (pa_cons (pe_lc (own := [("low", 4), ("high", 5)]) (g := gTup K 2 (gCons (gName 4) (gCons (gName 5) gNil))) (tt := tYes) rfl sc_is_doing.nd (pi_zip2 false false (by rfl) T.n_zip (pa_cons (pv 2) (pa_cons (pv 3) pa_nil))) (blkOk_by (own := [("low", 4), ("high", 5)]) (N := ["shelf", "thing", "least", "greatest", "low", "high"]) (sc := defScope s_is_doing) (by decide +kernel)) (fun _ _ _ _ _ => (pg_tup rfl (pgs_cons (pg_name (i := 4) sc_is_doing.nd rfl (.inl rfl)) (pgs_cons (pg_name (i := 5) sc_is_doing.nd rfl (.inl rfl)) pgs_nil)))) (fun _ _ _ _ _ => pts_nil) (fun _ _ _ _ _ => (pe_cmpR op_le (pv 4) (pv 5) (nomark _)))) pa_nil)))))))), ?_⟩
    refine ⟨v, rfl, v, _, rfl, hv, isShelf_ok sh, fun H1 s1 => ?_⟩
    refine ⟨u, rfl, u, d, _, rfl, Dpm s1 hd, _, rfl, ?_⟩
    cases e : tupOf d 2 with
    | false =>
      have ef : isDoing room ls d = false := by
        unfold isDoing
        split
        · simp [tupOf] at e
        · rfl
      rw [ef] at q
      exact iteT (q H1 s1)
    | true =>
      refine iteF ?_
      obtain ⟨da, db, rfl⟩ := tupOf2 e
      obtain ⟨a, x, y, rfl, sq, h1, h2⟩ := dp_two (Dpm s1 hd)
      refine ⟨.ref a, rfl, a, _, rfl, sq, rfl, _, _, rfl, _, [], rfl, rfl, ?_⟩
      refine ⟨v, rfl, x, rfl, v, x, room, ls, da, rfl, Dpm s1 hv, sh, h1, fun H2 s2 => ⟨_, rfl, ?_⟩⟩
      cases ea : isStand room ls da with
      | false =>
        have ef : isDoing room ls (.tuple [da, db]) = false := by
          unfold isDoing
          split
          · rename_i z; cases z
            rw [ea]; rfl
          · rfl
        rw [ef] at q
        exact iteT (q H2 (s1.trans s2))
      | true =>
        refine iteF ⟨v, rfl, y, rfl, v, y, room, ls, db, rfl, Dpm (s1.trans s2) hv, sh, Dpm s2 h2, fun H3 s3 => ⟨_, rfl, ?_⟩⟩
        have s13 := (s1.trans s2).trans s3
        have s23 := s2.trans s3
        cases eb : isStand room ls db with
        | false =>
          have ef : isDoing room ls (.tuple [da, db]) = false := by
            unfold isDoing
            split
            · rename_i z; cases z
              rw [eb]; split <;> rfl
            · rfl
          rw [ef] at q
          exact iteT (q H3 s13)
        | true =>
          refine iteF ?_
          obtain ⟨ns, rfl, ln⟩ := isStand_ints ea
          obtain ⟨ms, rfl, lm⟩ := isStand_ints eb
          have q : RB H Q (if isStand room ls (tI ns) = true then (if isStand room ls (tI ms) = true then allLe (iD ns) (iD ms) else false) else false) := q
          rw [if_pos ea, if_pos eb, allLe_ints] at q
          obtain ⟨b, rfl, sb⟩ := dp_tI (Dpm s23 h1)
          obtain ⟨c, rfl, sc⟩ := dp_tI (Dpm s23 h2)
          have n8 := sh.n8
          refine ⟨.ref b, rfl, .ref c, rfl, b, c, _, _, rfl, sb, sc, fun D nD => ?_⟩
          refine lc_it (walk_2 (n := ls.length) (xs := iV ns) (ys := iV ms) (by rw [iV_len, iV_len]; omega)) (fun i H' => Same H3 H' ∧ H' D = some (.lst (((List.zipWith (fun a b => decide (a ≤ b)) ns ms).take i).map V.bl))) ⟨same_new nD, by rw [upd_same]; rfl⟩ (fun i H' _ p => ⟨seqT_mono p.1 sb, seqT_mono p.1 sc⟩) (fun i x H' H2' hi p yy => ?_) (fun H' p => ?_)
          · obtain ⟨Tt, x, z, rfl, nT, rfl, hx, hz⟩ := yy
            have hn : ns[i]? = some ns[i] := List.getElem?_eq_getElem (by omega)
            have hm : ms[i]? = some ms[i] := List.getElem?_eq_getElem (by omega)
            have ex : x = .int ns[i] := by
              rw [iV_get hn] at hx
              exact (Option.some.inj hx).symm
            have ez : z = .int ms[i] := by
              rw [iV_get hm] at hz
              exact (Option.some.inj hz).symm
            subst ex ez
            refine ⟨Tt, _, rfl, .inl (.inl upd_same), rfl, _, _, rfl, _, [], rfl, rfl, rfl, _, rfl, _, rfl, _, _, rfl, rfl, ?_⟩
            have hD : upd H' Tt (.tup [.int ns[i], .int ms[i]]) D = some (.lst (((List.zipWith (fun a b => decide (a ≤ b)) ns ms).take i).map V.bl)) := by
              rw [upd_ne (ne_of_none p.2 nT)]
              exact p.2
            refine ⟨_, hD, ?_, fun b o hb => ?_, ?_⟩
            · rw [List.length_map, List.length_take]
              exact small1000 (by omega)
            · rw [upd_ne (ne_of_none hb nD)]
              exact same_new nT _ _ (p.1 b o hb)
            · rw [upd_same, List.take_add_one, zip_all ns ms i _ _ hn hm, List.map_append]
              rfl
          · refine ⟨D, _, rfl, .inl (.inl ?_), q H' (s13.trans p.1)⟩
            rw [p.2, List.take_of_length_le (by rw [List.length_zipWith]; omega)]
def sp_need_doing (K : PySem.W.Frag) : Sp := fun vs H Q _ => ∃ v u room ls d, vs = [v, u] ∧ Dp K H v (shD room ls) ∧ ShOk room ls ∧ Dp K H u d ∧ isDoing room ls d = true ∧ ∀ H', Same H H' → Q .non H'
theorem ok_need_doing (T : Tx K mg) : FnOk P w K mg base CX0 8 T.f_need_doing T.fd_need_doing ["shelf", "thing"] (sp_need_doing K) := by
  have G_is_doing := ok_is_doing (P := P) (w := w) (base := base) T
  refine T.F_need_doing.ok sc_need_doing (fun vs H Q E h => ?_) (fun cdv A outer s H vs Q E hr h => ?_)
  · obtain ⟨v, u, _, _, d, rfl, _⟩ := h
    rfl
  · obtain ⟨v, u, room, ls, d, rfl, hs, sh, hd, e, q⟩ := h
    refine ⟨_, (pss_one (ps_if (pt_not (pt_val (pe_call (G_is_doing.mono (by first | decide | omega)) hr (by rfl) T.g_is_doing T.F_is_doing.kp T.b_is_doing .nil pass0 (pa_cons (pv 0) (pa_cons (pv 1) pa_nil))))) (pss_one ps_never) pss_nil)), ?_⟩
    refine ⟨v, rfl, u, rfl, v, u, room, ls, d, rfl, hs, sh, hd, fun H' sm => ⟨_, rfl, ?_⟩⟩
    rw [e]
    exact iteF (q H' sm)
end PS

namespace PS
open PySem PySem.Spec PyProof.Rows L2
variable {P : Program} {w : World} {K : PySem.W.Frag} {mg : Str → Option Value} {base : Heap}
/-! ### places_of -/
abbrev plL (n : Nat) (y : Nat → Int) : List Int := (List.range n).map y
theorem plL_len (n : Nat) (y : Nat → Int) : (plL n y).length = n := by simp [plL]
theorem plL_get {n j : Nat} {y : Nat → Int} (h : j < n) : (plL n y)[j]? = some (y j) := by simp [plL, h]
theorem plL_take {n j : Nat} {y : Nat → Int} (h : j < n) : (plL n y).take (j + 1) = (plL n y).take j ++ [y j] := by
  rw [List.take_add_one, plL_get h]
  rfl
def sp_places_of (K : PySem.W.Frag) : Sp := fun vs H Q _ => ∃ v u room ls y, vs = [v, u] ∧ Dp K H v (shD room ls) ∧ Dp K H u (tI (stL ls y)) ∧ ls.length ≤ 8 ∧ ∀ p H', Same H H' → H p = none → H' p = some (.lst (iV (plL ls.length y))) → Q (.ref p) H'
theorem ok_places_of (T : Tx K mg) : FnOk P w K mg base CX0 2 T.f_places_of T.fd_places_of ["shelf", "stand"] (sp_places_of K) := by
  have G_gap_length := ok_gap_length (P := P) (w := w) (base := base) T
  refine T.F_places_of.ok sc_places_of (fun vs H Q E h => ?_) (fun cdv A outer s H vs Q E hr h => ?_)
  · obtain ⟨_, _, _, _, _, rfl, _⟩ := h
    rfl
  · obtain ⟨v, u, room, ls, y, rfl, hv, hu, n8, q⟩ := h
    obtain ⟨d, rfl, sd⟩ := dp_tI hu
    refine ⟨_, (pss_one (ps_ret (pe_lc (own := [("at", 2), ("left", 3)]) (g := gTup K 2 (gCons (gName 2) (gCons (gName 3) gNil))) (tt := tYes) rfl sc_places_of.nd (pi_enum1 (by rfl) T.n_enumerate (pa_cons (pv 1) pa_nil)) (blkOk_by (own := [("at", 2), ("left", 3)]) (N := ["shelf", "stand", "at", "left"]) (sc := defScope s_places_of) (by decide +kernel)) (fun _ _ _ _ _ => (pg_tup rfl (pgs_cons (pg_name (i := 2) sc_places_of.nd rfl (.inl rfl)) (pgs_cons (pg_name (i := 3) sc_places_of.nd rfl (.inl rfl)) pgs_nil)))) (fun _ _ _ _ _ => pts_nil) (fun _ _ _ _ _ => (pe_op op_sub (pv 3) (pe_call (G_gap_length.mono (by first | decide | omega)) hr (by rfl) T.g_gap_length T.F_gap_length.kp T.b_gap_length .nil pass0 (pa_cons (pv 0) (pa_cons (pv 2) pa_nil)))))))), ?_⟩
    refine ⟨_, rfl, false, d, _, rfl, sd, fun D nD => ?_⟩
    refine lc_it (walk_1 (n := ls.length) (xs := iV (stL ls y)) (by rw [iV_len, stL_len])) (fun i H' => Same H H' ∧ H' D = some (.lst (iV ((plL ls.length y).take i)))) ⟨same_new nD, upd_same⟩ (fun i H' _ p => seqT_mono p.1 sd) (fun i x H' H2 hi p yy => ?_) (fun H' p => ?_)
    · obtain ⟨Tt, x, rfl, nT, rfl, hx⟩ := yy
      rw [iV_get (stL_get hi)] at hx
      cases Option.some.inj hx
      have t1 := same_new (o := .tup [.int (i : Nat), .int (y i + pre ls i)]) nT
      have s1 := p.1.trans t1
      have hD1 := t1 _ _ p.2
      refine ⟨Tt, _, rfl, .inl (.inl upd_same), rfl, _, _, rfl, _, [], rfl, rfl, rfl, _, rfl, v, rfl, _, rfl, v, room, ls, i, rfl, Dpm s1 hv, fun H3 s3 => ?_⟩
      refine ⟨_, _, rfl, rfl, _, s3 _ _ hD1, ?_, fun b o hb => ?_, ?_⟩
      · rw [List.length_map, List.length_take]
        exact small1000 (by omega)
      · rw [upd_ne (ne_of_none hb nD)]
        exact s3 _ _ (s1 b o hb)
      · rw [upd_same, plL_take hi]
        dsimp only
        rw [show y i + pre ls i - pre ls i = y i from by omega]
        simp
    · obtain ⟨s1, hD⟩ := p
      rw [List.take_of_length_le (by rw [plL_len]; exact Nat.le_refl _)] at hD
      exact q D H' s1 nD hD
/-! ### choices -/
def sp_choices (K : PySem.W.Frag) : Sp := fun vs H Q _ => ∃ t m : Nat, vs = [.int (t : Int), .int (m : Int)] ∧ m ≤ t + 1 ∧ t ≤ 100000 ∧ Q (.int (ch t m : Nat)) H
theorem ch_div {t i : Nat} (h : i ≤ t) : ((ch t i : Int) * ((t : Int) - (i : Int))).fdiv ((i : Int) + 1) = (ch t (i + 1) : Nat) := by
  have e := ch_step h
  have e2 : (ch t i : Int) * ((t : Int) - (i : Int)) = (ch t (i + 1) : Int) * ((i : Int) + 1) := by
    rw [show (t : Int) - (i : Int) = ((t - i : Nat) : Int) from by omega, show (i : Int) + 1 = ((i + 1 : Nat) : Int) from by omega, ← Int.natCast_mul, ← Int.natCast_mul, e]
  rw [e2]
  exact Int.mul_fdiv_cancel _ (by omega)
theorem ok_choices (T : Tx K mg) : FnOk P w K mg base CX0 1 T.f_choices T.fd_choices ["total", "many"] (sp_choices K) := by
  refine T.F_choices.ok sc_choices (fun vs H Q E h => ?_) (fun cdv A outer s H vs Q E hr h => ?_)
  · obtain ⟨_, _, rfl, _⟩ := h
    rfl
  · obtain ⟨t, m, rfl, mt, tb, q⟩ := h
    refine ⟨_, (pss_cons (ps_set (i := 2) sc_choices.nd rfl (.inl rfl) pe_int)
      (pss_cons (ps_for PassesOwn.never rfl (pi_range1 (by rfl) T.n_range (pa_cons (pv 1) pa_nil)) (pg_name (i := 3) sc_choices.nd rfl (.inl rfl))
      (pss_one (ps_set (i := 2) sc_choices.nd rfl (.inl rfl) (pe_op op_fdivN (pe_op op_mul (pv 2) (pe_op op_sub (pv 0) (pv 3))) (pe_op op_add (pv 3) pe_int)))))
      (pss_one (ps_ret (pv 2))))), ?_⟩
    refine ⟨_, rfl, _, rfl, by omega, by omega, ?_⟩
    refine for_range (lo := 0) (n := ((m : Nat) : Int).toNat) (fun i σ H' => H' = H ∧ ∃ y3, σ = [some (.int (t : Int)), some (.int (m : Int)), some (.int (ch t i : Nat)), y3]) ⟨rfl, none, by rw [ch_zero]; rfl⟩ (fun i σ H' hi p => ?_) (fun σ H' p => ?_)
    · obtain ⟨rfl, y3, rfl⟩ := p
      have hit : i ≤ t := by omega
      refine ⟨_, rfl, _, rfl, _, rfl, _, _, rfl, rfl, _, _, rfl, rfl, .inr ⟨by omega, by omega⟩, _, rfl, _, _, rfl, rfl, _, _, rfl, rfl, ⟨by omega, by omega⟩, rfl, some (.int (0 + (i : Int))), ?_⟩
      dsimp only
      rw [show (0 : Int) + (i : Int) = (i : Int) from by omega, ch_div hit]
      rfl
    · obtain ⟨rfl, y3, rfl⟩ := p
      exact ⟨_, rfl, by simpa using q⟩
/-! ### stands, doings -/
def sp_stands (K : PySem.W.Frag) : Sp := fun vs H Q _ => ∃ v room ls, vs = [v] ∧ Dp K H v (shD room ls) ∧ ShOk room ls ∧ RI H Q (ch ((room - ls.sum).toNat + ls.length) ls.length : Nat)
theorem tot_nat {room : Int} {ls : List Int} (sh : ShOk room ls) : room - ls.sum + ((ls.length : Nat) : Int) = (((room - ls.sum).toNat + ls.length : Nat) : Int) := by
  have := sh.lo
  omega
theorem ok_stands (T : Tx K mg) : FnOk P w K mg base CX0 6 T.f_stands T.fd_stands ["shelf"] (sp_stands K) := by
  have G_need_shelf := ok_need_shelf (P := P) (w := w) (base := base) T
  have G_play_of := ok_play_of (P := P) (w := w) (base := base) T
  have G_choices := ok_choices (P := P) (w := w) (base := base) T
  refine T.F_stands.ok sc_stands (fun vs H Q E h => ?_) (fun cdv A outer s H vs Q E hr h => ?_)
  · obtain ⟨_, _, _, rfl, _⟩ := h
    rfl
  · obtain ⟨v, room, ls, rfl, hv, sh, q⟩ := h
    refine ⟨_, (pss_cons (ps_expr (pe_call (G_need_shelf.mono (by first | decide | omega)) hr (by rfl) T.g_need_shelf T.F_need_shelf.kp T.b_need_shelf .nil pass0 (pa_cons (pv 0) pa_nil)))
      (pss_cons (ps_set (i := 1) sc_stands.nd rfl (.inl rfl) (pe_callB call_len_seq (by rfl) T.n_len (by decide +kernel) (pa_cons (pe_ix ix_tup (pv 0) pe_int (fun _ _ => rfl)) pa_nil)))
      (pss_one (ps_ret (pe_call (G_choices.mono (by first | decide | omega)) hr (by rfl) T.g_choices T.F_choices.kp T.b_choices .nil pass0 (pa_cons (pe_op op_add (pe_call (G_play_of.mono (by first | decide | omega)) hr (by rfl) T.g_play_of T.F_play_of.kp T.b_play_of .nil pass0 (pa_cons (pv 0) pa_nil)) (pv 1)) (pa_cons (pv 1) pa_nil))))))), ?_⟩
    refine ⟨v, rfl, v, _, rfl, hv, isShelf_ok sh, fun H1 s1 => ?_⟩
    obtain ⟨a, b, rfl, sa, sb⟩ := dp_shelf (Dpm s1 hv)
    refine ⟨.ref a, rfl, a, _, 1, _, rfl, rfl, sa, atI_nat (j := 1) rfl, b, _, rfl, .inr sb, ?_⟩
    rw [iV_len]
    refine ⟨_, rfl, .ref a, room, ls, rfl, Dpm s1 hv, _, rfl, _, _, rfl, rfl, _, rfl, ?_⟩
    have n8 := sh.n8
    have hi := sh.hi
    have lo := sh.lo
    refine ⟨(room - ls.sum).toNat + ls.length, ls.length, ?_, by omega, by omega, q H1 s1⟩
    dsimp only
    rw [tot_nat sh]
    rfl
def sp_doings (K : PySem.W.Frag) : Sp := fun vs H Q _ => ∃ v room ls, vs = [v] ∧ Dp K H v (shD room ls) ∧ ShOk room ls ∧ RI H Q ((ch ((room - ls.sum).toNat + ls.length) ls.length : Int) * (ch ((room - ls.sum).toNat + ls.length) ls.length : Int) - (ch ((room - ls.sum).toNat + ls.length) (ls.length - 1) : Int) * (ch ((room - ls.sum).toNat + ls.length) (ls.length + 1) : Int))
theorem ch_wide {t : Nat} (h : t ≤ 408) (a b : Nat) : CMulW (ch t a : Nat) (ch t b : Nat) := by
  have lt : ∀ k : Nat, ((ch t k : Nat) : Int).natAbs < 2 ^ 409 := fun k => by
    rw [Int.natAbs_natCast]
    exact Nat.lt_of_le_of_lt (ch_le t k) (Nat.pow_lt_pow_right (by decide) (by omega))
  exact wide_mul (lt a) (lt b) (by decide) (by decide) (by decide)
theorem ok_doings (T : Tx K mg) : FnOk P w K mg base CX0 6 T.f_doings T.fd_doings ["shelf"] (sp_doings K) := by
  have G_need_shelf := ok_need_shelf (P := P) (w := w) (base := base) T
  have G_play_of := ok_play_of (P := P) (w := w) (base := base) T
  have G_choices := ok_choices (P := P) (w := w) (base := base) T
  refine T.F_doings.ok sc_doings (fun vs H Q E h => ?_) (fun cdv A outer s H vs Q E hr h => ?_)
  · obtain ⟨_, _, _, rfl, _⟩ := h
    rfl
  · obtain ⟨v, room, ls, rfl, hv, sh, q⟩ := h
    refine ⟨_, (pss_cons (ps_expr (pe_call (G_need_shelf.mono (by first | decide | omega)) hr (by rfl) T.g_need_shelf T.F_need_shelf.kp T.b_need_shelf .nil pass0 (pa_cons (pv 0) pa_nil)))
      (pss_cons (ps_set (i := 1) sc_doings.nd rfl (.inl rfl) (pe_callB call_len_seq (by rfl) T.n_len (by decide +kernel) (pa_cons (pe_ix ix_tup (pv 0) pe_int (fun _ _ => rfl)) pa_nil)))
      (pss_cons (ps_set (i := 2) sc_doings.nd rfl (.inl rfl) (pe_op op_add (pe_call (G_play_of.mono (by first | decide | omega)) hr (by rfl) T.g_play_of T.F_play_of.kp T.b_play_of .nil pass0 (pa_cons (pv 0) pa_nil)) (pv 1)))
      (pss_cons (ps_set (i := 3) sc_doings.nd rfl (.inl rfl) (pe_op op_mulW (pe_call (G_choices.mono (by first | decide | omega)) hr (by rfl) T.g_choices T.F_choices.kp T.b_choices .nil pass0 (pa_cons (pv 2) (pa_cons (pe_op op_sub (pv 1) pe_int) pa_nil))) (pe_call (G_choices.mono (by first | decide | omega)) hr (by rfl) T.g_choices T.F_choices.kp T.b_choices .nil pass0 (pa_cons (pv 2) (pa_cons (pe_op op_add (pv 1) pe_int) pa_nil)))))
      (pss_one (ps_ret (pe_op op_sub (pe_op op_mulW (pe_call (G_choices.mono (by first | decide | omega)) hr (by rfl) T.g_choices T.F_choices.kp T.b_choices .nil pass0 (pa_cons (pv 2) (pa_cons (pv 1) pa_nil))) (pe_call (G_choices.mono (by first | decide | omega)) hr (by rfl) T.g_choices T.F_choices.kp T.b_choices .nil pass0 (pa_cons (pv 2) (pa_cons (pv 1) pa_nil)))) (pv 3)))))))), ?_⟩
    refine ⟨v, rfl, v, _, rfl, hv, isShelf_ok sh, fun H1 s1 => ?_⟩
    obtain ⟨a, b, rfl, sa, sb⟩ := dp_shelf (Dpm s1 hv)
    refine ⟨.ref a, rfl, a, _, 1, _, rfl, rfl, sa, atI_nat (j := 1) rfl, b, _, rfl, .inr sb, ?_⟩
    rw [iV_len]
    refine ⟨_, rfl, .ref a, room, ls, rfl, Dpm s1 hv, _, rfl, _, _, rfl, rfl, ?_⟩
    have n8 := sh.n8
    have n1 := sh.n1
    have hi := sh.hi
    have lo := sh.lo
    dsimp only
    rw [tot_nat sh]
    have tb : (room - ls.sum).toNat + ls.length ≤ 408 := by omega
    have tn : ls.length ≤ (room - ls.sum).toNat + ls.length := by omega
    have q := q H1 s1
    generalize (room - ls.sum).toNat + ls.length = t at q tb tn ⊢
    refine ⟨_, rfl, _, rfl, _, _, rfl, rfl, t, ls.length - 1, ?_, by omega, by omega, ?_⟩
    · dsimp only
      rw [show ((ls.length : Nat) : Int) - 1 = ((ls.length - 1 : Nat) : Int) from by omega]
      rfl
    refine ⟨_, rfl, _, rfl, _, _, rfl, rfl, t, ls.length + 1, rfl, by omega, by omega, ?_⟩
    refine ⟨_, _, rfl, rfl, ch_wide tb _ _, ?_⟩
    refine ⟨_, rfl, _, rfl, t, ls.length, rfl, by omega, by omega, _, rfl, _, rfl, t, ls.length, rfl, by omega, by omega, ?_⟩
    exact ⟨_, _, rfl, rfl, ch_wide tb _ _, _, rfl, _, _, rfl, rfl, q⟩
/-! ### leading -/
def sp_sources (K : PySem.W.Frag) : Sp := fun vs H Q _ => ∃ lo pl hi s : Int, vs = [.int lo, .int s, .int hi, .int pl] ∧ ∀ t, H t = none → Q (.ref t) (upd H t (.tup [.int (srcF pl lo hi s).1, .int (srcF pl lo hi s).2]))
theorem ok_sources (T : Tx K mg) : FnOk P w K mg base CX0 1 T.f_sources T.fd_sources ["low", "place", "high", "play"] (sp_sources K) := by
  refine T.F_sources.ok sc_sources (fun vs H Q E h => ?_) (fun cdv A outer s H vs Q E hr h => ?_)
  · obtain ⟨_, _, _, _, rfl, _⟩ := h
    rfl
  · obtain ⟨lo, pl, hi, s, rfl, q⟩ := h
    refine ⟨_, (pss_cons (ps_set (i := 4) sc_sources.nd rfl (.inl rfl) (pe_ifExp (pt_cmpR op_eq (pv 1) (pv 0) (nomark _)) pe_int (pv 1)))
      (pss_cons (ps_set (i := 5) sc_sources.nd rfl (.inl rfl) (pe_ifExp (pt_cmpR op_eq (pv 1) (pv 2) (nomark _)) (pv 3) (pv 1)))
      (pss_one (ps_ret (pe_tup (pa_cons (pv 4) (pa_cons (pv 5) pa_nil))))))), ?_⟩
    have vi : ∀ a b : Int, decide (V.int a = V.int b) = decide (a = b) := fun a b => by
      by_cases h : a = b
      · rw [h]; simp
      · rw [decide_eq_false h, decide_eq_false (fun z => h (V.int.inj z))]
    have fin : ∀ f : Int, f = (srcF pl lo hi s).1 → ∀ H', H' = H → tSeq (tAsg (tIf (tTest (tOp rEq (tVar 1) (tVar 2))) (tVar 3) (tVar 1)) (gName 5)) (tRet (tTup (tCons (tVar 4) (tCons (tVar 5) tNil)))) { nx := fun _ _ => False, rt := Q } [some (.int lo), some (.int s), some (.int hi), some (.int pl), some (.int f), none] H' := by
      intro f hf H' hH
      subst hH
      refine ⟨_, rfl, _, rfl, rfl, _, rfl, ?_⟩
      rw [vi]
      by_cases c : s = hi
      · rw [decide_eq_true c]
        refine iteT ⟨_, rfl, _, rfl, _, rfl, by show 2 ≤ sizeLine; decide, fun t nt => ?_⟩
        have := q t nt
        rw [← hf, show (srcF pl lo hi s).2 = pl from by unfold srcF; simp only; rw [if_pos c]] at this
        exact this
      · rw [decide_eq_false c]
        refine iteF ⟨_, rfl, _, rfl, _, rfl, by show 2 ≤ sizeLine; decide, fun t nt => ?_⟩
        have := q t nt
        rw [← hf, show (srcF pl lo hi s).2 = s from by unfold srcF; simp only; rw [if_neg c]] at this
        exact this
    refine ⟨_, rfl, _, rfl, rfl, _, rfl, ?_⟩
    rw [vi]
    by_cases c : s = lo
    · rw [decide_eq_true c]
      exact iteT (fin 0 (by unfold srcF; simp only; rw [if_pos c]) H rfl)
    · rw [decide_eq_false c]
      exact iteF ⟨_, rfl, fin s (by unfold srcF; simp only; rw [if_neg c]) H rfl⟩
abbrev wL (m : Nat) (W : Nat → Nat) : List Int := plL m fun p => (W p : Int)
def sp_next (K : PySem.W.Frag) : Sp := fun vs H Q _ => ∃ (a : Addr) (m : Nat) (W : Nat → Nat) (f l : Int), vs = [.ref a, .int f, .int l] ∧ SqL K H a (iV (wL m W)) ∧ m ≤ 1000 ∧ ∀ p H', Same H H' → H p = none → H' p = some (.lst (iV (wL m (stp (f, l) W)))) → Q (.ref p) H'
theorem ok_with_next_block (T : Tx K mg) : FnOk P w K mg base CX0 1 T.f_with_next_block T.fd_with_next_block ["ways", "first", "last"] (sp_next K) := by
  refine T.F_with_next_block.ok sc_with_next_block (fun vs H Q E h => ?_) (fun cdv A outer s H vs Q E hr h => ?_)
  · obtain ⟨_, _, _, _, _, rfl, _⟩ := h
    rfl
  · obtain ⟨a, m, W, f, l, rfl, ha, hm, q⟩ := h
    refine ⟨_, (pss_cons (ps_set (i := 3) sc_with_next_block.nd rfl (.inl rfl) (pe_lst pa_nil))
      (pss_cons (ps_set (i := 4) sc_with_next_block.nd rfl (.inl rfl) pe_int)
      (pss_cons (ps_for PassesOwn.never rfl (pi_enum1 (by rfl) T.n_enumerate (pa_cons (pv 0) pa_nil)) (pg_tup rfl (pgs_cons (pg_name (i := 5) sc_with_next_block.nd rfl (.inl rfl)) (pgs_cons (pg_name (i := 6) sc_with_next_block.nd rfl (.inl rfl)) pgs_nil)))
      (pss_cons (ps_aug (i := 4) sc_with_next_block.nd rfl (.inl rfl) (pv 6) ip_add)
      (pss_one (ps_expr (pe_bm PySem.F.plainAttrs_list PySem.F.slot_list_append PySem.F.type_list_append mt_append (pv 3) (pa_cons (pe_ifExp (pt_chain op_le op_le (pv 1) (pv 5) (pv 2)) (pv 4) pe_int) pa_nil))))))
      (pss_one (ps_ret (pv 3)))))), ?_⟩
    refine ⟨Nat.zero_le _, fun D nD => ?_⟩
    have s1 := same_new (o := .lst []) nD
    refine ⟨_, rfl, true, a, _, rfl, s1.seq ha, ?_⟩
    refine for_it (walk_1 (b := true) (n := m) (xs := iV (wL m W)) (by rw [iV_len, plL_len])) (fun i σ H' => Same H H' ∧ H' D = some (.lst (iV ((wL m (stp (f, l) W)).take i))) ∧ ∃ y5 y6, σ = [some (.ref a), some (.int f), some (.int l), some (.ref D), some (.int (sumTo W i : Nat)), y5, y6])
      ⟨s1, upd_same, _, _, rfl⟩ (fun i σ H' _ p => p.1.seq ha) (fun i x σ H' H2 hi p yy => ?_) (fun σ H' p => ?_)
    · obtain ⟨s2, hD, y5, y6, rfl⟩ := p
      obtain ⟨Tt, x, rfl, nT, rfl, hx⟩ := yy
      rw [iV_get (plL_get hi)] at hx
      cases Option.some.inj hx
      have t3 := same_new (o := .tup [.int (i : Nat), .int (W i : Nat)]) nT
      have s3 := s2.trans t3
      have hD3 := t3 _ _ hD
      have hT3 : SqT K (upd H' Tt (.tup [.int (i : Nat), .int (W i : Nat)])) Tt [.int (i : Nat), .int (W i : Nat)] := .inl (.inl upd_same)
      generalize upd H' Tt (.tup [.int (i : Nat), .int (W i : Nat)]) = H3 at *
      have e1 : ((sumTo W i : Nat) : Int) + ((W i : Nat) : Int) = ((sumTo W (i + 1) : Nat) : Int) := by
        rw [sumTo]
        omega
      refine ⟨Tt, _, rfl, hT3, rfl, _, _, rfl, _, [], rfl, rfl, ?_⟩
      refine ⟨_, rfl, _, rfl, _, _, rfl, rfl, ?_⟩
      dsimp only
      rw [e1]
      have fin : ∀ z : Int, z = ((stp (f, l) W i : Nat) : Int) → ∃ l' xs z', (.ref D : V) = .ref l' ∧ [V.int z] = [z'] ∧ H3 l' = some (.lst xs) ∧ xs.length < sizeLine ∧ (Same H (upd H3 l' (.lst (xs ++ [z']))) ∧ upd H3 l' (.lst (xs ++ [z'])) D = some (.lst (iV ((wL m (stp (f, l) W)).take (i + 1)))) ∧ ∃ y5 y6, [some (V.ref a), some (.int f), some (.int l), some (.ref D), some (.int (sumTo W (i + 1) : Nat)), some (.int (i : Nat)), some (.int (W i : Nat))] = [some (.ref a), some (.int f), some (.int l), some (.ref D), some (.int (sumTo W (i + 1) : Nat)), y5, y6]) := by
        intro z hz
        refine ⟨D, _, _, rfl, rfl, hD3, ?_, fun b o hb => ?_, ?_, _, _, rfl⟩
        · rw [List.length_map, List.length_take]
          exact small1000 (by omega)
        · rw [upd_ne (ne_of_none hb nD)]
          exact s3 b o hb
        · rw [upd_same, plL_take hi, hz]
          simp
      refine ⟨.ref D, rfl, .inl ⟨rfl, _, .inl (.inl hD3)⟩, _, rfl, _, rfl, _, _, rfl, rfl, _, rfl, ?_⟩
      unfold stp at fin
      simp only at fin
      by_cases c1 : f ≤ (i : Int)
      · rw [if_pos (decide_eq_true c1)]
        refine ⟨_, rfl, _, _, rfl, rfl, _, rfl, ?_⟩
        by_cases c2 : (i : Int) ≤ l
        · rw [decide_eq_true c2]
          exact iteT ⟨_, rfl, fin _ (by rw [if_pos ⟨c1, c2⟩])⟩
        · rw [decide_eq_false c2]
          exact iteF (fin _ (by rw [if_neg (fun z => c2 z.2)]; rfl))
      · rw [if_neg (by simp [c1])]
        exact ⟨_, rfl, iteF (fin _ (by rw [if_neg (fun z => c1 z.1)]; rfl))⟩
    · obtain ⟨s2, hD, y5, y6, rfl⟩ := p
      rw [List.take_of_length_le (by rw [plL_len]; exact Nat.le_refl _)] at hD
      exact ⟨_, rfl, q D H' s2 nD hD⟩
def sp_leading (K : PySem.W.Frag) : Sp := fun vs H Q _ => ∃ v u t room ls lo hi y, vs = [v, u, t] ∧ Dp K H v (shD room ls) ∧ ShOk room ls ∧ Dp K H u (dgD ls lo hi) ∧ DoOk ls.length (room - ls.sum) lo hi ∧ Dp K H t (tI (stL ls y)) ∧ Rise ls.length (room - ls.sum) y ∧ RI H Q (leadN ls.length (room - ls.sum) lo hi y : Nat)
theorem sum_wL (W : Nat → Nat) : ∀ m : Nat, (wL m W).sum = (sumTo W m : Nat)
  | 0 => rfl
  | m + 1 => by
    have ih := sum_wL W m
    show ((List.range (m + 1)).map fun p => (W p : Int)).sum = _
    rw [List.range_succ, List.map_append, List.sum_append, sumTo]
    have ih : ((List.range m).map fun p => (W p : Int)).sum = (sumTo W m : Nat) := ih
    rw [ih]
    simp
theorem wL_zero (m : Nat) : [V.int 1] ++ (List.replicate m [V.int 0]).flatten = iV (wL (m + 1) W0) := by
  have e : wL (m + 1) W0 = 1 :: List.replicate m 0 := by
    show (List.range (m + 1)).map (fun p => (W0 p : Int)) = _
    rw [List.range_succ_eq_map, List.map_cons, List.map_map]
    congr 1
    apply List.ext_getElem?
    intro j
    by_cases h : j < m
    · simp [h, W0]
    · rw [List.getElem?_eq_none (by simp; omega), List.getElem?_eq_none (by simp; omega)]
  rw [e]
  show V.int 1 :: _ = V.int 1 :: iV (List.replicate m 0)
  congr 1
  induction m with
  | zero => rfl
  | succ m ih =>
    rw [List.replicate_succ, List.replicate_succ, List.flatten_cons]
    show V.int 0 :: _ = V.int 0 :: _
    congr 1
    apply ih
    show (List.range (m + 1)).map (fun p => (W0 p : Int)) = _
    rw [List.range_succ_eq_map, List.map_cons, List.map_map]
    congr 1
    apply List.ext_getElem?
    intro j
    by_cases h : j < m
    · simp [h, W0]
    · rw [List.getElem?_eq_none (by simp; omega), List.getElem?_eq_none (by simp; omega)]
theorem ok_leading (T : Tx K mg) : FnOk P w K mg base CX0 9 T.f_leading T.fd_leading ["shelf", "doing", "stand"] (sp_leading K) := by
  have G_need_doing := ok_need_doing (P := P) (w := w) (base := base) T
  have G_need_stand := ok_need_stand (P := P) (w := w) (base := base) T
  have G_play_of := ok_play_of (P := P) (w := w) (base := base) T
  have G_places_of := ok_places_of (P := P) (w := w) (base := base) T
  have G_sources := ok_sources (P := P) (w := w) (base := base) T
  have G_with_next_block := ok_with_next_block (P := P) (w := w) (base := base) T
  refine T.F_leading.ok sc_leading (fun vs H Q E h => ?_) (fun cdv A outer s H vs Q E hr h => ?_)
  · obtain ⟨_, _, _, _, _, _, _, _, rfl, _⟩ := h
    rfl
  · obtain ⟨v, u, t, room, ls, lo, hi, y, rfl, hv, sh, hu, dok, ht, ri, q⟩ := h
    refine ⟨_, (pss_cons (ps_expr (pe_call (G_need_doing.mono (by first | decide | omega)) hr (by rfl) T.g_need_doing T.F_need_doing.kp T.b_need_doing .nil pass0 (pa_cons (pv 0) (pa_cons (pv 1) pa_nil))))
      (pss_cons (ps_expr (pe_call (G_need_stand.mono (by first | decide | omega)) hr (by rfl) T.g_need_stand T.F_need_stand.kp T.b_need_stand .nil pass0 (pa_cons (pv 0) (pa_cons (pv 2) pa_nil))))
      (pss_cons (ps_set (i := 3) sc_leading.nd rfl (.inl rfl) (pe_call (G_play_of.mono (by first | decide | omega)) hr (by rfl) T.g_play_of T.F_play_of.kp T.b_play_of .nil pass0 (pa_cons (pv 0) pa_nil)))
      (pss_cons (ps_set (i := 4) sc_leading.nd rfl (.inl rfl) (pe_call (G_places_of.mono (by first | decide | omega)) hr (by rfl) T.g_places_of T.F_places_of.kp T.b_places_of .nil pass0 (pa_cons (pv 0) (pa_cons (pe_ix ix_tup (pv 1) pe_int (fun _ _ => rfl)) pa_nil))))
      (pss_cons (ps_set (i := 5) sc_leading.nd rfl (.inl rfl) (pe_call (G_places_of.mono (by first | decide | omega)) hr (by rfl) T.g_places_of T.F_places_of.kp T.b_places_of .nil pass0 (pa_cons (pv 0) (pa_cons (pe_ix ix_tup (pv 1) pe_int (fun _ _ => rfl)) pa_nil))))
      (pss_cons (ps_set (i := 6) sc_leading.nd rfl (.inl rfl) (pe_op op_cat (pe_lst (pa_cons pe_int pa_nil)) (pe_op op_rep (pe_lst (pa_cons pe_int pa_nil)) (pv 3))))
      (pss_cons (ps_for PassesOwn.never rfl (pi_zip3 true true true (by rfl) T.n_zip (pa_cons (pv 4) (pa_cons (pe_call (G_places_of.mono (by first | decide | omega)) hr (by rfl) T.g_places_of T.F_places_of.kp T.b_places_of .nil pass0 (pa_cons (pv 0) (pa_cons (pv 2) pa_nil))) (pa_cons (pv 5) pa_nil)))) (pg_tup rfl (pgs_cons (pg_name (i := 7) sc_leading.nd rfl (.inl rfl)) (pgs_cons (pg_name (i := 8) sc_leading.nd rfl (.inl rfl)) (pgs_cons (pg_name (i := 9) sc_leading.nd rfl (.inl rfl)) pgs_nil))))
      (pss_cons (ps_if (pt_not (pt_chain op_le op_le (pv 7) (pv 8) (pv 9))) (pss_one (ps_ret pe_int)) pss_nil)
      (pss_cons (ps_asg (pe_call (G_sources.mono (by first | decide | omega)) hr (by rfl) T.g_sources T.F_sources.kp T.b_sources .nil pass0 (pa_cons (pv 7) (pa_cons (pv 8) (pa_cons (pv 9) (pa_cons (pv 3) pa_nil))))) (pg_tup rfl (pgs_cons (pg_name (i := 10) sc_leading.nd rfl (.inl rfl)) (pgs_cons (pg_name (i := 11) sc_leading.nd rfl (.inl rfl)) pgs_nil))))
      (pss_one (ps_set (i := 6) sc_leading.nd rfl (.inl rfl) (pe_call (G_with_next_block.mono (by first | decide | omega)) hr (by rfl) T.g_with_next_block T.F_with_next_block.kp T.b_with_next_block .nil pass0 (pa_cons (pv 6) (pa_cons (pv 10) (pa_cons (pv 11) pa_nil)))))))))
      (pss_one (ps_ret (pe_callB (cr_sum rfl) (by rfl) T.n_sum (by decide +kernel) (pa_cons (pv 6) pa_nil))))))))))), ?_⟩
    have n8 := sh.n8
    have plo := sh.lo
    have phi := sh.hi
    refine ⟨v, rfl, u, rfl, v, u, room, ls, _, rfl, hv, sh, hu, isDoing_ok sh.lo dok, fun H1 s1 => ?_⟩
    refine ⟨v, rfl, t, rfl, v, t, room, ls, _, rfl, Dpm s1 hv, sh, Dpm s1 ht, isStand_ok ri sh.lo, fun H2 s2 => ?_⟩
    have g2 := s1.trans s2
    refine ⟨v, rfl, v, room, ls, rfl, Dpm g2 hv, ?_⟩
    obtain ⟨c, x1, x2, rfl, sc, h1, h2⟩ := dp_two (Dpm g2 hu)
    refine ⟨v, rfl, .ref c, rfl, c, _, 0, _, rfl, rfl, sc, atI_nat (j := 0) rfl, v, x1, room, ls, lo, rfl, Dpm g2 hv, h1, n8, fun p3 H3 s3 np3 hp3 => ?_⟩
    have g3 := g2.trans s3
    refine ⟨v, rfl, .ref c, rfl, c, _, 1, _, rfl, rfl, seqT_mono s3 sc, atI_nat (j := 1) rfl, v, x2, room, ls, hi, rfl, Dpm g3 hv, Dpm s3 h2, n8, fun p4 H4 s4 np4 hp4 => ?_⟩
    have g4 := g3.trans s4
    have hp3 := s4 _ _ hp3
    refine ⟨by show 1 ≤ sizeLine; decide, fun z1 nz1 => ?_⟩
    refine ⟨by show 1 ≤ sizeLine; decide, fun z2 nz2 => ?_⟩
    have hz1 : upd (upd H4 z1 (.lst [.int 1])) z2 (.lst [.int 0]) z1 = some (.lst [.int 1]) := same_new nz2 _ _ upd_same
    have t5 := (same_new (o := .lst [.int 1]) nz1).trans (same_new (o := .lst [.int 0]) nz2)
    have hz2 : upd (upd H4 z1 (.lst [.int 1])) z2 (.lst [.int 0]) z2 = some (.lst [.int 0]) := upd_same
    generalize upd (upd H4 z1 (.lst [.int 1])) z2 (.lst [.int 0]) = H5 at *
    refine ⟨_, rfl, z2, _, _, rfl, rfl, hz2, by omega, by omega, Nat.le_of_lt (small1000 (by simp; omega)), fun z3 nz3 => ?_⟩
    have t6 := same_new (o := .lst ((List.replicate (room - ls.sum).toNat [V.int 0]).flatten)) nz3
    refine ⟨z1, z3, _, _, rfl, rfl, t6 _ _ hz1, upd_same, Nat.le_of_lt (small1000 (by simp; omega)), fun z4 nz4 => ?_⟩
    have t7 := same_new (o := .lst ([V.int 1] ++ (List.replicate (room - ls.sum).toNat [V.int 0]).flatten)) nz4
    rw [wL_zero] at t7 ⊢
    have hz4 : upd (upd H5 z3 (.lst ((List.replicate (room - ls.sum).toNat [V.int 0]).flatten))) z4 (.lst (iV (wL ((room - ls.sum).toNat + 1) W0))) z4 = some (.lst (iV (wL ((room - ls.sum).toNat + 1) W0))) := upd_same
    have g7 := ((g4.trans t5).trans t6).trans t7
    have hp3 := t7 _ _ (t6 _ _ (t5 _ _ hp3))
    have hp4 := t7 _ _ (t6 _ _ (t5 _ _ hp4))
    generalize upd (upd H5 z3 (.lst ((List.replicate (room - ls.sum).toNat [V.int 0]).flatten))) z4 (.lst (iV (wL ((room - ls.sum).toNat + 1) W0))) = H7 at *
    refine ⟨.ref p3, rfl, v, rfl, t, rfl, v, t, room, ls, y, rfl, Dpm g7 hv, Dpm g7 ht, n8, fun p8 H8 s8 np8 hp8 => ?_⟩
    have g8 := g7.trans s8
    have hp3 := s8 _ _ hp3
    have hp4 := s8 _ _ hp4
    have hz4 := s8 _ _ hz4
    refine ⟨.ref p4, rfl, p3, p8, p4, _, _, _, rfl, .inl (.inl hp3), .inl (.inl hp8), .inl (.inl hp4), ?_⟩
    refine for_it (walk_3 (b1 := true) (b2 := true) (b3 := true) (n := ls.length) (xs := iV (plL ls.length lo)) (ys := iV (plL ls.length y)) (zs := iV (plL ls.length hi)) (by simp [iV_len, plL_len])) (fun i σ H' => Same H8 H' ∧ (∀ j, j < i → lo j ≤ y j ∧ y j ≤ hi j) ∧ ∃ z y7 y8 y9 y10 y11, σ = [some v, some (.ref c), some t, some (.int (room - ls.sum)), some (.ref p3), some (.ref p4), some (.ref z), y7, y8, y9, y10, y11] ∧ H' z = some (.lst (iV (wL ((room - ls.sum).toNat + 1) (dpW (boxF i (room - ls.sum) lo hi y))))))
      ⟨Same.refl _, by omega, z4, _, _, _, _, _, rfl, hz4⟩ (fun i σ H' _ p => ⟨.inl (.inl (p.1 _ _ hp3)), .inl (.inl (p.1 _ _ hp8)), .inl (.inl (p.1 _ _ hp4))⟩) (fun i x σ H9 H9' hi' p yy => ?_) (fun σ H9 p => ?_)
    · obtain ⟨s9, hin, z, y7, y8, y9, y10, y11, rfl, hz⟩ := p
      obtain ⟨Tt, a1, a2, a3, rfl, nT, rfl, e1, e2, e3⟩ := yy
      rw [iV_get (plL_get hi')] at e1 e2 e3
      cases Option.some.inj e1
      cases Option.some.inj e2
      cases Option.some.inj e3
      have t10 := same_new (o := .tup [.int (lo i), .int (y i), .int (hi i)]) nT
      have hT : SqT K (upd H9 Tt (.tup [.int (lo i), .int (y i), .int (hi i)])) Tt [.int (lo i), .int (y i), .int (hi i)] := .inl (.inl upd_same)
      have hz := t10 _ _ hz
      have s10 := s9.trans t10
      generalize upd H9 Tt (.tup [.int (lo i), .int (y i), .int (hi i)]) = H10 at *
      refine ⟨Tt, _, rfl, hT, rfl, _, _, rfl, _, _, rfl, _, [], rfl, rfl, ?_⟩
      refine ⟨_, rfl, _, rfl, _, _, rfl, rfl, _, rfl, ?_⟩
      have bad : ¬ (lo i ≤ y i ∧ y i ≤ hi i) → Q (.int 0) H10 := fun nb => by
        have := q H10 (g8.trans s10)
        rw [show leadN ls.length (room - ls.sum) lo hi y = 0 from by unfold leadN; rw [if_neg (fun z => nb (z i hi'))]] at this
        exact this
      by_cases c1 : lo i ≤ y i
      · rw [if_pos (decide_eq_true c1)]
        refine ⟨_, rfl, _, _, rfl, rfl, _, rfl, ?_⟩
        by_cases c2 : y i ≤ hi i
        · rw [decide_eq_true c2]
          refine iteF ⟨_, rfl, _, rfl, _, rfl, _, rfl, lo i, room - ls.sum, hi i, y i, rfl, fun t11 nt11 => ?_⟩
          have u11 := same_new (o := .tup [.int (srcF (room - ls.sum) (lo i) (hi i) (y i)).1, .int (srcF (room - ls.sum) (lo i) (hi i) (y i)).2]) nt11
          have hz := u11 _ _ hz
          refine ⟨t11, _, rfl, .inl (.inl upd_same), rfl, _, _, rfl, _, [], rfl, rfl, ?_⟩
          generalize upd H10 t11 (.tup [.int (srcF (room - ls.sum) (lo i) (hi i) (y i)).1, .int (srcF (room - ls.sum) (lo i) (hi i) (y i)).2]) = H11 at *
          refine ⟨_, rfl, _, rfl, _, rfl, z, _, _, _, _, rfl, .inl (.inl hz), by omega, fun p12 H12 s12 np12 hp12 => ?_⟩
          refine ⟨(s10.trans u11).trans s12, fun j hj => ?_, p12, _, _, _, _, _, rfl, ?_⟩
          · by_cases e : j < i
            · exact hin j e
            · have : j = i := by omega
              subst this
              exact ⟨c1, c2⟩
          · rw [boxF_succ, dpW_snoc]
            exact hp12
        · rw [decide_eq_false c2]
          exact iteT (bad fun z => c2 z.2)
      · rw [if_neg (by simp [c1])]
        exact ⟨_, rfl, iteT (bad fun z => c1 z.1)⟩
    · obtain ⟨s9, hin, z, y7, y8, y9, y10, y11, rfl, hz⟩ := p
      refine ⟨_, rfl, z, _, rfl, .inl (.inl hz), ?_⟩
      have := q H9 (g8.trans s9)
      unfold leadN cnt at this
      rw [if_pos hin, ← sum_wL] at this
      exact this
end PS

namespace PS
open PySem PySem.Spec PyProof.Rows L2
variable {P : Program} {w : World} {K : PySem.W.Frag} {mg : Str → Option Value} {base : Heap}
/-! ### the deck -/
def Dk (k : Addr) (H : Hp) (n : Nat) : Prop := ∃ a b c : Int, H k = some (.lst [.int a, .int b, .int c]) ∧ 0 ≤ b ∧ b < 2147483579 ∧ 0 ≤ c ∧ c + (n : Int) ≤ 1073741824
theorem Dk.le {k : Addr} {H : Hp} {n m : Nat} (h : Dk k H n) (e : m ≤ n) : Dk k H m := by
  obtain ⟨a, b, c, h1, h2, h3, h4, h5⟩ := h
  exact ⟨a, b, c, h1, h2, h3, h4, by omega⟩
theorem Dk.lst {k : Addr} {H : Hp} {n : Nat} (h : Dk k H n) : ∃ l, H k = some (.lst l) := by
  obtain ⟨a, b, c, h1, _⟩ := h
  exact ⟨_, h1⟩
theorem Dk.same {k : Addr} {H H' : Hp} {n : Nat} (h : Dk k H n) (s : Same H H') : Dk k H' n := by
  obtain ⟨a, b, c, h1, h2⟩ := h
  exact ⟨a, b, c, s _ _ h1, h2⟩
theorem Dk.ne {k : Addr} {H : Hp} {n : Nat} (h : Dk k H n) {p : Addr} (np : H p = none) : p ≠ k := by
  obtain ⟨a, b, c, h1, _⟩ := h
  exact (ne_of_none h1 np).symm
theorem fmod_in {a b : Int} (h : 0 < b) : 0 ≤ a.fmod b ∧ a.fmod b < b := ⟨Int.fmod_nonneg_of_pos a h, Int.fmod_lt_of_pos a h⟩
def sp_deck (K : PySem.W.Frag) : Sp := fun vs H Q _ => ∃ c t : Int, vs = [.int c, .int t] ∧ 0 ≤ t ∧ t ≤ 1000 ∧ ∀ p H', Same H H' → H p = none → Dk p H' 1000000 → Q (.ref p) H'
theorem ok_law_deck (T : Tx K mg) : FnOk P w K mg base CX0 1 T.f_law_deck T.fd_law_deck ["cell", "turn"] (sp_deck K) := by
  refine T.F_law_deck.ok sc_law_deck (fun vs H Q E h => ?_) (fun cdv A outer s H vs Q E hr h => ?_)
  · obtain ⟨c, t, rfl, _⟩ := h
    rfl
  · obtain ⟨c, t, rfl, t0, t1, q⟩ := h
    refine ⟨_, (pss_cons (ps_if (pt_cmpR op_ge (pv 0) (pe_op op_pow pe_int pe_int) (nomark _)) (pss_one (ps_ret (pe_lst (pa_cons (pe_op op_sub (pv 0) (pe_op op_pow pe_int pe_int)) (pa_cons (pe_op op_modN (pv 0) pe_int) (pa_cons (pv 1) pa_nil)))))) pss_nil)
      (pss_one (ps_ret (pe_lst (pa_cons pe_int (pa_cons (pe_op op_modN (pv 0) pe_int) (pa_cons (pv 1) pa_nil))))))), ?_⟩
    have m := fmod_in (a := c) (b := 2147483579) (by decide)
    have fin : ∀ (z : Int) (p : Addr), H p = none → Q (.ref p) (upd H p (.lst [.int z, .int (c.fmod 2147483579), .int t])) := fun z p np =>
      q p _ (same_new np) np ⟨z, _, t, upd_same, m.1, m.2, t0, by omega⟩
    refine ⟨_, rfl, _, _, rfl, rfl, ⟨by decide, by decide, by decide⟩, _, _, rfl, rfl, _, rfl, ite2 (fun _ => ?_) (fun _ => ?_)⟩
    · exact ⟨_, rfl, _, _, rfl, rfl, ⟨by decide, by decide, by decide⟩, _, _, rfl, rfl, _, rfl, _, _, rfl, rfl, (show (2147483579 : Int) ≠ 0 by decide), _, rfl, by show 3 ≤ sizeLine; decide, fun p np => fin _ p np⟩
    · exact ⟨_, rfl, _, _, rfl, rfl, (show (2147483579 : Int) ≠ 0 by decide), _, rfl, by show 3 ≤ sizeLine; decide, fun p np => fin _ p np⟩
def sp_pick (K : PySem.W.Frag) : Sp := fun vs H Q _ => ∃ (k : Addr) (m : Int) (n : Nat), vs = [.ref k, .int m] ∧ 0 < m ∧ m < 1000000 ∧ Dk k H (n + 1) ∧ ∀ r H', 0 ≤ r → r < m → Dk k H' n → Same (Off k H) (Off k H') → Q (.int r) H'
theorem off_upd {k : Addr} {H : Hp} {o : HO} : Off k (upd H k o) = Off k H := by
  funext b
  unfold Off
  split
  · rfl
  · rename_i n
    rw [upd_ne n]
theorem ok_law_pick (T : Tx K mg) : FnOk P w K mg base CX0 1 T.f_law_pick T.fd_law_pick ["deck", "size"] (sp_pick K) := by
  refine T.F_law_pick.ok sc_law_pick (fun vs H Q E h => ?_) (fun cdv A outer s H vs Q E hr h => ?_)
  · obtain ⟨k, m, n, rfl, _⟩ := h
    rfl
  · obtain ⟨k, m, n, rfl, m0, m1, ⟨a, b, c, hk, b0, b1, c0, c1⟩, q⟩ := h
    refine ⟨_, (pss_cons (ps_if (pt_cmpR op_gt (pe_ix ix_list (pv 0) pe_int (fun _ _ => rfl)) pe_int (nomark _)) (pss_cons (ps_set (i := 2) sc_law_pick.nd rfl (.inl rfl) (pe_op op_modN (pe_ix ix_list (pv 0) pe_int (fun _ _ => rfl)) (pv 1)))
      (pss_cons (ps_asg (pe_op op_fdivN (pe_ix ix_list (pv 0) pe_int (fun _ _ => rfl)) (pv 1)) (pg_sub (pv 0) pe_int set_list))
      (pss_one (ps_ret (pv 2))))) pss_nil)
      (pss_cons (ps_asg (pe_op op_add (pe_ix ix_list (pv 0) pe_int (fun _ _ => rfl)) pe_int) (pg_sub (pv 0) pe_int set_list))
      (pss_cons (ps_set (i := 3) sc_law_pick.nd rfl (.inl rfl) (pe_op op_modN (pe_op op_pow (pe_op op_add (pe_ix ix_list (pv 0) pe_int (fun _ _ => rfl)) (pe_op op_mul pe_int (pe_ix ix_list (pv 0) pe_int (fun _ _ => rfl)))) pe_int) pe_int))
      (pss_cons (ps_set (i := 2) sc_law_pick.nd rfl (.inl rfl) (pe_op op_fdivN (pe_op op_modN (pe_op op_pow (pe_op op_add (pv 3) (pe_op op_mul pe_int (pe_ix ix_list (pv 0) pe_int (fun _ _ => rfl)))) pe_int) pe_int) pe_int))
      (pss_one (ps_ret (pe_op op_modN (pv 2) (pv 1)))))))), ?_⟩
    refine ⟨.ref k, rfl, k, _, 0, _, rfl, rfl, .inl (.inl hk), atI_nat (j := 0) rfl, _, _, rfl, rfl, _, rfl, ite2 (fun _ => ?_) (fun _ => ?_)⟩
    · refine ⟨.ref k, rfl, k, _, 0, _, rfl, rfl, .inl (.inl hk), atI_nat (j := 0) rfl, _, rfl, _, _, rfl, rfl, by omega, ?_⟩
      refine ⟨.ref k, rfl, k, _, 0, _, rfl, rfl, .inl (.inl hk), atI_nat (j := 0) rfl, _, rfl, _, _, rfl, rfl, ⟨by omega, by omega⟩, ?_⟩
      refine ⟨.ref k, rfl, k, _, 0, 0, rfl, rfl, hk, rfl, ?_⟩
      refine ⟨_, rfl, ?_⟩
      have mm := fmod_in (a := a) m0
      exact q _ _ mm.1 mm.2 ⟨_, b, c, upd_same, b0, b1, c0, by omega⟩ (by rw [off_upd]; exact Same.refl _)
    · refine ⟨.ref k, rfl, k, _, 2, _, rfl, rfl, .inl (.inl hk), atI_nat (j := 2) rfl, _, _, rfl, rfl, ?_⟩
      refine ⟨.ref k, rfl, k, _, 2, 2, rfl, rfl, hk, rfl, ?_⟩
      have hk1 : upd H k (.lst ([V.int a, V.int b, V.int c].set 2 (V.int (c + 1)))) k = some (.lst [.int a, .int b, .int (c + 1)]) := upd_same
      refine ⟨.ref k, rfl, k, _, 1, _, rfl, rfl, .inl (.inl hk1), atI_nat (j := 1) rfl, .ref k, rfl, k, _, 2, _, rfl, rfl, .inl (.inl hk1), atI_nat (j := 2) rfl, _, _, rfl, rfl, .inl ⟨by decide, by decide⟩, _, _, rfl, rfl, _, _, rfl, rfl, ⟨by decide, by decide, by omega⟩, _, _, rfl, rfl, (show (2147483647 : Int) ≠ 0 by decide), ?_⟩
      have m2 := fmod_in (a := (b + 15485867 * (c + 1)) ^ (5 : Int).toNat) (b := 2147483647) (by decide)
      refine ⟨_, rfl, .ref k, rfl, k, _, 2, _, rfl, rfl, .inl (.inl hk1), atI_nat (j := 2) rfl, _, _, rfl, rfl, .inl ⟨by decide, by decide⟩, _, _, rfl, rfl, _, _, rfl, rfl, ⟨by decide, by decide, by omega⟩, _, _, rfl, rfl, (show (2147483629 : Int) ≠ 0 by decide), _, _, rfl, rfl, (show (32 : Int) ≠ 0 ∧ (32 : Int).natAbs < 1073741824 by decide), ?_⟩
      refine ⟨_, rfl, _, rfl, _, _, rfl, rfl, by omega, ?_⟩
      have mm := fmod_in (a := (((((b + 15485867 * (c + 1)) ^ (5 : Int).toNat).fmod 2147483647 + 7919 * (c + 1)) ^ (3 : Int).toNat).fmod 2147483629).fdiv 32) m0
      exact q _ _ mm.1 mm.2 ⟨a, b, c + 1, hk1, b0, b1, by omega, by omega⟩ (by rw [off_upd]; exact Same.refl _)
def sp_one (K : PySem.W.Frag) : Sp := fun vs H Q _ => ∃ (k a : Addr) (xs : List V) (n : Nat), vs = [.ref k, .ref a] ∧ SqL K (Off k H) a xs ∧ 0 < xs.length ∧ xs.length < 1000 ∧ Dk k H (n + 1) ∧ ∀ x H', x ∈ xs → Dk k H' n → Same (Off k H) (Off k H') → Q x H'
theorem ok_law_one (T : Tx K mg) : FnOk P w K mg base CX0 2 T.f_law_one T.fd_law_one ["deck", "some"] (sp_one K) := by
  have G_law_pick := ok_law_pick (P := P) (w := w) (base := base) T
  refine T.F_law_one.ok sc_law_one (fun vs H Q E h => ?_) (fun cdv A outer s H vs Q E hr h => ?_)
  · obtain ⟨k, a, xs, n, rfl, _⟩ := h
    rfl
  · obtain ⟨k, a, xs, n, rfl, hs, l0, l1, dk, q⟩ := h
    refine ⟨_, (pss_one (ps_ret (pe_ix ix_list (pv 1) (pe_call (G_law_pick.mono (by first | decide | omega)) hr (by rfl) T.g_law_pick T.F_law_pick.kp T.b_law_pick .nil pass0 (pa_cons (pv 0) (pa_cons (pe_callB call_len_seq (by rfl) T.n_len (by decide +kernel) (pa_cons (pv 1) pa_nil)) pa_nil))) (fun _ _ => rfl)))), ?_⟩
    refine ⟨.ref a, rfl, .ref k, rfl, .ref a, rfl, a, xs, rfl, .inl ((off_same k H).seq hs), k, _, n, rfl, by omega, by omega, dk, fun r H' r0 r1 dk' sm => ?_⟩
    have hr' : r.toNat < xs.length := by omega
    have hx : xs[r.toNat]? = some xs[r.toNat] := List.getElem?_eq_getElem hr'
    exact ⟨a, xs, r, _, rfl, rfl, ((off_same k H').seq (sm.seq hs)), at_of (j := r.toNat) (by omega) hx, q _ _ (List.mem_of_getElem? hx) dk' sm⟩
/-! ### sorts, sameness -/
theorem ok_law_whole (T : Tx K mg) : FnOk P w K mg base CX0 1 T.f_law_whole T.fd_law_whole ["thing"] (fun vs H Q _ => ∃ v d, vs = [v] ∧ Dp K H v d ∧ Q (.bl (isW d)) H) := by
  refine T.F_law_whole.ok sc_law_whole (fun vs H Q E h => ?_) (fun cdv A outer s H vs Q E hr h => ?_)
  · obtain ⟨v, d, rfl, _⟩ := h
    rfl
  · obtain ⟨v, d, rfl, hd, q⟩ := h
    refine ⟨_, (pss_one (ps_ret (pe_and (pe_callB call_isD (by rfl) T.n_isinstance (by decide +kernel) (pa_cons (pv 0) (pa_cons (pe_bltn (v := .ty "int") (by rfl) T.n_int (by decide +kernel) rfl) pa_nil))) (pe_one (pe_not (pe_callB call_isD (by rfl) T.n_isinstance (by decide +kernel) (pa_cons (pv 0) (pa_cons (pe_bltn (v := .ty "bool") (by rfl) T.n_bool (by decide +kernel) rfl) pa_nil)))))))), ?_⟩
    refine ⟨v, rfl, v, _, d, rfl, hd, kInt d, _, rfl, ?_⟩
    rw [isA_int]
    cases hd with
    | bl b => exact iteT ⟨_, rfl, _, _, _, rfl, .bl b, kBool _, _, rfl, by rw [isA_bool]; exact q⟩
    | int b => exact iteT ⟨_, rfl, _, _, _, rfl, .int b, kBool _, _, rfl, by rw [isA_bool]; exact q⟩
    | _ => exact iteF q
def sortD : PyData → Int
  | .bool _ => 1 | .int _ => 2 | .str _ => 3 | .list _ => 4 | .tuple _ => 5 | _ => 6
def sp_sort (K : PySem.W.Frag) : Sp := fun vs H Q _ => ∃ v d, vs = [v] ∧ Dp K H v d ∧ Q (.int (sortD d)) H
theorem ok_law_sort (T : Tx K mg) : FnOk P w K mg base CX0 1 T.f_law_sort T.fd_law_sort ["thing"] (sp_sort K) := by
  refine T.F_law_sort.ok sc_law_sort (fun vs H Q E h => ?_) (fun cdv A outer s H vs Q E hr h => ?_)
  · obtain ⟨v, d, rfl, _⟩ := h
    rfl
  · obtain ⟨v, d, rfl, hd, q⟩ := h
    refine ⟨_, (pss_cons (ps_if (pt_val (pe_callB call_isD (by rfl) T.n_isinstance (by decide +kernel) (pa_cons (pv 0) (pa_cons (pe_bltn (v := .ty "bool") (by rfl) T.n_bool (by decide +kernel) rfl) pa_nil)))) (pss_one (ps_ret pe_int)) pss_nil)
      (pss_cons (ps_if (pt_val (pe_callB call_isD (by rfl) T.n_isinstance (by decide +kernel) (pa_cons (pv 0) (pa_cons (pe_bltn (v := .ty "int") (by rfl) T.n_int (by decide +kernel) rfl) pa_nil)))) (pss_one (ps_ret pe_int)) pss_nil)
      (pss_cons (ps_if (pt_val (pe_callB call_isD (by rfl) T.n_isinstance (by decide +kernel) (pa_cons (pv 0) (pa_cons (pe_bltn (v := .ty "str") (by rfl) T.n_str (by decide +kernel) rfl) pa_nil)))) (pss_one (ps_ret pe_int)) pss_nil)
      (pss_cons (ps_if (pt_val (pe_callB call_isD (by rfl) T.n_isinstance (by decide +kernel) (pa_cons (pv 0) (pa_cons (pe_bltn (v := .ty "list") (by rfl) T.n_list (by decide +kernel) rfl) pa_nil)))) (pss_one (ps_ret pe_int)) pss_nil)
      (pss_one (ps_ret (pe_ifExp (pt_val (pe_callB call_isD (by rfl) T.n_isinstance (by decide +kernel) (pa_cons (pv 0) (pa_cons (pe_bltn (v := .ty "tuple") (by rfl) T.n_tuple (by decide +kernel) rfl) pa_nil)))) pe_int pe_int))))))), ?_⟩
    refine ⟨v, rfl, v, _, d, rfl, hd, kBool d, _, rfl, ?_⟩
    rw [isA_bool]
    refine ite2 (fun e => ?_) (fun e => ⟨v, rfl, v, _, d, rfl, hd, kInt d, _, rfl, ?_⟩)
    · cases d <;> simp [isB] at e <;> exact q
    rw [isA_int]
    refine ite2 (fun e2 => ?_) (fun e2 => ⟨v, rfl, v, _, d, rfl, hd, kStr d, _, rfl, ?_⟩)
    · cases d <;> simp [isB, isIB] at e e2 <;> exact q
    rw [isA_str]
    refine ite2 (fun e3 => ?_) (fun e3 => ⟨v, rfl, v, _, d, rfl, hd, kList d, _, rfl, ?_⟩)
    · cases d <;> simp [isS] at e3 <;> exact q
    rw [isA_list]
    refine ite2 (fun e4 => ?_) (fun e4 => ⟨v, rfl, v, _, d, rfl, hd, kTuple d, _, rfl, ?_⟩)
    · cases d <;> simp [isL] at e4 <;> exact q
    rw [isA_tuple]
    refine ite2 (fun e5 => ?_) (fun e5 => ?_)
    · cases d <;> simp [isT] at e5 <;> exact q
    · cases d <;> simp [isB, isIB, isS, isL, isT] at e e2 e3 e4 e5 <;> exact q
def sp_same (K : PySem.W.Frag) (n : Nat) : Sp := fun vs H Q _ => ∃ v u d, vs = [v, u] ∧ Dp K H v d ∧ Dp K H u d ∧ d.depth < n ∧ RB H Q true
theorem same_step (T : Tx K mg) {n k : Nat} (hk : 1 ≤ k) (G_law_same : FnOk P w K mg base CX0 k T.f_law_same T.fd_law_same ["told", "due"] (sp_same K n)) : FnOk P w K mg base CX0 (k + 1) T.f_law_same T.fd_law_same ["told", "due"] (sp_same K (n + 1)) := by
  have G_law_sort := ok_law_sort (P := P) (w := w) (base := base) T
  refine T.F_law_same.ok sc_law_same (fun vs H Q E h => ?_) (fun cdv A outer s H vs Q E hr h => ?_)
  · obtain ⟨v, u, d, rfl, _⟩ := h
    rfl
  · obtain ⟨v, u, d, rfl, hv, hu, hd, q⟩ := h
    refine ⟨_, (pss_cons (ps_if (pt_cmpR op_ne (pe_call (G_law_sort.mono (by first | decide | omega)) hr (by rfl) T.g_law_sort T.F_law_sort.kp T.b_law_sort .nil pass0 (pa_cons (pv 0) pa_nil)) (pe_call (G_law_sort.mono (by first | decide | omega)) hr (by rfl) T.g_law_sort T.F_law_sort.kp T.b_law_sort .nil pass0 (pa_cons (pv 1) pa_nil)) (nomark _)) (pss_one (ps_ret pe_bl)) pss_nil)
      (pss_cons (ps_if (PW.pt (pw_and (pt_cmpR op_gt (pe_call (G_law_sort.mono (by first | decide | omega)) hr (by rfl) T.g_law_sort T.F_law_sort.kp T.b_law_sort .nil pass0 (pa_cons (pv 0) pa_nil)) pe_int (nomark _)) (pw_and1 (pt_cmpR op_lt (pe_call (G_law_sort.mono (by first | decide | omega)) hr (by rfl) T.g_law_sort T.F_law_sort.kp T.b_law_sort .nil pass0 (pa_cons (pv 0) pa_nil)) pe_int (nomark _))))) (pss_cons (ps_if (pt_cmpR op_ne (pe_callB call_len_seq (by rfl) T.n_len (by decide +kernel) (pa_cons (pv 0) pa_nil)) (pe_callB call_len_seq (by rfl) T.n_len (by decide +kernel) (pa_cons (pv 1) pa_nil)) (nomark _)) (pss_one (ps_ret pe_bl)) pss_nil)
      (pss_one (ps_ret (pe_cmpR (op_eqP hr.units) (pe_lc (own := [("k", 2), ("part", 3)]) (g := gTup K 2 (gCons (gName 2) (gCons (gName 3) gNil))) rfl sc_law_same.nd (pi_enum1 (by rfl) T.n_enumerate (pa_cons (pv 0) pa_nil)) (blkOk_by (own := [("k", 2), ("part", 3)]) (N := ["told", "due", "k", "part"]) (sc := defScope s_law_same) (by decide +kernel)) (fun _ _ _ _ _ => (pg_tup rfl (pgs_cons (pg_name (i := 2) sc_law_same.nd rfl (.inl rfl)) (pgs_cons (pg_name (i := 3) sc_law_same.nd rfl (.inl rfl)) pgs_nil)))) (fun _ _ _ _ _ => pts_one (pt_not (pt_val (pe_call (G_law_same.mono (by first | decide | omega)) hr (by rfl) T.g_law_same T.F_law_same.kp T.b_law_same .nil pass0 (pa_cons (pv 3) (pa_cons (pe_ix (show IxR _ (rIx K) from ix_seq) (pv 1) (pv 2) (fun _ _ => rfl)) pa_nil)))))) (fun _ _ _ _ _ => (pv 2))) (pe_lst pa_nil) (nomark _))))) pss_nil)
      (pss_one (ps_ret (pe_cmpR (op_eqP hr.units) (pv 0) (pv 1) (nomark _)))))), ?_⟩
    refine ⟨v, rfl, v, d, rfl, hv, u, rfl, u, d, rfl, hu, rfl, _, rfl, ?_⟩
    rw [decide_eq_true (show V.int (sortD d) = V.int (sortD d) from rfl)]
    refine iteF ⟨v, rfl, v, d, rfl, hv, _, _, rfl, rfl, _, rfl, ?_⟩
    have comp : ∀ (b : Bool) (a c : Addr) (xs ys : List V) (ds : List PyData), v = .ref a → u = .ref c → SqK b K H a xs → SqK b K H c ys → DpAll K H xs ds → DpAll K H ys ds → (∀ d ∈ ds, d.depth < n) →
        tOp (rEqP K) (tLc (iEnum1 K (tCons (tVar 0) tNil)) (gTup K 2 (gCons (gName 2) (gCons (gName 3) gNil))) (tNot (tB (tCall (sp_same K n) [] E0 (tCons (tVar 3) (tCons (fun σ H Q => tVar 1 σ H fun x H1 => tVar 2 σ H1 fun y H2 => rIx K x y H2 Q) tNil))))) (tVar 2) [2, 3]) (tLst tNil) (start ["told", "due", "k", "part"] [v, u]) H Q := by
      intro b a c xs ys ds ev eu s1 s2 a1 a2 hdep
      subst ev eu
      have l1 := dpAll_len a1
      have l2 := dpAll_len a2
      refine ⟨_, rfl, b, a, xs, rfl, s1, fun D nD => ?_⟩
      refine lc_it (walk_1 (n := ds.length) (xs := xs) (by omega)) (fun i H' => Same H H' ∧ H' D = some (.lst [])) ⟨same_new nD, upd_same⟩ (fun i H' _ p => ?_) (fun i x H' H2 hi p y => ?_) (fun H' p => ?_)
      · cases b
        · exact seqT_mono p.1 s1
        · exact p.1.seq s1
      · obtain ⟨Tt, x, rfl, nT, rfl, hx⟩ := y
        have s3 : Same H (upd H' Tt (.tup [.int (i : Nat), x])) := p.1.trans (same_new nT)
        obtain ⟨d1, e1, h1⟩ := dpAll_get a1 hx
        obtain ⟨y, hy, h2⟩ := dpAll_at a2 e1
        refine ⟨Tt, _, rfl, .inl (.inl upd_same), rfl, _, _, rfl, _, [], rfl, rfl, ?_⟩
        refine ⟨rfl, x, rfl, .ref c, rfl, _, rfl, ?_⟩
        have hD' : upd H' Tt (.tup [.int (i : Nat), x]) D = some (.lst []) := by
          rw [upd_ne (ne_of_none p.2 nT)]
          exact p.2
        have dd := hdep d1 (List.mem_of_getElem? e1)
        cases b
        · exact .inr (.inl ⟨c, ys, _, y, rfl, rfl, seqT_mono s3 s2, atI_nat hy, x, y, d1, rfl, Dpm s3 h1, Dpm s3 h2, dd, fun H3 s4 => ⟨true, rfl, iteF ⟨s3.trans s4, s4 _ _ hD'⟩⟩⟩)
        · exact .inl ⟨c, ys, _, y, rfl, rfl, s3.seq s2, atI_nat hy, x, y, d1, rfl, Dpm s3 h1, Dpm s3 h2, dd, fun H3 s4 => ⟨true, rfl, iteF ⟨s3.trans s4, s4 _ _ hD'⟩⟩⟩
      · refine ⟨Nat.zero_le _, fun p2 np2 => ?_⟩
        have s5 := p.1.trans (same_new (o := .lst []) np2)
        refine ⟨.list [], .list [], .lst (.inl (.inl ?_)) .nil, .lst (.inl (.inl upd_same)) .nil, by simp [PyData.depth, PyData.depthAll], q _ s5⟩
        rw [upd_ne (ne_of_none p.2 np2)]
        exact p.2
    have flat : d.depth ≤ 64 → tOp (rEqP K) (tVar 0) (tVar 1) (start ["told", "due", "k", "part"] [v, u]) H Q := fun h64 => by
      refine ⟨v, rfl, u, rfl, d, d, hv, hu, h64, ?_⟩
      rw [eqv_self hv]
      exact q H (Same.refl H)
    cases d with
    | none => exact iteT ⟨v, rfl, v, _, rfl, hv, _, _, rfl, rfl, _, rfl, flat (by simp [PyData.depth])⟩
    | bool b => exact flat (by simp [PyData.depth])
    | int b => exact flat (by simp [PyData.depth])
    | str b => exact flat (by simp [PyData.depth])
    | dict b => cases hv
    | list ds =>
      obtain ⟨a, xs, rfl, s1, a1⟩ := dp_lst hv
      obtain ⟨c, ys, rfl, s2, a2⟩ := dp_lst hu
      refine iteT ⟨.ref a, rfl, .ref a, _, rfl, hv, _, _, rfl, rfl, _, rfl, ?_⟩
      refine iteT ⟨.ref a, rfl, a, xs, rfl, .inl s1, .ref c, rfl, c, ys, rfl, .inl s2, rfl, _, rfl, ?_⟩
      rw [dpAll_len a1, dpAll_len a2, decide_eq_true (show V.int (ds.length : Int) = V.int (ds.length : Int) from rfl)]
      refine iteF (comp true a c xs ys ds rfl rfl s1 s2 a1 a2 (fun x hx => ?_))
      have : PyData.depthAll ds + 1 < n + 1 := by simpa [PyData.depth] using hd
      have := depth_of_all (n := PyData.depthAll ds) ds (Nat.le_refl _) x hx
      omega
    | tuple ds =>
      obtain ⟨a, xs, rfl, s1, a1⟩ := dp_tup hv
      obtain ⟨c, ys, rfl, s2, a2⟩ := dp_tup hu
      refine iteT ⟨.ref a, rfl, .ref a, _, rfl, hv, _, _, rfl, rfl, _, rfl, ?_⟩
      refine iteT ⟨.ref a, rfl, a, xs, rfl, .inr s1, .ref c, rfl, c, ys, rfl, .inr s2, rfl, _, rfl, ?_⟩
      rw [dpAll_len a1, dpAll_len a2, decide_eq_true (show V.int (ds.length : Int) = V.int (ds.length : Int) from rfl)]
      refine iteF (comp false a c xs ys ds rfl rfl s1 s2 a1 a2 (fun x hx => ?_))
      have : PyData.depthAll ds + 1 < n + 1 := by simpa [PyData.depth] using hd
      have := depth_of_all (n := PyData.depthAll ds) ds (Nat.le_refl _) x hx
      omega
theorem ok_law_same (T : Tx K mg) : ∀ n : Nat, FnOk P w K mg base CX0 (n + 1) T.f_law_same T.fd_law_same ["told", "due"] (sp_same K n)
  | 0 => ⟨fun vs H Q E h => by
      obtain ⟨_, _, _, _, _, _, z, _⟩ := h
      omega, fun A outer s H args us vs Q E hr he hb hv h => by
      obtain ⟨_, _, _, _, _, _, z, _⟩ := h
      omega⟩
  | n + 1 => same_step T (Nat.succ_le_succ (Nat.zero_le n)) (ok_law_same T n)
end PS

namespace PS
open PySem PySem.Spec PyProof.Rows L2
variable {P : Program} {w : World} {K : PySem.W.Frag} {mg : Str → Option Value} {base : Heap}
theorem off_new {k p : Addr} {H : Hp} {o : HO} (np : H p = none) : Same (Off k H) (Off k (upd H p o)) := off_mono (same_new np)
theorem off_free {k p : Addr} {H : Hp} (np : H p = none) : Off k H p = none := by
  unfold Off
  split
  · rfl
  · exact np
theorem off_up {k p : Addr} {H : Hp} {o : HO} (n : p ≠ k) : Off k (upd H p o) p = some o := off_at n upd_same
theorem off_keep {k D : Addr} {H0 H : Hp} {o : HO} (s : Same (Off k H0) (Off k H)) (nD : H0 D = none) : Same (Off k H0) (Off k (upd H D o)) := fun b x e => by
  have nb : b ≠ D := ne_of_none e (off_free nD)
  have h := s b x e
  unfold Off at h ⊢
  split at h
  · cases h
  · rename_i nk
    rw [if_neg nk, upd_ne nb]
    exact h
/-! ### shelves -/
def sp_shelf (K : PySem.W.Frag) : Sp := fun vs H Q _ => ∃ (k : Addr) (m pl : Int) (n : Nat), vs = [.ref k, .int m, .int pl] ∧ 1 ≤ m ∧ m ≤ 8 ∧ 0 ≤ pl ∧ pl ≤ 400 ∧ Dk k H (n + 20) ∧
  ∀ v H' room ls, ShOk room ls → (ls.length : Int) ≤ m → room - ls.sum ≤ pl → Dk k H' n → Same (Off k H) (Off k H') → Dp K (Off k H') v (shD room ls) → Q v H'
theorem ok_law_shelf (T : Tx K mg) : FnOk P w K mg base CX0 3 T.f_law_shelf T.fd_law_shelf ["deck", "at_most", "play"] (sp_shelf K) := by
  have G_law_pick := ok_law_pick (P := P) (w := w) (base := base) T
  have G_law_one := ok_law_one (P := P) (w := w) (base := base) T
  refine T.F_law_shelf.ok sc_law_shelf (fun vs H Q E h => ?_) (fun cdv A outer s H vs Q E hr h => ?_)
  · obtain ⟨k, m, pl, n, rfl, _⟩ := h
    rfl
  · obtain ⟨k, m, pl, n, rfl, m1, m8, p0, p4, dk, q⟩ := h
    refine ⟨_, (pss_cons (ps_set (i := 3) sc_law_shelf.nd rfl (.inl rfl) (pe_callTy call_tuple_of (by rfl) T.n_tuple (by decide +kernel) (pa_cons (pe_lc (own := [("k", 4)]) (g := gName 4) (tt := tYes) rfl sc_law_shelf.nd (pi_range1 (by rfl) T.n_range (pa_cons (pe_op op_add pe_int (pe_call (G_law_pick.mono (by first | decide | omega)) hr (by rfl) T.g_law_pick T.F_law_pick.kp T.b_law_pick .nil pass0 (pa_cons (pv 0) (pa_cons (pv 1) pa_nil)))) pa_nil)) (blkOk_by (own := [("k", 4)]) (N := ["deck", "at_most", "play", "blocks", "k"]) (sc := defScope s_law_shelf) (by decide +kernel)) (fun _ _ _ _ _ => (pg_name (i := 4) sc_law_shelf.nd rfl (.inl rfl))) (fun _ _ _ _ _ => pts_nil) (fun _ _ _ _ _ => (pe_op op_add pe_int (pe_call (G_law_pick.mono (by first | decide | omega)) hr (by rfl) T.g_law_pick T.F_law_pick.kp T.b_law_pick .nil pass0 (pa_cons (pv 0) (pa_cons (pe_call (G_law_one.mono (by first | decide | omega)) hr (by rfl) T.g_law_one T.F_law_one.kp T.b_law_one .nil pass0 (pa_cons (pv 0) (pa_cons (pe_lst (pa_cons pe_int (pa_cons pe_int pa_nil))) pa_nil))) pa_nil)))))) pa_nil)))
      (pss_one (ps_ret (pe_tup (pa_cons (pe_op op_add (pe_callB (cr_sumT rfl) (by rfl) T.n_sum (by decide +kernel) (pa_cons (pv 3) pa_nil)) (pe_call (G_law_pick.mono (by first | decide | omega)) hr (by rfl) T.g_law_pick T.F_law_pick.kp T.b_law_pick .nil pass0 (pa_cons (pv 0) (pa_cons (pe_op op_add (pv 2) pe_int) pa_nil)))) (pa_cons (pv 3) pa_nil)))))), ?_⟩
    refine ⟨.ref k, rfl, .int m, rfl, k, m, n + 19, rfl, by omega, by omega, dk, fun r H1 r0 r1 dk1 s1 => ?_⟩
    refine ⟨_, _, rfl, rfl, _, rfl, by omega, by omega, fun D nD => ?_⟩
    refine lc_range (lo := 0) (n := (1 + r).toNat) (fun i H' => Same (Off k H1) (Off k H') ∧ Dk k H' (n + 19 - 2 * i) ∧ ∃ ns : List Int, H' D = some (.lst (iV ns)) ∧ ns.length = i ∧ ∀ l ∈ ns, 1 ≤ l ∧ l ≤ 50)
      ⟨off_new nD, dk1.same (same_new nD), [], upd_same, rfl, by simp⟩ (fun i H' hi p => ?_) (fun H' p => ?_)
    · obtain ⟨s2, dk2, ns, hD, hl, hb⟩ := p
      refine ⟨rfl, .ref k, rfl, .ref k, rfl, by show 2 ≤ sizeLine; decide, fun z nz => ?_⟩
      have nzk := dk2.ne nz
      refine ⟨k, z, [.int 3, .int 50], n + 17 - 2 * i + 1, rfl, .inl (.inl (off_up nzk)), by decide, by decide, (dk2.same (same_new nz)).le (by omega), fun x H3 hx dk3 s3 => ?_⟩
      have hx' : x = .int 3 ∨ x = .int 50 := by simpa using hx
      have fin : ∀ c : Int, 0 < c → c ≤ 50 → sp_pick K [.ref k, .int c] H3 (fun y H4 => ∃ i1 j1, (V.int 1) = .int i1 ∧ y = .int j1 ∧ ∃ acc, H4 D = some (.lst acc) ∧ acc.length < sizeLine ∧ Same (Off k H1) (Off k (upd H4 D (.lst (acc ++ [.int (i1 + j1)])))) ∧ Dk k (upd H4 D (.lst (acc ++ [.int (i1 + j1)]))) (n + 19 - 2 * (i + 1)) ∧ ∃ ns : List Int, upd H4 D (.lst (acc ++ [.int (i1 + j1)])) D = some (.lst (iV ns)) ∧ ns.length = i + 1 ∧ ∀ l ∈ ns, 1 ≤ l ∧ l ≤ 50) E0 := by
        intro c c0 c1
        refine ⟨k, c, n + 17 - 2 * i, rfl, c0, by omega, dk3, fun t H4 t0 t1 dk4 s4 => ?_⟩
        have nDk : D ≠ k := dk1.ne nD
        have sA : Same (Off k H') (Off k H4) := ((off_new nz).trans s3).trans s4
        have hD4 : H4 D = some (.lst (iV ns)) := off_back sA nDk hD
        have s5 : Same (Off k H1) (Off k H4) := s2.trans sA
        refine ⟨1, t, rfl, rfl, _, hD4, ?_, off_keep s5 nD, ?_, ns ++ [1 + t], ?_, ?_, ?_⟩
        · rw [List.length_map]
          exact small1000 (by omega)
        · obtain ⟨a, b, c, h1, h2⟩ := dk4.le (show n + 19 - 2 * (i + 1) ≤ n + 17 - 2 * i by omega)
          exact ⟨a, b, c, by rw [upd_ne nDk.symm]; exact h1, h2⟩
        · rw [upd_same]
          simp
        · rw [List.length_append, hl]
          rfl
        · intro l hl'
          rcases List.mem_append.mp hl' with z | z
          · exact hb l z
          · have : l = 1 + t := by simpa using z
            omega
      rcases hx' with rfl | rfl
      · exact fin 3 (by decide) (by decide)
      · exact fin 50 (by decide) (by decide)
    · obtain ⟨s2, dk2, ns, hD, hl, hb⟩ := p
      refine ⟨D, _, rfl, .inl ⟨.inl (.inl hD), fun t nt => ?_⟩⟩
      have hT : upd H' t (.tup (iV ns)) t = some (.tup (iV ns)) := upd_same
      have ntk := dk2.ne nt
      refine ⟨.ref t, rfl, t, ns, rfl, .inl (.inl hT), .ref k, rfl, _, rfl, _, _, rfl, rfl, k, pl + 1, n, rfl, by omega, by omega, (dk2.same (same_new nt)).le (by omega), fun r2 H4 r20 r21 dk4 s4 => ?_⟩
      refine ⟨_, _, rfl, rfl, .ref t, rfl, by show 2 ≤ sizeLine; decide, fun z nz => ?_⟩
      have h5 : Off k H4 t = some (.tup (iV ns)) := s4 _ _ (off_up ntk)
      have nzk := dk4.ne nz
      refine q (.ref z) _ (ns.sum + r2) ns ⟨by omega, by omega, hb, by omega, by omega⟩ (by omega) (by omega) (dk4.same (same_new nz)) (((s1.trans s2).trans (off_new nt)).trans (s4.trans (off_new nz))) ?_
      refine .tup (.inl (.inl (off_up nzk))) (.cons (.int _) (.cons (tI_dp (.inl (.inl ?_))) .nil))
      exact off_new nz _ _ h5
def sp_play (K : PySem.W.Frag) : Sp := fun vs H Q _ => ∃ v room ls, vs = [v] ∧ Dp K H v (shD room ls) ∧ Q (.int (room - ls.sum)) H
theorem ok_law_play (T : Tx K mg) : FnOk P w K mg base CX0 1 T.f_law_play T.fd_law_play ["shelf"] (sp_play K) := by
  refine T.F_law_play.ok sc_law_play (fun vs H Q E h => ?_) (fun cdv A outer s H vs Q E hr h => ?_)
  · obtain ⟨v, room, ls, rfl, _⟩ := h
    rfl
  · obtain ⟨v, room, ls, rfl, hv, q⟩ := h
    obtain ⟨a, b, rfl, sa, sb⟩ := dp_shelf hv
    refine ⟨_, (pss_one (ps_ret (pe_op op_sub (pe_ix ix_tup (pv 0) pe_int (fun _ _ => rfl)) (pe_callB (cr_sumT rfl) (by rfl) T.n_sum (by decide +kernel) (pa_cons (pe_ix ix_tup (pv 0) pe_int (fun _ _ => rfl)) pa_nil))))), ?_⟩
    exact ⟨.ref a, rfl, a, _, 0, _, rfl, rfl, sa, atI_nat (j := 0) rfl, .ref a, rfl, a, _, 1, _, rfl, rfl, sa, atI_nat (j := 1) rfl, b, ls, rfl, sb, _, _, rfl, rfl, q⟩
/-! ### stands -/
def sp_stand_of (K : PySem.W.Frag) : Sp := fun vs H Q _ => ∃ v a room ls y, vs = [v, .ref a] ∧ Dp K H v (shD room ls) ∧ ls.length ≤ 8 ∧ (SqL K H a (iV ((List.range ls.length).map y)) ∨ SqT K H a (iV ((List.range ls.length).map y))) ∧ RD K H Q (tI (stL ls y))
theorem stL_take {ls : List Int} {y : Nat → Int} {i : Nat} (h : i < ls.length) : (stL ls y).take (i + 1) = (stL ls y).take i ++ [y i + pre ls i] := by
  rw [List.take_add_one, stL_get h]
  rfl
theorem stand_of_any (b : Bool) (T : Tx K mg) : FnOk P w K mg base CX0 1 T.f_law_stand_of T.fd_law_stand_of ["shelf", "places"] (fun vs H Q _ => ∃ v a room ls y, vs = [v, .ref a] ∧ Dp K H v (shD room ls) ∧ ls.length ≤ 8 ∧ SqK b K H a (iV ((List.range ls.length).map y)) ∧ RD K H Q (tI (stL ls y))) := by
  refine T.F_law_stand_of.ok sc_law_stand_of (fun vs H Q E h => ?_) (fun cdv A outer s H vs Q E hr h => ?_)
  · obtain ⟨v, a, room, ls, y, rfl, _⟩ := h
    rfl
  · obtain ⟨v, a, room, ls, y, rfl, hv, n8, ha, q⟩ := h
    obtain ⟨c, d, rfl, sc, sd⟩ := dp_shelf hv
    refine ⟨_, (pss_cons (ps_par (i := 2) (j := 3) (by rfl) sc_law_stand_of.nd rfl rfl (by decide) rfl rfl (pa_cons (pe_lst pa_nil) (pa_cons pe_int pa_nil)) (by rfl))
      (pss_cons (ps_for PassesOwn.never rfl (pi_zip2 b false (by rfl) T.n_zip (pa_cons (pv 1) (pa_cons (pe_ix ix_tup (pv 0) pe_int (fun _ _ => rfl)) pa_nil))) (pg_tup rfl (pgs_cons (pg_name (i := 4) sc_law_stand_of.nd rfl (.inl rfl)) (pgs_cons (pg_name (i := 5) sc_law_stand_of.nd rfl (.inl rfl)) pgs_nil)))
      (pss_cons (ps_expr (pe_bm PySem.F.plainAttrs_list PySem.F.slot_list_append PySem.F.type_list_append mt_append (pv 2) (pa_cons (pe_op op_add (pv 4) (pv 3)) pa_nil)))
      (pss_one (ps_set (i := 3) sc_law_stand_of.nd rfl (.inl rfl) (pe_op op_add (pv 3) (pv 5))))))
      (pss_one (ps_ret (pe_callTy call_tuple_of (by rfl) T.n_tuple (by decide +kernel) (pa_cons (pv 2) pa_nil)))))), ?_⟩
    refine ⟨Nat.zero_le _, fun l nl => ⟨_, _, rfl, ?_⟩⟩
    have s1 : Same H (upd H l (.lst [])) := same_new nl
    have ha1 : SqK b K (upd H l (.lst [])) a (iV ((List.range ls.length).map y)) := by
      cases b
      · exact seqT_mono s1 ha
      · exact s1.seq ha
    refine ⟨.ref a, rfl, .ref c, rfl, c, _, 1, _, rfl, rfl, seqT_mono s1 sc, atI_nat (j := 1) rfl, a, d, _, _, rfl, ha1, seqT_mono s1 sd, ?_⟩
    refine for_it (walk_2 (n := ls.length) (xs := iV ((List.range ls.length).map y)) (ys := iV ls) (by simp)) (fun i σ H' => Same H H' ∧ H' l = some (.lst (iV ((stL ls y).take i))) ∧ ∃ y4 y5, σ = [some (.ref c), some (.ref a), some (.ref l), some (.int (pre ls i)), y4, y5])
      ⟨s1, upd_same, none, none, by rw [pre_zero]; rfl⟩ (fun i σ H' _ p => ⟨?_, seqT_mono p.1 sd⟩) (fun i x σ H' H2 hi p yy => ?_) (fun σ H' p => ?_)
    · cases b
      · exact seqT_mono p.1 ha
      · exact p.1.seq ha
    · obtain ⟨s2, hl, y4, y5, rfl⟩ := p
      obtain ⟨Tt, x, z, rfl, nT, rfl, hx, hz⟩ := yy
      have s3 : Same H (upd H' Tt (.tup [x, z])) := s2.trans (same_new nT)
      have ex : x = .int (y i) := by
        rw [iV_get (v := y i) (by simp [hi])] at hx
        exact (Option.some.inj hx).symm
      have ez : z = .int ls[i] := by
        rw [iV_get (List.getElem?_eq_getElem hi)] at hz
        exact (Option.some.inj hz).symm
      subst ex ez
      have hl2 : upd H' Tt (.tup [.int (y i), .int ls[i]]) l = some (.lst (iV ((stL ls y).take i))) := by
        rw [upd_ne (ne_of_none hl nT)]
        exact hl
      refine ⟨Tt, _, rfl, .inl (.inl upd_same), rfl, _, _, rfl, _, [], rfl, rfl, ?_⟩
      refine ⟨.ref l, rfl, .inl ⟨rfl, _, .inl (.inl hl2)⟩, _, rfl, _, rfl, _, _, rfl, rfl, l, _, _, rfl, rfl, hl2, ?_, ?_⟩
      · rw [List.length_map, List.length_take]
        exact small1000 (by omega)
      · refine ⟨_, rfl, _, rfl, _, _, rfl, rfl, fun b o hb => ?_, ?_, some (.int (y i)), some (.int ls[i]), ?_⟩
        · rw [upd_ne (ne_of_none hb nl)]
          exact s3 b o hb
        · rw [upd_same, stL_take hi]
          simp
        · rw [pre_succ hi]
          rfl
    · obtain ⟨s2, hl, y4, y5, rfl⟩ := p
      rw [List.take_of_length_le (by rw [stL_len]; exact Nat.le_refl _)] at hl
      refine ⟨.ref l, rfl, l, _, rfl, .inl ⟨.inl (.inl hl), fun t nt => ?_⟩⟩
      exact q _ _ (s2.trans (same_new nt)) (tI_dp (.inl (.inl upd_same)))
end PS

namespace PS
open PySem PySem.Spec PyProof.Rows L2
variable {P : Program} {w : World} {K : PySem.W.Frag} {mg : Str → Option Value} {base : Heap}
theorem range_getD (ns : List Int) : (List.range ns.length).map (fun j => ns.getD j 0) = ns := by
  apply List.ext_getElem?
  intro j
  by_cases h : j < ns.length
  · simp [h]
  · rw [List.getElem?_eq_none (by simp; omega), List.getElem?_eq_none (by omega)]
theorem rise_sorted {ns : List Int} {pl : Int} (hs : ns.Pairwise (· ≤ ·)) (hb : ∀ x ∈ ns, 0 ≤ x ∧ x ≤ pl) : Rise ns.length pl (fun j => ns.getD j 0) where
  lo := fun j hj => by
    have := hb ns[j] (List.getElem_mem hj)
    simp [hj]; omega
  hi := fun j hj => by
    have := hb ns[j] (List.getElem_mem hj)
    simp [hj]; omega
  up := fun j hj => by
    have h1 : j < ns.length := by omega
    have := List.pairwise_iff_getElem.mp hs j (j + 1) h1 hj (by omega)
    simp [h1, hj]
    exact this
def sp_stand (K : PySem.W.Frag) : Sp := fun vs H Q _ => ∃ (k : Addr) (v : V) (room : Int) (ls : List Int) (n : Nat), vs = [.ref k, v] ∧ Dp K (Off k H) v (shD room ls) ∧ ShOk room ls ∧ Dk k H (n + 20) ∧
  ∀ u H' y, Rise ls.length (room - ls.sum) y → Dk k H' n → Same (Off k H) (Off k H') → Dp K (Off k H') u (tI (stL ls y)) → Q u H'
theorem ok_law_stand (T : Tx K mg) : FnOk P w K mg base CX0 3 T.f_law_stand T.fd_law_stand ["deck", "shelf"] (sp_stand K) := by
  have G_law_pick := ok_law_pick (P := P) (w := w) (base := base) T
  have G_law_one := ok_law_one (P := P) (w := w) (base := base) T
  have G_law_play := ok_law_play (P := P) (w := w) (base := base) T
  have G_law_stand_of := stand_of_any (P := P) (w := w) (base := base) true T
  refine T.F_law_stand.ok sc_law_stand (fun vs H Q E h => ?_) (fun cdv A outer s H vs Q E hr h => ?_)
  · obtain ⟨k, v, _, _, n, rfl, _⟩ := h
    rfl
  · obtain ⟨k, v, room, ls, n, rfl, hv, sh, dk, q⟩ := h
    have fin : ∀ (H' : Hp) (p : Addr) (ns : List Int), Same (Off k H) (Off k H') → Dk k H' n → p ≠ k → H' p = some (.lst (iV ns)) → ns.length = ls.length → ns.Pairwise (· ≤ ·) → (∀ x ∈ ns, 0 ≤ x ∧ x ≤ room - ls.sum) →
        ∃ v' a room' ls' y, [v, .ref p] = [v', V.ref a] ∧ Dp K H' v' (shD room' ls') ∧ ls'.length ≤ 8 ∧ SqK true K H' a (iV ((List.range ls'.length).map y)) ∧ RD K H' Q (tI (stL ls' y)) := by
      intro H' p ns sm dk' npk hp hl hs hb
      refine ⟨v, p, room, ls, fun j => ns.getD j 0, rfl, Dpm (sm.trans (off_same k H')) hv, sh.n8, ?_, fun u H3 s3 h3 => ?_⟩
      · rw [← hl, range_getD]
        exact .inl (.inl hp)
      · obtain ⟨l, hk⟩ := (dk'.same s3).lst
        have ri := rise_sorted hs hb
        rw [hl] at ri
        exact q u H3 _ ri (dk'.same s3) (sm.trans (off_mono s3)) (dp_off hk _ _ (noL_tI _) h3)
    obtain ⟨a, b, rfl, sa, sb⟩ := dp_shelf hv
    have pl0 := sh.lo
    have pl4 := sh.hi
    have n8 := sh.n8
    refine ⟨_, (pss_cons (ps_set (i := 2) sc_law_stand.nd rfl (.inr rfl) (pe_callB cr_sorted (by rfl) T.n_sorted (by decide +kernel) (pa_cons (pe_lc (own := [("long", 3)]) (g := gName 3) (tt := tYes) rfl sc_law_stand.nd (pi_tup (pe_ix ix_tup (pv 1) pe_int (fun _ _ => rfl))) (blkOk_by (own := [("long", 3)]) (N := ["deck", "shelf", "places", "long"]) (sc := defScope s_law_stand) (by decide +kernel)) (fun _ _ _ _ _ => (pg_name (i := 3) sc_law_stand.nd rfl (.inl rfl))) (fun _ _ _ _ _ => pts_nil) (fun _ _ _ _ _ => (pe_call (G_law_pick.mono (by first | decide | omega)) hr (by rfl) T.g_law_pick T.F_law_pick.kp T.b_law_pick .nil pass0 (pa_cons (pv 0) (pa_cons (pe_op op_add (pe_call (G_law_play.mono (by first | decide | omega)) hr (by rfl) T.g_law_play T.F_law_play.kp T.b_law_play .nil pass0 (pa_cons (pv 1) pa_nil)) pe_int) pa_nil))))) pa_nil)))
      (pss_cons (ps_if (pt_cmpR op_eq (pe_call (G_law_pick.mono (by first | decide | omega)) hr (by rfl) T.g_law_pick T.F_law_pick.kp T.b_law_pick .nil pass0 (pa_cons (pv 0) (pa_cons pe_int pa_nil))) pe_int (nomark _)) (pss_one (ps_set (i := 2) sc_law_stand.nd rfl (.inr rfl) (pe_callB cr_sorted (by rfl) T.n_sorted (by decide +kernel) (pa_cons (pe_lc (own := [("long", 3)]) (g := gName 3) (tt := tYes) rfl sc_law_stand.nd (pi_tup (pe_ix ix_tup (pv 1) pe_int (fun _ _ => rfl))) (blkOk_by (own := [("long", 3)]) (N := ["deck", "shelf", "places", "long"]) (sc := defScope s_law_stand) (by decide +kernel)) (fun _ _ _ _ _ => (pg_name (i := 3) sc_law_stand.nd rfl (.inl rfl))) (fun _ _ _ _ _ => pts_nil) (fun _ _ _ _ _ => (pe_call (G_law_one.mono (by first | decide | omega)) hr (by rfl) T.g_law_one T.F_law_one.kp T.b_law_one .nil pass0 (pa_cons (pv 0) (pa_cons (pv 2) pa_nil))))) pa_nil)))) pss_nil)
      (pss_one (ps_ret (pe_call (G_law_stand_of.mono (by first | decide | omega)) hr (by rfl) T.g_law_stand_of T.F_law_stand_of.kp T.b_law_stand_of .nil pass0 (pa_cons (pv 1) (pa_cons (pv 2) pa_nil))))))), ?_⟩
    refine ⟨.ref a, rfl, a, _, 1, _, rfl, rfl, seqT_mono (off_same k H) sa, atI_nat (j := 1) rfl, b, rfl, ⟨_, seqT_mono (off_same k H) sb⟩, fun D nD => ?_⟩
    have nDk : D ≠ k := dk.ne nD
    refine lc_tup (K := K) (a := b) (xs := iV ls) (fun i H' => Same (Off k H) (Off k H') ∧ Dk k H' (n + 20 - i) ∧ ∃ ns : List Int, H' D = some (.lst (iV ns)) ∧ ns.length = i ∧ ∀ x ∈ ns, 0 ≤ x ∧ x ≤ room - ls.sum)
      ⟨off_new nD, dk.same (same_new nD), [], upd_same, rfl, by simp⟩ (fun i H' _ p => seqT_mono (p.1.trans (off_same k H')) sb) (fun i x H' hx p => ?_) (fun H' p => ?_)
    · obtain ⟨s2, dk2, ns, hD, hl, hb⟩ := p
      have hi : i < ls.length := by
        have := (List.getElem?_eq_some_iff.mp hx).1
        rwa [iV_len] at this
      refine ⟨rfl, .ref k, rfl, .ref a, rfl, .ref a, room, ls, rfl, Dpm (s2.trans (off_same k H')) hv, _, _, rfl, rfl, k, _, n + 19 - i, rfl, by omega, by omega, dk2.le (by omega), fun r H4 r0 r1 dk4 s4 => ?_⟩
      have hD4 : H4 D = some (.lst (iV ns)) := off_back s4 nDk hD
      refine ⟨_, hD4, ?_, off_keep (s2.trans s4) nD, ?_, ns ++ [r], ?_, ?_, ?_⟩
      · rw [List.length_map]
        exact small1000 (by omega)
      · obtain ⟨a, b, c, h1, h2⟩ := dk4.le (show n + 20 - (i + 1) ≤ n + 19 - i by omega)
        exact ⟨a, b, c, by rw [upd_ne nDk.symm]; exact h1, h2⟩
      · rw [upd_same]
        simp
      · rw [List.length_append, hl]
        rfl
      · intro l hl'
        rcases List.mem_append.mp hl' with z | z
        · exact hb l z
        · have : l = r := by simpa using z
          omega
    · obtain ⟨s2, dk2, ns, hD, hl, hb⟩ := p
      rw [iV_len] at hl dk2
      refine ⟨D, ns, rfl, .inl (.inl hD), by omega, fun ns1 p1 perm1 sort1 np1 => ?_⟩
      have hl1 : ns1.length = ls.length := by rw [perm1.length_eq, hl]
      have hb1 : ∀ x ∈ ns1, 0 ≤ x ∧ x ≤ room - ls.sum := fun x hx => hb x (perm1.mem_iff.mp hx)
      have np1k : p1 ≠ k := dk2.ne np1
      refine ⟨.ref k, rfl, k, 3, n + 11, rfl, by decide, by decide, (dk2.same (same_new np1)).le (by omega), fun r H3 r0 r1 dk3 s3 => ?_⟩
      have hp1 : H3 p1 = some (.lst (iV ns1)) := off_back s3 np1k upd_same
      have s13 : Same (Off k H) (Off k H3) := (s2.trans (off_new np1)).trans s3
      refine ⟨rfl, _, rfl, ite2 (fun _ => ?_) (fun _ => ?_)⟩
      · have sa3 := seqT_mono (s13.trans (off_same k H3)) sa
        have sb3 := seqT_mono (s13.trans (off_same k H3)) sb
        refine ⟨.ref a, rfl, a, _, 1, _, rfl, rfl, sa3, atI_nat (j := 1) rfl, b, rfl, ⟨_, sb3⟩, fun D2 nD2 => ?_⟩
        have nD2k : D2 ≠ k := dk3.ne nD2
        have nDp : p1 ≠ D2 := ne_of_none hp1 nD2
        refine lc_tup (K := K) (a := b) (xs := iV ls) (fun i H' => Same (Off k H3) (Off k H') ∧ Dk k H' (n + 11 - i) ∧ ∃ ns : List Int, H' D2 = some (.lst (iV ns)) ∧ ns.length = i ∧ ∀ x ∈ ns, 0 ≤ x ∧ x ≤ room - ls.sum)
          ⟨off_new nD2, dk3.same (same_new nD2), [], upd_same, rfl, by simp⟩ (fun i H' _ p => seqT_mono ((s13.trans p.1).trans (off_same k H')) sb) (fun i x H' hx p => ?_) (fun H' p => ?_)
        · obtain ⟨s4, dk4, ns2, hD2, hl2, hb2⟩ := p
          have hi : i < ls.length := by
            have := (List.getElem?_eq_some_iff.mp hx).1
            rwa [iV_len] at this
          have hp4 : Off k H' p1 = some (.lst (iV ns1)) := s4 _ _ (off_at np1k hp1)
          refine ⟨rfl, .ref k, rfl, .ref p1, rfl, k, p1, _, n + 10 - i, rfl, .inl (.inl hp4), by rw [iV_len]; have := sh.n1; omega, by rw [iV_len]; omega, dk4.le (by omega), fun x H5 hx5 dk5 s5 => ?_⟩
          obtain ⟨r5, hr5, rfl⟩ := List.mem_map.mp hx5
          have hD5 : H5 D2 = some (.lst (iV ns2)) := off_back s5 nD2k hD2
          refine ⟨_, hD5, ?_, off_keep (s4.trans s5) nD2, ?_, ns2 ++ [r5], ?_, ?_, ?_⟩
          · rw [List.length_map]
            exact small1000 (by omega)
          · obtain ⟨a, b, c, h1, h2⟩ := dk5.le (show n + 11 - (i + 1) ≤ n + 10 - i by omega)
            exact ⟨a, b, c, by rw [upd_ne nD2k.symm]; exact h1, h2⟩
          · rw [upd_same]
            simp
          · rw [List.length_append, hl2]
            rfl
          · intro l hl'
            rcases List.mem_append.mp hl' with z | z
            · exact hb2 l z
            · have : l = r5 := by simpa using z
              rw [this]
              exact hb1 r5 hr5
        · obtain ⟨s4, dk4, ns2, hD2, hl2, hb2⟩ := p
          rw [iV_len] at hl2 dk4
          refine ⟨D2, ns2, rfl, .inl (.inl hD2), by omega, fun ns3 p3 perm3 sort3 np3 => ?_⟩
          refine ⟨.ref a, rfl, .ref p3, rfl, ?_⟩
          exact fin _ p3 ns3 ((s13.trans s4).trans (off_new np3)) ((dk4.same (same_new np3)).le (by omega)) (dk4.ne np3) upd_same (by rw [perm3.length_eq, hl2]) sort3 (fun x hx => hb2 x (perm3.mem_iff.mp hx))
      · refine ⟨.ref a, rfl, .ref p1, rfl, ?_⟩
        exact fin _ p1 ns1 s13 (dk3.le (by omega)) np1k hp1 hl1 sort1 hb1
end PS

namespace PS
open PySem PySem.Spec PyProof.Rows L2
variable {P : Program} {w : World} {K : PySem.W.Frag} {mg : Str → Option Value} {base : Heap}
/-! ### the law's own is-it-a-stand -/
def standH (room : Int) : Int → List PyData → List Int → Bool
  | e, d :: ds, l :: ls => match d with
    | .int i => if e ≤ i then (if i ≤ room - l then standH room (i + l) ds ls else false) else false
    | _ => false
  | _, _, _ => true
def isStandB (room : Int) (ls : List Int) (d : PyData) : Bool := match d with
  | .tuple ds => if (ds.length : Int) = ls.length then standH room 0 ds ls else false
  | _ => false
theorem standGH {room : Int} : ∀ (ds : List PyData) (ls : List Int) (e : Int), ds.length = ls.length → (∀ l ∈ ls, 0 ≤ l) → (standG room e ds ls = true ↔ (standH room e ds ls = true ∧ (ls = [] → e ≤ room))) ∧ (standG room e ds ls = true → e ≤ room)
  | [], [], e, _, _ => by simp [standG, standH]
  | [], l :: ls, e, h, _ => by simp at h
  | d :: ds, [], e, h, _ => by simp at h
  | d :: ds, l :: ls, e, h, hl => by
    have hlen : ds.length = ls.length := by simpa using h
    have hl0 := hl l (by simp)
    cases d with
    | int i =>
      have ih := standGH (room := room) ds ls (i + l) hlen (fun x hx => hl x (by simp [hx]))
      have e1 : standG room e (.int i :: ds) (l :: ls) = if i < e then false else standG room (i + l) ds ls := rfl
      have e2 : standH room e (.int i :: ds) (l :: ls) = if e ≤ i then (if i ≤ room - l then standH room (i + l) ds ls else false) else false := rfl
      rw [e1, e2]
      by_cases h1 : i < e
      · rw [if_pos h1, if_neg (by omega)]
        simp
      · rw [if_neg h1, if_pos (by omega)]
        by_cases h2 : i ≤ room - l
        · rw [if_pos h2]
          refine ⟨⟨fun z => ⟨(ih.1.mp z).1, by simp⟩, fun z => ih.1.mpr ⟨z.1, fun _ => by omega⟩⟩, fun z => by omega⟩
        · rw [if_neg h2]
          refine ⟨⟨fun z => ?_, fun z => by simp at z⟩, fun z => ?_⟩
          · have := ih.2 z
            omega
          · have := ih.2 z
            omega
    | _ =>
      refine ⟨⟨fun z => ?_, fun z => ?_⟩, fun z => ?_⟩
      · cases z
      · cases z.1
      · cases z
theorem isStandB_eq {room : Int} {ls : List Int} (sh : ShOk room ls) (d : PyData) : isStandB room ls d = isStand room ls d := by
  unfold isStandB isStand
  cases d with
  | tuple ds =>
    simp only
    by_cases e : (ds.length : Int) = ls.length
    · rw [if_pos e, if_pos e]
      have h := (standGH (room := room) ds ls 0 (by omega) (fun l hl => by have := sh.l1 l hl; omega)).1
      have hne : ls ≠ [] := fun z => by
        have := sh.n1
        rw [z] at this
        simp at this
      cases e1 : standG room 0 ds ls with
      | true => exact (h.mp e1).1
      | false =>
        cases e2 : standH room 0 ds ls with
        | false => rfl
        | true =>
          have := h.mpr ⟨e2, fun z => absurd z hne⟩
          rw [e1] at this
          cases this
    · rw [if_neg e, if_neg e]
  | _ => rfl
def sp_law_is_stand (K : PySem.W.Frag) : Sp := fun vs H Q _ => ∃ v u room ls d, vs = [v, u] ∧ Dp K H v (shD room ls) ∧ ShOk room ls ∧ Dp K H u d ∧ RB H Q (isStand room ls d)
theorem ok_law_is_stand (T : Tx K mg) : FnOk P w K mg base CX0 2 T.f_law_is_stand T.fd_law_is_stand ["shelf", "thing"] (sp_law_is_stand K) := by
  have G_law_whole := ok_law_whole (P := P) (w := w) (base := base) T
  refine T.F_law_is_stand.ok sc_law_is_stand (fun vs H Q E h => ?_) (fun cdv A outer s H vs Q E hr h => ?_)
  · obtain ⟨v, u, _, _, d, rfl, _⟩ := h
    rfl
  · obtain ⟨v, u, room, ls, d, rfl, hv, sh, hd, q⟩ := h
    rw [← isStandB_eq sh] at q
    obtain ⟨a, b, rfl, sa, sb⟩ := dp_shelf hv
    refine ⟨_, (pss_cons (ps_if (PW.pt (pw_or (pt_not (pt_val (pe_callB call_isD (by rfl) T.n_isinstance (by decide +kernel) (pa_cons (pv 1) (pa_cons (pe_bltn (v := .ty "tuple") (by rfl) T.n_tuple (by decide +kernel) rfl) pa_nil))))) (pw_or1 (pt_cmpR op_ne (pe_callB call_len_seq (by rfl) T.n_len (by decide +kernel) (pa_cons (pv 1) pa_nil)) (pe_callB call_len_seq (by rfl) T.n_len (by decide +kernel) (pa_cons (pe_ix ix_tup (pv 0) pe_int (fun _ _ => rfl)) pa_nil)) (nomark _))))) (pss_one (ps_ret pe_bl)) pss_nil)
      (pss_cons (ps_set (i := 2) sc_law_is_stand.nd rfl (.inl rfl) pe_int)
      (pss_cons (ps_for PassesOwn.never rfl (pi_enum1 (by rfl) T.n_enumerate (pa_cons (pv 1) pa_nil)) (pg_tup rfl (pgs_cons (pg_name (i := 3) sc_law_is_stand.nd rfl (.inl rfl)) (pgs_cons (pg_name (i := 4) sc_law_is_stand.nd rfl (.inl rfl)) pgs_nil)))
      (pss_cons (ps_if (PW.pt (pw_or (pt_not (pt_val (pe_call (G_law_whole.mono (by first | decide | omega)) hr (by rfl) T.g_law_whole T.F_law_whole.kp T.b_law_whole .nil pass0 (pa_cons (pv 4) pa_nil)))) (pw_or1 (pt_not (pt_chain op_le op_le (pv 2) (pv 4) (pe_op op_sub (pe_ix ix_tup (pv 0) pe_int (fun _ _ => rfl)) (pe_ix ix_tup (pe_ix ix_tup (pv 0) pe_int (fun _ _ => rfl)) (pv 3) (fun _ _ => rfl)))))))) (pss_one (ps_ret pe_bl)) pss_nil)
      (pss_one (ps_set (i := 2) sc_law_is_stand.nd rfl (.inl rfl) (pe_op op_add (pv 4) (pe_ix ix_tup (pe_ix ix_tup (pv 0) pe_int (fun _ _ => rfl)) (pv 3) (fun _ _ => rfl)))))))
      (pss_one (ps_ret pe_bl))))), ?_⟩
    refine ⟨u, rfl, u, _, d, rfl, hd, kTuple d, _, rfl, ?_⟩
    rw [isA_tuple]
    cases hd with
    | @tup c xs ds sc al =>
      have hxl := dpAll_len al
      refine iteF ⟨_, rfl, c, xs, rfl, .inr sc, .ref a, rfl, a, _, 1, _, rfl, rfl, sa, atI_nat (j := 1) rfl, b, _, rfl, .inr sb, rfl, _, rfl, ?_⟩
      rw [hxl, iV_len]
      have q : RB H Q (if (ds.length : Int) = ls.length then standH room 0 ds ls else false) := q
      by_cases el : (ds.length : Int) = ls.length
      · rw [if_pos el] at q
        rw [decide_eq_true (show V.int (ds.length : Int) = V.int (ls.length : Int) by rw [el])]
        refine iteF ?_
        refine ⟨_, rfl, false, c, xs, rfl, sc, ?_⟩
        refine for_it (walk_1 (n := ls.length) (xs := xs) (by omega)) (fun i σ H' => Same H H' ∧ ∃ e y3 y4, σ = [some (.ref a), some (.ref c), some (.int e), y3, y4] ∧ standH room e (ds.drop i) (ls.drop i) = standH room 0 ds ls)
          ⟨Same.refl H, 0, none, none, rfl, rfl⟩ (fun i σ H' _ p => seqT_mono p.1 sc) (fun i x σ H' H2 hi p yy => ?_) (fun σ H' p => ?_)
        · obtain ⟨s2, e0, y3, y4, rfl, eq⟩ := p
          obtain ⟨Tt, x, rfl, nT, rfl, hx⟩ := yy
          have s3 : Same H (upd H' Tt (.tup [.int (i : Nat), x])) := s2.trans (same_new nT)
          obtain ⟨dx, e1, e2⟩ := dpAll_get al hx
          have hd1 : i < ds.length := by omega
          have e1' : ds[i] = dx := by
            rw [List.getElem?_eq_getElem hd1] at e1
            exact Option.some.inj e1
          rw [List.drop_eq_getElem_cons hd1, List.drop_eq_getElem_cons hi, e1'] at eq
          have hli : (iV ls)[i]? = some (.int ls[i]) := iV_get (List.getElem?_eq_getElem hi)
          refine ⟨Tt, _, rfl, .inl (.inl upd_same), rfl, _, _, rfl, _, [], rfl, rfl, ?_⟩
          refine ⟨x, rfl, x, dx, rfl, Dpm s3 e2, _, rfl, ?_⟩
          cases e2 with
          | int k =>
            have eq : (if e0 ≤ k then (if k ≤ room - ls[i] then standH room (k + ls[i]) (ds.drop (i + 1)) (ls.drop (i + 1)) else false) else false) = standH room 0 ds ls := eq
            refine iteF ⟨_, rfl, _, rfl, _, _, rfl, rfl, _, rfl, ?_⟩
            by_cases h1 : e0 ≤ k
            · rw [if_pos h1] at eq
              rw [decide_eq_true h1]
              refine iteT ⟨.ref a, rfl, a, _, 0, _, rfl, rfl, seqT_mono s3 sa, atI_nat (j := 0) rfl, .ref a, rfl, a, _, 1, _, rfl, rfl, seqT_mono s3 sa, atI_nat (j := 1) rfl, _, rfl, b, _, _, _, rfl, rfl, seqT_mono s3 sb, atI_nat hli, _, _, rfl, rfl, _, _, rfl, rfl, _, rfl, ?_⟩
              by_cases h2 : k ≤ room - ls[i]
              · rw [if_pos h2] at eq
                rw [decide_eq_true h2]
                refine iteF ⟨_, rfl, .ref a, rfl, a, _, 1, _, rfl, rfl, seqT_mono s3 sa, atI_nat (j := 1) rfl, _, rfl, b, _, _, _, rfl, rfl, seqT_mono s3 sb, atI_nat hli, _, _, rfl, rfl, s3, _, _, _, rfl, eq⟩
              · rw [if_neg h2] at eq
                rw [← eq] at q
                rw [decide_eq_false h2]
                exact iteT (q _ s3)
            · rw [if_neg h1] at eq
              rw [← eq] at q
              rw [decide_eq_false h1]
              exact iteF ⟨_, rfl, iteT (q _ s3)⟩
          | _ =>
            have eq : false = standH room 0 ds ls := eq
            rw [← eq] at q
            exact iteT (q _ s3)
        · obtain ⟨s2, e0, y3, y4, rfl, eq⟩ := p
          rw [List.drop_of_length_le (by omega), List.drop_of_length_le (Nat.le_refl _)] at eq
          have eq : true = standH room 0 ds ls := eq
          rw [← eq] at q
          exact q _ s2
      · rw [if_neg el] at q
        rw [decide_eq_false (show ¬ V.int (ds.length : Int) = V.int (ls.length : Int) from fun z => el (V.int.inj z))]
        exact iteT (q H (Same.refl H))
    | _ => exact iteT (q H (Same.refl H))
end PS

namespace PS
open PySem PySem.Spec PyProof.Rows L2
variable {P : Program} {w : World} {K : PySem.W.Frag} {mg : Str → Option Value} {base : Heap}
theorem rep_const (n : Nat) (c : Int) : (List.replicate n [V.int c]).flatten = iV ((List.range n).map fun _ => c) := by
  induction n with
  | zero => rfl
  | succ n ih =>
    rw [List.replicate_succ, List.flatten_cons, ih]
    rw [List.map_const', List.map_const', List.length_range, List.length_range]
    simp [List.replicate_succ]
def sp_ends (K : PySem.W.Frag) : Sp := fun vs H Q _ => ∃ v room ls, vs = [v] ∧ Dp K H v (shD room ls) ∧ ls.length ≤ 8 ∧
  ∀ p H' u1 u2, Same H H' → H p = none → H' p = some (.lst [u1, u2]) → Dp K H' u1 (tI (stL ls (fun _ => 0))) → Dp K H' u2 (tI (stL ls (fun _ => room - ls.sum))) → Q (.ref p) H'
theorem ok_law_ends (T : Tx K mg) : FnOk P w K mg base CX0 2 T.f_law_ends T.fd_law_ends ["shelf"] (sp_ends K) := by
  have G_law_stand_of := stand_of_any (P := P) (w := w) (base := base) true T
  have G_law_play := ok_law_play (P := P) (w := w) (base := base) T
  refine T.F_law_ends.ok sc_law_ends (fun vs H Q E h => ?_) (fun cdv A outer s H vs Q E hr h => ?_)
  · obtain ⟨v, _, _, rfl, _⟩ := h
    rfl
  · obtain ⟨v, room, ls, rfl, hv, n8, q⟩ := h
    obtain ⟨a, b, rfl, sa, sb⟩ := dp_shelf hv
    refine ⟨_, (pss_cons (ps_set (i := 1) sc_law_ends.nd rfl (.inl rfl) (pe_callB call_len_seq (by rfl) T.n_len (by decide +kernel) (pa_cons (pe_ix ix_tup (pv 0) pe_int (fun _ _ => rfl)) pa_nil)))
      (pss_one (ps_ret (pe_lst (pa_cons (pe_call (G_law_stand_of.mono (by first | decide | omega)) hr (by rfl) T.g_law_stand_of T.F_law_stand_of.kp T.b_law_stand_of .nil pass0 (pa_cons (pv 0) (pa_cons (pe_op op_rep (pe_lst (pa_cons pe_int pa_nil)) (pv 1)) pa_nil))) (pa_cons (pe_call (G_law_stand_of.mono (by first | decide | omega)) hr (by rfl) T.g_law_stand_of T.F_law_stand_of.kp T.b_law_stand_of .nil pass0 (pa_cons (pv 0) (pa_cons (pe_op op_rep (pe_lst (pa_cons (pe_call (G_law_play.mono (by first | decide | omega)) hr (by rfl) T.g_law_play T.F_law_play.kp T.b_law_play .nil pass0 (pa_cons (pv 0) pa_nil)) pa_nil)) (pv 1)) pa_nil))) pa_nil)))))), ?_⟩
    refine ⟨.ref a, rfl, a, _, 1, _, rfl, rfl, sa, atI_nat (j := 1) rfl, b, _, rfl, .inr sb, ?_⟩
    rw [iV_len]
    refine ⟨.ref a, rfl, by show 1 ≤ sizeLine; decide, fun z nz => ?_⟩
    refine ⟨_, rfl, z, _, _, rfl, rfl, upd_same, by omega, by omega, ?_, fun z1 nz1 => ?_⟩
    · exact Nat.le_of_lt (small1000 (by simp; omega))
    rw [show ((ls.length : Nat) : Int).toNat = ls.length from by omega, rep_const]
    have s1 := (same_new (o := .lst [.int 0]) nz).trans (same_new (o := .lst (iV ((List.range ls.length).map fun _ => (0 : Int)))) nz1)
    refine ⟨.ref a, z1, room, ls, fun _ => 0, rfl, Dpm s1 hv, n8, .inl (.inl upd_same), fun u1 H2 s2 h2 => ?_⟩
    have s12 := s1.trans s2
    refine ⟨.ref a, rfl, .ref a, rfl, .ref a, room, ls, rfl, Dpm s12 hv, by show 1 ≤ sizeLine; decide, fun z3 nz3 => ?_⟩
    refine ⟨_, rfl, z3, _, _, rfl, rfl, upd_same, by omega, by omega, ?_, fun z4 nz4 => ?_⟩
    · exact Nat.le_of_lt (small1000 (by simp; omega))
    rw [show ((ls.length : Nat) : Int).toNat = ls.length from by omega, rep_const]
    have s3 := (same_new (o := .lst [.int (room - ls.sum)]) nz3).trans (same_new (o := .lst (iV ((List.range ls.length).map fun _ => room - ls.sum))) nz4)
    refine ⟨.ref a, z4, room, ls, fun _ => room - ls.sum, rfl, Dpm (s12.trans s3) hv, n8, .inl (.inl upd_same), fun u2 H4 s4 h4 => ?_⟩
    refine ⟨by show 2 ≤ sizeLine; decide, fun p np => ?_⟩
    have sp := same_new (o := .lst [u1, u2]) np
    have sA := (s12.trans s3).trans s4
    exact q p _ u1 u2 (sA.trans sp) (sA.free np) upd_same (Dpm ((s3.trans s4).trans sp) h2) (Dpm sp h4)
end PS

namespace PS
open PySem PySem.Spec PyProof.Rows L2
variable {P : Program} {w : World} {K : PySem.W.Frag} {mg : Str → Option Value} {base : Heap}
/-- a tuple and another one -/
theorem catT {H : Hp} {Q : VK} {a b : Addr} {xs ys : List V} (sa : SqT K H a xs) (sb : SqT K H b ys) (hl : xs.length + ys.length ≤ 1000) (q : ∀ p H', Same H H' → SqT K H' p (xs ++ ys) → Q (.ref p) H') : rCatA K (.ref a) (.ref b) H Q := by
  refine ⟨a, b, xs, ys, rfl, rfl, sa, sb, Nat.le_of_lt (small1000 hl), fun e => ?_, fun _ e => ?_, fun _ _ p np => ?_⟩
  · subst e
    exact q b H (Same.refl H) sb
  · subst e
    exact q a H (Same.refl H) (by rw [List.append_nil]; exact sa)
  · exact q p _ (same_new np) (.inl (.inl upd_same))
/-! ### counts by products -/
def sp_rising (K : PySem.W.Frag) : Sp := fun vs H Q _ => ∃ n pl : Nat, vs = [.int (n : Int), .int (pl : Int)] ∧ n ≤ 8 ∧ pl ≤ 400 ∧ RI H Q (ch (pl + n) n : Nat)
theorem ok_law_rising (T : Tx K mg) : FnOk P w K mg base CX0 1 T.f_law_rising T.fd_law_rising ["many", "play"] (sp_rising K) := by
  refine T.F_law_rising.ok sc_law_rising (fun vs H Q E h => ?_) (fun cdv A outer s H vs Q E hr h => ?_)
  · obtain ⟨_, _, rfl, _⟩ := h
    rfl
  · obtain ⟨n, pl, rfl, n8, p4, q⟩ := h
    refine ⟨_, (pss_cons (ps_asg (pe_tup (pa_cons pe_int (pa_cons pe_int pa_nil))) (pg_tup rfl (pgs_cons (pg_name (i := 2) sc_law_rising.nd rfl (.inl rfl)) (pgs_cons (pg_name (i := 3) sc_law_rising.nd rfl (.inl rfl)) pgs_nil))))
      (pss_cons (ps_for PassesOwn.never rfl (pi_range2 (by rfl) T.n_range (pa_cons pe_int (pa_cons (pe_op op_add (pv 0) pe_int) pa_nil))) (pg_name (i := 4) sc_law_rising.nd rfl (.inl rfl))
      (pss_one (ps_par (i := 2) (j := 3) (by rfl) sc_law_rising.nd rfl rfl (by decide) rfl rfl (pa_cons (pe_op op_mul (pv 2) (pe_op op_add (pv 1) (pv 4))) (pa_cons (pe_op op_mul (pv 3) (pv 4)) pa_nil)) (by rfl))))
      (pss_one (ps_ret (pe_op op_fdivV (pv 2) (pv 3)))))), ?_⟩
    refine ⟨by show 2 ≤ sizeLine; decide, fun t nt => ⟨t, _, rfl, .inl (.inl upd_same), rfl, _, _, rfl, _, [], rfl, rfl, ?_⟩⟩
    have q := q _ (same_new (o := .tup [.int 1, .int 1]) nt)
    generalize upd H t (.tup [.int 1, .int 1]) = H at q ⊢
    refine ⟨_, rfl, _, _, rfl, rfl, _, _, rfl, ⟨by omega, by omega, by omega, by omega⟩, ?_⟩
    refine for_range (lo := 1) (n := ((n : Int) + 1 - 1).toNat) (fun i σ H' => H' = H ∧ ∃ y4, σ = [some (.int (n : Int)), some (.int (pl : Int)), some (.int (topR pl i : Nat)), some (.int (fac i : Nat)), y4]) ⟨rfl, none, rfl⟩ (fun i σ H' hi p => ?_) (fun σ H' p => ?_)
    · obtain ⟨rfl, y4, rfl⟩ := p
      refine ⟨_, rfl, _, rfl, _, rfl, _, _, rfl, rfl, _, _, rfl, rfl, .inr ⟨by omega, by omega⟩, _, rfl, _, rfl, _, _, rfl, rfl, .inr ⟨by omega, by omega⟩, _, _, rfl, rfl, some (.int (1 + (i : Int))), ?_⟩
      dsimp only
      rw [show ((topR pl i : Nat) : Int) * ((pl : Int) + (1 + (i : Int))) = ((topR pl (i + 1) : Nat) : Int) from by
        show _ = ((topR pl i * (pl + (i + 1)) : Nat) : Int)
        rw [Int.natCast_mul, show (pl : Int) + (1 + (i : Int)) = ((pl + (i + 1) : Nat) : Int) from by omega], show ((fac i : Nat) : Int) * (1 + (i : Int)) = ((fac (i + 1) : Nat) : Int) from by
        show _ = ((fac i * (i + 1) : Nat) : Int)
        rw [Int.natCast_mul, show 1 + (i : Int) = ((i + 1 : Nat) : Int) from by omega]]
      rfl
    · obtain ⟨rfl, y4, rfl⟩ := p
      rw [show ((n : Int) + 1 - 1).toNat = n from by omega]
      refine ⟨_, rfl, _, rfl, _, _, rfl, rfl, rising_C pl n (by omega), ?_⟩
      dsimp only
      rw [rising_div]
      exact q
def sp_boxes (K : PySem.W.Frag) : Sp := fun vs H Q _ => ∃ n pl : Nat, vs = [.int (n : Int), .int (pl : Int)] ∧ 1 ≤ n ∧ n ≤ 8 ∧ pl ≤ 400 ∧ RI H Q (dgs pl n)
theorem ok_law_boxes (T : Tx K mg) : FnOk P w K mg base CX0 1 T.f_law_boxes T.fd_law_boxes ["many", "play"] (sp_boxes K) := by
  refine T.F_law_boxes.ok sc_law_boxes (fun vs H Q E h => ?_) (fun cdv A outer s H vs Q E hr h => ?_)
  · obtain ⟨_, _, rfl, _⟩ := h
    rfl
  · obtain ⟨n, pl, rfl, n1, n8, p4, q⟩ := h
    refine ⟨_, (pss_cons (ps_asg (pe_tup (pa_cons pe_int (pa_cons pe_int pa_nil))) (pg_tup rfl (pgs_cons (pg_name (i := 2) sc_law_boxes.nd rfl (.inl rfl)) (pgs_cons (pg_name (i := 3) sc_law_boxes.nd rfl (.inl rfl)) pgs_nil))))
      (pss_cons (ps_for PassesOwn.never rfl (pi_range2 (by rfl) T.n_range (pa_cons pe_int (pa_cons (pe_op op_add (pv 0) pe_int) pa_nil))) (pg_name (i := 4) sc_law_boxes.nd rfl (.inl rfl))
      (pss_one (ps_for PassesOwn.never rfl (pi_range2 (by rfl) T.n_range (pa_cons pe_int (pa_cons (pe_op op_add (pv 1) pe_int) pa_nil))) (pg_name (i := 5) sc_law_boxes.nd rfl (.inl rfl))
      (pss_cons (ps_set (i := 2) sc_law_boxes.nd rfl (.inl rfl) (pe_op op_mul (pv 2) (pe_op op_add (pe_op op_add (pv 4) (pv 5)) pe_int)))
      (pss_one (ps_set (i := 3) sc_law_boxes.nd rfl (.inl rfl) (pe_op op_mul (pv 3) (pe_op op_sub (pe_op op_add (pv 4) (pv 5)) pe_int))))))))
      (pss_one (ps_ret (pe_op op_fdivV (pv 2) (pv 3)))))), ?_⟩
    refine ⟨by show 2 ≤ sizeLine; decide, fun t nt => ⟨t, _, rfl, .inl (.inl upd_same), rfl, _, _, rfl, _, [], rfl, rfl, ?_⟩⟩
    have q := q _ (same_new (o := .tup [.int 1, .int 1]) nt)
    generalize upd H t (.tup [.int 1, .int 1]) = H at q ⊢
    refine ⟨_, rfl, _, _, rfl, rfl, _, _, rfl, ⟨by omega, by omega, by omega, by omega⟩, ?_⟩
    refine for_range (lo := 1) (n := ((n : Int) + 1 - 1).toNat) (fun i σ H' => H' = H ∧ ∃ y4 y5, σ = [some (.int (n : Int)), some (.int (pl : Int)), some (.int (boT pl i : Nat)), some (.int (boB pl i : Nat)), y4, y5]) ⟨rfl, none, none, rfl⟩ (fun i σ H' hi p => ?_) (fun σ H' p => ?_)
    · obtain ⟨rfl, y4, y5, rfl⟩ := p
      refine ⟨_, rfl, _, _, rfl, rfl, _, _, rfl, ⟨by omega, by omega, by omega, by omega⟩, ?_⟩
      refine for_range (lo := 1) (n := ((pl : Int) + 1 - 1).toNat) (fun j σ H2 => H2 = H' ∧ ∃ y5, σ = [some (.int (n : Int)), some (.int (pl : Int)), some (.int (boT pl i * inT (i + 1) j : Nat)), some (.int (boB pl i * inB' (i + 1) j : Nat)), some (.int (1 + (i : Int))), y5]) ⟨rfl, y5, ?_⟩ (fun j σ H2 hj p => ?_) (fun σ H2 p => ?_)
      · show _ = [some (V.int (n : Int)), some (.int (pl : Int)), some (.int (boT pl i * 1 : Nat)), some (.int (boB pl i * 1 : Nat)), some (.int (1 + (i : Int))), y5]
        rw [Nat.mul_one, Nat.mul_one]
        rfl
      · obtain ⟨rfl, y5, rfl⟩ := p
        refine ⟨_, rfl, _, rfl, _, rfl, _, _, rfl, rfl, _, _, rfl, rfl, _, _, rfl, rfl, .inr ⟨by omega, by omega⟩, _, rfl, _, rfl, _, rfl, _, _, rfl, rfl, _, _, rfl, rfl, _, _, rfl, rfl, .inr ⟨by omega, by omega⟩, rfl, some (.int (1 + (j : Int))), ?_⟩
        dsimp only
        rw [show ((boT pl i * inT (i + 1) j : Nat) : Int) * (1 + (i : Int) + (1 + (j : Int)) + 1) = ((boT pl i * inT (i + 1) (j + 1) : Nat) : Int) from by
          show _ = ((boT pl i * (inT (i + 1) j * (i + 1 + (j + 1) + 1)) : Nat) : Int)
          rw [← Nat.mul_assoc, Int.natCast_mul (boT pl i * inT (i + 1) j), show 1 + (i : Int) + (1 + (j : Int)) + 1 = ((i + 1 + (j + 1) + 1 : Nat) : Int) from by omega], show ((boB pl i * inB' (i + 1) j : Nat) : Int) * (1 + (i : Int) + (1 + (j : Int)) - 1) = ((boB pl i * inB' (i + 1) (j + 1) : Nat) : Int) from by
          show _ = ((boB pl i * (inB' (i + 1) j * (i + 1 + (j + 1) - 1)) : Nat) : Int)
          rw [← Nat.mul_assoc, Int.natCast_mul (boB pl i * inB' (i + 1) j), show 1 + (i : Int) + (1 + (j : Int)) - 1 = ((i + 1 + (j + 1) - 1 : Nat) : Int) from by omega]]
        rfl
      · obtain ⟨rfl, y5, rfl⟩ := p
        rw [show ((pl : Int) + 1 - 1).toNat = pl from by omega]
        exact ⟨rfl, _, _, rfl⟩
    · obtain ⟨rfl, y4, y5, rfl⟩ := p
      rw [show ((n : Int) + 1 - 1).toNat = n from by omega]
      refine ⟨_, rfl, _, rfl, _, _, rfl, rfl, boxes_C pl n n1 (by omega), ?_⟩
      dsimp only
      rw [boxes_div pl n n1]
      exact q
/-! ### all that lie between -/
def sp_between (K : PySem.W.Frag) : Sp := fun vs H Q _ => ∃ v ls lo hi, vs = [v] ∧ Dp K H v (dgD ls lo hi) ∧ ls.length ≤ 8 ∧ (∀ i, i ≤ ls.length → (bt (fun j => lo j + pre ls j) (fun j => hi j + pre ls j) i).length ≤ 9) ∧ (∀ j, j < ls.length → lo j ≤ hi j ∧ hi j ≤ lo j + 8 ∧ -1000000 ≤ lo j + pre ls j ∧ lo j + pre ls j ≤ 1000000) ∧
  ∀ p H' vs, Same H H' → H p = none → H' p = some (.lst vs) → DpAll K (Off p H') vs ((bt (fun j => lo j + pre ls j) (fun j => hi j + pre ls j) ls.length).map tI) → Q (.ref p) H'
theorem ok_law_between (T : Tx K mg) : FnOk P w K mg base CX0 1 T.f_law_between T.fd_law_between ["doing"] (sp_between K) := by
  refine T.F_law_between.ok sc_law_between (fun vs H Q E h => ?_) (fun cdv A outer s H vs Q E hr h => ?_)
  · obtain ⟨v, _, _, _, rfl, _⟩ := h
    rfl
  · obtain ⟨v, ls, lo, hi, rfl, hv, n8, hb9, hin, q⟩ := h
    obtain ⟨a, x1, x2, rfl, sa, h1, h2⟩ := dp_two hv
    obtain ⟨b, rfl, sb⟩ := dp_tI h1
    obtain ⟨c, rfl, sc⟩ := dp_tI h2
    generalize hL : (fun j => lo j + pre ls j) = L at *
    generalize hU : (fun j => hi j + pre ls j) = U at *
    have eL : ∀ j, lo j + pre ls j = L j := fun j => by rw [← hL]
    have eU : ∀ j, hi j + pre ls j = U j := fun j => by rw [← hU]
    refine ⟨_, (pss_cons (ps_set (i := 1) sc_law_between.nd rfl (.inl rfl) (pe_lst (pa_cons (pe_tup pa_nil) pa_nil)))
      (pss_cons (ps_for PassesOwn.never rfl (pi_zip2 false false (by rfl) T.n_zip (pa_cons (pe_ix ix_tup (pv 0) pe_int (fun _ _ => rfl)) (pa_cons (pe_ix ix_tup (pv 0) pe_int (fun _ _ => rfl)) pa_nil))) (pg_tup rfl (pgs_cons (pg_name (i := 2) sc_law_between.nd rfl (.inl rfl)) (pgs_cons (pg_name (i := 3) sc_law_between.nd rfl (.inl rfl)) pgs_nil)))
      (pss_cons (ps_set (i := 4) sc_law_between.nd rfl (.inl rfl) (pe_lst pa_nil))
      (pss_cons (ps_for PassesOwn.never rfl (pi_list (pv 1)) (pg_name (i := 5) sc_law_between.nd rfl (.inr rfl))
      (pss_one (ps_set (i := 4) sc_law_between.nd rfl (.inl rfl) (pe_op op_catL (pv 4) (pe_lc (own := [("left", 6)]) (g := gName 6) (tt := tYes) rfl sc_law_between.nd (pi_range2 (by rfl) T.n_range (pa_cons (pv 2) (pa_cons (pe_op op_add (pv 3) pe_int) pa_nil))) (blkOk_by (own := [("left", 6)]) (N := ["doing", "found", "low", "high", "more", "row", "left"]) (sc := defScope s_law_between) (by decide +kernel)) (fun _ _ _ _ _ => (pg_name (i := 6) sc_law_between.nd rfl (.inl rfl))) (fun _ _ _ _ _ => pts_nil) (fun _ _ _ _ _ => (pe_op (show OpR _ _ (rCatA K) from op_catA) (pv 5) (pe_tup (pa_cons (pv 6) pa_nil)))))))))
      (pss_one (ps_set (i := 1) sc_law_between.nd rfl (.inl rfl) (pv 4))))))
      (pss_one (ps_ret (pv 1))))), ?_⟩
    refine ⟨Nat.zero_le _, fun t0 nt0 => ⟨by show 1 ≤ sizeLine; decide, fun f0 nf0 => ?_⟩⟩
    have s0 : Same H (upd (upd H t0 (.tup [])) f0 (.lst [.ref t0])) := (same_new nt0).trans (same_new nf0)
    generalize hH0 : upd (upd H t0 (.tup [])) f0 (.lst [.ref t0]) = H0 at s0
    have hf0 : H0 f0 = some (.lst [.ref t0]) := by rw [← hH0]; exact upd_same
    have nf : H f0 = none := (same_new nt0).free nf0
    have ht0 : Dp K H0 (.ref t0) (tI []) := by
      rw [← hH0]
      exact tI_dp (ns := []) (.inl (.inl (same_new nf0 _ _ upd_same)))
    have ht0' : Dp K (Off f0 H0) (.ref t0) (tI []) := dp_off hf0 _ _ (noL_tI []) ht0
    refine ⟨.ref a, rfl, a, _, 0, _, rfl, rfl, seqT_mono s0 sa, atI_nat (j := 0) rfl, .ref a, rfl, a, _, 1, _, rfl, rfl, seqT_mono s0 sa, atI_nat (j := 1) rfl, b, c, _, _, rfl, seqT_mono s0 sb, seqT_mono s0 sc, ?_⟩
    refine for_it (walk_2 (n := ls.length) (xs := iV (stL ls lo)) (ys := iV (stL ls hi)) (by simp [iV_len, stL_len])) (fun i σ H' => Same H0 H' ∧ ∃ f vs y2 y3 y4 y5, σ = [some (.ref a), some (.ref f), y2, y3, y4, y5, none] ∧ H f = none ∧ H' f = some (.lst vs) ∧ DpAll K (Off f H') vs ((bt L U i).map tI))
      ⟨Same.refl H0, f0, _, _, _, _, _, rfl, nf, hf0, .cons ht0' .nil⟩ (fun i σ H' _ p => ⟨seqT_mono (s0.trans p.1) sb, seqT_mono (s0.trans p.1) sc⟩) (fun i x σ H1 H1' hi' p yy => ?_) (fun σ H1 p => ?_)
    · obtain ⟨s1, f, vs, y2, y3, y4, y5, rfl, nfH, hf, al⟩ := p
      obtain ⟨Tt, x, z, rfl, nT, rfl, hx, hz⟩ := yy
      rw [iV_get (stL_get hi'), eL] at hx
      rw [iV_get (stL_get hi'), eU] at hz
      cases Option.some.inj hx
      cases Option.some.inj hz
      obtain ⟨i1, i2, i3, i4⟩ := hin i hi'
      have hLU : L i ≤ U i ∧ U i ≤ L i + 8 := by rw [← eL, ← eU]; omega
      rw [eL] at i3 i4
      have hvl := dpAll_len al
      rw [List.length_map] at hvl
      have hsz := hb9 i (by omega)
      have t1 := same_new (o := .tup [.int (L i), .int (U i)]) nT
      have hf1 := t1 _ _ hf
      have al1 := dpAll_mono ((off_same f H1).trans t1) _ _ al
      have hT : SqT K (upd H1 Tt (.tup [.int (L i), .int (U i)])) Tt [.int (L i), .int (U i)] := .inl (.inl upd_same)
      generalize upd H1 Tt (.tup [.int (L i), .int (U i)]) = H2 at *
      refine ⟨Tt, _, rfl, hT, rfl, _, _, rfl, _, [], rfl, rfl, ?_⟩
      refine ⟨Nat.zero_le _, fun m0 nm0 => ?_⟩
      have s2 : Same H2 (upd H2 m0 (.lst [])) := same_new nm0
      have hm0 : upd H2 m0 (.lst []) m0 = some (.lst []) := upd_same
      have nm0H : H m0 = none := ((s0.trans s1).trans t1).free nm0
      generalize upd H2 m0 (.lst []) = H3 at *
      have hf3 := s2 _ _ hf1
      refine ⟨.ref f, rfl, f, rfl, ⟨vs, .inl (.inl hf3)⟩, ?_⟩
      refine for_list (K := K) (a := f) (xs := vs) (fun j σ H' => Same H3 H' ∧ ∃ m ws y5, σ = [some (.ref a), some (.ref f), some (.int (L i)), some (.int (U i)), some (.ref m), y5, none] ∧ H m = none ∧ H' m = some (.lst ws) ∧ DpAll K (Off m H') ws ((((bt L U i).take j).flatMap fun r => (List.range (U i + 1 - L i).toNat).map fun q : Nat => r ++ [L i + (q : Int)]).map tI) ∧ ws.length ≤ 9 * j)
        ⟨Same.refl H3, m0, [], _, rfl, nm0H, hm0, .nil, by simp⟩ (fun j σ H' _ p => .inl (.inl (p.1 _ _ hf3))) (fun j r σ H4 hr4 p => ?_) (fun σ H4 p => ?_)
      · obtain ⟨s4, m, ws, y5, rfl, nmH, hm, hws, hwl⟩ := p
        have hj : j < vs.length := (List.getElem?_eq_some_iff.mp hr4).1
        obtain ⟨dr, er, hns0⟩ := dpAll_get al1 hr4
        rw [List.getElem?_map] at er
        obtain ⟨ns, ens, rfl⟩ := Option.map_eq_some_iff.mp er
        have hlen := bt_len (List.mem_of_getElem? ens)
        have hns4 : Dp K H4 r (tI ns) := Dpm (s2.trans s4) hns0
        refine ⟨.ref m, rfl, _, rfl, _, rfl, _, _, rfl, rfl, _, _, rfl, ⟨by omega, by omega, by omega, by omega⟩, fun D nD => ?_⟩
        have en : (U i + 1 - L i).toNat ≤ 9 := by omega
        refine lc_range (lo := L i) (n := (U i + 1 - L i).toNat) (fun q H' => Same H4 H' ∧ ∃ us, H' D = some (.lst us) ∧ DpAll K (Off D H') us ((((List.range (U i + 1 - L i).toNat).map fun q : Nat => ns ++ [L i + (q : Int)]).take q).map tI)) ⟨same_new nD, [], upd_same, .nil⟩ (fun q H5 hq p => ?_) (fun H5 p => ?_)
        · obtain ⟨s5, us, hD, hus⟩ := p
          have hul : us.length ≤ 9 := by
            have := dpAll_len hus
            rw [List.length_map, List.length_take] at this
            omega
          refine ⟨rfl, r, rfl, _, rfl, by show 1 ≤ sizeLine; decide, fun t nt => ?_⟩
          have s6 := same_new (o := .tup [.int (L i + (q : Int))]) nt
          obtain ⟨cc, rfl, scc⟩ := dp_tI hns4
          have hD6 := s6 _ _ hD
          refine catT (seqT_mono (s5.trans s6) scc) (.inl (.inl upd_same)) (by rw [iV_len, hlen]; simp; omega) fun pp H7 s7 spp => ?_
          have hD7 := s7 _ _ hD6
          have hpp : Dp K H7 (.ref pp) (tI (ns ++ [L i + (q : Int)])) := tI_dp (by
            rw [show iV (ns ++ [L i + (q : Int)]) = iV ns ++ [V.int (L i + (q : Int))] from by simp]
            exact spp)
          refine ⟨us, hD7, small1000 (by omega), fun b o hb => ?_, us ++ [.ref pp], upd_same, ?_⟩
          · rw [upd_ne (ne_of_none hb nD)]
            exact s7 _ _ (s6 _ _ (s5 b o hb))
          · rw [off_upd, List.take_add_one, List.getElem?_map, List.getElem?_range hq, List.map_append]
            exact dpAll_app (dpAll_mono (off_mono (s6.trans s7)) _ _ hus) (.cons (dp_off hD7 _ _ (noL_tI _) hpp) .nil)
        · obtain ⟨s5, us, hD, hus⟩ := p
          have hm5 := s5 _ _ hm
          rw [List.take_of_length_le (by simp)] at hus
          have hul := dpAll_len hus
          rw [List.length_map, List.length_map, List.length_range] at hul
          refine ⟨m, D, ws, us, rfl, rfl, .inl (.inl hm5), .inl (.inl hD), Nat.le_of_lt (small1000 (by omega)), fun pp npp => ?_⟩
          have s6 := same_new (o := .lst (ws ++ us)) npp
          have g6 := (s4.trans s5).trans s6
          have hpp : upd H5 pp (.lst (ws ++ us)) pp = some (.lst (ws ++ us)) := upd_same
          refine ⟨g6, pp, ws ++ us, _, rfl, (((s0.trans s1).trans t1).trans s2).free ((s4.trans s5).free npp), hpp, ?_, by rw [List.length_append]; omega⟩
          rw [List.take_add_one, ens, List.flatMap_append, List.map_append]
          refine dpAll_off hpp _ _ ?_ (dpAll_app (dpAll_mono ((off_same m H4).trans (s5.trans s6)) _ _ hws) (dpAll_mono ((off_same D H5).trans s6) _ _ ?_))
          · refine noLs_all _ fun d hd => ?_
            rcases List.mem_append.mp hd with hd | hd
            · obtain ⟨_, _, rfl⟩ := List.mem_map.mp hd
              exact noL_tI _
            · obtain ⟨_, _, rfl⟩ := List.mem_map.mp hd
              exact noL_tI _
          · simpa using hus
      · obtain ⟨s4, m, ws, y5, rfl, nmH, hm, hws, hwl⟩ := p
        refine ⟨.ref m, rfl, ((s1.trans t1).trans s2).trans s4, m, ws, _, _, _, _, rfl, nmH, hm, ?_⟩
        rw [hvl, List.take_length] at hws
        exact hws
    · obtain ⟨s1, f, vs, y2, y3, y4, y5, rfl, nfH, hf, al⟩ := p
      exact ⟨.ref f, rfl, q f H1 vs (s0.trans s1) nfH hf al⟩
end PS

namespace PS
open PySem PySem.Spec PyProof.Rows L2
variable {P : Program} {w : World} {K : PySem.W.Frag} {mg : Str → Option Value} {base : Heap}
theorem same_out {k : Addr} {H0 H1 H2 : Hp} (s : Same H0 H1) (nk : H0 k = none) (t : Same (Off k H1) (Off k H2)) : Same H0 H2 := fun b o h => off_back t (ne_of_none h nk) (s b o h)
/-- the next block's place, or the play -/
def nxt (n : Nat) (pl : Int) (y : Nat → Int) (j : Nat) : Int := if j + 1 < n then y (j + 1) else pl
theorem nxt_ge {n : Nat} {pl : Int} {y : Nat → Int} {j : Nat} (ri : Rise n pl y) (h : j < n) : y j ≤ nxt n pl y j ∧ nxt n pl y j ≤ pl := by
  unfold nxt
  split
  · rename_i c
    exact ⟨ri.up j c, ri.hi (j + 1) c⟩
  · exact ⟨ri.hi j h, Int.le_refl _⟩
theorem next_get {room : Int} {ls : List Int} {y : Nat → Int} {j : Nat} (h : j < ls.length) : (iV (stL ls y) ++ [V.int room])[j + 1]? = some (.int (nxt ls.length (room - ls.sum) y j + pre ls (j + 1))) := by
  unfold nxt
  by_cases c : j + 1 < ls.length
  · rw [if_pos c, List.getElem?_append_left (by rw [iV_len, stL_len]; exact c), iV_get (stL_get c)]
  · have e : j + 1 = ls.length := by omega
    rw [if_neg c, List.getElem?_append_right (by rw [iV_len, stL_len]; omega), iV_len, stL_len, e, Nat.sub_self, pre_all ls (Nat.le_refl _), show room - ls.sum + ls.sum = room from by omega]
    rfl
theorem set_rise {n : Nat} {pl : Int} {y : Nat → Int} {j : Nat} {z : Int} (ri : Rise n pl y) (h : j < n) (h1 : y j ≤ z) (h2 : z ≤ nxt n pl y j) : Rise n pl (setF y j z) where
  lo := fun i hi => by
    have := ri.lo i hi
    unfold setF
    split
    · have := ri.lo j h; omega
    · exact this
  hi := fun i hi => by
    have := ri.hi i hi
    have := (nxt_ge ri h).2
    unfold setF
    split <;> omega
  up := fun i hi => by
    have u := ri.up i hi
    unfold setF
    by_cases c1 : i = j
    · subst c1
      rw [if_pos rfl, if_neg (by omega)]
      unfold nxt at h2
      rw [if_pos hi] at h2
      exact h2
    · by_cases c2 : i + 1 = j
      · rw [if_neg c1, if_pos c2]
        rw [c2] at u
        omega
      · rw [if_neg c1, if_neg c2]
        exact u
theorem stL_cut {ls : List Int} {y : Nat → Int} {j : Nat} {z : Int} (h : j < ls.length) : (iV (stL ls y)).take j ++ [V.int (z + pre ls j)] ++ (iV (stL ls y)).drop (j + 1) = iV (stL ls (setF y j z)) := by
  apply List.ext_getElem?
  intro i
  have hl : (iV (stL ls y)).length = ls.length := by rw [iV_len, stL_len]
  by_cases hi : i < ls.length
  · rw [iV_get (stL_get hi)]
    by_cases c1 : i < j
    · rw [List.append_assoc, List.getElem?_append_left (by rw [List.length_take, hl]; omega), List.getElem?_take, if_pos c1, iV_get (stL_get hi)]
      unfold setF
      rw [if_neg (by omega)]
    · by_cases c2 : i = j
      · subst c2
        rw [List.append_assoc, List.getElem?_append_right (by rw [List.length_take, hl]; omega), List.length_take, hl, Nat.min_eq_left (by omega), Nat.sub_self]
        show some _ = _
        unfold setF
        rw [if_pos rfl]
      · rw [List.getElem?_append_right (by rw [List.length_append, List.length_take, hl]; simp; omega), List.length_append, List.length_take, hl, List.getElem?_drop]
        rw [show j + 1 + (i - (min j ls.length + [V.int (z + pre ls j)].length)) = i from by simp; omega, iV_get (stL_get hi)]
        unfold setF
        rw [if_neg c2]
  · rw [List.getElem?_eq_none (by simp [stL_len]; omega), List.getElem?_eq_none (by simp [stL_len]; omega)]
theorem sum_sumTo (f : Nat → Nat) : ∀ m : Nat, ((List.range m).map fun q => (f q : Int)).sum = (sumTo f m : Nat) := fun m => sum_wL f m
def sp_law (K : PySem.W.Frag) : Sp := fun vs H Q _ => ∃ (a : Addr) (ns : List Int), vs = [.ref a] ∧ SqL K H a (ns.map V.int) ∧ ns.length ≤ 63 ∧ ∀ H', Q (.bl true) H'
theorem ok_law {f : Addr} {fd : FuncData} (F : Fun K "law" "law" s_law f fd) (T : Tx K mg) : FnOk P w K mg base CX0 10 f fd ["script"] (sp_law K) := by
  have G_law_deck := ok_law_deck (P := P) (w := w) (base := base) T
  have G_law_pick := ok_law_pick (P := P) (w := w) (base := base) T
  have G_law_one := ok_law_one (P := P) (w := w) (base := base) T
  have G_law_shelf := ok_law_shelf (P := P) (w := w) (base := base) T
  have G_law_play := ok_law_play (P := P) (w := w) (base := base) T
  have G_law_stand := ok_law_stand (P := P) (w := w) (base := base) T
  have G_law_ends := ok_law_ends (P := P) (w := w) (base := base) T
  have G_law_same := ok_law_same (P := P) (w := w) (base := base) T 3
  have G_law_is_stand := ok_law_is_stand (P := P) (w := w) (base := base) T
  have G_law_rising := ok_law_rising (P := P) (w := w) (base := base) T
  have G_law_boxes := ok_law_boxes (P := P) (w := w) (base := base) T
  have G_law_between := ok_law_between (P := P) (w := w) (base := base) T
  have G_stands := ok_stands (P := P) (w := w) (base := base) T
  have G_doings := ok_doings (P := P) (w := w) (base := base) T
  have G_leading := ok_leading (P := P) (w := w) (base := base) T
  refine F.ok sc_law (fun vs H Q E h => ?_) (fun cdv A outer s H vs Q E hr h => ?_)
  · obtain ⟨a, ns, rfl, _⟩ := h
    rfl
  · obtain ⟨a, ns, rfl, hS, hlen, q⟩ := h
    refine ⟨_, (pss_cons (ps_for PassesOwn.never rfl (pi_list (pe_slice sl_list (pe_op op_catL (pe_lst (pa_cons pe_int pa_nil)) (pv 0)) po_none (po_some pe_int))) (pg_name (i := 1) sc_law.nd rfl (.inl rfl))
      (pss_cons (ps_set (i := 2) sc_law.nd rfl (.inl rfl) (pe_call (G_law_deck.mono (by first | decide | omega)) hr (by rfl) T.g_law_deck T.F_law_deck.kp T.b_law_deck .nil pass0 (pa_cons (pv 1) (pa_cons pe_int pa_nil))))
      (pss_cons (ps_set (i := 3) sc_law.nd rfl (.inr rfl) (pe_call (G_law_shelf.mono (by first | decide | omega)) hr (by rfl) T.g_law_shelf T.F_law_shelf.kp T.b_law_shelf .nil pass0 (pa_cons (pv 2) (pa_cons pe_int (pa_cons (pe_call (G_law_one.mono (by first | decide | omega)) hr (by rfl) T.g_law_one T.F_law_one.kp T.b_law_one .nil pass0 (pa_cons (pv 2) (pa_cons (pe_lst (pa_cons pe_int (pa_cons pe_int (pa_cons pe_int pa_nil)))) pa_nil))) pa_nil)))))
      (pss_cons (ps_par (i := 4) (j := 5) (by rfl) sc_law.nd rfl rfl (by decide) rfl rfl (pa_cons (pe_callB call_len_seq (by rfl) T.n_len (by decide +kernel) (pa_cons (pe_ix ix_tup (pv 3) pe_int (fun _ _ => rfl)) pa_nil)) (pa_cons (pe_call (G_law_play.mono (by first | decide | omega)) hr (by rfl) T.g_law_play T.F_law_play.kp T.b_law_play .nil pass0 (pa_cons (pv 3) pa_nil)) pa_nil)) (by rfl))
      (pss_cons (ps_set (i := 6) sc_law.nd rfl (.inl rfl) (pe_lst (pa_cons (pe_call (G_law_rising.mono (by first | decide | omega)) hr (by rfl) T.g_law_rising T.F_law_rising.kp T.b_law_rising .nil pass0 (pa_cons (pv 4) (pa_cons (pv 5) pa_nil))) (pa_cons (pe_call (G_law_boxes.mono (by first | decide | omega)) hr (by rfl) T.g_law_boxes T.F_law_boxes.kp T.b_law_boxes .nil pass0 (pa_cons (pv 4) (pa_cons (pv 5) pa_nil))) pa_nil))))
      (pss_cons (ps_if (pt_not (pt_val (pe_call (G_law_same.mono (by first | decide | omega)) hr (by rfl) T.g_law_same T.F_law_same.kp T.b_law_same .nil pass0 (pa_cons (pe_lst (pa_cons (pe_call (G_stands.mono (by first | decide | omega)) hr (by rfl) T.g_stands T.F_stands.kp T.b_stands .nil pass0 (pa_cons (pv 3) pa_nil)) (pa_cons (pe_call (G_doings.mono (by first | decide | omega)) hr (by rfl) T.g_doings T.F_doings.kp T.b_doings .nil pass0 (pa_cons (pv 3) pa_nil)) pa_nil))) (pa_cons (pv 6) pa_nil))))) (pss_one (ps_ret pe_bl)) pss_nil)
      (pss_cons (ps_set (i := 7) sc_law.nd rfl (.inl rfl) (pe_call (G_law_stand.mono (by first | decide | omega)) hr (by rfl) T.g_law_stand T.F_law_stand.kp T.b_law_stand .nil pass0 (pa_cons (pv 2) (pa_cons (pv 3) pa_nil))))
      (pss_cons (ps_set (i := 8) sc_law.nd rfl (.inl rfl) (pe_call (G_law_pick.mono (by first | decide | omega)) hr (by rfl) T.g_law_pick T.F_law_pick.kp T.b_law_pick .nil pass0 (pa_cons (pv 2) (pa_cons (pv 4) pa_nil))))
      (pss_cons (ps_set (i := 9) sc_law.nd rfl (.inl rfl) (pe_op op_sub (pe_ix ix_tup (pe_op op_catA (pv 7) (pe_tup (pa_cons (pe_ix ix_tup (pv 3) pe_int (fun _ _ => rfl)) pa_nil))) (pe_op op_add (pv 8) pe_int) (fun _ _ => rfl)) (pe_ix ix_tup (pe_ix ix_tup (pv 3) pe_int (fun _ _ => rfl)) (pv 8) (fun _ _ => rfl))))
      (pss_cons (ps_set (i := 10) sc_law.nd rfl (.inr rfl) (pe_tup (pa_cons (pv 7) (pa_cons (pe_op op_catA (pe_op op_catA (pe_slice sl_tupA (pv 7) po_none (po_some (pv 8))) (pe_tup (pa_cons (pe_callB (call_min2 rfl) (by rfl) T.n_min (by decide +kernel) (pa_cons (pv 9) (pa_cons (pe_op op_add (pe_ix ix_tup (pv 7) (pv 8) (fun _ _ => rfl)) (pe_call (G_law_pick.mono (by first | decide | omega)) hr (by rfl) T.g_law_pick T.F_law_pick.kp T.b_law_pick .nil pass0 (pa_cons (pv 2) (pa_cons pe_int pa_nil)))) pa_nil))) pa_nil))) (pe_slice sl_tupA (pv 7) (po_some (pe_op op_add (pv 8) pe_int)) po_none)) pa_nil))))
      (pss_cons (ps_setLc (i := 11) (own := [("stand", 14)]) (g := gName 14) rfl sc_law.nd rfl rfl (sw_true rfl rfl rfl (by decide +kernel)) (pi_list (pe_call (G_law_between.mono (by first | decide | omega)) hr (by rfl) T.g_law_between T.F_law_between.kp T.b_law_between .nil pass0 (pa_cons (pv 10) pa_nil))) (blkOk_by (own := [("stand", 14)]) (N := ["script", "cell", "deck", "shelf", "many", "play", "due", "low", "at", "room", "doing", "some", "parts_so", "wide", "stand"]) (sc := defScope s_law) (by decide +kernel)) (fun _ _ _ _ _ => (pg_name (i := 14) sc_law.nd rfl (.inl rfl))) (fun _ _ _ _ _ => pts_one (pt_val (pe_call (G_law_is_stand.mono (by first | decide | omega)) hr (by rfl) T.g_law_is_stand T.F_law_is_stand.kp T.b_law_is_stand .nil pass0 (pa_cons (pv 3) (pa_cons (pv 14) pa_nil))))) (fun _ _ _ _ _ => (pv 14)))
      (pss_cons (ps_setLc (i := 12) (own := [("stand", 14)]) (g := gName 14) (tt := tYes) rfl sc_law.nd rfl rfl (sw_true rfl rfl rfl (by decide +kernel)) (pi_list (pv 11)) (blkOk_by (own := [("stand", 14)]) (N := ["script", "cell", "deck", "shelf", "many", "play", "due", "low", "at", "room", "doing", "some", "parts_so", "wide", "stand"]) (sc := defScope s_law) (by decide +kernel)) (fun _ _ _ _ _ => (pg_name (i := 14) sc_law.nd rfl (.inl rfl))) (fun _ _ _ _ _ => pts_nil) (fun _ _ _ _ _ => (pe_call (G_leading.mono (by first | decide | omega)) hr (by rfl) T.g_leading T.F_leading.kp T.b_leading .nil pass0 (pa_cons (pv 3) (pa_cons (pv 10) (pa_cons (pv 14) pa_nil))))))
      (pss_cons (ps_if (pt_cmpR op_ne (pe_callB (cr_sum rfl) (by rfl) T.n_sum (by decide +kernel) (pa_cons (pv 12) pa_nil)) (pe_call (G_stands.mono (by first | decide | omega)) hr (by rfl) T.g_stands T.F_stands.kp T.b_stands .nil pass0 (pa_cons (pv 3) pa_nil)) (nomark _)) (pss_one (ps_ret pe_bl)) pss_nil)
      (pss_cons (ps_set (i := 13) sc_law.nd rfl (.inl rfl) (pe_callTy call_tuple_of (by rfl) T.n_tuple (by decide +kernel) (pa_cons (pe_call (G_law_ends.mono (by first | decide | omega)) hr (by rfl) T.g_law_ends T.F_law_ends.kp T.b_law_ends .nil pass0 (pa_cons (pv 3) pa_nil)) pa_nil)))
      (pss_cons (ps_if (pt_cmpR op_ne (pe_call (G_leading.mono (by first | decide | omega)) hr (by rfl) T.g_leading T.F_leading.kp T.b_leading .nil pass0 (pa_cons (pv 3) (pa_cons (pv 13) (pa_cons (pv 7) pa_nil)))) pe_int (nomark _)) (pss_one (ps_ret pe_bl)) pss_nil)
      (pss_one (ps_if (pt_cmpR op_ne (pe_call (G_leading.mono (by first | decide | omega)) hr (by rfl) T.g_leading T.F_leading.kp T.b_leading .nil pass0 (pa_cons (pv 3) (pa_cons (pe_tup (pa_cons (pv 7) (pa_cons (pv 7) pa_nil))) (pa_cons (pv 7) pa_nil)))) (pe_call (G_stands.mono (by first | decide | omega)) hr (by rfl) T.g_stands T.F_stands.kp T.b_stands .nil pass0 (pa_cons (pv 3) pa_nil)) (nomark _)) (pss_one (ps_ret pe_bl)) pss_nil)))))))))))))))))
      (pss_one (ps_ret pe_bl))), ?_⟩
    refine ⟨by show 1 ≤ sizeLine; decide, fun z nz => ⟨.ref a, rfl, z, a, [.int 0], iV ns, rfl, rfl, .inl (.inl upd_same), (same_new nz).seq hS, ?_, fun p np => ⟨8, rfl, p, _, rfl, .inl (.inl upd_same), fun c nc => ?_⟩⟩⟩
    · have : ([V.int 0] ++ iV ns).length ≤ 64 := by simp; omega
      exact Nat.le_of_lt (small1000 (by simp; omega))
    have ecut : cutV ([V.int 0] ++ iV ns) none (some 8) = iV (((0 : Int) :: ns).take 8) := by
      rw [show (some (8 : Int)) = some ((8 : Nat) : Int) from rfl, cut_to]
      show _ = (((0 : Int) :: ns).take 8).map V.int
      rw [List.map_take]
      rfl
    rw [ecut]
    generalize ((0 : Int) :: ns).take 8 = cells
    generalize hHc : upd (upd (upd H z (.lst [.int 0])) p (.lst ([V.int 0] ++ iV ns))) c (.lst (iV cells)) = Hc
    have hc : SqL K Hc c (iV cells) := by
      rw [← hHc]
      exact .inl (.inl upd_same)
    refine ⟨c, rfl, ⟨_, hc⟩, ?_⟩
    refine for_list (K := K) (a := c) (xs := iV cells) (fun i σ H' => Same Hc H' ∧ ∃ y1 y2 y3 y4 y5 y6 y7 y8 y9 y10 y11 y12 y13, σ = [some (.ref a), y1, y2, y3, y4, y5, y6, y7, y8, y9, y10, y11, y12, y13, none])
      ⟨Same.refl Hc, _, _, _, _, _, _, _, _, _, _, _, _, _, rfl⟩ (fun i σ H' _ p => p.1.seq hc) (fun i x σ H' hx p => ?_) (fun σ H' p => ?_)
    · obtain ⟨s0, y1, y2, y3, y4, y5, y6, y7, y8, y9, y10, y11, y12, y13, rfl⟩ := p
      obtain ⟨cell, _, rfl⟩ := List.mem_map.mp (List.mem_of_getElem? hx)
      refine ⟨_, rfl, cell, 7, rfl, by decide, by decide, fun k H1 s1 nk dk1 => ?_⟩
      have sk : Same Hc H1 := s0.trans s1
      have nkc : Hc k = none := s0.free nk
      -- shelf
      refine ⟨.ref k, rfl, .ref k, rfl, by show 3 ≤ sizeLine; decide, fun z2 nz2 => ?_⟩
      have nz2k := dk1.ne nz2
      refine ⟨k, z2, [.int 1, .int 30, .int 400], 999999, rfl, .inl (.inl (off_up nz2k)), by decide, by decide, dk1.same (same_new nz2), fun x H2 hx2 dk2 s2 => ?_⟩
      obtain ⟨pl, rfl, pl0, pl4⟩ : ∃ pl : Int, x = .int pl ∧ 0 ≤ pl ∧ pl ≤ 400 := by
        have : x = .int 1 ∨ x = .int 30 ∨ x = .int 400 := by simpa using hx2
        rcases this with e | e | e
        · exact ⟨1, e, by decide, by decide⟩
        · exact ⟨30, e, by decide, by decide⟩
        · exact ⟨400, e, by decide, by decide⟩
      have o2 : Same (Off k H1) (Off k H2) := (off_new nz2).trans s2
      refine ⟨k, 8, pl, 999979, rfl, by decide, by decide, pl0, pl4, dk2, fun v H3 room ls sh _ _ dk3 s3 hv3 => ?_⟩
      have o3 := o2.trans s3
      have p0 : 0 ≤ room - ls.sum := by have := sh.lo; omega
      have p4 : room - ls.sum ≤ 400 := by have := sh.hi; omega
      obtain ⟨pn, hpl⟩ : ∃ pn : Nat, room - ls.sum = (pn : Int) := ⟨(room - ls.sum).toNat, by omega⟩
      have n1 := sh.n1
      have n8 := sh.n8
      -- many, play
      obtain ⟨ah, bh, rfl, sa3, sb3⟩ := dp_shelf hv3
      have f3 := off_same k H3
      refine ⟨.ref ah, rfl, ah, _, 1, _, rfl, rfl, seqT_mono f3 sa3, atI_nat (j := 1) rfl, bh, _, rfl, .inr (seqT_mono f3 sb3), .ref ah, rfl, .ref ah, room, ls, rfl, Dpm f3 hv3, _, _, rfl, ?_⟩
      rw [iV_len, hpl]
      -- due
      refine ⟨_, rfl, _, rfl, ls.length, pn, rfl, n8, by omega, fun H4 s4 => ?_⟩
      refine ⟨_, rfl, _, rfl, ls.length, pn, rfl, n1, n8, by omega, fun H5 s5 => ?_⟩
      refine ⟨by show 2 ≤ sizeLine; decide, fun z6 nz6 => ?_⟩
      have t6 := same_new (o := .lst [.int (ch (pn + ls.length) ls.length : Nat), .int (dgs pn ls.length)]) nz6
      have hz6 : upd H5 z6 (.lst [.int (ch (pn + ls.length) ls.length : Nat), .int (dgs pn ls.length)]) z6 = some (.lst [.int (ch (pn + ls.length) ls.length : Nat), .int (dgs pn ls.length)]) := upd_same
      have g6 := (s4.trans s5).trans t6
      generalize upd H5 z6 (.lst [.int (ch (pn + ls.length) ls.length : Nat), .int (dgs pn ls.length)]) = H6 at *
      have w6 := f3.trans g6
      refine ⟨.ref ah, rfl, .ref ah, room, ls, rfl, Dpm w6 hv3, sh, fun H7 s7 => ?_⟩
      refine ⟨.ref ah, rfl, .ref ah, room, ls, rfl, Dpm (w6.trans s7) hv3, sh, fun H8 s8 => ?_⟩
      rw [hpl, Int.toNat_natCast]
      have hz8 := s8 _ _ (s7 _ _ hz6)
      refine ⟨by show 2 ≤ sizeLine; decide, fun z9 nz9 => ?_⟩
      have t9 := same_new (o := .lst [.int (ch (pn + ls.length) ls.length : Nat), .int (dgs pn ls.length)]) nz9
      refine ⟨.ref z6, rfl, .ref z9, .ref z6, .list [.int (ch (pn + ls.length) ls.length : Nat), .int (dgs pn ls.length)], rfl, .lst (.inl (.inl upd_same)) (.cons (.int _) (.cons (.int _) .nil)), .lst (.inl (.inl (t9 _ _ hz8))) (.cons (.int _) (.cons (.int _) .nil)), by simp [PyData.depth, PyData.depthAll], fun H10 s10 => ⟨_, rfl, iteF ?_⟩⟩
      have g10 : Same H3 H10 := g6.trans ((s7.trans s8).trans (Same.trans t9 s10))
      have dk10 := dk3.same g10
      have o10 := o3.trans (off_mono g10)
      have hv10 : Dp K (Off k H10) (.ref ah) (shD room ls) := Dpm (off_mono g10) hv3
      have sa10 := seqT_mono (off_mono (k := k) g10) sa3
      have sb10 := seqT_mono (off_mono (k := k) g10) sb3
      -- low, at
      refine ⟨.ref k, rfl, .ref ah, rfl, k, .ref ah, room, ls, 999900, rfl, hv10, sh, dk10.le (by decide), fun u H11 y ri dk11 o11 hu11 => ?_⟩
      obtain ⟨lu, rfl, su11⟩ := dp_tI hu11
      refine ⟨.ref k, rfl, _, rfl, k, _, 999899, rfl, by omega, by omega, dk11, fun at' H12 a0 a1 dk12 o12 => ?_⟩
      obtain ⟨at_, rfl⟩ : ∃ at_ : Nat, at' = (at_ : Int) := ⟨at'.toNat, by omega⟩
      have hat : at_ < ls.length := by omega
      have q12 := o11.trans o12
      have f12 := off_same k H12
      have su12 := seqT_mono o12 su11
      have sa12 := seqT_mono q12 sa10
      have sb12 := seqT_mono q12 sb10
      -- room
      refine ⟨.ref lu, rfl, .ref ah, rfl, ah, _, 0, _, rfl, rfl, seqT_mono f12 sa12, atI_nat (j := 0) rfl, by show 1 ≤ sizeLine; decide, fun t13 nt13 => ?_⟩
      have t13' := same_new (o := .tup [.int room]) nt13
      refine catT (seqT_mono (f12.trans t13') su12) (.inl (.inl upd_same)) (by rw [iV_len, stL_len]; simp; omega) fun p14 H14 s14 sp14 => ?_
      have g14 := t13'.trans s14
      have f14 := f12.trans g14
      refine ⟨_, rfl, _, _, rfl, rfl, p14, _, _, _, rfl, rfl, sp14, at_of (j := at_ + 1) (by omega) (next_get hat), ?_⟩
      refine ⟨.ref ah, rfl, ah, _, 1, _, rfl, rfl, seqT_mono f14 sa12, atI_nat (j := 1) rfl, _, rfl, bh, _, _, _, rfl, rfl, seqT_mono f14 sb12, at_of (j := at_) rfl (iV_get (List.getElem?_eq_getElem hat)), _, _, rfl, rfl, ?_⟩
      have epre := pre_succ hat
      dsimp only
      rw [show nxt ls.length (room - ls.sum) y at_ + pre ls (at_ + 1) - ls[at_] = nxt ls.length (room - ls.sum) y at_ + pre ls at_ from by rw [epre]; omega]
      have dk14 := dk12.same g14
      have o14 : Same (Off k H12) (Off k H14) := off_mono g14
      have su14 := seqT_mono o14 su12
      -- doing
      refine ⟨.ref lu, rfl, .ref lu, rfl, _, rfl, _, rfl, ?_⟩
      refine slT_to (k := at_) (seqT_mono f14 su12) fun p15 H15 s15 sp15 => ?_
      have dk15 := dk14.same s15
      obtain ⟨l15, hk15⟩ := dk15.lst
      have sp15' : SqT K (Off k H15) p15 ((iV (stL ls y)).take at_) := by
        rw [← List.map_take] at sp15 ⊢
        obtain ⟨_, e1, e2⟩ := dp_tI (dp_off hk15 _ _ (noL_tI _) (tI_dp sp15))
        cases e1
        exact e2
      refine ⟨_, rfl, .ref lu, rfl, _, rfl, lu, _, _, _, rfl, rfl, seqT_mono (f14.trans s15) su12, at_of (j := at_) rfl (iV_get (stL_get hat)), .ref k, rfl, k, 9, 999898, rfl, by decide, by decide, dk15, fun r2 H16 r20 r21 dk16 o16 => ?_⟩
      have o15 : Same (Off k H14) (Off k H15) := off_mono s15
      have q16 := (o14.trans o15).trans o16
      have f16 := off_same k H16
      have nn := nxt_ge ri hat
      obtain ⟨d, hd⟩ : ∃ d : Nat, min (nxt ls.length (room - ls.sum) y at_) (y at_ + r2) = y at_ + (d : Int) := ⟨(min (nxt ls.length (room - ls.sum) y at_) (y at_ + r2) - y at_).toNat, by omega⟩
      have d8 : d ≤ 8 := by omega
      have dnx : y at_ + (d : Int) ≤ nxt ls.length (room - ls.sum) y at_ := by omega
      refine ⟨_, _, rfl, rfl, _, _, rfl, by show 1 ≤ sizeLine; decide, fun t17 nt17 => ?_⟩
      rw [show (if y at_ + pre ls at_ + r2 < nxt ls.length (room - ls.sum) y at_ + pre ls at_ then y at_ + pre ls at_ + r2 else nxt ls.length (room - ls.sum) y at_ + pre ls at_) = y at_ + (d : Int) + pre ls at_ from by rw [← hd]; split <;> omega]
      have t17' := same_new (o := .tup [.int (y at_ + (d : Int) + pre ls at_)]) nt17
      refine catT (seqT_mono ((o16.trans f16).trans t17') sp15') (.inl (.inl upd_same)) (by rw [List.length_take, iV_len, stL_len]; simp; omega) fun p18 H18 s18 sp18 => ?_
      have g18 := t17'.trans s18
      have w18 := (q16.trans f16).trans g18
      refine ⟨.ref lu, rfl, _, rfl, _, _, rfl, rfl, _, rfl, ?_⟩
      unfold tNoPart
      refine slT_from (k := at_ + 1) (seqT_mono w18 su12) fun p19 H19 s19 sp19 => ?_
      refine catT (seqT_mono s19 sp18) sp19 (by simp [stL_len]; omega) fun p20 H20 s20 sp20 => ?_
      rw [stL_cut hat] at sp20
      refine ⟨by show 2 ≤ sizeLine; decide, fun t21 nt21 => ?_⟩
      have t21' := same_new (o := .tup [.ref lu, .ref p20]) nt21
      have g21 : Same H16 (upd H20 t21 (.tup [.ref lu, .ref p20])) := g18.trans ((s19.trans s20).trans t21')
      have w21 : Same (Off k H12) (upd H20 t21 (.tup [.ref lu, .ref p20])) := (q16.trans f16).trans g21
      have hlow : Dp K (upd H20 t21 (.tup [.ref lu, .ref p20])) (.ref lu) (tI (stL ls y)) := tI_dp (seqT_mono w21 su12)
      have hdo : Dp K (upd H20 t21 (.tup [.ref lu, .ref p20])) (.ref t21) (dgD ls y (setF y at_ (y at_ + (d : Int)))) := .tup (.inl (.inl upd_same)) (.cons hlow (.cons (tI_dp (seqT_mono t21' sp20)) .nil))
      have hv21 : Dp K (upd H20 t21 (.tup [.ref lu, .ref p20])) (.ref ah) (shD room ls) := Dpm (q12.trans w21) hv10
      have out21 : Same Hc (upd H20 t21 (.tup [.ref lu, .ref p20])) := same_out sk nkc ((o10.trans q12).trans (q16.trans (off_mono g21)))
      generalize upd H20 t21 (.tup [.ref lu, .ref p20]) = H21 at *
      have dok : DoOk ls.length (room - ls.sum) y (setF y at_ (y at_ + (d : Int))) := ⟨ri, set_rise ri hat (by omega) dnx, fun j hj => by
        unfold setF
        by_cases c : j = at_
        · rw [if_pos c, c]; omega
        · rw [if_neg c]; exact Int.le_refl _⟩
      -- between
      have hU : (fun j => setF y at_ (y at_ + (d : Int)) j + pre ls j) at_ = (fun j => y j + pre ls j) at_ + (d : Int) := by
        show setF y at_ (y at_ + (d : Int)) at_ + pre ls at_ = y at_ + pre ls at_ + (d : Int)
        unfold setF
        rw [if_pos rfl]
        omega
      have hU2 : ∀ j, j ≠ at_ → (fun j => setF y at_ (y at_ + (d : Int)) j + pre ls j) j = (fun j => y j + pre ls j) j := fun j hj => by
        show setF y at_ (y at_ + (d : Int)) j + pre ls j = y j + pre ls j
        unfold setF
        rw [if_neg hj]
      have ebt : (bt (fun j => y j + pre ls j) (fun j => setF y at_ (y at_ + (d : Int)) j + pre ls j) ls.length).map tI = (List.range (d + 1)).map fun q : Nat => tI (stL ls (setF y at_ (y at_ + (q : Int)))) := by
        rw [bt_one hU2 hU ls.length hat, List.map_map]
        apply List.map_congr_left
        intro q _
        show tI ((List.range ls.length).map (setF (fun j => y j + pre ls j) at_ (y at_ + pre ls at_ + (q : Int)))) = tI ((List.range ls.length).map fun j => setF y at_ (y at_ + (q : Int)) j + pre ls j)
        rw [show setF (fun j => y j + pre ls j) at_ (y at_ + pre ls at_ + (q : Int)) = fun j => setF y at_ (y at_ + (q : Int)) j + pre ls j from by
          funext j
          unfold setF
          split
          · rename_i c
            rw [c]; omega
          · rfl]
      have preb : ∀ j, j ≤ ls.length → 0 ≤ pre ls j ∧ pre ls j ≤ 50 * (j : Int) := fun j => by
        induction j with
        | zero => intro _; rw [pre_zero]; omega
        | succ j ih =>
          intro hj
          have := ih (by omega)
          rw [pre_succ (by omega)]
          have := sh.l1 ls[j] (List.getElem_mem (by omega))
          omega
      refine ⟨.ref t21, rfl, .ref t21, ls, y, _, rfl, hdo, n8, fun i hi => ?_, fun j hj => ?_, fun p22 H22 vs s22 np22 hp22 al22 => ?_⟩
      · by_cases c : at_ < i
        · rw [bt_one hU2 hU i c]
          simp
          omega
        · rw [bt_low i (fun j hj => hU2 j (by omega))]
          simp
      · have h1 := ri.lo j hj
        have h2 := ri.hi j hj
        have h3 := preb j (by omega)
        unfold setF
        by_cases c : j = at_
        · rw [if_pos c, ← c]
          exact ⟨by omega, by omega, by omega, by omega⟩
        · rw [if_neg c]
          exact ⟨by omega, by omega, by omega, by omega⟩
      rw [ebt] at al22
      have hvl := dpAll_len al22
      rw [List.length_map, List.length_range] at hvl
      have al22' := dpAll_mono (off_same p22 H22) _ _ al22
      have ev : ∀ {i : Nat} {x : V}, vs[i]? = some x → i < d + 1 ∧ Dp K H22 x (tI (stL ls (setF y at_ (y at_ + (i : Int))))) := fun {i x} hx => by
        obtain ⟨dd, e1, e2⟩ := dpAll_get al22' hx
        have hi : i < d + 1 := by
          have := (List.getElem?_eq_some_iff.mp hx).1
          omega
        rw [List.getElem?_map, List.getElem?_range hi] at e1
        cases Option.some.inj e1
        exact ⟨hi, e2⟩
      have rq : ∀ i : Nat, i < d + 1 → Rise ls.length (room - ls.sum) (setF y at_ (y at_ + (i : Int))) := fun i hi => set_rise ri hat (by omega) (by omega)
      -- some
      refine ⟨p22, rfl, ⟨vs, .inl (.inl hp22)⟩, fun D nD => ?_⟩
      have g22 := s22
      refine lc_list (K := K) (a := p22) (xs := vs) (fun i H' => Same H22 H' ∧ H' D = some (.lst (vs.take i))) ⟨same_new nD, upd_same⟩ (fun i H' _ p => .inl (.inl (p.1 _ _ hp22))) (fun i x H23 hx p => ?_) (fun H23 p => ?_)
      · obtain ⟨s23, hD⟩ := p
        obtain ⟨hi, hx22⟩ := ev hx
        refine ⟨rfl, .ref ah, rfl, x, rfl, .ref ah, x, room, ls, _, rfl, Dpm (s22.trans s23) hv21, sh, Dpm s23 hx22, fun H24 s24 => ⟨_, rfl, ?_⟩⟩
        rw [isStand_ok (rq i hi) sh.lo]
        refine iteT ⟨x, rfl, _, s24 _ _ hD, ?_, fun b o hb => ?_, ?_⟩
        · rw [List.length_take]
          exact small1000 (by omega)
        · rw [upd_ne (ne_of_none hb nD)]
          exact s24 _ _ (s23 b o hb)
        · rw [upd_same, List.take_add_one, hx]
          rfl
      · obtain ⟨s23, hD⟩ := p
        rw [List.take_length] at hD
        have w23 := s22.trans s23
        -- parts_so
        refine ⟨.ref D, rfl, D, rfl, ⟨vs, .inl (.inl hD)⟩, fun D2 nD2 => ?_⟩
        refine lc_list (K := K) (a := D) (xs := vs) (fun i H' => Same H23 H' ∧ H' D2 = some (.lst (iV (((List.range (d + 1)).map fun q : Nat => ((leadN ls.length (room - ls.sum) y (setF y at_ (y at_ + (d : Int))) (setF y at_ (y at_ + (q : Int))) : Nat) : Int)).take i)))) ⟨same_new nD2, upd_same⟩ (fun i H' _ p => .inl (.inl (p.1 _ _ hD))) (fun i x H24 hx p => ?_) (fun H24 p => ?_)
        · obtain ⟨s24, hD2⟩ := p
          obtain ⟨hi, hx22⟩ := ev hx
          have w24 := w23.trans s24
          refine ⟨rfl, .ref ah, rfl, .ref t21, rfl, x, rfl, .ref ah, .ref t21, x, room, ls, y, _, _, rfl, Dpm w24 hv21, sh, Dpm w24 hdo, dok, Dpm (s23.trans s24) hx22, rq i hi, fun H25 s25 => ?_⟩
          refine ⟨_, s25 _ _ hD2, ?_, fun b o hb => ?_, ?_⟩
          · rw [List.length_map, List.length_take]
            exact small1000 (by omega)
          · rw [upd_ne (ne_of_none hb nD2)]
            exact s25 _ _ (s24 b o hb)
          · rw [upd_same, List.take_add_one, List.getElem?_map, List.getElem?_range hi]
            simp
        · obtain ⟨s24, hD2⟩ := p
          rw [List.take_of_length_le (by simp; omega)] at hD2
          have w24 := w23.trans s24
          refine ⟨.ref D2, rfl, D2, _, rfl, .inl (.inl hD2), .ref ah, rfl, .ref ah, room, ls, rfl, Dpm w24 hv21, sh, fun H25 s25 => ?_⟩
          have w25 := w24.trans s25
          rw [sum_sumTo, hpl, lead_narrow (by rw [← hpl]; exact ri) hat (by rw [← hpl]; omega), Int.toNat_natCast]
          refine ⟨rfl, _, rfl, ?_⟩
          rw [decide_eq_true (show V.int (ch (pn + ls.length) ls.length : Nat) = V.int (ch (pn + ls.length) ls.length : Nat) from rfl)]
          refine iteF ?_
          -- wide
          refine ⟨.ref ah, rfl, .ref ah, room, ls, rfl, Dpm w25 hv21, n8, fun pe H26 u1 u2 s26 npe hpe hu1 hu2 => ?_⟩
          refine ⟨pe, _, rfl, .inl ⟨.inl (.inl hpe), fun t27 nt27 => ?_⟩⟩
          have t27' := same_new (o := .tup [u1, u2]) nt27
          have hwi : Dp K (upd H26 t27 (.tup [u1, u2])) (.ref t27) (dgD ls (fun _ => 0) (fun _ => room - ls.sum)) := .tup (.inl (.inl upd_same)) (.cons (Dpm t27' hu1) (.cons (Dpm t27' hu2) .nil))
          have w27 := (w25.trans s26).trans t27'
          generalize upd H26 t27 (.tup [u1, u2]) = H27 at *
          have dok3 : DoOk ls.length (room - ls.sum) (fun _ => 0) (fun _ => room - ls.sum) := ⟨rise_const (Int.le_refl 0) p0, rise_const p0 (Int.le_refl _), fun _ _ => p0⟩
          refine ⟨.ref ah, rfl, .ref t27, rfl, .ref lu, rfl, .ref ah, .ref t27, .ref lu, room, ls, _, _, y, rfl, Dpm w27 hv21, sh, hwi, dok3, Dpm w27 hlow, ri, fun H28 s28 => ?_⟩
          rw [hpl, lead_wide (by rw [← hpl]; exact ri)]
          refine ⟨rfl, _, rfl, ?_⟩
          rw [decide_eq_true (show V.int ((1 : Nat) : Int) = V.int 1 from rfl)]
          have w28 := w27.trans s28
          refine iteF ⟨.ref ah, rfl, .ref lu, rfl, .ref lu, rfl, by show 2 ≤ sizeLine; decide, fun t29 nt29 => ?_⟩
          have t29' := same_new (o := .tup [.ref lu, .ref lu]) nt29
          have w29 := w28.trans t29'
          refine ⟨.ref lu, rfl, .ref ah, .ref t29, .ref lu, room, ls, y, y, y, rfl, Dpm w29 hv21, sh, .tup (.inl (.inl upd_same)) (.cons (Dpm w29 hlow) (.cons (Dpm w29 hlow) .nil)), ⟨ri, ri, fun _ _ => Int.le_refl _⟩, Dpm w29 hlow, ri, fun H30 s30 => ?_⟩
          have w30 := w29.trans s30
          rw [hpl, lead_self]
          refine ⟨.ref ah, rfl, .ref ah, room, ls, rfl, Dpm w30 hv21, sh, fun H31 s31 => ?_⟩
          rw [hpl, Int.toNat_natCast]
          refine ⟨rfl, _, rfl, ?_⟩
          rw [decide_eq_true (show V.int (ch (pn + ls.length) ls.length : Nat) = V.int (ch (pn + ls.length) ls.length : Nat) from rfl)]
          exact iteF ⟨out21.trans (w30.trans s31), _, _, _, _, _, _, _, _, _, _, _, _, _, rfl⟩
    · exact q _
end PS

namespace PS
open PySem PySem.Spec PyProof.Rows L2
theorem all_mk {l : PySem.W.OpenLaw} {w : World} {K : PySem.W.Frag} {h : Heap} {mg : Str → Option Value} {fa : Addr} (X : K.In h) (G : h.Ns mainGlobals mg) (hfa : mg "law" = some (.ref fa))
    {f0 : Addr} {od0 an0 : Option Addr} {sl0 : Array (Option Value)} {oc0 kV0 dc0 pm0 cd0 ct0 : Value}
    (a0 : PySem.W.nsIn K mainGlobals "is_whole" = some (some (.ref f0))) (l0 : K.lookup f0 = some ⟨oc0, od0, .func (PySem.W.fnOf "is_whole" "is_whole" (defArgs s_is_whole) (defBody s_is_whole) (defScope s_is_whole) .none kV0 dc0 pm0 an0 cd0 ct0), sl0⟩) (c0 : PySem.W.codeIn K cd0 "is_whole" = true) (k0 : PySem.W.keepIn K (.ref f0) = true)
    {f1 : Addr} {od1 an1 : Option Addr} {sl1 : Array (Option Value)} {oc1 kV1 dc1 pm1 cd1 ct1 : Value}
    (a1 : PySem.W.nsIn K mainGlobals "is_within" = some (some (.ref f1))) (l1 : K.lookup f1 = some ⟨oc1, od1, .func (PySem.W.fnOf "is_within" "is_within" (defArgs s_is_within) (defBody s_is_within) (defScope s_is_within) .none kV1 dc1 pm1 an1 cd1 ct1), sl1⟩) (c1 : PySem.W.codeIn K cd1 "is_within" = true) (k1 : PySem.W.keepIn K (.ref f1) = true)
    {f2 : Addr} {od2 an2 : Option Addr} {sl2 : Array (Option Value)} {oc2 kV2 dc2 pm2 cd2 ct2 : Value}
    (a2 : PySem.W.nsIn K mainGlobals "is_tuple_of" = some (some (.ref f2))) (l2 : K.lookup f2 = some ⟨oc2, od2, .func (PySem.W.fnOf "is_tuple_of" "is_tuple_of" (defArgs s_is_tuple_of) (defBody s_is_tuple_of) (defScope s_is_tuple_of) .none kV2 dc2 pm2 an2 cd2 ct2), sl2⟩) (c2 : PySem.W.codeIn K cd2 "is_tuple_of" = true) (k2 : PySem.W.keepIn K (.ref f2) = true)
    {f3 : Addr} {od3 an3 : Option Addr} {sl3 : Array (Option Value)} {oc3 kV3 dc3 pm3 cd3 ct3 : Value}
    (a3 : PySem.W.nsIn K mainGlobals "are_blocks" = some (some (.ref f3))) (l3 : K.lookup f3 = some ⟨oc3, od3, .func (PySem.W.fnOf "are_blocks" "are_blocks" (defArgs s_are_blocks) (defBody s_are_blocks) (defScope s_are_blocks) .none kV3 dc3 pm3 an3 cd3 ct3), sl3⟩) (c3 : PySem.W.codeIn K cd3 "are_blocks" = true) (k3 : PySem.W.keepIn K (.ref f3) = true)
    {f4 : Addr} {od4 an4 : Option Addr} {sl4 : Array (Option Value)} {oc4 kV4 dc4 pm4 cd4 ct4 : Value}
    (a4 : PySem.W.nsIn K mainGlobals "is_shelf" = some (some (.ref f4))) (l4 : K.lookup f4 = some ⟨oc4, od4, .func (PySem.W.fnOf "is_shelf" "is_shelf" (defArgs s_is_shelf) (defBody s_is_shelf) (defScope s_is_shelf) .none kV4 dc4 pm4 an4 cd4 ct4), sl4⟩) (c4 : PySem.W.codeIn K cd4 "is_shelf" = true) (k4 : PySem.W.keepIn K (.ref f4) = true)
    {f5 : Addr} {od5 an5 : Option Addr} {sl5 : Array (Option Value)} {oc5 kV5 dc5 pm5 cd5 ct5 : Value}
    (a5 : PySem.W.nsIn K mainGlobals "need_shelf" = some (some (.ref f5))) (l5 : K.lookup f5 = some ⟨oc5, od5, .func (PySem.W.fnOf "need_shelf" "need_shelf" (defArgs s_need_shelf) (defBody s_need_shelf) (defScope s_need_shelf) .none kV5 dc5 pm5 an5 cd5 ct5), sl5⟩) (c5 : PySem.W.codeIn K cd5 "need_shelf" = true) (k5 : PySem.W.keepIn K (.ref f5) = true)
    {f6 : Addr} {od6 an6 : Option Addr} {sl6 : Array (Option Value)} {oc6 kV6 dc6 pm6 cd6 ct6 : Value}
    (a6 : PySem.W.nsIn K mainGlobals "play_of" = some (some (.ref f6))) (l6 : K.lookup f6 = some ⟨oc6, od6, .func (PySem.W.fnOf "play_of" "play_of" (defArgs s_play_of) (defBody s_play_of) (defScope s_play_of) .none kV6 dc6 pm6 an6 cd6 ct6), sl6⟩) (c6 : PySem.W.codeIn K cd6 "play_of" = true) (k6 : PySem.W.keepIn K (.ref f6) = true)
    {f7 : Addr} {od7 an7 : Option Addr} {sl7 : Array (Option Value)} {oc7 kV7 dc7 pm7 cd7 ct7 : Value}
    (a7 : PySem.W.nsIn K mainGlobals "gap_length" = some (some (.ref f7))) (l7 : K.lookup f7 = some ⟨oc7, od7, .func (PySem.W.fnOf "gap_length" "gap_length" (defArgs s_gap_length) (defBody s_gap_length) (defScope s_gap_length) .none kV7 dc7 pm7 an7 cd7 ct7), sl7⟩) (c7 : PySem.W.codeIn K cd7 "gap_length" = true) (k7 : PySem.W.keepIn K (.ref f7) = true)
    {f8 : Addr} {od8 an8 : Option Addr} {sl8 : Array (Option Value)} {oc8 kV8 dc8 pm8 cd8 ct8 : Value}
    (a8 : PySem.W.nsIn K mainGlobals "places_of" = some (some (.ref f8))) (l8 : K.lookup f8 = some ⟨oc8, od8, .func (PySem.W.fnOf "places_of" "places_of" (defArgs s_places_of) (defBody s_places_of) (defScope s_places_of) .none kV8 dc8 pm8 an8 cd8 ct8), sl8⟩) (c8 : PySem.W.codeIn K cd8 "places_of" = true) (k8 : PySem.W.keepIn K (.ref f8) = true)
    {f9 : Addr} {od9 an9 : Option Addr} {sl9 : Array (Option Value)} {oc9 kV9 dc9 pm9 cd9 ct9 : Value}
    (a9 : PySem.W.nsIn K mainGlobals "is_stand" = some (some (.ref f9))) (l9 : K.lookup f9 = some ⟨oc9, od9, .func (PySem.W.fnOf "is_stand" "is_stand" (defArgs s_is_stand) (defBody s_is_stand) (defScope s_is_stand) .none kV9 dc9 pm9 an9 cd9 ct9), sl9⟩) (c9 : PySem.W.codeIn K cd9 "is_stand" = true) (k9 : PySem.W.keepIn K (.ref f9) = true)
    {f10 : Addr} {od10 an10 : Option Addr} {sl10 : Array (Option Value)} {oc10 kV10 dc10 pm10 cd10 ct10 : Value}
    (a10 : PySem.W.nsIn K mainGlobals "need_stand" = some (some (.ref f10))) (l10 : K.lookup f10 = some ⟨oc10, od10, .func (PySem.W.fnOf "need_stand" "need_stand" (defArgs s_need_stand) (defBody s_need_stand) (defScope s_need_stand) .none kV10 dc10 pm10 an10 cd10 ct10), sl10⟩) (c10 : PySem.W.codeIn K cd10 "need_stand" = true) (k10 : PySem.W.keepIn K (.ref f10) = true)
    {f11 : Addr} {od11 an11 : Option Addr} {sl11 : Array (Option Value)} {oc11 kV11 dc11 pm11 cd11 ct11 : Value}
    (a11 : PySem.W.nsIn K mainGlobals "is_doing" = some (some (.ref f11))) (l11 : K.lookup f11 = some ⟨oc11, od11, .func (PySem.W.fnOf "is_doing" "is_doing" (defArgs s_is_doing) (defBody s_is_doing) (defScope s_is_doing) .none kV11 dc11 pm11 an11 cd11 ct11), sl11⟩) (c11 : PySem.W.codeIn K cd11 "is_doing" = true) (k11 : PySem.W.keepIn K (.ref f11) = true)
    {f12 : Addr} {od12 an12 : Option Addr} {sl12 : Array (Option Value)} {oc12 kV12 dc12 pm12 cd12 ct12 : Value}
    (a12 : PySem.W.nsIn K mainGlobals "need_doing" = some (some (.ref f12))) (l12 : K.lookup f12 = some ⟨oc12, od12, .func (PySem.W.fnOf "need_doing" "need_doing" (defArgs s_need_doing) (defBody s_need_doing) (defScope s_need_doing) .none kV12 dc12 pm12 an12 cd12 ct12), sl12⟩) (c12 : PySem.W.codeIn K cd12 "need_doing" = true) (k12 : PySem.W.keepIn K (.ref f12) = true)
    {f13 : Addr} {od13 an13 : Option Addr} {sl13 : Array (Option Value)} {oc13 kV13 dc13 pm13 cd13 ct13 : Value}
    (a13 : PySem.W.nsIn K mainGlobals "choices" = some (some (.ref f13))) (l13 : K.lookup f13 = some ⟨oc13, od13, .func (PySem.W.fnOf "choices" "choices" (defArgs s_choices) (defBody s_choices) (defScope s_choices) .none kV13 dc13 pm13 an13 cd13 ct13), sl13⟩) (c13 : PySem.W.codeIn K cd13 "choices" = true) (k13 : PySem.W.keepIn K (.ref f13) = true)
    {f14 : Addr} {od14 an14 : Option Addr} {sl14 : Array (Option Value)} {oc14 kV14 dc14 pm14 cd14 ct14 : Value}
    (a14 : PySem.W.nsIn K mainGlobals "stands" = some (some (.ref f14))) (l14 : K.lookup f14 = some ⟨oc14, od14, .func (PySem.W.fnOf "stands" "stands" (defArgs s_stands) (defBody s_stands) (defScope s_stands) .none kV14 dc14 pm14 an14 cd14 ct14), sl14⟩) (c14 : PySem.W.codeIn K cd14 "stands" = true) (k14 : PySem.W.keepIn K (.ref f14) = true)
    {f15 : Addr} {od15 an15 : Option Addr} {sl15 : Array (Option Value)} {oc15 kV15 dc15 pm15 cd15 ct15 : Value}
    (a15 : PySem.W.nsIn K mainGlobals "doings" = some (some (.ref f15))) (l15 : K.lookup f15 = some ⟨oc15, od15, .func (PySem.W.fnOf "doings" "doings" (defArgs s_doings) (defBody s_doings) (defScope s_doings) .none kV15 dc15 pm15 an15 cd15 ct15), sl15⟩) (c15 : PySem.W.codeIn K cd15 "doings" = true) (k15 : PySem.W.keepIn K (.ref f15) = true)
    {f16 : Addr} {od16 an16 : Option Addr} {sl16 : Array (Option Value)} {oc16 kV16 dc16 pm16 cd16 ct16 : Value}
    (a16 : PySem.W.nsIn K mainGlobals "sources" = some (some (.ref f16))) (l16 : K.lookup f16 = some ⟨oc16, od16, .func (PySem.W.fnOf "sources" "sources" (defArgs s_sources) (defBody s_sources) (defScope s_sources) .none kV16 dc16 pm16 an16 cd16 ct16), sl16⟩) (c16 : PySem.W.codeIn K cd16 "sources" = true) (k16 : PySem.W.keepIn K (.ref f16) = true)
    {f17 : Addr} {od17 an17 : Option Addr} {sl17 : Array (Option Value)} {oc17 kV17 dc17 pm17 cd17 ct17 : Value}
    (a17 : PySem.W.nsIn K mainGlobals "with_next_block" = some (some (.ref f17))) (l17 : K.lookup f17 = some ⟨oc17, od17, .func (PySem.W.fnOf "with_next_block" "with_next_block" (defArgs s_with_next_block) (defBody s_with_next_block) (defScope s_with_next_block) .none kV17 dc17 pm17 an17 cd17 ct17), sl17⟩) (c17 : PySem.W.codeIn K cd17 "with_next_block" = true) (k17 : PySem.W.keepIn K (.ref f17) = true)
    {f18 : Addr} {od18 an18 : Option Addr} {sl18 : Array (Option Value)} {oc18 kV18 dc18 pm18 cd18 ct18 : Value}
    (a18 : PySem.W.nsIn K mainGlobals "leading" = some (some (.ref f18))) (l18 : K.lookup f18 = some ⟨oc18, od18, .func (PySem.W.fnOf "leading" "leading" (defArgs s_leading) (defBody s_leading) (defScope s_leading) .none kV18 dc18 pm18 an18 cd18 ct18), sl18⟩) (c18 : PySem.W.codeIn K cd18 "leading" = true) (k18 : PySem.W.keepIn K (.ref f18) = true)
    {f19 : Addr} {od19 an19 : Option Addr} {sl19 : Array (Option Value)} {oc19 kV19 dc19 pm19 cd19 ct19 : Value}
    (a19 : PySem.W.nsIn K mainGlobals "_law_deck" = some (some (.ref f19))) (l19 : K.lookup f19 = some ⟨oc19, od19, .func (PySem.W.fnOf "_law_deck" "_law_deck" (defArgs s_law_deck) (defBody s_law_deck) (defScope s_law_deck) .none kV19 dc19 pm19 an19 cd19 ct19), sl19⟩) (c19 : PySem.W.codeIn K cd19 "_law_deck" = true) (k19 : PySem.W.keepIn K (.ref f19) = true)
    {f20 : Addr} {od20 an20 : Option Addr} {sl20 : Array (Option Value)} {oc20 kV20 dc20 pm20 cd20 ct20 : Value}
    (a20 : PySem.W.nsIn K mainGlobals "_law_pick" = some (some (.ref f20))) (l20 : K.lookup f20 = some ⟨oc20, od20, .func (PySem.W.fnOf "_law_pick" "_law_pick" (defArgs s_law_pick) (defBody s_law_pick) (defScope s_law_pick) .none kV20 dc20 pm20 an20 cd20 ct20), sl20⟩) (c20 : PySem.W.codeIn K cd20 "_law_pick" = true) (k20 : PySem.W.keepIn K (.ref f20) = true)
    {f21 : Addr} {od21 an21 : Option Addr} {sl21 : Array (Option Value)} {oc21 kV21 dc21 pm21 cd21 ct21 : Value}
    (a21 : PySem.W.nsIn K mainGlobals "_law_whole" = some (some (.ref f21))) (l21 : K.lookup f21 = some ⟨oc21, od21, .func (PySem.W.fnOf "_law_whole" "_law_whole" (defArgs s_law_whole) (defBody s_law_whole) (defScope s_law_whole) .none kV21 dc21 pm21 an21 cd21 ct21), sl21⟩) (c21 : PySem.W.codeIn K cd21 "_law_whole" = true) (k21 : PySem.W.keepIn K (.ref f21) = true)
    {f22 : Addr} {od22 an22 : Option Addr} {sl22 : Array (Option Value)} {oc22 kV22 dc22 pm22 cd22 ct22 : Value}
    (a22 : PySem.W.nsIn K mainGlobals "_law_one" = some (some (.ref f22))) (l22 : K.lookup f22 = some ⟨oc22, od22, .func (PySem.W.fnOf "_law_one" "_law_one" (defArgs s_law_one) (defBody s_law_one) (defScope s_law_one) .none kV22 dc22 pm22 an22 cd22 ct22), sl22⟩) (c22 : PySem.W.codeIn K cd22 "_law_one" = true) (k22 : PySem.W.keepIn K (.ref f22) = true)
    {f23 : Addr} {od23 an23 : Option Addr} {sl23 : Array (Option Value)} {oc23 kV23 dc23 pm23 cd23 ct23 : Value}
    (a23 : PySem.W.nsIn K mainGlobals "_law_sort" = some (some (.ref f23))) (l23 : K.lookup f23 = some ⟨oc23, od23, .func (PySem.W.fnOf "_law_sort" "_law_sort" (defArgs s_law_sort) (defBody s_law_sort) (defScope s_law_sort) .none kV23 dc23 pm23 an23 cd23 ct23), sl23⟩) (c23 : PySem.W.codeIn K cd23 "_law_sort" = true) (k23 : PySem.W.keepIn K (.ref f23) = true)
    {f24 : Addr} {od24 an24 : Option Addr} {sl24 : Array (Option Value)} {oc24 kV24 dc24 pm24 cd24 ct24 : Value}
    (a24 : PySem.W.nsIn K mainGlobals "_law_same" = some (some (.ref f24))) (l24 : K.lookup f24 = some ⟨oc24, od24, .func (PySem.W.fnOf "_law_same" "_law_same" (defArgs s_law_same) (defBody s_law_same) (defScope s_law_same) .none kV24 dc24 pm24 an24 cd24 ct24), sl24⟩) (c24 : PySem.W.codeIn K cd24 "_law_same" = true) (k24 : PySem.W.keepIn K (.ref f24) = true)
    {f25 : Addr} {od25 an25 : Option Addr} {sl25 : Array (Option Value)} {oc25 kV25 dc25 pm25 cd25 ct25 : Value}
    (a25 : PySem.W.nsIn K mainGlobals "_law_shelf" = some (some (.ref f25))) (l25 : K.lookup f25 = some ⟨oc25, od25, .func (PySem.W.fnOf "_law_shelf" "_law_shelf" (defArgs s_law_shelf) (defBody s_law_shelf) (defScope s_law_shelf) .none kV25 dc25 pm25 an25 cd25 ct25), sl25⟩) (c25 : PySem.W.codeIn K cd25 "_law_shelf" = true) (k25 : PySem.W.keepIn K (.ref f25) = true)
    {f26 : Addr} {od26 an26 : Option Addr} {sl26 : Array (Option Value)} {oc26 kV26 dc26 pm26 cd26 ct26 : Value}
    (a26 : PySem.W.nsIn K mainGlobals "_law_play" = some (some (.ref f26))) (l26 : K.lookup f26 = some ⟨oc26, od26, .func (PySem.W.fnOf "_law_play" "_law_play" (defArgs s_law_play) (defBody s_law_play) (defScope s_law_play) .none kV26 dc26 pm26 an26 cd26 ct26), sl26⟩) (c26 : PySem.W.codeIn K cd26 "_law_play" = true) (k26 : PySem.W.keepIn K (.ref f26) = true)
    {f27 : Addr} {od27 an27 : Option Addr} {sl27 : Array (Option Value)} {oc27 kV27 dc27 pm27 cd27 ct27 : Value}
    (a27 : PySem.W.nsIn K mainGlobals "_law_stand_of" = some (some (.ref f27))) (l27 : K.lookup f27 = some ⟨oc27, od27, .func (PySem.W.fnOf "_law_stand_of" "_law_stand_of" (defArgs s_law_stand_of) (defBody s_law_stand_of) (defScope s_law_stand_of) .none kV27 dc27 pm27 an27 cd27 ct27), sl27⟩) (c27 : PySem.W.codeIn K cd27 "_law_stand_of" = true) (k27 : PySem.W.keepIn K (.ref f27) = true)
    {f28 : Addr} {od28 an28 : Option Addr} {sl28 : Array (Option Value)} {oc28 kV28 dc28 pm28 cd28 ct28 : Value}
    (a28 : PySem.W.nsIn K mainGlobals "_law_stand" = some (some (.ref f28))) (l28 : K.lookup f28 = some ⟨oc28, od28, .func (PySem.W.fnOf "_law_stand" "_law_stand" (defArgs s_law_stand) (defBody s_law_stand) (defScope s_law_stand) .none kV28 dc28 pm28 an28 cd28 ct28), sl28⟩) (c28 : PySem.W.codeIn K cd28 "_law_stand" = true) (k28 : PySem.W.keepIn K (.ref f28) = true)
    {f29 : Addr} {od29 an29 : Option Addr} {sl29 : Array (Option Value)} {oc29 kV29 dc29 pm29 cd29 ct29 : Value}
    (a29 : PySem.W.nsIn K mainGlobals "_law_ends" = some (some (.ref f29))) (l29 : K.lookup f29 = some ⟨oc29, od29, .func (PySem.W.fnOf "_law_ends" "_law_ends" (defArgs s_law_ends) (defBody s_law_ends) (defScope s_law_ends) .none kV29 dc29 pm29 an29 cd29 ct29), sl29⟩) (c29 : PySem.W.codeIn K cd29 "_law_ends" = true) (k29 : PySem.W.keepIn K (.ref f29) = true)
    {f30 : Addr} {od30 an30 : Option Addr} {sl30 : Array (Option Value)} {oc30 kV30 dc30 pm30 cd30 ct30 : Value}
    (a30 : PySem.W.nsIn K mainGlobals "_law_is_stand" = some (some (.ref f30))) (l30 : K.lookup f30 = some ⟨oc30, od30, .func (PySem.W.fnOf "_law_is_stand" "_law_is_stand" (defArgs s_law_is_stand) (defBody s_law_is_stand) (defScope s_law_is_stand) .none kV30 dc30 pm30 an30 cd30 ct30), sl30⟩) (c30 : PySem.W.codeIn K cd30 "_law_is_stand" = true) (k30 : PySem.W.keepIn K (.ref f30) = true)
    {f31 : Addr} {od31 an31 : Option Addr} {sl31 : Array (Option Value)} {oc31 kV31 dc31 pm31 cd31 ct31 : Value}
    (a31 : PySem.W.nsIn K mainGlobals "_law_boxes" = some (some (.ref f31))) (l31 : K.lookup f31 = some ⟨oc31, od31, .func (PySem.W.fnOf "_law_boxes" "_law_boxes" (defArgs s_law_boxes) (defBody s_law_boxes) (defScope s_law_boxes) .none kV31 dc31 pm31 an31 cd31 ct31), sl31⟩) (c31 : PySem.W.codeIn K cd31 "_law_boxes" = true) (k31 : PySem.W.keepIn K (.ref f31) = true)
    {f32 : Addr} {od32 an32 : Option Addr} {sl32 : Array (Option Value)} {oc32 kV32 dc32 pm32 cd32 ct32 : Value}
    (a32 : PySem.W.nsIn K mainGlobals "_law_rising" = some (some (.ref f32))) (l32 : K.lookup f32 = some ⟨oc32, od32, .func (PySem.W.fnOf "_law_rising" "_law_rising" (defArgs s_law_rising) (defBody s_law_rising) (defScope s_law_rising) .none kV32 dc32 pm32 an32 cd32 ct32), sl32⟩) (c32 : PySem.W.codeIn K cd32 "_law_rising" = true) (k32 : PySem.W.keepIn K (.ref f32) = true)
    {f33 : Addr} {od33 an33 : Option Addr} {sl33 : Array (Option Value)} {oc33 kV33 dc33 pm33 cd33 ct33 : Value}
    (a33 : PySem.W.nsIn K mainGlobals "_law_between" = some (some (.ref f33))) (l33 : K.lookup f33 = some ⟨oc33, od33, .func (PySem.W.fnOf "_law_between" "_law_between" (defArgs s_law_between) (defBody s_law_between) (defScope s_law_between) .none kV33 dc33 pm33 an33 cd33 ct33), sl33⟩) (c33 : PySem.W.codeIn K cd33 "_law_between" = true) (k33 : PySem.W.keepIn K (.ref f33) = true)
    {f34 : Addr} {od34 an34 : Option Addr} {sl34 : Array (Option Value)} {oc34 kV34 dc34 pm34 cd34 ct34 : Value}
    (a34 : PySem.W.nsIn K mainGlobals "law" = some (some (.ref f34))) (l34 : K.lookup f34 = some ⟨oc34, od34, .func (PySem.W.fnOf "law" "law" (defArgs s_law) (defBody s_law) (defScope s_law) .none kV34 dc34 pm34 an34 cd34 ct34), sl34⟩) (c34 : PySem.W.codeIn K cd34 "law" = true) (k34 : PySem.W.keepIn K (.ref f34) = true)
    (z_all : PySem.W.nsIn K mainGlobals "all" = some none)
    (z_bool : PySem.W.nsIn K mainGlobals "bool" = some none)
    (z_enumerate : PySem.W.nsIn K mainGlobals "enumerate" = some none)
    (z_int : PySem.W.nsIn K mainGlobals "int" = some none)
    (z_isinstance : PySem.W.nsIn K mainGlobals "isinstance" = some none)
    (z_len : PySem.W.nsIn K mainGlobals "len" = some none)
    (z_list : PySem.W.nsIn K mainGlobals "list" = some none)
    (z_min : PySem.W.nsIn K mainGlobals "min" = some none)
    (z_range : PySem.W.nsIn K mainGlobals "range" = some none)
    (z_sorted : PySem.W.nsIn K mainGlobals "sorted" = some none)
    (z_str : PySem.W.nsIn K mainGlobals "str" = some none)
    (z_sum : PySem.W.nsIn K mainGlobals "sum" = some none)
    (z_tuple : PySem.W.nsIn K mainGlobals "tuple" = some none)
    (z_zip : PySem.W.nsIn K mainGlobals "zip" = some none)
    {t_MOST_BLOCKS : Tok} (v_MOST_BLOCKS : PySem.W.nsIn K mainGlobals "MOST_BLOCKS" = some (some (.int 8 t_MOST_BLOCKS)))
    {t_MOST_LENGTH : Tok} (v_MOST_LENGTH : PySem.W.nsIn K mainGlobals "MOST_LENGTH" = some (some (.int 50 t_MOST_LENGTH)))
    {t_MOST_PLAY : Tok} (v_MOST_PLAY : PySem.W.nsIn K mainGlobals "MOST_PLAY" = some (some (.int 400 t_MOST_PLAY)))
    : ∃ fd : FuncData, (∀ (s : Shared) (v : Value), BindsTo s fd ⟨[v], []⟩ [("script", v)]) ∧ ∀ base : Heap, K.In base → base.Ns mainGlobals mg → FnOk l.prog w K mg base CX0 10 fa fd ["script"] (sp_law K) := by
  have e := hfa.symm.trans (PySem.W.mg_of X G a34)
  cases e
  have T : Tx K mg := {
    F_is_whole := fun_mk (st := s_is_whole) l0 c0 k0
    g_is_whole := PySem.W.mg_of X G a0
    F_is_within := fun_mk (st := s_is_within) l1 c1 k1
    g_is_within := PySem.W.mg_of X G a1
    F_is_tuple_of := fun_mk (st := s_is_tuple_of) l2 c2 k2
    g_is_tuple_of := PySem.W.mg_of X G a2
    F_are_blocks := fun_mk (st := s_are_blocks) l3 c3 k3
    g_are_blocks := PySem.W.mg_of X G a3
    F_is_shelf := fun_mk (st := s_is_shelf) l4 c4 k4
    g_is_shelf := PySem.W.mg_of X G a4
    F_need_shelf := fun_mk (st := s_need_shelf) l5 c5 k5
    g_need_shelf := PySem.W.mg_of X G a5
    F_play_of := fun_mk (st := s_play_of) l6 c6 k6
    g_play_of := PySem.W.mg_of X G a6
    F_gap_length := fun_mk (st := s_gap_length) l7 c7 k7
    g_gap_length := PySem.W.mg_of X G a7
    F_places_of := fun_mk (st := s_places_of) l8 c8 k8
    g_places_of := PySem.W.mg_of X G a8
    F_is_stand := fun_mk (st := s_is_stand) l9 c9 k9
    g_is_stand := PySem.W.mg_of X G a9
    F_need_stand := fun_mk (st := s_need_stand) l10 c10 k10
    g_need_stand := PySem.W.mg_of X G a10
    F_is_doing := fun_mk (st := s_is_doing) l11 c11 k11
    g_is_doing := PySem.W.mg_of X G a11
    F_need_doing := fun_mk (st := s_need_doing) l12 c12 k12
    g_need_doing := PySem.W.mg_of X G a12
    F_choices := fun_mk (st := s_choices) l13 c13 k13
    g_choices := PySem.W.mg_of X G a13
    F_stands := fun_mk (st := s_stands) l14 c14 k14
    g_stands := PySem.W.mg_of X G a14
    F_doings := fun_mk (st := s_doings) l15 c15 k15
    g_doings := PySem.W.mg_of X G a15
    F_sources := fun_mk (st := s_sources) l16 c16 k16
    g_sources := PySem.W.mg_of X G a16
    F_with_next_block := fun_mk (st := s_with_next_block) l17 c17 k17
    g_with_next_block := PySem.W.mg_of X G a17
    F_leading := fun_mk (st := s_leading) l18 c18 k18
    g_leading := PySem.W.mg_of X G a18
    F_law_deck := fun_mk (st := s_law_deck) l19 c19 k19
    g_law_deck := PySem.W.mg_of X G a19
    F_law_pick := fun_mk (st := s_law_pick) l20 c20 k20
    g_law_pick := PySem.W.mg_of X G a20
    F_law_whole := fun_mk (st := s_law_whole) l21 c21 k21
    g_law_whole := PySem.W.mg_of X G a21
    F_law_one := fun_mk (st := s_law_one) l22 c22 k22
    g_law_one := PySem.W.mg_of X G a22
    F_law_sort := fun_mk (st := s_law_sort) l23 c23 k23
    g_law_sort := PySem.W.mg_of X G a23
    F_law_same := fun_mk (st := s_law_same) l24 c24 k24
    g_law_same := PySem.W.mg_of X G a24
    F_law_shelf := fun_mk (st := s_law_shelf) l25 c25 k25
    g_law_shelf := PySem.W.mg_of X G a25
    F_law_play := fun_mk (st := s_law_play) l26 c26 k26
    g_law_play := PySem.W.mg_of X G a26
    F_law_stand_of := fun_mk (st := s_law_stand_of) l27 c27 k27
    g_law_stand_of := PySem.W.mg_of X G a27
    F_law_stand := fun_mk (st := s_law_stand) l28 c28 k28
    g_law_stand := PySem.W.mg_of X G a28
    F_law_ends := fun_mk (st := s_law_ends) l29 c29 k29
    g_law_ends := PySem.W.mg_of X G a29
    F_law_is_stand := fun_mk (st := s_law_is_stand) l30 c30 k30
    g_law_is_stand := PySem.W.mg_of X G a30
    F_law_boxes := fun_mk (st := s_law_boxes) l31 c31 k31
    g_law_boxes := PySem.W.mg_of X G a31
    F_law_rising := fun_mk (st := s_law_rising) l32 c32 k32
    g_law_rising := PySem.W.mg_of X G a32
    F_law_between := fun_mk (st := s_law_between) l33 c33 k33
    g_law_between := PySem.W.mg_of X G a33
    n_all := PySem.W.mg_none_of X G z_all
    n_bool := PySem.W.mg_none_of X G z_bool
    n_enumerate := PySem.W.mg_none_of X G z_enumerate
    n_int := PySem.W.mg_none_of X G z_int
    n_isinstance := PySem.W.mg_none_of X G z_isinstance
    n_len := PySem.W.mg_none_of X G z_len
    n_list := PySem.W.mg_none_of X G z_list
    n_min := PySem.W.mg_none_of X G z_min
    n_range := PySem.W.mg_none_of X G z_range
    n_sorted := PySem.W.mg_none_of X G z_sorted
    n_str := PySem.W.mg_none_of X G z_str
    n_sum := PySem.W.mg_none_of X G z_sum
    n_tuple := PySem.W.mg_none_of X G z_tuple
    n_zip := PySem.W.mg_none_of X G z_zip
    c_MOST_BLOCKS := ⟨⟨_, rfl⟩, PySem.W.mg_of X G v_MOST_BLOCKS⟩
    c_MOST_LENGTH := ⟨⟨_, rfl⟩, PySem.W.mg_of X G v_MOST_LENGTH⟩
    c_MOST_PLAY := ⟨⟨_, rfl⟩, PySem.W.mg_of X G v_MOST_PLAY⟩ }
  exact ⟨PySem.W.fnOf "law" "law" (defArgs s_law) (defBody s_law) (defScope s_law) .none kV34 dc34 pm34 an34 cd34 ct34, fun s v => .of_eq rfl, fun base _ _ => ok_law (fun_mk (st := s_law) l34 c34 k34) T⟩
end PS
open PySem PySem.W PyProof.Rows
set_option maxHeartbeats 0 in
theorem PySem.Challenge.cw_pushshelf_k07_whole_counted_at_any_size_holds : PySem.Challenge.rw_pushshelf_k07_whole_counted_at_any_size.Holds := by
  w_on; o_law; k_head; (case hw => w_witness2)
  k_fill
  refine L2.walk_of (l := PySem.Challenge.rw_pushshelf_k07_whole_counted_at_any_size) (n := 63) (k := 10) (x := "script") (CX := fun _ => L2.CX0) (sp := fun w => PS.sp_law _) rfl (by decide) rfl ⟨rfl, by decide, by decide⟩ (fun w h Y => PySem.W.kIn_of Y) ?F (fun _ _ a ns hl _ hS => ⟨a, ns, rfl, hS, hl, fun _ => rfl⟩) (fun _ _ _ _ _ h => h)
  case F =>
    intro w mg fa h KX G hmg
    refine' PS.all_mk KX G hmg ?a0 ?l0 ?c0 ?k0 ?a1 ?l1 ?c1 ?k1 ?a2 ?l2 ?c2 ?k2 ?a3 ?l3 ?c3 ?k3 ?a4 ?l4 ?c4 ?k4 ?a5 ?l5 ?c5 ?k5 ?a6 ?l6 ?c6 ?k6 ?a7 ?l7 ?c7 ?k7 ?a8 ?l8 ?c8 ?k8 ?a9 ?l9 ?c9 ?k9 ?a10 ?l10 ?c10 ?k10 ?a11 ?l11 ?c11 ?k11 ?a12 ?l12 ?c12 ?k12 ?a13 ?l13 ?c13 ?k13 ?a14 ?l14 ?c14 ?k14 ?a15 ?l15 ?c15 ?k15 ?a16 ?l16 ?c16 ?k16 ?a17 ?l17 ?c17 ?k17 ?a18 ?l18 ?c18 ?k18 ?a19 ?l19 ?c19 ?k19 ?a20 ?l20 ?c20 ?k20 ?a21 ?l21 ?c21 ?k21 ?a22 ?l22 ?c22 ?k22 ?a23 ?l23 ?c23 ?k23 ?a24 ?l24 ?c24 ?k24 ?a25 ?l25 ?c25 ?k25 ?a26 ?l26 ?c26 ?k26 ?a27 ?l27 ?c27 ?k27 ?a28 ?l28 ?c28 ?k28 ?a29 ?l29 ?c29 ?k29 ?a30 ?l30 ?c30 ?k30 ?a31 ?l31 ?c31 ?k31 ?a32 ?l32 ?c32 ?k32 ?a33 ?l33 ?c33 ?k33 ?a34 ?l34 ?c34 ?k34 ?z_all ?z_bool ?z_enumerate ?z_int ?z_isinstance ?z_len ?z_list ?z_min ?z_range ?z_sorted ?z_str ?z_sum ?z_tuple ?z_zip ?v_MOST_BLOCKS ?v_MOST_LENGTH ?v_MOST_PLAY
    (case a0 => k_is); (case l0 => k_is); (case c0 => k_is); (case k0 => k_is); (case a1 => k_is); (case l1 => k_is); (case c1 => k_is); (case k1 => k_is); (case a2 => k_is); (case l2 => k_is); (case c2 => k_is); (case k2 => k_is); (case a3 => k_is); (case l3 => k_is); (case c3 => k_is); (case k3 => k_is); (case a4 => k_is); (case l4 => k_is); (case c4 => k_is); (case k4 => k_is); (case a5 => k_is); (case l5 => k_is); (case c5 => k_is); (case k5 => k_is); (case a6 => k_is); (case l6 => k_is); (case c6 => k_is); (case k6 => k_is); (case a7 => k_is); (case l7 => k_is); (case c7 => k_is); (case k7 => k_is); (case a8 => k_is); (case l8 => k_is); (case c8 => k_is); (case k8 => k_is); (case a9 => k_is); (case l9 => k_is); (case c9 => k_is); (case k9 => k_is); (case a10 => k_is); (case l10 => k_is); (case c10 => k_is); (case k10 => k_is); (case a11 => k_is); (case l11 => k_is); (case c11 => k_is); (case k11 => k_is); (case a12 => k_is); (case l12 => k_is); (case c12 => k_is); (case k12 => k_is); (case a13 => k_is); (case l13 => k_is); (case c13 => k_is); (case k13 => k_is); (case a14 => k_is); (case l14 => k_is); (case c14 => k_is); (case k14 => k_is); (case a15 => k_is); (case l15 => k_is); (case c15 => k_is); (case k15 => k_is); (case a16 => k_is); (case l16 => k_is); (case c16 => k_is); (case k16 => k_is); (case a17 => k_is); (case l17 => k_is); (case c17 => k_is); (case k17 => k_is); (case a18 => k_is); (case l18 => k_is); (case c18 => k_is); (case k18 => k_is); (case a19 => k_is); (case l19 => k_is); (case c19 => k_is); (case k19 => k_is); (case a20 => k_is); (case l20 => k_is); (case c20 => k_is); (case k20 => k_is); (case a21 => k_is); (case l21 => k_is); (case c21 => k_is); (case k21 => k_is); (case a22 => k_is); (case l22 => k_is); (case c22 => k_is); (case k22 => k_is); (case a23 => k_is); (case l23 => k_is); (case c23 => k_is); (case k23 => k_is); (case a24 => k_is); (case l24 => k_is); (case c24 => k_is); (case k24 => k_is); (case a25 => k_is); (case l25 => k_is); (case c25 => k_is); (case k25 => k_is); (case a26 => k_is); (case l26 => k_is); (case c26 => k_is); (case k26 => k_is); (case a27 => k_is); (case l27 => k_is); (case c27 => k_is); (case k27 => k_is); (case a28 => k_is); (case l28 => k_is); (case c28 => k_is); (case k28 => k_is); (case a29 => k_is); (case l29 => k_is); (case c29 => k_is); (case k29 => k_is); (case a30 => k_is); (case l30 => k_is); (case c30 => k_is); (case k30 => k_is); (case a31 => k_is); (case l31 => k_is); (case c31 => k_is); (case k31 => k_is); (case a32 => k_is); (case l32 => k_is); (case c32 => k_is); (case k32 => k_is); (case a33 => k_is); (case l33 => k_is); (case c33 => k_is); (case k33 => k_is); (case a34 => k_is); (case l34 => k_is); (case c34 => k_is); (case k34 => k_is); (case z_all => k_is); (case z_bool => k_is); (case z_enumerate => k_is); (case z_int => k_is); (case z_isinstance => k_is); (case z_len => k_is); (case z_list => k_is); (case z_min => k_is); (case z_range => k_is); (case z_sorted => k_is); (case z_str => k_is); (case z_sum => k_is); (case z_tuple => k_is); (case z_zip => k_is); (case v_MOST_BLOCKS => k_is); (case v_MOST_LENGTH => k_is); (case v_MOST_PLAY => k_is)



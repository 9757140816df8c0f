import PyProof.Rows.All
import Wide.All
import OpenK.AllK
import Wide.FinOn
import HandS.ForMost
import HandS.IsInst
import HandS.TupAny
import HandS.RevRange
import HandS.Walk
import HandS.Zip
import HandS.SortInts
import KE.GoesNew
import KE.DataEq
import HandS.Style
import PyProof.Rows.IntBool
import HandS.Deep
import KE.DataMinKey
import HandS.SortKw
import HandS.Conv
import HandS.SetFor
import HandS.Codes
import PySem.Challenge.RW_pushshelf_k09_whole_shortest_rows
set_option Elab.async false
set_option linter.all false
set_option maxRecDepth 100000
set_option maxHeartbeats 8000000
namespace PS
open PySem PySem.Spec PyProof.Rows L2

/-! ### lists and tuples at once -/
def SqK (b : Bool) (K : PySem.W.Frag) (H : Hp) (a : Addr) (xs : List V) : Prop := match b with
  | true => SqL K H a xs
  | false => SqT K H a xs
def IsK (b : Bool) (h : Heap) (a : Addr) (its : Array Value) : Prop := match b with
  | true => h.IsList a its
  | false => h.IsTuple a its
def ItK (b : Bool) (h : Heap) (it a : Addr) (i : Nat) : Prop := match b with
  | true => h.IsListIter it a i
  | false => h.IsTupleIter it a i
def itO (b : Bool) (a : Addr) : Obj := match b with
  | true => { cls := .type "list_iterator", data := .fields #[.ref a, .int 0 0] }
  | false => { cls := .type "tuple_iterator", data := .fields #[.ref a, .int 0 0] }
theorem beginsK (b : Bool) (a : Addr) (its : Array Value) : Begins (.ref a) (itO b a) (fun h => IsK b h a its) := by
  cases b
  · exact begins_tuple a its
  · exact begins_list a its
theorem drawsK {prog : Program} {w : World} {A : Around} (b : Bool) (hh : A.handled = none) (it a : Addr) (hne : a ≠ it) (its : Array Value) :
    Draws prog w A it [it, a] its.size (fun i v => its[i]? = some v) (fun i h => ItK b h it a i ∧ IsK b h a its) := by
  cases b
  · exact Draws.tuple hh it a hne its
  · exact Draws.list hh it a hne its
theorem seqK {X : Cx} {pins : List (Addr × Obj)} {σ : L2.St} {H : Hp} {s : Shared} {b : Bool} {a : Addr} {xs : List V} (I : Inv X pins σ H s) (h : SqK b X.K H a xs) :
    ∃ its : List Value, Vals xs its ∧ IsK b s.heap a its.toArray ∧ a < s.heap.objs.size := by
  cases b
  · obtain ⟨its, r, p, _⟩ := I.tuple h
    exact ⟨its, r, p, p.lt⟩
  · obtain ⟨its, r, p, _⟩ := I.list h
    exact ⟨its, r, p.isList, p.lt⟩
theorem seqK_inj {X : Cx} {pins : List (Addr × Obj)} {σ : L2.St} {H : Hp} {s : Shared} {b : Bool} {a : Addr} {xs ys : List V} (I : Inv X pins σ H s) (h : SqK b X.K H a xs) (h' : SqK b X.K H a ys) : xs = ys := by
  cases b
  · exact I.tuple_inj h h'
  · exact I.list_inj h h'
theorem itK_obj {b : Bool} {h : Heap} {it a : Addr} {i : Nat} (x : ItK b h it a i) : ∃ o, h.get? it = some o ∧ ∀ v, o.data ≠ .cell v := by
  cases b
  · obtain ⟨o, e, _, d⟩ := x
    exact ⟨o, e, fun v q => by rw [d] at q; cases q⟩
  · obtain ⟨o, e, _, d⟩ := x
    exact ⟨o, e, fun v q => by rw [d] at q; cases q⟩
theorem itK_keep {b : Bool} {h h' : Heap} {it a : Addr} {i : Nat} (x : ItK b h it a i) (k : ∀ o, h.get? it = some o → h'.get? it = some o) : ItK b h' it a i := by
  cases b
  · obtain ⟨o, e, r⟩ := x
    exact ⟨o, k o e, r⟩
  · obtain ⟨o, e, r⟩ := x
    exact ⟨o, k o e, r⟩
theorem itK_new {b : Bool} {h : Heap} {it a : Addr} (e : h.get? it = some (itO b a)) : ItK b h it a 0 := by
  cases b
  · exact ⟨_, e, rfl, rfl⟩
  · exact ⟨_, e, rfl, rfl⟩

/-! ### one turn, by the library's walk of tuples -/
theorem item_of {X : Cx} {elts : List Expr} {kk : Nat} {tp : Pos} {it : Addr} {fp0 fp wr : List Addr} {n i : Nat} {Pt : Nat → Array Value → Prop} {S0 : Nat → Heap → Prop} {Mid : Nat → Addr → Heap → Prop}
    {pins : List (Addr × Obj)} {σ : L2.St} {H : Hp} {s : Shared} {E : Value → Shared → Prop} (G : WalksT X.prog X.w X.A it fp0 wr n Pt S0 Mid) (hw : ∀ b ∈ wr, b ∈ fp) (I : Inv X pins σ H s) (hf : ∀ b ∈ fp, FpOk X pins H b) (hi : i < n) (st : S0 i s.heap)
    (lt : ∀ b ∈ fp, b < s.heap.objs.size) {J : It} {tn : Nat → Heap → Prop} {xs : List V} (hP : ∀ vals, Pt i vals → Vals xs vals.toList) (hx : xs.length ≤ sizeLine)
    (hJ : ∀ T, H T = none → J.yld i H (.ref T) (upd H T (.tup xs))) (ht : ∀ h', S0 (i + 1) h' → tn (i + 1) h') :
    wpAny (model X.prog X.w) X.A (pyNext (.ref it)) (fun r s1 => ∃ u, r = some u ∧
      wpAny (model X.prog X.w) X.A (letOwnedTupleGo (.Tuple elts kk tp) (.ref it) u) (fun _ s2 => ∃ x H', Inv X pins σ H' s2 ∧ RelV x u ∧ J.yld i H x H' ∧ tn (i + 1) s2.heap ∧ ∀ b ∈ fp, H' b = none) E s1) E s := by
  refine (GoesN.ofWalksT (elts := elts) (k := kk) (pos := tp) G).goes i s _ E hi st fun v h' tk hY st' hk _ => ?_
  obtain ⟨T, vals, rfl, hT, hv, tup⟩ := hY
  have fT : H T = none := I.hok.fresh hT
  have hxs := hP vals hv
  have new : ObjOk X.prog X.w (upd H T (.tup xs)) h' T (.tup xs) := ⟨hx, vals.toList, hxs, by
    rw [show vals.toList.toArray = vals from by simp]
    exact tup⟩
  have I1 := I.turnedNew (t' := tk) (ch := fp) (fun b o hb q => hk b o (fun z => hb (hw b z)) q) hf hT new
  refine ⟨.ref T, upd H T (.tup xs), I1, rfl, hJ T fT, ht h' st', fun b hb => ?_⟩
  rw [upd_ne (Nat.ne_of_lt (Nat.lt_of_lt_of_le (lt b hb) hT))]
  exact (hf b hb).1
theorem done_of {X : Cx} {it : Addr} {fp0 fp wr : List Addr} {n : Nat} {Pt : Nat → Array Value → Prop} {S0 : Nat → Heap → Prop} {Mid : Nat → Addr → Heap → Prop}
    {pins : List (Addr × Obj)} {σ : L2.St} {H : Hp} {s : Shared} {E : Value → Shared → Prop} (G : WalksT X.prog X.w X.A it fp0 wr n Pt S0 Mid) (hw : ∀ b ∈ wr, b ∈ fp) (I : Inv X pins σ H s) (hf : ∀ b ∈ fp, FpOk X pins H b) (st : S0 n s.heap) :
    wpAny (model X.prog X.w) X.A (pyNext (.ref it)) (fun r s1 => r = none ∧ Inv X pins σ H s1) E s :=
  (GoesN.ofWalksT (elts := []) (k := 0) (pos := ⟨0, 0, 0, 0⟩) G).stops s (fun s1 => Inv X pins σ H s1) E st fun h' tk hk _ => I.turnedL (ch := fp) (fun b o hb q => hk b o (fun z => hb (hw b z)) q) hf

/-! ### zip of two, of three; enumerate: each of lists or tuples -/
def It2 (b1 b2 : Bool) (K : PySem.W.Frag) (a1 a2 : Addr) : It where
  go := fun i H => ∃ (xs ys : List V) (x y : V), SqK b1 K H a1 xs ∧ SqK b2 K H a2 ys ∧ xs[i]? = some x ∧ ys[i]? = some y
  yld := fun i H v H' => ∃ T x y, v = .ref T ∧ H T = none ∧ H' = upd H T (.tup [x, y]) ∧ (∀ xs, SqK b1 K H a1 xs → xs[i]? = some x) ∧ ∀ ys, SqK b2 K H a2 ys → ys[i]? = some y
  stop := fun i H => ∃ xs ys : List V, SqK b1 K H a1 xs ∧ SqK b2 K H a2 ys ∧ i = min xs.length ys.length
theorem mem5 {c z t o i j : Addr} (h : c ∈ [z, t, o, i, j]) : c = z ∨ c = t ∨ c = o ∨ c = i ∨ c = j := by simpa using h
theorem mem6 {c z t o i j k : Addr} (h : c ∈ [z, t, o, i, j, k]) : c = z ∨ c = t ∨ c = o ∨ c = i ∨ c = j ∨ c = k := by simpa using h
abbrev T2 (b1 b2 : Bool) (a1 a2 N : Addr) (i : Nat) (h : Heap) : Prop := IsZip h (N + 4) (N + 2) (N + 3) .none ∧ IsTupOf2 h (N + 2) (.ref N) (.ref (N + 1)) ∧ (∃ u v, IsTupOf2 h (N + 3) u v) ∧ ItK b1 h N a1 i ∧ ItK b2 h (N + 1) a2 i
theorem turn_2 {P : Program} {w : World} {K : PySem.W.Frag} {elts : List Expr} {kk : Nat} {tp : Pos} {b1 b2 : Bool} {a1 a2 N : Addr} (l1 : a1 < N) (l2 : a2 < N) :
    Turn P w K (.Tuple elts kk tp) (It2 b1 b2 K a1 a2) [N + 4, N + 2, N + 3, N, N + 1] (N + 4) (T2 b1 b2 a1 a2 N) where
  mem := by simp
  obj := fun i h st c hc => by
    obtain ⟨z1, z2, ⟨u, v, z3⟩, z4, z5⟩ := st
    rcases mem5 hc with q | q | q | q | q <;> rw [q]
    · exact ⟨_, z1, fun v q => nomatch q⟩
    · exact ⟨_, z2, fun v q => nomatch q⟩
    · exact ⟨_, z3, fun v q => nomatch q⟩
    · exact itK_obj z4
    · exact itK_obj z5
  keep := fun i h h' st k => by
    obtain ⟨z1, z2, ⟨u, v, z3⟩, z4, z5⟩ := st
    exact ⟨k _ (by simp) _ z1, k _ (by simp) _ z2, ⟨u, v, k _ (by simp) _ z3⟩, itK_keep z4 fun o e => k _ (by simp) o e, itK_keep z5 fun o e => k _ (by simp) o e⟩
  item := by
    intro X hP hw hK hc i pins s σ H E I hf st hg
    subst hP hw hK
    obtain ⟨xs, ys, x, y, q1, q2, e1, e2⟩ := hg
    obtain ⟨us, r1, p1, m1⟩ := seqK I q1
    obtain ⟨ws, r2, p2, m2⟩ := seqK I q2
    obtain ⟨u, g1, v1⟩ := r1.get e1
    obtain ⟨v, g2, v2⟩ := r2.get e2
    obtain ⟨z1, z2, z3, z4, z5⟩ := st
    have D1 := drawsK (prog := X.prog) (w := X.w) (A := X.A.in1) b1 (I.ok.hd hc) N a1 (Nat.ne_of_lt l1) us.toArray
    have D2 := drawsK (prog := X.prog) (w := X.w) (A := X.A.in1) b2 (I.ok.hd hc) (N + 1) a2 (Nat.ne_of_lt (Nat.lt_succ_of_lt l2)) ws.toArray
    have S := zip_sep2 (N := N) (fp1 := [a1]) (fp2 := [a2]) (by simpa using l1) (by simpa using l2)
    have n1 : i < us.length := (List.getElem?_eq_some_iff.mp g1).1
    have n2 : i < ws.length := (List.getElem?_eq_some_iff.mp g2).1
    have lt : ∀ c ∈ [N + 4, N + 2, N + 3, N, N + 1], c < s.heap.objs.size := fun c hc' => by
      obtain ⟨u', v', z3⟩ := z3
      rcases mem5 hc' with q | q | q | q | q <;> rw [q]
      · exact Heap.lt_size z1
      · exact Heap.lt_size z2
      · exact Heap.lt_size z3
      · obtain ⟨o, e, _⟩ := itK_obj z4; exact Heap.lt_size e
      · obtain ⟨o, e, _⟩ := itK_obj z5; exact Heap.lt_size e
    refine item_of (xs := [x, y]) (WalksT.zipD2 S D1 D2) (by simp) I hf (by simp; omega) ⟨z1, z2, z3, ⟨z4, p1⟩, ⟨z5, p2⟩⟩ lt (fun vals hv => ?_) (by show 2 ≤ sizeLine; decide) (fun T fT => ?_) (fun h' t => ?_)
    · obtain ⟨x', y', h1, h2, rfl⟩ := hv
      simp only [List.getElem?_toArray] at h1 h2
      rw [g1] at h1; rw [g2] at h2
      cases h1; cases h2
      exact .cons v1 (.cons v2 .nil)
    · exact ⟨T, x, y, rfl, fT, rfl, fun l hl => by rw [seqK_inj I hl q1]; exact e1, fun l hl => by rw [seqK_inj I hl q2]; exact e2⟩
    · exact ⟨t.1, t.2.1, t.2.2.1, t.2.2.2.1.1, t.2.2.2.2.1⟩
  done := by
    intro X hP hw hK hc i pins s σ H E I hf st hg
    subst hP hw hK
    obtain ⟨xs, ys, q1, q2, e⟩ := hg
    obtain ⟨us, r1, p1, m1⟩ := seqK I q1
    obtain ⟨ws, r2, p2, m2⟩ := seqK I q2
    obtain ⟨z1, z2, z3, z4, z5⟩ := st
    have D1 := drawsK (prog := X.prog) (w := X.w) (A := X.A.in1) b1 (I.ok.hd hc) N a1 (Nat.ne_of_lt l1) us.toArray
    have D2 := drawsK (prog := X.prog) (w := X.w) (A := X.A.in1) b2 (I.ok.hd hc) (N + 1) a2 (Nat.ne_of_lt (Nat.lt_succ_of_lt l2)) ws.toArray
    have S := zip_sep2 (N := N) (fp1 := [a1]) (fp2 := [a2]) (by simpa using l1) (by simpa using l2)
    have en : i = min us.toArray.size ws.toArray.size := by
      have := r1.length
      have := r2.length
      simp only [List.size_toArray]
      omega
    subst en
    exact done_of (WalksT.zipD2 S D1 D2) (by simp) I hf ⟨z1, z2, z3, ⟨z4, p1⟩, ⟨z5, p2⟩⟩
  self := fun A i s Q E st h => wpAny_pyIter_zip st.1 h

/-- what zip(e, e2) asks: the kinds of both -/
def iZip2 (b1 b2 : Bool) (K : PySem.W.Frag) (ta : TA) : TI := fun σ H R => ta σ H fun vs H1 => ∃ a1 a2 xs ys, vs = [.ref a1, .ref a2] ∧ SqK b1 K H1 a1 xs ∧ SqK b2 K H1 a2 ys ∧ R (It2 b1 b2 K a1 a2) H1
theorem fpNew {X : Cx} {pins : List (Addr × Obj)} {σ : L2.St} {H : Hp} {s : Shared} {c : Addr} (I : Inv X pins σ H s) (h : s.heap.objs.size ≤ c) : FpOk X pins H c := I.fpOk h (I.hok.fresh h)
theorem pi_zip2 {X : Cx} {e e2 : Expr} {ta : TA} {p pos tpos : Pos} {elts : List Expr} {kk : Nat} (b1 b2 : Bool) (hg : Gl X "zip") (hm : X.mg "zip" = none) (ha : PA X [e, e2] ta)
    (hs : starEach [e, e2] X.env = (false, eval e X.env) :: starEach [e2] X.env := by rfl) (hpl : (backTo pos (starEach [e2] X.env)).any (·.1) = false := by rfl) :
    PI X (.Tuple elts kk tpos) (.Call (.Name "zip" p) [e, e2] [] pos) (iZip2 b1 b2 X.K ta) := by
  constructor
  intro pins s σ H R I h
  refine Call_ ?_
  refine ld_blt I hg hm PyProof.Rows.boot_zip ?_
  refine PyProof.Rows.callWith_type1 (thn (ha.run pos pins s σ H _ I h) ?_) hs hpl
  rintro us s1 ⟨vs, H1, I1, r1, a1, a2, xs, ys, rfl, q1, q2, q⟩
  obtain ⟨u1, u2, rfl, e1, e2⟩ := vals2 r1
  cases e1; cases e2
  obtain ⟨us, w1, p1, m1⟩ := seqK I1 q1
  obtain ⟨ws, w2, p2, m2⟩ := seqK I1 q2
  refine zip_begins2 (beginsK b1 a1 us.toArray) (beginsK b2 a2 ws.toArray) p1 p2 fun h' c1 c2 c3 c4 c5 _ hk => wpAny_pyIter_zip c1 ?_
  refine ⟨_, _, _, _, H1, rfl, I1.kept (t' := s1.toks) hk, turn_2 (b1 := b1) (b2 := b2) m1 m2, ⟨c1, c2, ⟨_, _, c3⟩, itK_new c4, itK_new c5⟩, fun c hc => ?_, q⟩
  refine fpNew I1 ?_
  rcases mem5 hc with z | z | z | z | z <;> rw [z] <;> first | exact Nat.le_refl _ | exact Nat.le_add_right _ _

def It3 (b1 b2 b3 : Bool) (K : PySem.W.Frag) (a1 a2 a3 : Addr) : It where
  go := fun i H => ∃ (xs ys zs : List V) (x y z : V), SqK b1 K H a1 xs ∧ SqK b2 K H a2 ys ∧ SqK b3 K H a3 zs ∧ xs[i]? = some x ∧ ys[i]? = some y ∧ zs[i]? = some z
  yld := fun i H v H' => ∃ T x y z, v = .ref T ∧ H T = none ∧ H' = upd H T (.tup [x, y, z]) ∧ (∀ xs, SqK b1 K H a1 xs → xs[i]? = some x) ∧ (∀ ys, SqK b2 K H a2 ys → ys[i]? = some y) ∧ ∀ zs, SqK b3 K H a3 zs → zs[i]? = some z
  stop := fun i H => ∃ xs ys zs : List V, SqK b1 K H a1 xs ∧ SqK b2 K H a2 ys ∧ SqK b3 K H a3 zs ∧ i = min (min xs.length ys.length) zs.length
abbrev T3 (b1 b2 b3 : Bool) (a1 a2 a3 N : Addr) (i : Nat) (h : Heap) : Prop := IsZip h (N + 5) (N + 3) (N + 4) .none ∧ IsTupOf3 h (N + 3) (.ref N) (.ref (N + 1)) (.ref (N + 2)) ∧ (∃ u v z, IsTupOf3 h (N + 4) u v z) ∧ ItK b1 h N a1 i ∧ ItK b2 h (N + 1) a2 i ∧ ItK b3 h (N + 2) a3 i
theorem turn_3 {P : Program} {w : World} {K : PySem.W.Frag} {elts : List Expr} {kk : Nat} {tp : Pos} {b1 b2 b3 : Bool} {a1 a2 a3 N : Addr} (l1 : a1 < N) (l2 : a2 < N) (l3 : a3 < N) :
    Turn P w K (.Tuple elts kk tp) (It3 b1 b2 b3 K a1 a2 a3) [N + 5, N + 3, N + 4, N, N + 1, N + 2] (N + 5) (T3 b1 b2 b3 a1 a2 a3 N) where
  mem := by simp
  obj := fun i h st c hc => by
    obtain ⟨z1, z2, ⟨u, v, t, z3⟩, z4, z5, z6⟩ := st
    rcases mem6 hc with q | q | q | q | q | q <;> rw [q]
    · exact ⟨_, z1, fun v q => nomatch q⟩
    · exact ⟨_, z2, fun v q => nomatch q⟩
    · exact ⟨_, z3, fun v q => nomatch q⟩
    · exact itK_obj z4
    · exact itK_obj z5
    · exact itK_obj z6
  keep := fun i h h' st k => by
    obtain ⟨z1, z2, ⟨u, v, t, z3⟩, z4, z5, z6⟩ := st
    exact ⟨k _ (by simp) _ z1, k _ (by simp) _ z2, ⟨u, v, t, k _ (by simp) _ z3⟩, itK_keep z4 fun o e => k _ (by simp) o e, itK_keep z5 fun o e => k _ (by simp) o e, itK_keep z6 fun o e => k _ (by simp) o e⟩
  item := by
    intro X hP hw hK hc i pins s σ H E I hf st hg
    subst hP hw hK
    obtain ⟨xs, ys, zs, x, y, z, q1, q2, q3, e1, e2, e3⟩ := hg
    obtain ⟨us, r1, p1, m1⟩ := seqK I q1
    obtain ⟨ws, r2, p2, m2⟩ := seqK I q2
    obtain ⟨ts, r3, p3, m3⟩ := seqK I q3
    obtain ⟨u, g1, v1⟩ := r1.get e1
    obtain ⟨v, g2, v2⟩ := r2.get e2
    obtain ⟨t, g3, v3⟩ := r3.get e3
    obtain ⟨z1, z2, z3, z4, z5, z6⟩ := st
    have D1 := drawsK (prog := X.prog) (w := X.w) (A := X.A.in1) b1 (I.ok.hd hc) N a1 (Nat.ne_of_lt l1) us.toArray
    have D2 := drawsK (prog := X.prog) (w := X.w) (A := X.A.in1) b2 (I.ok.hd hc) (N + 1) a2 (Nat.ne_of_lt (Nat.lt_succ_of_lt l2)) ws.toArray
    have D3 := drawsK (prog := X.prog) (w := X.w) (A := X.A.in1) b3 (I.ok.hd hc) (N + 2) a3 (Nat.ne_of_lt (Nat.lt_succ_of_lt (Nat.lt_succ_of_lt l3))) ts.toArray
    have S := zip_sep3 (N := N) (fp1 := [a1]) (fp2 := [a2]) (fp3 := [a3]) (by simpa using l1) (by simpa using l2) (by simpa using l3)
    have n1 : i < us.length := (List.getElem?_eq_some_iff.mp g1).1
    have n2 : i < ws.length := (List.getElem?_eq_some_iff.mp g2).1
    have n3 : i < ts.length := (List.getElem?_eq_some_iff.mp g3).1
    have lt : ∀ c ∈ [N + 5, N + 3, N + 4, N, N + 1, N + 2], c < s.heap.objs.size := fun c hc' => by
      obtain ⟨u', v', t', z3⟩ := z3
      rcases mem6 hc' with q | q | q | q | q | q <;> rw [q]
      · exact Heap.lt_size z1
      · exact Heap.lt_size z2
      · exact Heap.lt_size z3
      · obtain ⟨o, e, _⟩ := itK_obj z4; exact Heap.lt_size e
      · obtain ⟨o, e, _⟩ := itK_obj z5; exact Heap.lt_size e
      · obtain ⟨o, e, _⟩ := itK_obj z6; exact Heap.lt_size e
    refine item_of (xs := [x, y, z]) (WalksT.zipD3 S D1 D2 D3) (by simp) I hf (by simp; omega) ⟨z1, z2, z3, ⟨z4, p1⟩, ⟨z5, p2⟩, ⟨z6, p3⟩⟩ lt (fun vals hv => ?_) (by show 3 ≤ sizeLine; decide) (fun T fT => ?_) (fun h' t => ?_)
    · obtain ⟨x', y', z', h1, h2, h3, rfl⟩ := hv
      simp only [List.getElem?_toArray] at h1 h2 h3
      rw [g1] at h1; rw [g2] at h2; rw [g3] at h3
      cases h1; cases h2; cases h3
      exact .cons v1 (.cons v2 (.cons v3 .nil))
    · exact ⟨T, x, y, z, rfl, fT, rfl, fun l hl => by rw [seqK_inj I hl q1]; exact e1, fun l hl => by rw [seqK_inj I hl q2]; exact e2, fun l hl => by rw [seqK_inj I hl q3]; exact e3⟩
    · exact ⟨t.1, t.2.1, t.2.2.1, t.2.2.2.1.1, t.2.2.2.2.1.1, t.2.2.2.2.2.1⟩
  done := by
    intro X hP hw hK hc i pins s σ H E I hf st hg
    subst hP hw hK
    obtain ⟨xs, ys, zs, q1, q2, q3, e⟩ := hg
    obtain ⟨us, r1, p1, m1⟩ := seqK I q1
    obtain ⟨ws, r2, p2, m2⟩ := seqK I q2
    obtain ⟨ts, r3, p3, m3⟩ := seqK I q3
    obtain ⟨z1, z2, z3, z4, z5, z6⟩ := st
    have D1 := drawsK (prog := X.prog) (w := X.w) (A := X.A.in1) b1 (I.ok.hd hc) N a1 (Nat.ne_of_lt l1) us.toArray
    have D2 := drawsK (prog := X.prog) (w := X.w) (A := X.A.in1) b2 (I.ok.hd hc) (N + 1) a2 (Nat.ne_of_lt (Nat.lt_succ_of_lt l2)) ws.toArray
    have D3 := drawsK (prog := X.prog) (w := X.w) (A := X.A.in1) b3 (I.ok.hd hc) (N + 2) a3 (Nat.ne_of_lt (Nat.lt_succ_of_lt (Nat.lt_succ_of_lt l3))) ts.toArray
    have S := zip_sep3 (N := N) (fp1 := [a1]) (fp2 := [a2]) (fp3 := [a3]) (by simpa using l1) (by simpa using l2) (by simpa using l3)
    have en : i = min (min us.toArray.size ws.toArray.size) ts.toArray.size := by
      have := r1.length
      have := r2.length
      have := r3.length
      simp only [List.size_toArray]
      omega
    subst en
    exact done_of (WalksT.zipD3 S D1 D2 D3) (by simp) I hf ⟨z1, z2, z3, ⟨z4, p1⟩, ⟨z5, p2⟩, ⟨z6, p3⟩⟩
  self := fun A i s Q E st h => wpAny_pyIter_zip st.1 h
def iZip3 (b1 b2 b3 : Bool) (K : PySem.W.Frag) (ta : TA) : TI := fun σ H R => ta σ H fun vs H1 => ∃ a1 a2 a3 xs ys zs, vs = [.ref a1, .ref a2, .ref a3] ∧ SqK b1 K H1 a1 xs ∧ SqK b2 K H1 a2 ys ∧ SqK b3 K H1 a3 zs ∧ R (It3 b1 b2 b3 K a1 a2 a3) H1
theorem vals3 {a b c : V} {us : List Value} (r : Vals [a, b, c] us) : ∃ x y z, us = [x, y, z] ∧ RelV a x ∧ RelV b y ∧ RelV c z := by
  cases r with
  | cons r1 rr =>
    obtain ⟨y, z, rfl, h1, h2⟩ := vals2 rr
    exact ⟨_, y, z, rfl, r1, h1, h2⟩
theorem pi_zip3 {X : Cx} {e e2 e3 : Expr} {ta : TA} {p pos tpos : Pos} {elts : List Expr} {kk : Nat} (b1 b2 b3 : Bool) (hg : Gl X "zip") (hm : X.mg "zip" = none) (ha : PA X [e, e2, e3] ta)
    (hs : starEach [e, e2, e3] X.env = (false, eval e X.env) :: starEach [e2, e3] X.env := by rfl) (hpl : (backTo pos (starEach [e2, e3] X.env)).any (·.1) = false := by rfl) :
    PI X (.Tuple elts kk tpos) (.Call (.Name "zip" p) [e, e2, e3] [] pos) (iZip3 b1 b2 b3 X.K ta) := by
  constructor
  intro pins s σ H R I h
  refine Call_ ?_
  refine ld_blt I hg hm PyProof.Rows.boot_zip ?_
  refine PyProof.Rows.callWith_type1 (thn (ha.run pos pins s σ H _ I h) ?_) hs hpl
  rintro us s1 ⟨vs, H1, I1, r1, a1, a2, a3, xs, ys, zs, rfl, q1, q2, q3, q⟩
  obtain ⟨u1, u2, u3, rfl, e1, e2, e3⟩ := vals3 r1
  cases e1; cases e2; cases e3
  obtain ⟨us, w1, p1, m1⟩ := seqK I1 q1
  obtain ⟨ws, w2, p2, m2⟩ := seqK I1 q2
  obtain ⟨ts, w3, p3, m3⟩ := seqK I1 q3
  refine zip_begins3 (beginsK b1 a1 us.toArray) (beginsK b2 a2 ws.toArray) (beginsK b3 a3 ts.toArray) p1 p2 p3 fun h' c1 c2 c3 c4 c5 c6 _ hk => wpAny_pyIter_zip c1 ?_
  refine ⟨_, _, _, _, H1, rfl, I1.kept (t' := s1.toks) hk, turn_3 (b1 := b1) (b2 := b2) (b3 := b3) m1 m2 m3, ⟨c1, c2, ⟨_, _, _, c3⟩, itK_new c4, itK_new c5, itK_new c6⟩, fun c hc => ?_, q⟩
  refine fpNew I1 ?_
  rcases mem6 hc with z | z | z | z | z | z <;> rw [z] <;> first | exact Nat.le_refl _ | exact Nat.le_add_right _ _

/-! ### enumerate of a list or a tuple -/
def It1 (b : Bool) (K : PySem.W.Frag) (a : Addr) : It where
  go := fun i H => ∃ (xs : List V) (x : V), SqK b K H a xs ∧ xs[i]? = some x
  yld := fun i H v H' => ∃ T x, v = .ref T ∧ H T = none ∧ H' = upd H T (.tup [.int (i : Nat), x]) ∧ ∀ xs, SqK b K H a xs → xs[i]? = some x
  stop := fun i H => ∃ xs : List V, SqK b K H a xs ∧ i = xs.length
abbrev T1 (b : Bool) (a N : Addr) (i : Nat) (h : Heap) : Prop := (∃ old, IsEnum h (N + 1) N (0 + (i : Int)) old) ∧ ItK b h N a i
theorem turn_1 {P : Program} {w : World} {K : PySem.W.Frag} {elts : List Expr} {kk : Nat} {tp : Pos} {b : Bool} {a N : Addr} (l1 : a < N) :
    Turn P w K (.Tuple elts kk tp) (It1 b K a) [N + 1, N] (N + 1) (T1 b a N) where
  mem := by simp
  obj := fun i h st c hc => by
    obtain ⟨⟨old, z1⟩, z2⟩ := st
    have hc' : c = N + 1 ∨ c = N := by simpa using hc
    rcases hc' with q | q <;> rw [q]
    · exact ⟨_, z1, fun v q => nomatch q⟩
    · exact itK_obj z2
  keep := fun i h h' st k => by
    obtain ⟨⟨old, z1⟩, z2⟩ := st
    exact ⟨⟨old, k _ (by simp) _ z1⟩, itK_keep z2 fun o e => k _ (by simp) o e⟩
  item := by
    intro X hP hw hK hc i pins s σ H E I hf st hg
    subst hP hw hK
    obtain ⟨xs, x, q1, e1⟩ := hg
    obtain ⟨us, r1, p1, m1⟩ := seqK I q1
    obtain ⟨u, g1, v1⟩ := r1.get e1
    obtain ⟨z1, z2⟩ := st
    have D1 := drawsK (prog := X.prog) (w := X.w) (A := X.A.in1) b (I.ok.hd hc) N a (Nat.ne_of_lt l1) us.toArray
    have n1 : i < us.length := (List.getElem?_eq_some_iff.mp g1).1
    have lt : ∀ c ∈ [N + 1, N], c < s.heap.objs.size := fun c hc' => by
      obtain ⟨old, z1⟩ := z1
      have hc' : c = N + 1 ∨ c = N := by simpa using hc'
      rcases hc' with q | q <;> rw [q]
      · exact Heap.lt_size z1
      · obtain ⟨o, e, _⟩ := itK_obj z2; exact Heap.lt_size e
    have W := WalksT.enumFrom 0 D1 (N + 1) (Nat.ne_of_gt (Nat.lt_succ_self N)) (by
      intro hm
      have hm' : N + 1 = N ∨ N + 1 = a := by simpa using hm
      rcases hm' with q | q
      · exact absurd q (Nat.ne_of_gt (Nat.lt_succ_self N))
      · exact absurd q.symm (Nat.ne_of_lt (Nat.lt_succ_of_lt l1))) (by simp)
    refine item_of (xs := [.int (i : Nat), x]) W (by simp) I hf (by simpa using n1) ⟨z1, ⟨z2, p1⟩⟩ lt (fun vals hv => ?_) (by show 2 ≤ sizeLine; decide) (fun T fT => ?_) (fun h' t => ?_)
    · obtain ⟨t, x', h1, rfl⟩ := hv
      simp only [List.getElem?_toArray] at h1
      rw [g1] at h1
      cases h1
      exact .cons ⟨t, by rw [Int.zero_add]⟩ (.cons v1 .nil)
    · exact ⟨T, x, rfl, fT, rfl, fun l hl => by rw [seqK_inj I hl q1]; exact e1⟩
    · exact ⟨t.1, t.2.1⟩
  done := by
    intro X hP hw hK hc i pins s σ H E I hf st hg
    subst hP hw hK
    obtain ⟨xs, q1, e⟩ := hg
    obtain ⟨us, r1, p1, m1⟩ := seqK I q1
    obtain ⟨z1, z2⟩ := st
    have D1 := drawsK (prog := X.prog) (w := X.w) (A := X.A.in1) b (I.ok.hd hc) N a (Nat.ne_of_lt l1) us.toArray
    have W := WalksT.enumFrom 0 D1 (N + 1) (Nat.ne_of_gt (Nat.lt_succ_self N)) (by
      intro hm
      have hm' : N + 1 = N ∨ N + 1 = a := by simpa using hm
      rcases hm' with q | q
      · exact absurd q (Nat.ne_of_gt (Nat.lt_succ_self N))
      · exact absurd q.symm (Nat.ne_of_lt (Nat.lt_succ_of_lt l1))) (by simp)
    have en : i = us.toArray.size := by
      have := r1.length
      simp only [List.size_toArray]
      omega
    subst en
    exact done_of W (by simp) I hf ⟨z1, ⟨z2, p1⟩⟩
  self := fun A i s Q E st h => by
    obtain ⟨⟨old, z1⟩, _⟩ := st
    exact wpAny_pyIter_enum z1 h
set_option maxHeartbeats 1000000 in
theorem meets_enum1 {v : Value} {o : Obj} {H : Heap → Prop} (B : Begins v o H) :
    Meets (Builtin.«enumerate.__new__» ⟨[.type "enumerate", v], []⟩) (fun _ R s => H s.heap ∧
      R (.ok (.ret (.ref (s.heap.push o).objs.size))) { s with heap := (s.heap.push o).push ⟨.type "enumerate", none, .fields #[.none, .bool false, .ref s.heap.objs.size, rawInt 0, .none, .none], #[]⟩ }) :=
  .of_wp fun prog w A R s h => by
    obtain ⟨hp, g, d, tk, os⟩ := s
    obtain ⟨h1, h⟩ := h
    have hsub := sub_enumerate
    have q1 : ∀ {A' : Around} {E : Value → Shared → Prop} {Q : Value → Shared → Prop}, Q (.ref hp.objs.size) ⟨hp.push o, g, d, tk, os⟩ → wpAny (model prog w) A' (pyIter v) Q E ⟨hp, g, d, tk, os⟩ := by
      intro A' E Q q
      exact B.iter prog w _ _ ⟨hp, g, d, tk, os⟩ _ h1 q
    wp_walk using q1
    apply wpAny_stack_any
    intro st
    apply wpAny_pure
    split
    · rename_i c _ _ _ _ _
      cases (c == Value.type "enumerate") <;> (wp_walk using q1; exact ⟨_, rfl, h⟩)
    · wp_walk using q1
      exact ⟨_, rfl, h⟩
theorem enum_begins1 {prog : Program} {w : World} {A : Around} {E : Value → Shared → Prop} {s : Shared} {v : Value} {o : Obj} {H : Heap → Prop} {Q : Value → Shared → Prop} (B : Begins v o H) (h1 : H s.heap)
    (h : ∀ h', IsEnum h' (s.heap.objs.size + 1) s.heap.objs.size 0 .none → h'.get? s.heap.objs.size = some o → (∀ b o, s.heap.get? b = some o → h'.get? b = some o) → Q (.ref (s.heap.objs.size + 1)) { s with heap := h' }) :
    wpAny (model prog w) A (call (.type "enumerate") [v]) Q E s := by
  refine callType_new F.called_enumerate (by decide) (F.typeCall_enumerate_1 _) (F.newCall_enumerate_1 _) (fun obj => F.args_object_init_2 obj _) F.entry_enumerate_new (meets_enum1 B) ⟨h1, ?_⟩
  have hz : (s.heap.push o).objs.size = s.heap.objs.size + 1 := Heap.size_push ..
  have he := Heap.get?_push_size (s.heap.push o) (o := ⟨.type "enumerate", none, .fields #[.none, .bool false, .ref s.heap.objs.size, rawInt 0, .none, .none], #[]⟩) rfl
  rw [hz] at he
  show _ ∧ _
  rw [hz]
  exact ⟨⟨_, he, rfl⟩, h _ he (Heap.get?_push_of_some _ (Heap.get?_push_size _ B.free)) fun b o x => Heap.get?_push_of_some _ (Heap.get?_push_of_some _ x)⟩
def iEnum1 (K : PySem.W.Frag) (ta : TA) : TI := fun σ H R => ta σ H fun vs H1 => ∃ b a xs, vs = [.ref a] ∧ SqK b K H1 a xs ∧ R (It1 b K a) H1
theorem pi_enum1 {X : Cx} {e : Expr} {ta : TA} {p pos tpos : Pos} {elts : List Expr} {kk : Nat} (hg : Gl X "enumerate") (hm : X.mg "enumerate" = none) (ha : PA X [e] ta)
    (hs : starEach [e] X.env = (false, eval e X.env) :: starEach [] X.env := by rfl) (hpl : (backTo pos (starEach [] X.env)).any (·.1) = false := by rfl) :
    PI X (.Tuple elts kk tpos) (.Call (.Name "enumerate" p) [e] [] pos) (iEnum1 X.K ta) := by
  constructor
  intro pins s σ H R I h
  refine Call_ ?_
  refine ld_blt I hg hm PyProof.Rows.boot_enumerate ?_
  refine PyProof.Rows.callWith_type1 (thn (ha.run pos pins s σ H _ I h) ?_) hs hpl
  rintro us s1 ⟨vs, H1, I1, r1, b, a, xs, rfl, q1, q⟩
  obtain ⟨u1, rfl, e1⟩ := vals1 r1
  cases e1
  obtain ⟨us, w1, p1, m1⟩ := seqK I1 q1
  refine enum_begins1 (beginsK b a us.toArray) p1 fun h' c1 c2 hk => wpAny_pyIter_enum c1 ?_
  refine ⟨_, _, _, _, H1, rfl, I1.kept (t' := s1.toks) hk, turn_1 (b := b) m1, ⟨⟨_, c1⟩, itK_new c2⟩, fun c hc => ?_, q⟩
  refine fpNew I1 ?_
  have hc' : c = s1.heap.objs.size + 1 ∨ c = s1.heap.objs.size := by simpa using hc
  rcases hc' with z | z <;> rw [z] <;> first | exact Nat.le_refl _ | exact Nat.le_add_right _ _

/-! ### list + list, both read -/
def rCatL (K : PySem.W.Frag) : R2 := fun x y H Q => ∃ l b xs zs, x = .ref l ∧ y = .ref b ∧ SqL K H l xs ∧ SqL K H b zs ∧ xs.length + zs.length ≤ sizeLine ∧ ∀ p, H p = none → Q (.ref p) (upd H p (.lst (xs ++ zs)))
theorem op_catL {X : Cx} : OpR X (binaryOp .Add) (rCatL X.K) := by
  intro pins s σ H x y v u Q I rx ry h
  obtain ⟨l, b, xs, zs, rfl, rfl, h1, h2, hz, q⟩ := h
  cases rx
  cases ry
  obtain ⟨i1, r1, p1, _⟩ := I.list h1
  obtain ⟨i2, r2, p2, _⟩ := I.list h2
  have l1 := r1.length
  have l2 := r2.length
  obtain ⟨⟨c1, d1, t1, w1⟩, n1, o1, k1, g1, e1⟩ := p1
  obtain ⟨⟨c2, d2, t2, w2⟩, n2, o2, k2, g2, e2⟩ := p2
  simp only at k1 g1 e1 k2 g2 e2
  subst k1 g1 e1 k2 g2 e2
  have ea : i1.toArray ++ i2.toArray = (i1 ++ i2).toArray := by simp
  refine concat_meets ⟨_, o1, rfl⟩ ⟨_, o2, rfl⟩ noFill_list_add seq_list_add PySem.F.slot_list_add PySem.F.entry_list_add (PySem.F.args_list_add_2 _ _) (list_addW l b i1.toArray i2.toArray n1 n2 none none w1 w2 (by simp; omega)) ⟨o1, o2, ?_⟩
  rw [ea]
  exact ⟨.ref _, _, I.lnew (t' := s.toks) (r1.append r2) (by rw [List.length_append]; omega), rfl, q _ I.fresh⟩
/-! ### sum of a tuple of ints -/
def rSumT (K : PySem.W.Frag) : List V → Hp → VK → Prop := fun vs H Q => ∃ (a : Addr) (ns : List Int), vs = [V.ref a] ∧ SqT K H a (ns.map V.int) ∧ Q (.int ns.sum) H
theorem preSum_list (ns : List Int) : ∀ k, k ≤ ns.length → preSum (fun i => ns.getD i 0) k = (ns.take k).sum
  | 0, _ => by simp [preSum]
  | k + 1, h => by
    have ih := preSum_list ns k (by omega)
    have e : ns[k]? = some ns[k] := List.getElem?_eq_getElem (by omega)
    rw [sum_take e, ← ih]
    show preSum (fun i => ns.getD i 0) k + ns.getD k 0 = _
    rw [List.getD_eq_getElem?_getD, e]
    rfl
theorem cr_sumT {X : Cx} (hc : X.calm = true) : CallR X (.builtin "sum") (rSumT X.K) := by
  intro pins s σ H vs us Q I r h
  obtain ⟨a, ns, rfl, hs, q⟩ := h
  obtain ⟨its, rv, p, _⟩ := I.tuple hs
  have hlt := p.lt
  have hlen := rv.length
  rw [Vals.ref1 r]
  refine call_sum_walkG (wpAny_pyIter_tuple p ?_)
  refine ⟨_, _, _, _, _, _, fun i => ns.getD i 0, rfl, Walks.tuple (A := X.A.in1) (I.ok.hd hc) _ a (Nat.ne_of_lt hlt) its.toArray, ⟨⟨_, Heap.get?_push_size _ rfl, rfl, rfl⟩, ?_⟩, fun b hb => ?_, fun i v hv => ?_, fun h' tk t' hk => ?_⟩
  · obtain ⟨o, e, r⟩ := id p
    exact ⟨o, Heap.get?_push_of_some _ e, r⟩
  · show b < (s.heap.push _).objs.size
    rw [Heap.size_push]
    have hb' : b = s.heap.objs.size ∨ b = a := by simpa using hb
    rcases hb' with z | z <;> rw [z]
    · exact Nat.lt_succ_self _
    · exact Nat.lt_succ_of_lt hlt
  · have hv' : its[i]? = some v := by simpa using hv
    have hi : i < its.length := (List.getElem?_eq_some_iff.mp hv').1
    rw [List.length_map] at hlen
    have hn : i < ns.length := by omega
    have e : (ns.map V.int)[i]? = some (.int (ns.getD i 0)) := by
      rw [List.getElem?_map, List.getElem?_eq_getElem hn, List.getD_eq_getElem?_getD, List.getElem?_eq_getElem hn]
      rfl
    obtain ⟨u, hu, t, ru⟩ := rv.get e
    rw [hv'] at hu
    cases hu
    exact ⟨t, ru⟩
  · rw [List.length_map] at hlen
    have hk' : ∀ b o, s.heap.get? b = some o → h'.get? b = some o := fun b o e => hk b o (by
      have := Heap.lt_size e
      simp
      exact Nat.ne_of_lt this) (Heap.get?_push_of_some _ e)
    refine ⟨.int _, H, I.kept hk', ⟨t', rfl⟩, ?_⟩
    rw [List.size_toArray, ← hlen, preSum_list ns _ (Nat.le_refl _), List.take_length]
    exact q
end PS

namespace PS
open PySem PySem.Spec PyProof.Rows L2
/-! ### data in the heap -/
section
variable {K : PySem.W.Frag} {H H' : Hp}
theorem seqT_mono {a : Addr} {xs : List V} (e : Same H H') (h : SqT K H a xs) : SqT K H' a xs := by
  rcases h with (h | ⟨o, h⟩) | h
  · exact .inl (.inl (e _ _ h))
  · exact .inl (.inr ⟨o, e _ _ h⟩)
  · exact .inr h
mutual
theorem dp_mono (e : Same H H') : ∀ (d : PyData) (v : V), Dp K H v d → Dp K H' v d
  | .none, _, h => by cases h; exact .non
  | .bool b, _, h => by cases h; exact .bl b
  | .int i, _, h => by cases h; exact .int i
  | .str x, _, h => by cases h; exact .str x
  | .list ds, _, h => by
    cases h with
    | lst s a => exact .lst (e.seq s) (dpAll_mono e ds _ a)
  | .tuple ds, _, h => by
    cases h with
    | tup s a => exact .tup (seqT_mono e s) (dpAll_mono e ds _ a)
  | .dict _, _, h => by cases h
theorem dpAll_mono (e : Same H H') : ∀ (ds : List PyData) (vs : List V), DpAll K H vs ds → DpAll K H' vs ds
  | [], _, h => by cases h; exact .nil
  | d :: ds, _, h => by
    cases h with
    | cons h1 h2 => exact .cons (dp_mono e d _ h1) (dpAll_mono e ds _ h2)
end
theorem Dpm {d : PyData} {v : V} (e : Same H H') (h : Dp K H v d) : Dp K H' v d := dp_mono e d v h
theorem dpAll_len : ∀ {ds : List PyData} {vs : List V}, DpAll K H vs ds → vs.length = ds.length
  | [], _, h => by cases h; rfl
  | d :: ds, _, h => by
    cases h with
    | cons h1 h2 => simp [dpAll_len h2]
theorem dpAll_get : ∀ {ds : List PyData} {vs : List V} {i : Nat} {v : V}, DpAll K H vs ds → vs[i]? = some v → ∃ d, ds[i]? = some d ∧ Dp K H v d
  | [], _, i, v, h, e => by cases h; simp at e
  | d :: ds, _, i, v, h, e => by
    cases h with
    | cons h1 h2 =>
      cases i with
      | zero => simp at e; subst e; exact ⟨d, rfl, h1⟩
      | succ i =>
        obtain ⟨d', e1, e2⟩ := dpAll_get (i := i) (v := v) h2 (by simpa using e)
        exact ⟨d', by simpa using e1, e2⟩
theorem dpAll_at : ∀ {ds : List PyData} {vs : List V} {i : Nat} {d : PyData}, DpAll K H vs ds → ds[i]? = some d → ∃ v, vs[i]? = some v ∧ Dp K H v d
  | [], _, i, v, h, e => by simp at e
  | d :: ds, _, i, v, h, e => by
    cases h with
    | cons h1 h2 =>
      cases i with
      | zero => simp at e; subst e; exact ⟨_, rfl, h1⟩
      | succ i =>
        obtain ⟨d', e1, e2⟩ := dpAll_at (i := i) (d := v) h2 (by simpa using e)
        exact ⟨d', by simpa using e1, e2⟩
theorem dpAll_app : ∀ {ds es : List PyData} {vs us : List V}, DpAll K H vs ds → DpAll K H us es → DpAll K H (vs ++ us) (ds ++ es)
  | [], _, _, _, h, g => by cases h; exact g
  | d :: ds, _, _, _, h, g => by
    cases h with
    | cons h1 h2 => exact .cons h1 (dpAll_app h2 g)
theorem dpAll_take : ∀ {ds : List PyData} {vs : List V} (n : Nat), DpAll K H vs ds → DpAll K H (vs.take n) (ds.take n)
  | ds, vs, 0, h => by simp; exact .nil
  | [], _, n + 1, h => by cases h; exact .nil
  | d :: ds, _, n + 1, h => by
    cases h with
    | cons h1 h2 => exact .cons h1 (dpAll_take n h2)
theorem dpAll_drop : ∀ {ds : List PyData} {vs : List V} (n : Nat), DpAll K H vs ds → DpAll K H (vs.drop n) (ds.drop n)
  | ds, vs, 0, h => by simpa using h
  | [], _, n + 1, h => by cases h; exact .nil
  | d :: ds, _, n + 1, h => by
    cases h with
    | cons h1 h2 => exact dpAll_drop n h2
theorem dp_tup {v : V} {ds : List PyData} (h : Dp K H v (.tuple ds)) : ∃ a xs, v = .ref a ∧ SqT K H a xs ∧ DpAll K H xs ds := by
  cases h with
  | tup s a => exact ⟨_, _, rfl, s, a⟩
theorem dp_lst {v : V} {ds : List PyData} (h : Dp K H v (.list ds)) : ∃ a xs, v = .ref a ∧ SqL K H a xs ∧ DpAll K H xs ds := by
  cases h with
  | lst s a => exact ⟨_, _, rfl, s, a⟩
/-- ints -/
abbrev iD (ns : List Int) : List PyData := ns.map PyData.int
abbrev iV (ns : List Int) : List V := ns.map V.int
theorem dpAll_ints : ∀ {ns : List Int} {vs : List V}, DpAll K H vs (iD ns) → vs = iV ns
  | [], _, h => by cases h; rfl
  | n :: ns, _, h => by
    cases h with
    | cons h1 h2 =>
      cases h1
      rw [dpAll_ints (ns := ns) h2]
      rfl
theorem ints_dpAll : ∀ (ns : List Int), DpAll K H (iV ns) (iD ns)
  | [] => .nil
  | n :: ns => .cons (.int n) (ints_dpAll ns)
abbrev tI (ns : List Int) : PyData := .tuple (iD ns)
theorem dp_tI {v : V} {ns : List Int} (h : Dp K H v (tI ns)) : ∃ a, v = .ref a ∧ SqT K H a (iV ns) := by
  obtain ⟨a, xs, rfl, s, t⟩ := dp_tup h
  rw [dpAll_ints t] at s
  exact ⟨a, rfl, s⟩
theorem tI_dp {a : Addr} {ns : List Int} (h : SqT K H a (iV ns)) : Dp K H (.ref a) (tI ns) := .tup h (ints_dpAll ns)
theorem dp_int {v : V} {i : Int} (h : Dp K H v (.int i)) : v = .int i := by cases h; rfl
theorem dp_str {v : V} {x : Str} (h : Dp K H v (.str x)) : v = .str x := by cases h; rfl
/-! ### kinds -/
def tyN : PyData → String
  | .none => "NoneType" | .bool _ => "bool" | .int _ => "int" | .str _ => "str" | .list _ => "list" | .tuple _ => "tuple" | .dict _ => "dict"
theorem dp_ty {v : V} {d : PyData} (h : Dp K H v d) : TyX K H v (.type (tyN d)) := by
  cases h with
  | non => exact .base .non
  | bl b => exact .base (.bl b)
  | int i => exact .base (.int i)
  | str x => exact .base (.str x)
  | lst s a =>
    rcases s with (s | ⟨o, s⟩) | ⟨o, its, n, e, c, _⟩
    · exact .base (.lst s)
    · exact .base (.frz s)
    · exact .kList e c
  | tup s a =>
    rcases s with (s | ⟨o, s⟩) | ⟨o, its, n, e, c, _⟩
    · exact .base (.tup s)
    · exact .fTuple s
    · exact .kTuple e c
end
/-- isinstance(x, n) of data -/
def isA (d : PyData) (n : String) : Bool := (kitB (tyN d) n).getD false
def rIsD (K : PySem.W.Frag) : List V → Hp → VK → Prop := fun xs H Q => ∃ (x : V) (n : String) (d : PyData), xs = [x, .ty n] ∧ Dp K H x d ∧ (kitB (tyN d) n).isSome = true ∧ Q (.bl (isA d n)) H
theorem call_isD {X : Cx} : CallR X (.builtin "isinstance") (rIsD X.K) := by
  intro pins s σ H xs us Q I r h
  obtain ⟨x, n, d, rfl, hd, hs, q⟩ := h
  refine call_isi pins s σ H _ us Q I r ⟨x, .ty n, _, _, isA d n, rfl, .ty n, dp_ty hd, ?_, q⟩
  apply kit_ty
  unfold isA
  cases e : kitB (tyN d) n with
  | none => rw [e] at hs; cases hs
  | some b => rfl
theorem kS (d : PyData) (n : String) (h : n = "int" ∨ n = "bool" ∨ n = "str" ∨ n = "list" ∨ n = "tuple") : (kitB (tyN d) n).isSome = true := by
  rcases h with rfl | rfl | rfl | rfl | rfl <;> cases d <;> simp only [tyN] <;> decide +kernel
theorem kInt (d : PyData) : (kitB (tyN d) "int").isSome = true := kS d _ (by simp)
theorem kBool (d : PyData) : (kitB (tyN d) "bool").isSome = true := kS d _ (by simp)
theorem kStr (d : PyData) : (kitB (tyN d) "str").isSome = true := kS d _ (by simp)
theorem kList (d : PyData) : (kitB (tyN d) "list").isSome = true := kS d _ (by simp)
theorem kTuple (d : PyData) : (kitB (tyN d) "tuple").isSome = true := kS d _ (by simp)
def isW : PyData → Bool | .int _ => true | _ => false
def isT : PyData → Bool | .tuple _ => true | _ => false
def isL : PyData → Bool | .list _ => true | _ => false
def isS : PyData → Bool | .str _ => true | _ => false
def isB : PyData → Bool | .bool _ => true | _ => false
def isIB : PyData → Bool | .bool _ => true | .int _ => true | _ => false
theorem isA_tuple (d : PyData) : isA d "tuple" = isT d := by cases d <;> simp only [isA, tyN, isT] <;> decide +kernel
theorem isA_list (d : PyData) : isA d "list" = isL d := by cases d <;> simp only [isA, tyN, isL] <;> decide +kernel
theorem isA_str (d : PyData) : isA d "str" = isS d := by cases d <;> simp only [isA, tyN, isS] <;> decide +kernel
theorem isA_bool (d : PyData) : isA d "bool" = isB d := by cases d <;> simp only [isA, tyN, isB] <;> decide +kernel
theorem isA_int (d : PyData) : isA d "int" = isIB d := by cases d <;> simp only [isA, tyN, isIB] <;> decide +kernel
/-! ### shapes -/
mutual
theorem dp_can {K : PySem.W.Frag} {H : Hp} : ∀ (d : PyData) (v : V), Dp K H v d → d.plain = true
  | .none, _, _ => rfl
  | .bool _, _, _ => rfl
  | .int _, _, _ => rfl
  | .str _, _, _ => rfl
  | .list ds, _, h => by
    cases h with
    | lst s a => simpa [PyData.plain] using dpAll_can ds _ a
  | .tuple ds, _, h => by
    cases h with
    | tup s a => simpa [PyData.plain] using dpAll_can ds _ a
  | .dict _, _, h => by cases h
theorem dpAll_can {K : PySem.W.Frag} {H : Hp} : ∀ (ds : List PyData) (vs : List V), DpAll K H vs ds → PyData.plainAll ds = true
  | [], _, _ => rfl
  | d :: ds, _, h => by
    cases h with
    | cons h1 h2 => simp [PyData.plainAll, dp_can d _ h1, dpAll_can ds _ h2]
end
/-- == and != of data, nested less than 65 deep on the left -/
def rEqP (K : PySem.W.Frag) : R2 := fun x y H Q => ∃ d e, Dp K H x d ∧ Dp K H y e ∧ d.depth ≤ 64 ∧ Q (.bl (PyData.eqv d e)) H
def rNeP (K : PySem.W.Frag) : R2 := fun x y H Q => ∃ d e, Dp K H x d ∧ Dp K H y e ∧ d.depth ≤ 64 ∧ Q (.bl (!PyData.eqv d e)) H
theorem op_eqP {X : Cx} (hu : X.A.units + 64 < cLine) : OpR X (compareOp .Eq) (rEqP X.K) := by
  intro pins s σ H x y v u Q I rx ry h
  obtain ⟨d, e, hd, he, hl, q⟩ := h
  obtain ⟨as, r1⟩ := Dp.reads I d x v hd rx
  obtain ⟨bs, r2⟩ := Dp.reads I e y u he ry
  exact SeqAt.eq_plain r1 r2 (dp_can d x hd) (dp_can e y he) (by omega) ⟨.bl _, H, I, rfl, q⟩
theorem op_neP {X : Cx} (hu : X.A.units + 64 < cLine) : OpR X (compareOp .NotEq) (rNeP X.K) := by
  intro pins s σ H x y v u Q I rx ry h
  obtain ⟨d, e, hd, he, hl, q⟩ := h
  obtain ⟨as, r1⟩ := Dp.reads I d x v hd rx
  obtain ⟨bs, r2⟩ := Dp.reads I e y u he ry
  exact SeqAt.ne_plain r1 r2 (dp_can d x hd) (dp_can e y he) (by omega) ⟨.bl _, H, I, rfl, q⟩
theorem eqv_self {K : PySem.W.Frag} {H : Hp} {d : PyData} {v : V} (h : Dp K H v d) : PyData.eqv d d = true := SeqAt.eqv_refl_plain d (dp_can d v h)
theorem depthAll_le {n : Nat} : ∀ (ds : List PyData), (∀ d ∈ ds, d.depth ≤ n) → PyData.depthAll ds ≤ n
  | [], _ => by simp [PyData.depthAll]
  | d :: ds, h => by
    rw [PyData.depthAll]
    exact Nat.max_le.mpr ⟨h d (by simp), depthAll_le ds fun x hx => h x (by simp [hx])⟩
theorem depth_of_all {n : Nat} : ∀ (ds : List PyData), PyData.depthAll ds ≤ n → ∀ d ∈ ds, d.depth ≤ n
  | [], _, d, h => by simp at h
  | x :: ds, h, d, hd => by
    rw [PyData.depthAll] at h
    obtain ⟨h1, h2⟩ := Nat.max_le.mp h
    rcases List.mem_cons.mp hd with rfl | hd
    · exact h1
    · exact depth_of_all ds h2 d hd
theorem depth_tI (ns : List Int) : (tI ns).depth ≤ 1 := by
  rw [PyData.depth]
  have : PyData.depthAll (iD ns) ≤ 0 := depthAll_le _ fun d hd => by
    obtain ⟨i, _, rfl⟩ := List.mem_map.mp hd
    simp [PyData.depth]
  omega
/-! ### the heap without one cell -/
def Off (k : Addr) (H : Hp) : Hp := fun b => if b = k then none else H b
theorem off_same (k : Addr) (H : Hp) : Same (Off k H) H := fun b o h => by
  unfold Off at h
  split at h
  · cases h
  · exact h
theorem off_mono {k : Addr} {H H' : Hp} (e : Same H H') : Same (Off k H) (Off k H') := fun b o h => by
  unfold Off at h ⊢
  split at h
  · cases h
  · rename_i n
    rw [if_neg n]
    exact e b o h
theorem off_of {k : Addr} {H H' : Hp} (e : ∀ b o, b ≠ k → H b = some o → H' b = some o) : Same (Off k H) (Off k H') := fun b o h => by
  unfold Off at h ⊢
  split at h
  · cases h
  · rename_i n
    rw [if_neg n]
    exact e b o n h
theorem off_back {k : Addr} {H H' : Hp} (e : Same (Off k H) (Off k H')) {b : Addr} {o : HO} (n : b ≠ k) (h : H b = some o) : H' b = some o := by
  have h1 : Off k H b = some o := by unfold Off; rw [if_neg n]; exact h
  have h2 := e b o h1
  unfold Off at h2
  rw [if_neg n] at h2
  exact h2
theorem off_at {k b : Addr} {H : Hp} {o : HO} (n : b ≠ k) (h : H b = some o) : Off k H b = some o := by
  unfold Off
  rw [if_neg n]
  exact h
theorem same_new {H : Hp} {p : Addr} {o : HO} (h : H p = none) : Same H (upd H p o) := fun b x e => by
  rw [upd_ne (ne_of_none e h)]
  exact e
/-! data without lists does not hold the cell of a list -/
mutual
def noL : PyData → Bool
  | .list _ => false
  | .tuple ds => noLs ds
  | .none | .bool _ | .int _ | .str _ | .dict _ => true
def noLs : List PyData → Bool
  | [] => true
  | d :: ds => noL d && noLs ds
end
theorem noLs_all : ∀ (ds : List PyData), (∀ d ∈ ds, noL d = true) → noLs ds = true
  | [], _ => rfl
  | d :: ds, h => by simp [noLs, h d (by simp), noLs_all ds fun x hx => h x (by simp [hx])]
theorem noL_tI (ns : List Int) : noL (tI ns) = true := by
  rw [noL]
  exact noLs_all _ fun d hd => by
    obtain ⟨i, _, rfl⟩ := List.mem_map.mp hd
    rfl
mutual
theorem dp_off {K : PySem.W.Frag} {H : Hp} {k : Addr} {l : List V} (hk : H k = some (.lst l)) : ∀ (d : PyData) (v : V), noL d = true → Dp K H v d → Dp K (Off k H) v d
  | .none, _, _, h => by cases h; exact .non
  | .bool b, _, _, h => by cases h; exact .bl b
  | .int i, _, _, h => by cases h; exact .int i
  | .str x, _, _, h => by cases h; exact .str x
  | .list ds, _, n, h => by simp [noL] at n
  | .tuple ds, _, n, h => by
    cases h with
    | @tup a xs _ s al =>
      refine .tup ?_ (dpAll_off hk ds _ (by simpa [noL] using n) al)
      rcases s with (s | ⟨o, s⟩) | s
      · exact .inl (.inl (off_at (ne_of s hk (by intro z; cases z)) s))
      · exact .inl (.inr ⟨o, off_at (ne_of s hk (by intro z; cases z)) s⟩)
      · exact .inr s
  | .dict _, _, _, h => by cases h
theorem dpAll_off {K : PySem.W.Frag} {H : Hp} {k : Addr} {l : List V} (hk : H k = some (.lst l)) : ∀ (ds : List PyData) (vs : List V), noLs ds = true → DpAll K H vs ds → DpAll K (Off k H) vs ds
  | [], _, _, h => by cases h; exact .nil
  | d :: ds, _, n, h => by
    cases h with
    | cons h1 h2 =>
      have n' : noL d = true ∧ noLs ds = true := by simpa [noLs] using n
      exact .cons (dp_off hk d _ n'.1 h1) (dpAll_off hk ds _ n'.2 h2)
end
/-! ### what a def gives back -/
abbrev RB (H : Hp) (Q : VK) (b : Bool) : Prop := ∀ H', Same H H' → Q (.bl b) H'
abbrev RI (H : Hp) (Q : VK) (n : Int) : Prop := ∀ H', Same H H' → Q (.int n) H'
abbrev RD (K : PySem.W.Frag) (H : Hp) (Q : VK) (d : PyData) : Prop := ∀ v H', Same H H' → Dp K H' v d → Q v H'
end PS

namespace PS
open PySem PySem.Spec PyProof.Rows L2
section
variable {X : Cx}
/-- an int or a truth as a number -/
def NumV (x : V) (i : Int) : Prop := x = .int i ∨ ∃ b : Bool, x = .bl b ∧ i = if b = true then 1 else 0
def rAddN : R2 := fun x y H Q => ∃ i j, NumV x i ∧ y = .int j ∧ Q (.int (i + j)) H
def rSubN : R2 := fun x y H Q => ∃ i j, NumV x i ∧ y = .int j ∧ Q (.int (i - j)) H
theorem op_addN : OpR X (binaryOp .Add) rAddN := by
  intro pins s σ H x y v u Q I rx ry h
  obtain ⟨i, j, n, rfl, q⟩ := h
  rcases n with rfl | ⟨b, rfl, rfl⟩
  · exact op_add pins s σ H _ _ v u Q I rx ry ⟨_, _, rfl, rfl, q⟩
  · cases rx
    obtain ⟨t, rfl⟩ := ry
    exact PySem.IntBool.add_bool_int ⟨.int _, H, I.tok _, ⟨_, rfl⟩, q⟩
theorem op_subN : OpR X (binaryOp .Sub) rSubN := by
  intro pins s σ H x y v u Q I rx ry h
  obtain ⟨i, j, n, rfl, q⟩ := h
  rcases n with rfl | ⟨b, rfl, rfl⟩
  · exact op_sub pins s σ H _ _ v u Q I rx ry ⟨_, _, rfl, rfl, q⟩
  · cases rx
    obtain ⟨t, rfl⟩ := ry
    exact PySem.IntBool.sub_bool_int ⟨.int _, H, I.tok _, ⟨_, rfl⟩, q⟩
theorem call_strN : CallR X (.type "str") (fun xs H Q => (∃ i : Int, xs = [.int i] ∧ i.natAbs.log2 < 1920 ∧ Q (.str (toString i)) H) ∨ ∃ b : Bool, xs = [.bl b] ∧ Q (.str (if b then "True" else "False")) H) := by
  intro pins s σ H xs us Q I r h
  rcases h with h | ⟨b, rfl, q⟩
  · exact call_str_int pins s σ H xs us Q I r h
  · obtain ⟨u, rfl, rx⟩ := vals1 r
    cases rx
    exact P.str_of_bool ⟨.str _, H, I.tok _, ⟨_, rfl⟩, q⟩
/-- two of one kind, one behind the other; a part of either -/
def rCatB (K : PySem.W.Frag) : R2 := fun x y H Q => rCatL K x y H Q ∨ rCatA K x y H Q ∨ rAddN x y H Q
theorem op_catB : OpR X (binaryOp .Add) (rCatB X.K) := by
  intro pins s σ H x y v u Q I rx ry h
  rcases h with h | h | h
  · exact op_catL pins s σ H x y v u Q I rx ry h
  · exact op_catA pins s σ H x y v u Q I rx ry h
  · exact op_addN pins s σ H x y v u Q I rx ry h
def rSlB (K : PySem.W.Frag) : V → Option Int → Option Int → Hp → VK → Prop := fun x lo hi H Q => rSlL K x lo hi H Q ∨ rSlA K x lo hi H Q
theorem sl_B : SlR X (rSlB X.K) := by
  intro pins s σ H x v vl vu lo hi sl Q I rx hs pl pu h
  rcases h with h | h
  · exact sl_list pins s σ H x v vl vu lo hi sl Q I rx hs pl pu h
  · exact sl_tupA pins s σ H x v vl vu lo hi sl Q I rx hs pl pu h
/-- isinstance(x, (tuple, list)), the classes' tuple laid just now -/
def isTL : PyData → Bool | .tuple _ => true | .list _ => true | _ => false
def rIsTL (K : PySem.W.Frag) : List V → Hp → VK → Prop := fun xs H Q => ∃ (x : V) (tp : Addr) (d : PyData), xs = [x, .ref tp] ∧ H tp = some (.tup [.ty "tuple", .ty "list"]) ∧ Dp K H x d ∧ Q (.bl (isTL d)) H
theorem call_isTL : CallR X (.builtin "isinstance") (rIsTL X.K) := by
  intro pins s σ H xs us Q I r h
  obtain ⟨x, tp, d, rfl, ht, hd, q⟩ := h
  refine call_isiT pins s σ H _ us Q I r ⟨x, tp, _, _, [.type "tuple", .type "list"], isTL d, rfl, ht, .cons (.ty _) (.cons (.ty _) .nil), dp_ty hd, ?_, q⟩
  have k1 : PySem.W.kitOne X.K (.type (tyN d)) (.type "tuple") = some (isT d) := by
    apply kit_ty
    cases d <;> simp only [tyN, isT] <;> decide +kernel
  have k2 : PySem.W.kitOne X.K (.type (tyN d)) (.type "list") = some (isL d) := by
    apply kit_ty
    cases d <;> simp only [tyN, isL] <;> decide +kernel
  refine kitAny_cons k1 (fun e => kitAny_cons k2 (fun e2 => ?_) (fun e2 => ?_)) (fun e => ?_)
  · rw [kitAny_nil]
    cases d <;> simp [isT, isL, isTL] at e e2 ⊢
  · cases d <;> simp [isL, isTL] at e2 ⊢
  · cases d <;> simp [isT, isTL] at e ⊢
end
/-! ### t[::-1] of a tuple -/
section
variable {prog : Program} {w : World} {A : Around} {E : Value → Shared → Prop} {s : Shared}
theorem rev_adjust (n : Nat) : Builtin.Slice.sliceAdjust none none (-1) (n : Int) = ((n : Int) - 1, -1) := by
  unfold Builtin.Slice.sliceAdjust
  simp
theorem rev_places (n : Nat) : Builtin.Slice.slicePlaces ((n : Int) - 1) (-1) (-1) = n := by
  unfold Builtin.Slice.slicePlaces
  simp
  by_cases h : n = 0
  · subst h; simp
  · rw [if_pos (by omega)]
    omega
theorem rev_applied {sl : Addr} {u : Tok} {n : Nat} {Q : Int × Int × Nat → Shared → Prop} (hs : s.heap.IsSliceOf sl .none .none (.int (-1) u)) (h : Q ((n : Int) - 1, -1, n) s) :
    wpAny (model prog w) A (Builtin.Slice.sliceApplied (.ref sl) (pure (n : Int))) Q E s := by
  obtain ⟨os, hos, hcs, hds⟩ := id hs
  unfold Builtin.Slice.sliceApplied Builtin.Slice.sliceFields
  refine wpAny_bind (wpAny_bind ?_)
  refine wpAny_field hos hds (x := .none) rfl (wpAny_bind ?_)
  refine wpAny_field hos hds (x := .none) rfl (wpAny_bind ?_)
  refine wpAny_field hos hds (x := .int (-1) u) rfl (wpAny_pure ?_)
  refine wpAny_bind (slicePart_int ?_)
  show wpAny _ _ (if ((-1 : Int) == 0) = true then _ else _) _ _ s
  rw [if_neg (by decide)]
  refine wpAny_bind (slicePart_none (wpAny_bind (slicePart_none (wpAny_bind (wpAny_pure ?_)))))
  show wpAny _ _ (match Builtin.Slice.sliceAdjust none none (-1) (n : Int) with | (lo, hi) => pure (lo, (-1 : Int), Builtin.Slice.slicePlaces lo hi (-1))) _ _ s
  rw [rev_adjust n]
  show wpAny _ _ (pure ((n : Int) - 1, (-1 : Int), Builtin.Slice.slicePlaces ((n : Int) - 1) (-1) (-1))) _ _ s
  rw [rev_places]
  exact wpAny_pure h
theorem rev_pick (xs : Array Value) : ((List.range xs.size).filterMap fun (m : Nat) => xs[((xs.size : Int) - 1 + (m : Int) * (-1)).toNat]?).toArray = xs.toList.reverse.toArray := by
  congr 1
  obtain ⟨l⟩ := xs
  simp only [List.size_toArray, List.getElem?_toArray]
  have e : (List.range l.length).filterMap (fun (m : Nat) => l[((l.length : Int) - 1 + (m : Int) * (-1)).toNat]?) = (List.range l.length).filterMap (fun m => l.reverse[m]?) := by
    have g : ∀ (ms : List Nat), (∀ m ∈ ms, m < l.length) → ms.filterMap (fun (m : Nat) => l[((l.length : Int) - 1 + (m : Int) * (-1)).toNat]?) = ms.filterMap (fun m => l.reverse[m]?) := by
      intro ms
      induction ms with
      | nil => intro _; rfl
      | cons m ms ih =>
        intro hm
        have hm' : m < l.length := hm m (by simp)
        rw [List.filterMap_cons, List.filterMap_cons, ih fun x hx => hm x (by simp [hx]), List.getElem?_reverse hm', show ((l.length : Int) - 1 + (m : Int) * (-1)).toNat = l.length - 1 - m from by omega]
    exact g _ fun m hm => List.mem_range.mp hm
  rw [e]
  have e2 : ∀ r : List Value, (List.range r.length).filterMap (fun m => r[m]?) = r := by
    intro r
    induction r with
    | nil => rfl
    | cons x r ih =>
      rw [List.length_cons, List.range_succ_eq_map, List.filterMap_cons]
      simp only [List.getElem?_cons_zero, List.filterMap_map]
      congr 1
  have := e2 l.reverse
  rw [List.length_reverse] at this
  exact this
theorem getItem_tuple_rev {t sl : Addr} {items : Array Value} {u : Tok} {Q : Value → Shared → Prop} (ht : IsTup s.heap t items) (hs : s.heap.IsSliceOf sl .none .none (.int (-1) u))
    (h : Q (.ref s.heap.objs.size) { s with heap := s.heap.push { cls := .type "tuple", data := .seq items.toList.reverse.toArray } }) (hsz : items.size ≤ sizeLine) : wpAny (model prog w) A (getItem (.ref t) (.ref sl)) Q E s := by
  have hr : sizeOk (.seq items.toList.reverse.toArray) := by
    show items.toList.reverse.toArray.size ≤ sizeLine
    simpa using hsz
  obtain ⟨os, hos, hcs, hds⟩ := id hs
  have hTs : s.TypeIs (.ref sl) "slice" := ⟨os, hos, hcs⟩
  unfold getItem
  try with_reducible refine wpAny_holding ?_
  first | skip | refine wpAny_bind (wpAny_pure ?_)
  refine wpAny_bind (wpAny_sequenceKey ht.typeIs (by decide) ?_)
  refine wpAny_bind (wpAny_callSpecial?_slot (name := Str.ofString "__getitem__") ht.typeIs PyProof.Rows.slot_tuple_getitem (wpAny_call_entry PyProof.Rows.slot_tuple_getitem ht.typeIs entry_tuple_getitem ?_ (args_tuple_getitem _ _)))
  show wpAny _ _ (Builtin.Tuple.tupleItemsOf (.ref t) >>= _) _ _ s
  refine wpAny_bind (tupleItemsOf_ ht ?_)
  refine wpAny_bind (wpAny_typeOf hTs ?_)
  rw [if_pos (by decide)]
  refine wpAny_bind (rev_applied hs ?_)
  show wpAny _ _ (if ((items.size : Int) - 1 == 0 && (-1 : Int) == 1 && items.size == items.size) = true then _ else _) _ _ s
  rw [if_neg (by simp), rev_pick]
  first
    | exact wpAny_bind (m := Builtin.Tuple.tupleExact _) (wpAny_newObj_type (wpAny_pure ⟨_, rfl, wpAny_pure h⟩) hr)
    | exact wpAny_bind (m := Builtin.Tuple.tupleExact _) (wpAny_newObj_type (wpAny_bind (wpAny_pure (wpAny_pure ⟨_, rfl, wpAny_pure h⟩))) hr)
    | exact wpAny_bind (wpAny_bind (m := Builtin.Tuple.tupleExact _) (wpAny_newObj_type (wpAny_pure (wpAny_pure ⟨_, rfl, wpAny_pure h⟩)) hr))
    | exact wpAny_bind (wpAny_bind (m := Builtin.Tuple.tupleExact _) (wpAny_newObj_type (wpAny_pure ⟨_, rfl, wpAny_pure h⟩) hr))
end
section
variable {X : Cx}
def tRevB (K : PySem.W.Frag) (te : TE) : TE := fun σ H Q => te σ H fun x H1 => (∃ a xs, x = .ref a ∧ SqL K H1 a xs ∧ ∀ p, H1 p = none → Q (.ref p) (upd H1 p (.lst xs.reverse))) ∨ ∃ a xs, x = .ref a ∧ SqT K H1 a xs ∧ ∀ p, H1 p = none → Q (.ref p) (upd H1 p (.tup xs.reverse))
theorem pe_revB {e : Expr} {te : TE} {k : Nat} {p1 p2 p3 pos : Pos} (he : PE X e te) : PE X (.Subscript e (.Slice none none (some (.UnaryOp .USub (.Constant (.int 1) k p1) p2)) p3) pos) (tRevB X.K te) := by
  constructor
  intro pins s σ H Q I h
  refine Subscript_ (thn (he.run pins s σ H _ I h) ?_)
  rintro v s1 ⟨x, H1, I1, r1, q1⟩
  have step : PO X (some (.UnaryOp .USub (.Constant (.int 1) k p1) p2)) (tPart (tUn (rU fun i => .int (-i)) (tC (.int 1)))) := po_some (pe_un un_neg pe_int)
  refine wpAny_Slice (thn (po_none.run pins s1 σ H1 (fun o H2 => o = none ∧ H2 = H1) I1 ⟨rfl, rfl⟩) ?_)
  rintro vl s2 ⟨l, H2, I2, pl, rfl, rfl⟩
  refine thn (po_none.run pins s2 σ H2 (fun o H3 => o = none ∧ H3 = H2) I2 ⟨rfl, rfl⟩) ?_
  rintro vu s3 ⟨u, H3, I3, pu, rfl, rfl⟩
  refine thn (step.run pins s3 σ H3 (fun o H4 => o = some (-1) ∧ H4 = H3) I3 ⟨1, rfl, -1, rfl, rfl, rfl⟩) ?_
  rintro vs s4 ⟨o, H4, I4, ps, rfl, rfl⟩
  have I5 := I4.kept (h' := s4.heap.push { cls := .type "slice", data := .fields #[vl, vu, vs] }) (t' := s4.toks) fun b ob q => Heap.get?_push_of_some _ q
  rcases q1 with ⟨a, xs, rfl, hx, q⟩ | ⟨a, xs, rfl, hx, q⟩
  · cases r1
    obtain ⟨its, r, ht, hz⟩ := I5.list hx
    have hlen := r.length
    refine tail_any (ops := [.ref a, .ref s4.heap.objs.size]) ht.isList.typeIs (PySem.slot_list_getitem.lookup) ?_ (by with_unfolding_all rfl)
    refine wpAny_getItem_list_slice ht.isList (Heap.IsSliceOf.new _ vl vu vs) pl pu ps (by decide) ?_ (by simp only [List.size_toArray]; omega)
    rw [PySem.W.krv_pick]
    have I6 := I5.laid (a := (s4.heap.push { cls := .type "slice", data := .fields #[vl, vu, vs] }).objs.size) (t' := s4.toks) (o := .lst xs.reverse) (fun b ob q => Heap.get?_push_of_some _ q) (Nat.le_refl _) ⟨by rw [List.length_reverse]; exact hz, _, 0, r.reverse, Heap.get?_push_size _ rfl⟩
    exact ⟨.ref _, _, I6, rfl, q _ (I5.hok.fresh (Nat.le_refl _))⟩
  · cases r1
    obtain ⟨its, r, ht, hz⟩ := I5.tuple hx
    have hlen := r.length
    cases pl
    cases pu
    cases ps
    rename_i tk
    refine tail_any (ops := [.ref a, .ref s4.heap.objs.size]) ht.typeIs (PyProof.Rows.slot_tuple_getitem.lookup) ?_ (by with_unfolding_all rfl)
    refine getItem_tuple_rev ht (Heap.IsSliceOf.new _ .none .none (.int (-1) tk)) ?_ (by simp only [List.size_toArray]; omega)
    have hg := Heap.get?_push_size (s4.heap.push { cls := .type "slice", data := .fields #[.none, .none, .int (-1) tk] }) (o := { cls := .type "tuple", data := .seq its.reverse.toArray }) rfl
    have I6 := I5.laid (a := (s4.heap.push { cls := .type "slice", data := .fields #[.none, .none, .int (-1) tk] }).objs.size) (t' := s4.toks) (o := .tup xs.reverse) (fun b ob q => Heap.get?_push_of_some _ q) (Nat.le_refl _) ⟨by rw [List.length_reverse]; exact hz, _, r.reverse, ⟨_, hg, rfl, _, rfl⟩⟩
    exact ⟨.ref _, _, I6, rfl, q _ (I5.hok.fresh (Nat.le_refl _))⟩
end
end PS

namespace PS
open PySem PySem.Spec PyProof.Rows L2
/-! ### l.count(x) of data -/
def rCountD (K : PySem.W.Frag) : V → List V → Hp → VK → Prop := fun x xs H Q => ∃ (a : Addr) (y : V) (d : PyData) (ds : List PyData), x = V.ref a ∧ xs = [y] ∧ Dp K H (V.ref a) (.list ds) ∧ Dp K H y d ∧
  SeqAt.shaped (.list ds) = true ∧ SeqAt.shaped d = true ∧ d.depth ≤ 60 ∧ Q (.int (ds.countP (fun z => PyData.eqv z d) : Nat)) H
theorem mt_lcountD {X : Cx} (hu : X.A.units + 64 < cLine) : MtR X "list.count" (rCountD X.K) := by
  intro pins s σ H x xs v us Q I rx rxs h
  obtain ⟨a, y, d, ds, rfl, rfl, hl, hy, sl, sd, d60, q⟩ := h
  cases rx
  cases rxs with
  | cons ry rt =>
    rename_i uy ut
    cases rt
    obtain ⟨bs, r1⟩ := Dp.reads I d y uy hy ry
    have hxs : PyData.canLayAll0 ds = true := SeqAt.canLay_of_shaped sl
    have hroom : X.A.units + 1 + min (PyData.depthAll ds) d.depth < cLine := by
      have := Nat.min_le_right (PyData.depthAll ds) d.depth
      omega
    cases hl with
    | lst hs ha =>
      obtain ⟨its, rv, ⟨⟨cls, dd, data, sls⟩, n, ho, hc, hdn, hdt⟩, hlen⟩ := I.list hs
      simp only at hc hdt
      subst hc hdt
      obtain ⟨as, h4⟩ := Dp.readsAll I ds _ its ha rv
      have hmap : its.map (SeqAt.readOf s.heap) = ds := SeqAt.readsAll_map ds its as hxs h4
      refine call_meets PySem.F.slot_list_count ⟨_, ho, rfl⟩ PySem.F.entry_list_count (PySem.F.args_list_count_2 _ _)
        (SeqAt.list_countAt a its.toArray n dd sls uy (fun u => PyData.eqv (SeqAt.readOf s.heap u) d)) ⟨ho, SeqAt.items_eqAt (vs := its.toArray) (show ReadsAll s.heap its.toArray.toList ds as from h4) r1 hxs (SeqAt.canLay_of_shaped sd) hroom, ?_⟩
      refine ⟨.int _, H, I.tok _, ⟨_, rfl⟩, ?_⟩
      rw [← hmap, List.countP_map] at q
      exact q
theorem canLay_iD : ∀ ns : List Int, PyData.canLayAll0 (iD ns) = true
  | [] => by simp [PyData.canLayAll0]
  | n :: ns => by
    show PyData.canLayAll0 (PyData.int n :: iD ns) = true
    simp [PyData.canLayAll0, PyData.canLay0]
    exact canLay_iD ns
theorem canLay_tI (ns : List Int) : (tI ns).canLay0 = true := by
  simp [PyData.canLay0]
  exact canLay_iD ns
theorem shaped_tI (ns : List Int) : SeqAt.shaped (tI ns) = true := by
  unfold SeqAt.shaped
  rw [canLay_tI, decide_eq_true (Nat.le_trans (depth_tI ns) (by decide))]
  rfl
theorem canLay_all : ∀ ds : List PyData, (∀ d ∈ ds, d.canLay0 = true) → PyData.canLayAll0 ds = true
  | [], _ => by simp [PyData.canLayAll0]
  | d :: ds, h => by
    simp only [PyData.canLayAll0, Bool.and_eq_true]
    exact ⟨h d (by simp), canLay_all ds fun x hx => h x (by simp [hx])⟩
theorem shaped_list {ds : List PyData} (h : ∀ d ∈ ds, d.canLay0 = true ∧ d.depth ≤ 63) : SeqAt.shaped (.list ds) = true := by
  unfold SeqAt.shaped
  have e1 : (PyData.list ds).canLay0 = true := by
    simp only [PyData.canLay0]
    exact canLay_all ds fun d hd => (h d hd).1
  have e2 : (PyData.list ds).depth ≤ 64 := by
    rw [PyData.depth]
    have := depthAll_le (n := 63) ds fun d hd => (h d hd).2
    omega
  rw [e1, decide_eq_true e2]
  rfl
end PS

namespace PS
open PySem PySem.Spec PyProof.Rows L2
/-! ### min(lists, key=len) -/
def tMinLen (K : PySem.W.Frag) (t : TA) : TE := fun σ H Q => t σ H fun vs H1 => ∃ (a : Addr) (xs : List V) (len : Nat → Nat), vs = [.ref a] ∧ SqL K H1 a xs ∧ 0 < xs.length ∧
  (∀ i v, xs[i]? = some v → ∃ c ys, v = .ref c ∧ SqL K H1 c ys ∧ ys.length = len i) ∧ ∀ i v, xs[i]? = some v → (∀ j, j < xs.length → len i ≤ len j) → Q v H1
theorem argBest_nat (num : Nat → Nat) : ∀ k, argBest (fun i j => decide ((num i : Int) < (num j : Int))) k ≤ k ∧ ∀ j, j ≤ k → num (argBest (fun i j => decide ((num i : Int) < (num j : Int))) k) ≤ num j
  | 0 => ⟨Nat.le_refl _, fun j hj => by
      have : j = 0 := by omega
      subst this; exact Nat.le_refl _⟩
  | k + 1 => by
    obtain ⟨h1, h2⟩ := argBest_nat num k
    simp only [argBest]
    by_cases hc : (num (k + 1) : Int) < (num (argBest (fun i j => decide ((num i : Int) < (num j : Int))) k) : Int)
    · rw [if_pos (decide_eq_true hc)]
      refine ⟨Nat.le_refl _, fun j hj => ?_⟩
      by_cases e : j = k + 1
      · subst e; exact Nat.le_refl _
      · have := h2 j (by omega)
        omega
    · rw [if_neg (by rw [decide_eq_false hc]; simp)]
      refine ⟨by omega, fun j hj => ?_⟩
      by_cases e : j = k + 1
      · subst e; omega
      · exact h2 j (by omega)
theorem call_minLen {X : Cx} (hc : X.calm = true) {pins : List (Addr × Obj)} {s : Shared} {σ : L2.St} {H : Hp} {Q : VK} (I : Inv X pins σ H s) {a : Addr} {xs : List V} {len : Nat → Nat} (hs : SqL X.K H a xs) (h0 : 0 < xs.length)
    (hl : ∀ i v, xs[i]? = some v → ∃ c ys, v = .ref c ∧ SqL X.K H c ys ∧ ys.length = len i) (q : ∀ i v, xs[i]? = some v → (∀ j, j < xs.length → len i ≤ len j) → Q v H) :
    wpAny (model X.prog X.w) X.A (call (.builtin "min") [.ref a] [(Str.ofString "key", .builtin "len")]) (EP X pins σ Q) X.xe s := by
  obtain ⟨its, rv, hil, _⟩ := I.list hs
  have hlen := rv.length
  refine call_min_walkKB (PySem.W.iter_listW (I.ok.hd hc) hil.isList fun s₂ e W st hfp hnew hold => ?_)
  refine ⟨_, _, _, _, _, _, _, fun s' => (∀ b o, s.heap.get? b = some o → s'.heap.get? b = some o) ∧ s'.gens = s.gens ∧ s'.drawn = s.drawn ∧ s'.os = s.os, fun i k _ => ∃ t, k = .int (len i : Nat) t, fun i j => decide ((len i : Int) < (len j : Int)), rfl, W, st, hfp, by simp; omega, ⟨?_, ?_, ?_, ?_⟩, ?_, ?_⟩
  · intro s1 s2 hJ hM
    refine ⟨fun b o hb => hM.heap b o (fun hm => ?_) (hJ.1 b o hb), ?_, hM.drawn.trans hJ.2.2.1, hM.os.trans hJ.2.2.2⟩
    · rcases List.mem_cons.mp hm with z | z
      · have hb' := Heap.lt_size (hold b o hb)
        rw [z] at hb'
        exact Nat.lt_irrefl _ hb'
      · exact hnew b o hb z
    · have := hM.gens
      exact this.trans hJ.2.1
  · intro i k s1 s2 hV _
    exact hV
  · intro i v s1 o Q1 E1 hi hP hJ hst hS hQ
    have hv : its[i]? = some v := by simpa using hP
    have hi' : i < its.length := (List.getElem?_eq_some_iff.mp hv).1
    have hx : xs[i]? = some xs[i] := List.getElem?_eq_getElem (by omega)
    obtain ⟨u, hu, ru⟩ := rv.get hx
    rw [hv] at hu
    cases Option.some.inj hu
    obtain ⟨c, ys, ec, hsc, hyl⟩ := hl i _ hx
    rw [ec] at ru
    cases ru
    obtain ⟨cits, cr, ⟨co, cn, ho, hcc, hcd, hcs⟩, hz⟩ := I.list hsc
    have hcl := cr.length
    have hil' : s1.heap.IsList c cits.toArray := ⟨co, hJ.1 _ _ ho, hcc, cn, hcs⟩
    have hn := line63
    have hsz := sizeLine_eq
    refine Calls.call_len_list hil' (by simp only [List.size_toArray]; omega) ?_
    refine hQ _ _ ⟨hJ.1, hJ.2.1, hJ.2.2.1, hJ.2.2.2⟩ ?_ hS ⟨s1.toks + 1, ?_⟩ (fun _ _ h => h)
    · exact W.frame (i + 1) s1 s1.heap _ hst (by omega) fun b _ o e => e
    · rw [List.size_toArray, ← hcl, hyl]
  · intro i j ki kj s1 Q1 E1 hJ hi hj hq
    obtain ⟨t, rfl⟩ := hi
    obtain ⟨u, rfl⟩ := hj
    exact richCompare_gives (op := .Lt) (typeIs_int s1 _ t) (typeIs_int s1 _ u) F.slot_int_lt F.entry_int_lt (F.args_int_lt_2 _ _) (gives_int_lt _ _ t u) (fun x => nomatch x) hq
  · subst e
    exact ⟨hold, rfl, rfl, rfl⟩
  · intro v s' hP hJ
    have hb := argBest_nat len (its.toArray.size - 1)
    have hits : its.toArray.size = its.length := by simp
    have hP' : its[argBest (fun i j => decide ((len i : Int) < (len j : Int))) (its.toArray.size - 1)]? = some v := by simpa using hP
    have hidx : argBest (fun i j => decide ((len i : Int) < (len j : Int))) (its.toArray.size - 1) < xs.length := by
      have := (List.getElem?_eq_some_iff.mp hP').1
      omega
    have hx := List.getElem?_eq_getElem hidx
    obtain ⟨u, hu, ru⟩ := rv.get hx
    rw [hP'] at hu
    cases Option.some.inj hu
    have hs' : s' = { s with heap := s'.heap, toks := s'.toks } := by
      obtain ⟨h1, h2, h3, h4⟩ := hJ
      cases s'
      cases s
      simp only at h2 h3 h4
      subst h2 h3 h4
      rfl
    rw [hs']
    exact ⟨_, H, I.kept hJ.1, ru, q _ _ hx fun j hj => hb.2 j (by omega)⟩
theorem pe_minLen {X : Cx} {e : Expr} {t : TA} {p p2 kp pos : Pos} (hc : X.calm = true) (hg : Gl X "min") (hm : X.mg "min" = none) (hgl : Gl X "len") (hml : X.mg "len" = none) (ha : PA X [e] t)
    (he : backTo pos (starEach [e] X.env) = (false, eval e X.env) :: backTo pos (starEach [] X.env) := by rfl) (hpl : (backTo pos (starEach [e] X.env)).any (·.1) = false := by rfl) :
    PE X (.Call (.Name "min" p) [e] [⟨some "key", .Name "len" p2, kp⟩] pos) (tMinLen X.K t) := by
  refine ⟨fun pins s σ H Q I h => ?_⟩
  refine wpAny_Call_Name_kw (ld_blt I hg hm PyProof.Rows.boot_min ?_)
  refine PyProof.Rows.callWith_kw (thn (ha.run pos pins s σ H _ I h) ?_) he hpl rfl rfl
  rintro us s1 ⟨vs, H1, I1, r1, a, xs, len, rfl, hs, h0, hl, q⟩
  rw [Vals.ref1 r1]
  show wpAny _ _ (evalAll [do let v ← eval (.Name "len" p2) X.env; standAt pos; pure v]) _ _ s1
  refine wpAny_evalAll_cons (wpAny_bind (ld_blt I1 hgl hml PySem.boot_len (wpAny_bind (wpAny_standAt (wpAny_pure ?_)))))
  exact wpAny_evalAll_nil (call_minLen hc I1 hs h0 hl q)
end PS

namespace PS
open PySem PySem.Spec PyProof.Rows L2
/-! ### what the defs tell, over data -/
def within (d : PyData) (lo hi : Int) : Bool := match d with
  | .int i => if lo ≤ i then decide (i ≤ hi) else false
  | _ => false
def tupOf (d : PyData) (n : Int) : Bool := match d with
  | .tuple ds => decide ((ds.length : Int) = n)
  | _ => false
def areBlocks (d : PyData) : Bool := match d with
  | .tuple ds => if 1 ≤ (ds.length : Int) ∧ (ds.length : Int) ≤ 8 then ds.all (fun x => within x 1 50) else false
  | _ => false
def intOf : PyData → Int
  | .int i => i
  | _ => 0
def isShelf (d : PyData) : Bool := match d with
  | .tuple [r, .tuple bs] => if areBlocks (.tuple bs) = true then within r (bs.map intOf).sum ((bs.map intOf).sum + 400) else false
  | _ => false
theorem within_ints : ∀ {ds : List PyData} {lo hi : Int}, ds.all (fun x => within x lo hi) = true → ∃ ns : List Int, ds = iD ns ∧ ∀ n ∈ ns, lo ≤ n ∧ n ≤ hi
  | [], _, _, _ => ⟨[], rfl, by simp⟩
  | d :: ds, lo, hi, h => by
    rw [List.all_cons, Bool.and_eq_true] at h
    obtain ⟨ns, e, q⟩ := within_ints h.2
    cases d with
    | int i =>
      have h1 := h.1
      unfold within at h1
      simp only at h1
      by_cases hl : lo ≤ i
      · rw [if_pos hl] at h1
        have h2 := of_decide_eq_true h1
        exact ⟨i :: ns, by rw [e]; rfl, fun n hn => by
          rcases List.mem_cons.mp hn with rfl | hn
          · exact ⟨hl, h2⟩
          · exact q n hn⟩
      · rw [if_neg hl] at h1; cases h1
    | _ => simp [within] at h
theorem intOf_iD : ∀ ns : List Int, (iD ns).map intOf = ns
  | [] => rfl
  | n :: ns => by
    show n :: (iD ns).map intOf = n :: ns
    rw [intOf_iD ns]
/-- a shelf -/
abbrev shD (room : Int) (ls : List Int) : PyData := .tuple [.int room, tI ls]
structure ShOk (room : Int) (ls : List Int) : Prop where
  n1 : 1 ≤ ls.length
  n8 : ls.length ≤ 8
  l1 : ∀ l ∈ ls, 1 ≤ l ∧ l ≤ 50
  lo : ls.sum ≤ room
  hi : room ≤ ls.sum + 400
theorem areBlocks_ints {ds : List PyData} (h : areBlocks (.tuple ds) = true) : ∃ ls : List Int, ds = iD ls ∧ 1 ≤ ls.length ∧ ls.length ≤ 8 ∧ ∀ l ∈ ls, 1 ≤ l ∧ l ≤ 50 := by
  unfold areBlocks at h
  simp only at h
  split at h
  · rename_i hc
    obtain ⟨ls, rfl, q⟩ := within_ints h
    rw [List.length_map] at hc
    exact ⟨ls, rfl, by omega, by omega, q⟩
  · cases h
theorem all_within {ls : List Int} {lo hi : Int} (h : ∀ l ∈ ls, lo ≤ l ∧ l ≤ hi) : (iD ls).all (fun x => within x lo hi) = true := by
  rw [List.all_eq_true]
  intro x hx
  obtain ⟨l, hl, rfl⟩ := List.mem_map.mp hx
  unfold within
  simp only
  rw [if_pos (h l hl).1]
  exact decide_eq_true (h l hl).2
theorem areBlocks_ok {ls : List Int} (h1 : 1 ≤ ls.length) (h8 : ls.length ≤ 8) (h : ∀ l ∈ ls, 1 ≤ l ∧ l ≤ 50) : areBlocks (tI ls) = true := by
  unfold areBlocks
  simp only
  rw [if_pos ⟨by rw [List.length_map]; omega, by rw [List.length_map]; omega⟩]
  exact all_within h
theorem isShelf_ok {room : Int} {ls : List Int} (h : ShOk room ls) : isShelf (shD room ls) = true := by
  unfold isShelf
  simp only
  rw [if_pos (areBlocks_ok h.n1 h.n8 h.l1), intOf_iD]
  unfold within
  simp only
  rw [if_pos h.lo]
  exact decide_eq_true h.hi
end PS

namespace PS
open PySem PySem.Spec PyProof.Rows L2
/-! ### slices, walks -/
theorem cut_to (xs : List V) (k : Nat) : cutV xs none (some (k : Int)) = xs.take k := by
  unfold cutV
  rw [HT.sIx_none, HT.sIx_nat, List.drop_zero, Nat.sub_zero]
  by_cases h : k ≤ xs.length
  · rw [Nat.min_eq_left h]
  · rw [Nat.min_eq_right (by omega), List.take_length, List.take_of_length_le (by omega)]
theorem cut_from (xs : List V) (k : Nat) : cutV xs (some (k : Int)) none = xs.drop k := by
  unfold cutV
  rw [HT.sIx_none, HT.sIx_nat]
  by_cases h : k ≤ xs.length
  · rw [Nat.min_eq_left h, List.take_of_length_le (by rw [List.length_drop]; omega)]
  · rw [Nat.min_eq_right (by omega), Nat.sub_self, List.take_zero, List.drop_of_length_le (by omega)]
/-- t[:k] of a tuple, whatever it is -/
theorem slT_to {K : PySem.W.Frag} {H : Hp} {Q : VK} {a : Addr} {xs : List V} {k : Nat} (s : SqT K H a xs) (q : ∀ p H', Same H H' → SqT K H' p (xs.take k) → Q (.ref p) H') : rSlA K (.ref a) none (some (k : Int)) H Q := by
  refine ⟨a, xs, rfl, s, fun h => ?_, fun h p np => ?_⟩
  · have e : xs.take k = xs := List.take_of_length_le (by
      have := h.2
      rw [HT.sIx_nat] at this
      omega)
    exact q a H (Same.refl H) (by rw [e]; exact s)
  · rw [cut_to]
    exact q p _ (same_new np) (.inl (.inl upd_same))
theorem slT_from {K : PySem.W.Frag} {H : Hp} {Q : VK} {a : Addr} {xs : List V} {k : Nat} (s : SqT K H a xs) (q : ∀ p H', Same H H' → SqT K H' p (xs.drop k) → Q (.ref p) H') : rSlA K (.ref a) (some (k : Int)) none H Q := by
  refine ⟨a, xs, rfl, s, fun h => ?_, fun h p np => ?_⟩
  · have e : xs.drop k = xs := by
      have := h.1
      rw [HT.sIx_nat] at this
      by_cases hk : k = 0
      · subst hk; rfl
      · have : xs.length = 0 := by omega
        rw [List.length_eq_zero_iff.mp this]; simp
    exact q a H (Same.refl H) (by rw [e]; exact s)
  · rw [cut_from]
    exact q p _ (same_new np) (.inl (.inl upd_same))
theorem walk_2 {b1 b2 : Bool} {K : PySem.W.Frag} {a1 a2 : Addr} {xs ys : List V} {n : Nat} (hn : n = min xs.length ys.length) :
    Walk (It2 b1 b2 K a1 a2) n (fun H => SqK b1 K H a1 xs ∧ SqK b2 K H a2 ys) (fun i H v H' => ∃ T x y, v = .ref T ∧ H T = none ∧ H' = upd H T (.tup [x, y]) ∧ xs[i]? = some x ∧ ys[i]? = some y) where
  goes := fun i H hi g => ⟨xs, ys, xs[i], ys[i], g.1, g.2, List.getElem?_eq_getElem (by omega), List.getElem?_eq_getElem (by omega)⟩
  stops := fun H g => ⟨xs, ys, g.1, g.2, hn⟩
  yields := fun i H x H' hi g y => by
    obtain ⟨T, x, y, rfl, nT, rfl, f1, f2⟩ := y
    exact ⟨T, x, y, rfl, nT, rfl, f1 xs g.1, f2 ys g.2⟩
theorem walk_3 {b1 b2 b3 : Bool} {K : PySem.W.Frag} {a1 a2 a3 : Addr} {xs ys zs : List V} {n : Nat} (hn : n = min (min xs.length ys.length) zs.length) :
    Walk (It3 b1 b2 b3 K a1 a2 a3) n (fun H => SqK b1 K H a1 xs ∧ SqK b2 K H a2 ys ∧ SqK b3 K H a3 zs) (fun i H v H' => ∃ T x y z, v = .ref T ∧ H T = none ∧ H' = upd H T (.tup [x, y, z]) ∧ xs[i]? = some x ∧ ys[i]? = some y ∧ zs[i]? = some z) where
  goes := fun i H hi g => ⟨xs, ys, zs, xs[i], ys[i], zs[i], g.1, g.2.1, g.2.2, List.getElem?_eq_getElem (by omega), List.getElem?_eq_getElem (by omega), List.getElem?_eq_getElem (by omega)⟩
  stops := fun H g => ⟨xs, ys, zs, g.1, g.2.1, g.2.2, hn⟩
  yields := fun i H x H' hi g y => by
    obtain ⟨T, x, y, z, rfl, nT, rfl, f1, f2, f3⟩ := y
    exact ⟨T, x, y, z, rfl, nT, rfl, f1 xs g.1, f2 ys g.2.1, f3 zs g.2.2⟩
theorem walk_1 {b : Bool} {K : PySem.W.Frag} {a : Addr} {xs : List V} {n : Nat} (hn : n = xs.length) :
    Walk (It1 b K a) n (fun H => SqK b K H a xs) (fun i H v H' => ∃ T x, v = .ref T ∧ H T = none ∧ H' = upd H T (.tup [.int (i : Nat), x]) ∧ xs[i]? = some x) where
  goes := fun i H hi g => ⟨xs, xs[i], g, List.getElem?_eq_getElem (by omega)⟩
  stops := fun H g => ⟨xs, g, hn⟩
  yields := fun i H x H' hi g y => by
    obtain ⟨T, x, rfl, nT, rfl, f⟩ := y
    exact ⟨T, x, rfl, nT, rfl, f xs g⟩
theorem ixN_at {n j : Nat} {z : Int} (e : z = (j : Int)) (h : j < n) : ixN n z = some j := by
  subst e
  unfold ixN
  rw [if_pos (by omega), if_pos (by omega)]
  simp
theorem iV_get {ns : List Int} {j : Nat} {v : Int} (h : ns[j]? = some v) : (iV ns)[j]? = some (.int v) := by
  rw [List.getElem?_map, h]
  rfl
theorem iV_set (ns : List Int) (j : Nat) (v : Int) : (iV ns).set j (.int v) = iV (ns.set j v) := List.map_set.symm
theorem iV_len (ns : List Int) : (iV ns).length = ns.length := List.length_map ..
/-! ### stands by their places -/
def pre (ls : List Int) (j : Nat) : Int := (ls.take j).sum
def stL (ls : List Int) (y : Nat → Int) : List Int := (List.range ls.length).map fun j => y j + pre ls j
structure Rise (n : Nat) (pl : Int) (y : Nat → Int) : Prop where
  lo : ∀ j, j < n → 0 ≤ y j
  hi : ∀ j, j < n → y j ≤ pl
  up : ∀ j, j + 1 < n → y j ≤ y (j + 1)
theorem pre_zero (ls : List Int) : pre ls 0 = 0 := by simp [pre]
theorem pre_succ {ls : List Int} {j : Nat} (h : j < ls.length) : pre ls (j + 1) = pre ls j + ls[j] := by
  unfold pre
  exact L2.sum_take (List.getElem?_eq_getElem h)
theorem pre_all (ls : List Int) {j : Nat} (h : ls.length ≤ j) : pre ls j = ls.sum := by
  unfold pre
  rw [List.take_of_length_le h]
theorem stL_len (ls : List Int) (y : Nat → Int) : (stL ls y).length = ls.length := by simp [stL]
theorem stL_get {ls : List Int} {y : Nat → Int} {j : Nat} (h : j < ls.length) : (stL ls y)[j]? = some (y j + pre ls j) := by
  simp [stL, h]
theorem stL_congr {ls : List Int} {y z : Nat → Int} (h : ∀ j, j < ls.length → y j = z j) : stL ls y = stL ls z := by
  apply List.ext_getElem?
  intro j
  by_cases hj : j < ls.length
  · rw [stL_get hj, stL_get hj, h j hj]
  · rw [List.getElem?_eq_none (by rw [stL_len]; omega), List.getElem?_eq_none (by rw [stL_len]; omega)]
theorem stL_inj {ls : List Int} {y z : Nat → Int} (h : stL ls y = stL ls z) : ∀ j, j < ls.length → y j = z j := fun j hj => by
  have e := congrArg (fun l : List Int => l[j]?) h
  simp only [stL_get hj] at e
  have := Option.some.inj e
  omega
theorem stL_set {ls : List Int} {y : Nat → Int} {k : Nat} {v : Int} (h : k < ls.length) : (stL ls y).set k v = stL ls (fun j => if j = k then v - pre ls k else y j) := by
  apply List.ext_getElem?
  intro j
  by_cases hj : j < ls.length
  · rw [stL_get hj, List.getElem?_set, stL_len]
    by_cases e : k = j
    · subst e
      rw [if_pos rfl, if_pos h, if_pos rfl]
      congr 1
      omega
    · rw [if_neg e, stL_get hj, if_neg (Ne.symm e)]
  · rw [List.getElem?_eq_none (by rw [List.length_set, stL_len]; omega), List.getElem?_eq_none (by rw [stL_len]; omega)]
def pR (g : Nat) (b : Int) (y : Nat → Int) : Nat → Int := fun j => if g ≤ j then max (y j) b else y j
def pL (g : Nat) (b : Int) (y : Nat → Int) : Nat → Int := fun j => if j < g then min (y j) b else y j
theorem pR_rise {n g : Nat} {pl b : Int} {y : Nat → Int} (h : Rise n pl y) (b0 : 0 ≤ b) (b1 : b ≤ pl) : Rise n pl (pR g b y) where
  lo := fun j hj => by
    have := h.lo j hj
    unfold pR; split <;> omega
  hi := fun j hj => by
    have := h.hi j hj
    unfold pR; split <;> omega
  up := fun j hj => by
    have := h.up j hj
    unfold pR; split <;> split <;> omega
theorem pL_rise {n g : Nat} {pl b : Int} {y : Nat → Int} (h : Rise n pl y) (b0 : 0 ≤ b) (b1 : b ≤ pl) : Rise n pl (pL g b y) where
  lo := fun j hj => by
    have := h.lo j hj
    unfold pL; split <;> omega
  hi := fun j hj => by
    have := h.hi j hj
    unfold pL; split <;> omega
  up := fun j hj => by
    have := h.up j hj
    unfold pL; split <;> split <;> omega
/-! ### is it a stand -/
def standG (room : Int) : Int → List PyData → List Int → Bool
  | e, d :: ds, l :: ls => match d with
    | .int i => if i < e then false else standG room (i + l) ds ls
    | _ => false
  | e, _, _ => decide (e ≤ room)
def isStand (room : Int) (ls : List Int) (d : PyData) : Bool := match d with
  | .tuple ds => if (ds.length : Int) = ls.length then standG room 0 ds ls else false
  | _ => false
theorem standG_ok {room : Int} {ls : List Int} {y : Nat → Int} (h : Rise ls.length (room - ls.sum) y) : ∀ (m k : Nat) (e : Int), m + k = ls.length → (k < ls.length → e ≤ y k + pre ls k) → (k = ls.length → e ≤ room) → standG room e ((iD (stL ls y)).drop k) (ls.drop k) = true
  | 0, k, e, hk, _, h2 => by
    rw [List.drop_of_length_le (by rw [List.length_map, stL_len]; omega), List.drop_of_length_le (by omega)]
    exact decide_eq_true (h2 (by omega))
  | m + 1, k, e, hk, h1, h2 => by
    have hlt : k < ls.length := by omega
    have e1 : (iD (stL ls y))[k]? = some (.int (y k + pre ls k)) := by
      rw [List.getElem?_map, stL_get hlt]
      rfl
    have hl : k < (iD (stL ls y)).length := by rw [List.length_map, stL_len]; exact hlt
    rw [List.drop_eq_getElem_cons hl, List.drop_eq_getElem_cons hlt]
    rw [List.getElem?_eq_getElem hl] at e1
    rw [Option.some.inj e1]
    unfold standG
    simp only
    rw [if_neg (by have := h1 hlt; omega)]
    have hp := pre_succ hlt
    refine standG_ok h m (k + 1) _ (by omega) (fun hq => ?_) (fun hq => ?_)
    · have := h.up k hq
      omega
    · have := h.hi k hlt
      have := pre_all ls (j := k + 1) (by omega)
      omega
theorem isStand_ok {room : Int} {ls : List Int} {y : Nat → Int} (h : Rise ls.length (room - ls.sum) y) (h0 : ls.sum ≤ room) : isStand room ls (tI (stL ls y)) = true := by
  unfold isStand
  simp only
  rw [if_pos (by rw [List.length_map, stL_len])]
  have := standG_ok h ls.length 0 0 (by omega) (fun hq => by
    have := h.lo 0 hq
    rw [pre_zero]
    omega) (fun hq => by
      have : ls = [] := List.length_eq_zero_iff.mp hq.symm
      subst this
      simpa using h0)
  simpa using this
/-! ### pushes, rows -/
/-- right or left, the gap, the place less the gap's length -/
abbrev Push := Bool × Nat × Int
def sideS (r : Bool) : Str := if r = true then "right" else "left"
def puD (ls : List Int) (p : Push) : PyData := .tuple [.str (sideS p.1), .int p.2.1, .int (p.2.2 + pre ls p.2.1)]
def roD (ls : List Int) (r : List Push) : PyData := .list (r.map (puD ls))
structure PuOk (n : Nat) (pl : Int) (p : Push) : Prop where
  g0 : p.1 = true → p.2.1 < n
  g1 : p.1 = false → 1 ≤ p.2.1 ∧ p.2.1 ≤ n
  b0 : 0 ≤ p.2.2
  b1 : p.2.2 ≤ pl
def doP (y : Nat → Int) (p : Push) : Nat → Int := if p.1 = true then pR p.2.1 p.2.2 y else pL p.2.1 p.2.2 y
def doR (y : Nat → Int) (r : List Push) : Nat → Int := r.foldl doP y
theorem doP_rise {n : Nat} {pl : Int} {y : Nat → Int} {p : Push} (h : Rise n pl y) (k : PuOk n pl p) : Rise n pl (doP y p) := by
  unfold doP
  split
  · exact pR_rise h k.b0 k.b1
  · exact pL_rise h k.b0 k.b1
theorem doR_rise {n : Nat} {pl : Int} : ∀ {r : List Push} {y : Nat → Int}, Rise n pl y → (∀ p ∈ r, PuOk n pl p) → Rise n pl (doR y r)
  | [], y, h, _ => h
  | p :: r, y, h, k => doR_rise (r := r) (doP_rise h (k p (by simp))) fun q hq => k q (by simp [hq])
theorem doR_app (y : Nat → Int) (r s : List Push) : doR y (r ++ s) = doR (doR y r) s := by simp [doR, List.foldl_append]
def isGap (n : Int) (s g : PyData) : Bool := if PyData.eqv s (.str "right") = true then within g 0 (n - 1) else if PyData.eqv s (.str "left") = true then within g 1 n else false
def isPush (room : Int) (ls : List Int) (d : PyData) : Bool := match d with
  | .tuple [s, g, p] => if isGap ls.length s g = true then within p (pre ls (intOf g).toNat) (pre ls (intOf g).toNat + (room - ls.sum)) else false
  | _ => false
def isRow (room : Int) (ls : List Int) (d : PyData) : Bool := match d with
  | .list ds => if (ds.length : Int) > 200 then false else ds.all (isPush room ls)
  | _ => false
theorem within_ok {i lo hi : Int} (h1 : lo ≤ i) (h2 : i ≤ hi) : within (.int i) lo hi = true := by
  unfold within
  simp only
  rw [if_pos h1]
  exact decide_eq_true h2
theorem isPush_ok {room : Int} {ls : List Int} {p : Push} (h : PuOk ls.length (room - ls.sum) p) : isPush room ls (puD ls p) = true := by
  obtain ⟨r, g, b⟩ := p
  obtain ⟨g0, g1, b0, b1⟩ := h
  simp only at g0 g1 b0 b1
  unfold isPush puD
  simp only
  have hg : isGap ls.length (.str (sideS r)) (.int (g : Int)) = true := by
    unfold isGap
    cases r with
    | true =>
      have := g0 rfl
      rw [if_pos (by decide +kernel)]
      exact within_ok (by omega) (by omega)
    | false =>
      have := g1 rfl
      rw [if_neg (by decide +kernel), if_pos (by decide +kernel)]
      exact within_ok (by omega) (by omega)
  rw [if_pos hg]
  exact within_ok (by simp [intOf]; omega) (by simp [intOf]; omega)
theorem isRow_ok {room : Int} {ls : List Int} {r : List Push} (hl : r.length ≤ 200) (h : ∀ p ∈ r, PuOk ls.length (room - ls.sum) p) : isRow room ls (roD ls r) = true := by
  unfold isRow roD
  simp only
  rw [if_neg (by rw [List.length_map]; omega), List.all_eq_true]
  intro d hd
  obtain ⟨p, hp, rfl⟩ := List.mem_map.mp hd
  exact isPush_ok (h p hp)
theorem puD_depth (ls : List Int) (p : Push) : (puD ls p).depth ≤ 1 := by
  unfold puD
  simp [PyData.depth, PyData.depthAll]
theorem noL_puD (ls : List Int) (p : Push) : noL (puD ls p) = true := rfl
end PS

namespace PS
/-! ### bands, by what they want: up, down; the ways to part them -/
abbrev Fl := Bool × Bool
def bad (g : List Fl) : Nat := ((g.head?.map (·.1)).getD false && (g.getLast?.map (·.2)).getD false).toNat
def gc : List Fl → Nat
  | [] => 0
  | [b] => b.1.toNat + b.2.toNat
  | b :: c :: g => (b :: c :: g).length + bad (b :: c :: g)
theorem bad_le (g : List Fl) : bad g ≤ 1 := by
  unfold bad
  exact Bool.toNat_le _
theorem gc_two {g : List Fl} (h : 2 ≤ g.length) : gc g = g.length + bad g := by
  match g, h with
  | b :: c :: g, _ => rfl
theorem gc_one (b : Fl) : gc [b] = b.1.toNat + b.2.toNat := rfl
inductive Way : List Fl → Nat → Prop
  | nil : Way [] 0
  | grp {g bs : List Fl} {c : Nat} : g ≠ [] → Way bs c → Way (g ++ bs) (gc g + c)
theorem Way.app {a b : List Fl} {c d : Nat} (h : Way a c) (k : Way b d) : Way (a ++ b) (c + d) := by
  induction h with
  | nil => simpa using k
  | grp hg _ ih =>
    rw [List.append_assoc, Nat.add_assoc]
    exact .grp hg ih
theorem Way.single {g : List Fl} (h : g ≠ []) : Way g (gc g) := by
  have := Way.grp h .nil
  simpa using this
def mir (g : List Fl) : List Fl := (g.map Prod.swap).reverse
theorem mir_mir (g : List Fl) : mir (mir g) = g := by
  unfold mir
  rw [List.map_reverse, List.reverse_reverse, List.map_map]
  simp
theorem mir_app (a b : List Fl) : mir (a ++ b) = mir b ++ mir a := by
  unfold mir
  rw [List.map_append, List.reverse_append]
theorem mir_len (a : List Fl) : (mir a).length = a.length := by simp [mir]
theorem bad_mir (g : List Fl) : bad (mir g) = bad g := by
  unfold bad mir
  rw [List.head?_reverse, List.getLast?_reverse, List.getLast?_map, List.head?_map, Option.map_map, Option.map_map, Bool.and_comm]
  rfl
theorem gc_mir (g : List Fl) : gc (mir g) = gc g := by
  match g with
  | [] => rfl
  | [b] =>
    show b.2.toNat + b.1.toNat = b.1.toNat + b.2.toNat
    omega
  | b :: c :: g =>
    rw [gc_two (by rw [mir_len]; simp), gc_two (by simp), bad_mir, mir_len]
theorem Way.mir {a : List Fl} {c : Nat} (h : Way a c) : Way (mir a) c := by
  induction h with
  | nil => exact .nil
  | @grp g bs c hg _ ih =>
    rw [mir_app, Nat.add_comm]
    refine Way.app ih ?_
    rw [← gc_mir]
    refine Way.single (fun z => hg ?_)
    have := congrArg List.length z
    rw [mir_len] at this
    exact List.length_eq_zero_iff.mp (by simpa using this)
theorem gc_ge {g : List Fl} (h : ∀ x ∈ g, x.2 = true) : g.length ≤ gc g := by
  match g, h with
  | [], _ => simp
  | [b], h =>
    have := h b (by simp)
    rw [gc_one, this]
    simp
  | b :: c :: g, _ =>
    rw [gc_two (by simp)]
    omega
theorem way_mid {L : List Fl} {c : Nat} (h : Way L c) : ∀ (J : List Fl) (t : Fl) (B : List Fl), L = J ++ t :: B → (∀ x ∈ J, x.2 = true) →
    ∃ B0 B1 cB, B = B0 ++ B1 ∧ Way B1 cB ∧ (J.length + 1 + B0.length + cB ≤ c ∨ (B0 = [] ∧ t.2 = false ∧ J.length + cB ≤ c)) := by
  induction h with
  | nil => intro J t B e; simp at e
  | @grp g bs c hg hw ih =>
    intro J t B e hJ
    by_cases hl : g.length ≤ J.length
    · obtain ⟨J2, rfl⟩ : ∃ J2, J = g ++ J2 := by
        refine ⟨J.drop g.length, ?_⟩
        have := congrArg (List.take g.length) e
        rw [List.take_left, List.take_append_of_le_length hl] at this
        have h2 := List.take_append_drop g.length J
        rw [← this] at h2
        exact h2.symm
      rw [List.append_assoc] at e
      have e2 := List.append_cancel_left e
      obtain ⟨B0, B1, cB, h1, h2, h3⟩ := ih J2 t B e2 (fun x hx => hJ x (by simp [hx]))
      have hge := gc_ge (g := g) (fun x hx => hJ x (by simp [hx]))
      refine ⟨B0, B1, cB, h1, h2, ?_⟩
      rw [List.length_append]
      rcases h3 with h3 | ⟨h3, h4, h5⟩
      · exact .inl (by omega)
      · exact .inr ⟨h3, h4, by omega⟩
    · obtain ⟨B0, rfl⟩ : ∃ B0, g = J ++ t :: B0 := by
        refine ⟨g.drop (J.length + 1), ?_⟩
        have := congrArg (List.take (J.length + 1)) e
        rw [List.take_append_of_le_length (by omega), List.take_length_add_append] at this
        simp only [List.take_succ_cons, List.take_zero] at this
        have h2 := List.take_append_drop (J.length + 1) g
        rw [this] at h2
        rw [← h2]
        simp
      rw [List.append_assoc] at e
      have e2 := List.append_cancel_left e
      have e3 : B0 ++ bs = B := by simpa using e2
      refine ⟨B0, bs, c, e3.symm, hw, ?_⟩
      by_cases h2 : 2 ≤ (J ++ t :: B0).length
      · rw [gc_two h2]
        simp only [List.length_append, List.length_cons] at h2 ⊢
        exact .inl (by omega)
      · simp only [List.length_append, List.length_cons] at h2
        have hJ0 : J = [] := List.length_eq_zero_iff.mp (by omega)
        have hB0 : B0 = [] := List.length_eq_zero_iff.mp (by omega)
        subst hJ0 hB0
        rw [List.nil_append, gc_one]
        cases ht : t.2 with
        | true => exact .inl (by simp)
        | false => exact .inr ⟨rfl, rfl, by simp⟩
theorem gc_le {g : List Fl} (h : 2 ≤ g.length) : gc g ≤ g.length + 1 := by
  rw [gc_two h]
  have := bad_le g
  omega
theorem way_push {L : List Fl} {c : Nat} (h : Way L c) : ∀ (A I' : List Fl) (t' : Fl) (B : List Fl), L = A ++ (I' ++ t' :: B) → (∀ x ∈ I', x.2 = true) → ∀ (I : List Fl) (t : Fl), I.length = I'.length → (t'.2 = true ∨ t'.2 = t.2) →
    ∃ c2, Way (A ++ (I ++ t :: B)) c2 ∧ c2 ≤ c + 1 := by
  induction h with
  | nil => intro A I' t' B e; simp at e
  | @grp g bs c hg hw ih =>
    intro A I' t' B e hI I t hl ht
    by_cases hA : g.length ≤ A.length
    · obtain ⟨A2, rfl⟩ : ∃ A2, A = g ++ A2 := by
        refine ⟨A.drop g.length, ?_⟩
        have := congrArg (List.take g.length) e
        rw [List.take_left, List.take_append_of_le_length hA] at this
        have h2 := List.take_append_drop g.length A
        rw [← this] at h2
        exact h2.symm
      rw [List.append_assoc] at e
      obtain ⟨c2, w2, l2⟩ := ih A2 I' t' B (List.append_cancel_left e) hI I t hl ht
      refine ⟨gc g + c2, ?_, by omega⟩
      rw [List.append_assoc]
      exact .grp hg w2
    · obtain ⟨R, rfl⟩ : ∃ R, g = A ++ R := by
        refine ⟨g.drop A.length, ?_⟩
        have := congrArg (List.take A.length) e
        rw [List.take_left, List.take_append_of_le_length (by omega)] at this
        have h2 := List.take_append_drop A.length g
        rw [this] at h2
        exact h2.symm
      rw [List.append_assoc] at e
      have e2 := List.append_cancel_left e
      rw [List.length_append] at hA
      by_cases hR : R.length ≤ I'.length
      · obtain ⟨J, rfl⟩ : ∃ J, I' = R ++ J := by
          refine ⟨I'.drop R.length, ?_⟩
          have := congrArg (List.take R.length) e2
          rw [List.take_left, List.take_append_of_le_length hR] at this
          have h2 := List.take_append_drop R.length I'
          rw [← this] at h2
          exact h2.symm
        rw [List.append_assoc] at e2
        have e3 := List.append_cancel_left e2
        obtain ⟨B0, B1, cB, rfl, w1, h3⟩ := way_mid hw J t' B e3 (fun x hx => hI x (by simp [hx]))
        have hge : A.length + R.length ≤ gc (A ++ R) := by
          by_cases h2 : 2 ≤ (A ++ R).length
          · rw [gc_two h2, List.length_append]
            omega
          · have h4 : A = [] := List.length_eq_zero_iff.mp (by rw [List.length_append] at h2; omega)
            subst h4
            have := gc_ge (g := R) (fun x hx => hI x (by simp [hx]))
            simpa using this
        rw [List.length_append] at hl
        have hG : 2 ≤ (A ++ (I ++ t :: B0)).length := by
          simp only [List.length_append, List.length_cons]
          omega
        refine ⟨gc (A ++ (I ++ t :: B0)) + cB, ?_, ?_⟩
        · have := Way.grp (g := A ++ (I ++ t :: B0)) (by simp) w1
          simpa using this
        · rcases h3 with h3 | ⟨rfl, h4, h5⟩
          · have := gc_le hG
            simp only [List.length_append, List.length_cons] at this
            omega
          · have ht2 : t.2 = false := by
              rcases ht with z | z
              · rw [h4] at z; cases z
              · rw [← z]; exact h4
            have hb : bad (A ++ (I ++ [t])) = 0 := by
              unfold bad
              rw [← List.append_assoc, List.getLast?_append]
              simp [ht2]
            rw [gc_two hG, hb]
            simp only [List.length_append, List.length_cons, List.length_nil]
            omega
      · obtain ⟨B0, rfl⟩ : ∃ B0, R = I' ++ t' :: B0 := by
          refine ⟨R.drop (I'.length + 1), ?_⟩
          have := congrArg (List.take (I'.length + 1)) e2
          rw [List.take_append_of_le_length (by omega), List.take_length_add_append] at this
          simp only [List.take_succ_cons, List.take_zero] at this
          have h2 := List.take_append_drop (I'.length + 1) R
          rw [this] at h2
          rw [← h2]
          simp
        rw [List.append_assoc] at e2
        have e3 : B0 ++ bs = B := by simpa using List.append_cancel_left e2
        subst e3
        refine ⟨gc (A ++ (I ++ t :: B0)) + c, ?_, ?_⟩
        · have := Way.grp (g := A ++ (I ++ t :: B0)) (by simp) hw
          simpa using this
        · by_cases h2 : 2 ≤ (A ++ (I' ++ t' :: B0)).length
          · have hG : 2 ≤ (A ++ (I ++ t :: B0)).length := by
              simp only [List.length_append, List.length_cons] at h2 ⊢
              omega
            have := gc_le hG
            rw [gc_two h2]
            simp only [List.length_append, List.length_cons] at this ⊢
            omega
          · simp only [List.length_append, List.length_cons] at h2
            have h4 : A = [] := List.length_eq_zero_iff.mp (by omega)
            have h5 : I' = [] := List.length_eq_zero_iff.mp (by omega)
            have h6 : B0 = [] := List.length_eq_zero_iff.mp (by omega)
            have h7 : I = [] := List.length_eq_zero_iff.mp (by rw [hl, h5]; rfl)
            subst h4 h5 h6 h7
            simp only [List.nil_append, gc_one]
            have := Bool.toNat_le t.1
            rcases ht with z | z
            · have := Bool.toNat_le t.2
              rw [z]
              simp only [Bool.toNat_true]
              omega
            · rw [z]
              omega
/-! ### the least of all ways -/
def Least (bs : List Fl) (c : Nat) : Prop := Way bs c ∧ ∀ c', Way bs c' → c ≤ c'
theorem Least.uniq {bs : List Fl} {c d : Nat} (h : Least bs c) (k : Least bs d) : c = d := Nat.le_antisymm (h.2 _ k.1) (k.2 _ h.1)
theorem way_first {bs : List Fl} {c : Nat} (h : Way bs c) (hb : bs ≠ []) : ∃ m c', 1 ≤ m ∧ m ≤ bs.length ∧ Way (bs.drop m) c' ∧ c = gc (bs.take m) + c' := by
  cases h with
  | nil => exact absurd rfl hb
  | @grp g bs c hg hw =>
    refine ⟨g.length, c, ?_, ?_, ?_, ?_⟩
    · have := List.length_pos_iff.mpr hg
      omega
    · simp
    · simpa using hw
    · simp
theorem first_way {bs : List Fl} {m c : Nat} (h1 : 1 ≤ m) (h2 : m ≤ bs.length) (h : Way (bs.drop m) c) : Way bs (gc (bs.take m) + c) := by
  have := Way.grp (g := bs.take m) (fun z => by
    have := congrArg List.length z
    rw [List.length_take] at this
    simp at this
    rcases this with h | h
    · omega
    · subst h; simp at h2; omega) h
  rwa [List.take_append_drop] at this
theorem way_nil {bs : List Fl} {c : Nat} (h : Way bs c) (e : bs = []) : c = 0 := by
  cases h with
  | nil => rfl
  | grp hg _ => exact absurd (List.append_eq_nil_iff.mp e).1 hg
theorem way_last {bs : List Fl} {c : Nat} (h : Way bs c) : bs ≠ [] → ∃ a c', a < bs.length ∧ Way (bs.take a) c' ∧ c = c' + gc (bs.drop a) := by
  induction h with
  | nil => intro z; exact absurd rfl z
  | @grp g bs c hg hw ih =>
    intro _
    by_cases hb : bs = []
    · subst hb
      have hc := way_nil hw rfl
      subst hc
      refine ⟨0, 0, ?_, ?_, ?_⟩
      · simpa using List.length_pos_iff.mpr hg
      · simpa using Way.nil
      · simp
    · obtain ⟨a, c', h1, h2, h3⟩ := ih hb
      refine ⟨g.length + a, gc g + c', ?_, ?_, ?_⟩
      · rw [List.length_append]; omega
      · rw [List.take_length_add_append]
        exact .grp hg h2
      · rw [List.drop_length_add_append, h3]
        omega
theorem last_way {bs : List Fl} {a c : Nat} (h1 : a < bs.length) (h : Way (bs.take a) c) : Way bs (c + gc (bs.drop a)) := by
  have := h.app (Way.single (g := bs.drop a) (fun z => by
    have := congrArg List.length z
    rw [List.length_drop] at this
    simp at this
    omega))
  rwa [List.take_append_drop] at this
end PS

namespace PS
/-! ### runs of alike places -/
inductive Runs (w : Nat → Int) (n : Nat) : Nat → List (Nat × Nat) → Prop
  | nil : Runs w n n []
  | cons {f e : Nat} {rs : List (Nat × Nat)} : f < e → e ≤ n → (∀ j, f ≤ j → j < e → w j = w f) → (e < n → w f < w e) → Runs w n e rs → Runs w n f ((f, e) :: rs)
def fl (y w : Nat → Int) (r : Nat × Nat) : Fl := (decide (y r.1 < w r.1), decide (w r.1 < y (r.2 - 1)))
def fls (y w : Nat → Int) (rs : List (Nat × Nat)) : List Fl := rs.map (fl y w)
theorem fls_cons (y w : Nat → Int) (r : Nat × Nat) (rs : List (Nat × Nat)) : fls y w (r :: rs) = fl y w r :: fls y w rs := rfl
theorem fl_eq {y z w : Nat → Int} {r : Nat × Nat} (h1 : y r.1 < w r.1 ↔ z r.1 < w r.1) (h2 : w r.1 < y (r.2 - 1) ↔ w r.1 < z (r.2 - 1)) : fl y w r = fl z w r := by
  unfold fl
  rw [decide_eq_decide.mpr h1, decide_eq_decide.mpr h2]
theorem runs_head {w : Nat → Int} {n k : Nat} {rs : List (Nat × Nat)} (h : Runs w n k rs) (hk : rs ≠ []) : k < n := by
  cases h with
  | nil => exact absurd rfl hk
  | cons h1 h2 _ _ _ => omega
/-! a push to the right -/
theorem right_above {y w : Nat → Int} {n g : Nat} {b : Int} : ∀ {k : Nat} {rs : List (Nat × Nat)}, Runs w n k rs → (k < n → b < w k) → fls (pR g b y) w rs = fls y w rs
  | _, _, .nil, _ => rfl
  | k, _, .cons (e := e) (rs := rs) h1 h2 h3 h4 h5, hb => by
    have hb := hb (by omega)
    rw [fls_cons, fls_cons, right_above h5 (fun z => by have := h4 z; omega)]
    congr 1
    apply fl_eq
    · unfold pR
      simp only
      split <;> omega
    · unfold pR
      simp only
      split <;> omega
theorem right_from {y w : Nat → Int} {n g : Nat} {b : Int} : ∀ {k : Nat} {rs : List (Nat × Nat)}, Runs w n k rs → (∀ r ∈ rs, g < r.2) →
    fls (pR g b y) w rs = fls y w rs ∨ ∃ I I' t t' B, fls y w rs = I ++ t :: B ∧ fls (pR g b y) w rs = I' ++ t' :: B ∧ I.length = I'.length ∧ (∀ x ∈ I', x.2 = true) ∧ (t'.2 = true ∨ t'.2 = t.2)
  | _, _, .nil, _ => .inl rfl
  | k, _, .cons (e := e) (rs := rs) h1 h2 h3 h4 h5, hg => by
    have hge : g < e := hg (k, e) (by simp)
    by_cases c1 : b < w k
    · exact .inl (right_above (.cons h1 h2 h3 h4 h5) (fun _ => c1))
    by_cases c2 : w k = b
    · have hr := right_above (y := y) (g := g) (b := b) h5 (fun z => by have := h4 z; omega)
      refine .inr ⟨[], [], fl y w (k, e), fl (pR g b y) w (k, e), fls y w rs, rfl, ?_, rfl, by simp, .inr ?_⟩
      · rw [fls_cons, hr]
        rfl
      · unfold fl
        simp only
        apply decide_eq_decide.mpr
        unfold pR
        split <;> omega
    · have hd : (fl (pR g b y) w (k, e)).2 = true := by
        unfold fl
        simp only
        apply decide_eq_true
        unfold pR
        rw [if_pos (by omega)]
        omega
      rcases right_from (y := y) (b := b) h5 (fun r hr => hg r (by simp [hr])) with hs | ⟨I, I', t, t', B, e1, e2, e3, e4, e5⟩
      · refine .inr ⟨[], [], fl y w (k, e), fl (pR g b y) w (k, e), fls y w rs, rfl, ?_, rfl, by simp, .inl hd⟩
        rw [fls_cons, hs]
        rfl
      · refine .inr ⟨fl y w (k, e) :: I, fl (pR g b y) w (k, e) :: I', t, t', B, ?_, ?_, by simp [e3], ?_, e5⟩
        · rw [fls_cons, e1]; rfl
        · rw [fls_cons, e2]; rfl
        · intro x hx
          rcases List.mem_cons.mp hx with z | z
          · rw [z]; exact hd
          · exact e4 x z
theorem runs_ge {w : Nat → Int} {n : Nat} : ∀ {k : Nat} {rs : List (Nat × Nat)}, Runs w n k rs → ∀ r ∈ rs, k < r.2
  | _, _, .nil, r, h => by simp at h
  | k, _, .cons (e := e) (rs := rs) h1 h2 h3 h4 h5, r, h => by
    rcases List.mem_cons.mp h with z | z
    · rw [z]; exact h1
    · have := runs_ge h5 r z
      omega
theorem right_all {y w : Nat → Int} {n g : Nat} {b : Int} : ∀ {k : Nat} {rs : List (Nat × Nat)}, Runs w n k rs →
    fls (pR g b y) w rs = fls y w rs ∨ ∃ A I I' t t' B, fls y w rs = A ++ (I ++ t :: B) ∧ fls (pR g b y) w rs = A ++ (I' ++ t' :: B) ∧ I.length = I'.length ∧ (∀ x ∈ I', x.2 = true) ∧ (t'.2 = true ∨ t'.2 = t.2)
  | _, _, .nil => .inl rfl
  | k, _, .cons (e := e) (rs := rs) h1 h2 h3 h4 h5 => by
    by_cases c : e ≤ g
    · have hh : fl (pR g b y) w (k, e) = fl y w (k, e) := by
        apply fl_eq
        · unfold pR
          simp only
          rw [if_neg (by omega)]
        · unfold pR
          simp only
          rw [if_neg (by omega)]
      rcases right_all (y := y) (g := g) (b := b) h5 with hs | ⟨A, I, I', t, t', B, e1, e2, e3, e4, e5⟩
      · exact .inl (by rw [fls_cons, fls_cons, hs, hh])
      · exact .inr ⟨fl y w (k, e) :: A, I, I', t, t', B, by rw [fls_cons, e1]; rfl, by rw [fls_cons, e2, hh]; rfl, e3, e4, e5⟩
    · rcases right_from (y := y) (g := g) (b := b) (.cons h1 h2 h3 h4 h5) (fun r hr => by
        rcases List.mem_cons.mp hr with z | z
        · rw [z]; show g < e; omega
        · have := runs_ge h5 r z
          omega) with hs | ⟨I, I', t, t', B, e1, e2, e3, e4, e5⟩
      · exact .inl hs
      · exact .inr ⟨[], I, I', t, t', B, e1, e2, e3, e4, e5⟩
/-! a push to the left -/
theorem left_beyond {y w : Nat → Int} {n g : Nat} {b : Int} : ∀ {k : Nat} {rs : List (Nat × Nat)}, Runs w n k rs → g ≤ k → fls (pL g b y) w rs = fls y w rs
  | _, _, .nil, _ => rfl
  | k, _, .cons (e := e) (rs := rs) h1 h2 h3 h4 h5, hg => by
    rw [fls_cons, fls_cons, left_beyond h5 (by omega)]
    congr 1
    apply fl_eq
    · unfold pL
      simp only
      rw [if_neg (by omega)]
    · unfold pL
      simp only
      rw [if_neg (by omega)]
theorem left_above {y w : Nat → Int} {n g : Nat} {b : Int} : ∀ {k : Nat} {rs : List (Nat × Nat)}, Runs w n k rs → (k < n → b < w k) →
    ∃ I I' B, fls y w rs = I ++ B ∧ fls (pL g b y) w rs = I' ++ B ∧ I.length = I'.length ∧ (∀ x ∈ I', x.1 = true)
  | _, _, .nil, _ => ⟨[], [], [], rfl, rfl, rfl, by simp⟩
  | k, _, .cons (e := e) (rs := rs) h1 h2 h3 h4 h5, hb => by
    have hb := hb (by omega)
    by_cases c : g ≤ k
    · exact ⟨[], [], fls y w ((k, e) :: rs), rfl, left_beyond (.cons h1 h2 h3 h4 h5) c, rfl, by simp⟩
    · obtain ⟨I, I', B, e1, e2, e3, e4⟩ := left_above (y := y) (g := g) (b := b) h5 (fun z => by have := h4 z; omega)
      refine ⟨fl y w (k, e) :: I, fl (pL g b y) w (k, e) :: I', B, by rw [fls_cons, e1]; rfl, by rw [fls_cons, e2]; rfl, by simp [e3], fun x hx => ?_⟩
      rcases List.mem_cons.mp hx with z | z
      · rw [z]
        unfold fl
        simp only
        apply decide_eq_true
        unfold pL
        rw [if_pos (by omega)]
        omega
      · exact e4 x z
theorem left_all {y w : Nat → Int} {n g : Nat} {b : Int} : ∀ {k : Nat} {rs : List (Nat × Nat)}, Runs w n k rs →
    fls (pL g b y) w rs = fls y w rs ∨ ∃ A I I' t t' B, fls y w rs = A ++ (t :: I ++ B) ∧ fls (pL g b y) w rs = A ++ (t' :: I' ++ B) ∧ I.length = I'.length ∧ (∀ x ∈ I', x.1 = true) ∧ (t'.1 = true ∨ t'.1 = t.1)
  | _, _, .nil => .inl rfl
  | k, _, .cons (e := e) (rs := rs) h1 h2 h3 h4 h5 => by
    by_cases c1 : w k < b
    · have hh : fl (pL g b y) w (k, e) = fl y w (k, e) := by
        apply fl_eq
        · unfold pL
          simp only
          split <;> omega
        · unfold pL
          simp only
          split <;> omega
      rcases left_all (y := y) (g := g) (b := b) h5 with hs | ⟨A, I, I', t, t', B, e1, e2, e3, e4, e5⟩
      · exact .inl (by rw [fls_cons, fls_cons, hs, hh])
      · exact .inr ⟨fl y w (k, e) :: A, I, I', t, t', B, by rw [fls_cons, e1]; rfl, by rw [fls_cons, e2, hh]; rfl, e3, e4, e5⟩
    by_cases c2 : w k = b
    · obtain ⟨I, I', B, e1, e2, e3, e4⟩ := left_above (y := y) (g := g) (b := b) h5 (fun z => by have := h4 z; omega)
      refine .inr ⟨[], I, I', fl y w (k, e), fl (pL g b y) w (k, e), B, by rw [fls_cons, e1]; rfl, by rw [fls_cons, e2]; rfl, e3, e4, .inr ?_⟩
      unfold fl
      simp only
      apply decide_eq_decide.mpr
      unfold pL
      split <;> omega
    · obtain ⟨I, I', B, e1, e2, e3, e4⟩ := left_above (y := y) (g := g) (b := b) (.cons h1 h2 h3 h4 h5) (fun z => by omega)
      match I, I', e1, e2, e3, e4 with
      | [], [], e1, e2, _, _ => exact .inl (by rw [e1, e2])
      | t :: I, t' :: I', e1, e2, e3, e4 => exact .inr ⟨[], I, I', t, t', B, e1, e2, by simpa using e3, fun x hx => e4 x (by simp [hx]), .inl (e4 t' (by simp))⟩
/-! one push does no more than one -/
theorem low_one {y w : Nat → Int} {n : Nat} {rs : List (Nat × Nat)} (h : Runs w n 0 rs) (p : Push) {c : Nat} (hw : Way (fls (doP y p) w rs) c) : ∃ c2, Way (fls y w rs) c2 ∧ c2 ≤ c + 1 := by
  obtain ⟨r, g, b⟩ := p
  cases r with
  | true =>
    have hw : Way (fls (pR g b y) w rs) c := hw
    rcases right_all (y := y) (g := g) (b := b) h with hs | ⟨A, I, I', t, t', B, e1, e2, e3, e4, e5⟩
    · exact ⟨c, by rw [← hs]; exact hw, by omega⟩
    · rw [e1]
      exact way_push hw A I' t' B e2 e4 I t e3 e5
  | false =>
    have hw : Way (fls (pL g b y) w rs) c := hw
    rcases left_all (y := y) (g := g) (b := b) h with hs | ⟨A, I, I', t, t', B, e1, e2, e3, e4, e5⟩
    · exact ⟨c, by rw [← hs]; exact hw, by omega⟩
    · rw [e1]
      rw [e2] at hw
      have hm := hw.mir
      have split : ∀ (t : Fl) (I : List Fl), mir (A ++ (t :: I ++ B)) = mir B ++ (mir I ++ t.swap :: mir A) := fun t I => by
        rw [mir_app, mir_app, show t :: I = [t] ++ I from rfl, mir_app]
        simp [mir]
      rw [split] at hm
      obtain ⟨c2, w2, l2⟩ := way_push hm (mir B) (mir I') t'.swap (mir A) rfl (fun x hx => by
        obtain ⟨z, hz, rfl⟩ := List.mem_map.mp (List.mem_reverse.mp hx)
        exact e4 z hz) (mir I) t.swap (by rw [mir_len, mir_len, e3]) e5
      refine ⟨c2, ?_, l2⟩
      have := w2.mir
      rw [← split, mir_mir] at this
      exact this
theorem fls_end {y w : Nat → Int} {n : Nat} : ∀ {k : Nat} {rs : List (Nat × Nat)}, Runs w n k rs → (∀ j, k ≤ j → j < n → y j = w j) → Way (fls y w rs) 0
  | _, _, .nil, _ => .nil
  | k, _, .cons (e := e) (rs := rs) h1 h2 h3 h4 h5, hy => by
    have ih := fls_end h5 (fun j hj hn => hy j (by omega) hn)
    have e0 : fl y w (k, e) = (false, false) := by
      unfold fl
      simp only
      rw [hy k (by omega) (by omega), hy (e - 1) (by omega) (by omega), h3 (e - 1) (by omega) (by omega)]
      simp
    rw [fls_cons, e0]
    exact Way.grp (g := [(false, false)]) (by simp) ih
/-- no fewer pushes lead there -/
theorem low_row {w : Nat → Int} {n : Nat} {rs : List (Nat × Nat)} (h : Runs w n 0 rs) : ∀ (r : List Push) (y : Nat → Int), (∀ j, j < n → doR y r j = w j) → ∃ c, Way (fls y w rs) c ∧ c ≤ r.length
  | [], y, hy => ⟨0, fls_end h (fun j _ hj => hy j hj), Nat.le_refl _⟩
  | p :: r, y, hy => by
    obtain ⟨c, hc, hl⟩ := low_row h r (doP y p) hy
    obtain ⟨c2, h2, l2⟩ := low_one h p hc
    exact ⟨c2, h2, by simp; omega⟩
end PS

namespace PS
/-! ### the rows that the program tells: one group of bands -/
/-- runs from k to e -/
inductive RunsTo (w : Nat → Int) (n : Nat) : Nat → Nat → List (Nat × Nat) → Prop
  | nil {k : Nat} : RunsTo w n k k []
  | cons {f e m : Nat} {rs : List (Nat × Nat)} : f < e → e ≤ n → (∀ j, f ≤ j → j < e → w j = w f) → (e < n → w f < w e) → RunsTo w n e m rs → RunsTo w n f m ((f, e) :: rs)
theorem RunsTo.le {w : Nat → Int} {n : Nat} : ∀ {k m : Nat} {rs : List (Nat × Nat)}, RunsTo w n k m rs → k ≤ m
  | _, _, _, .nil => Nat.le_refl _
  | _, _, _, .cons h1 _ _ _ h5 => by have := h5.le; omega
theorem RunsTo.lt {w : Nat → Int} {n k m : Nat} {rs : List (Nat × Nat)} (h : RunsTo w n k m rs) (hn : rs ≠ []) : k < m := by
  cases h with
  | nil => exact absurd rfl hn
  | cons h1 _ _ _ h5 => have := h5.le; omega
theorem RunsTo.len {w : Nat → Int} {n : Nat} : ∀ {k m : Nat} {rs : List (Nat × Nat)}, RunsTo w n k m rs → k + rs.length ≤ m
  | _, _, _, .nil => by simp
  | _, _, _, .cons h1 _ _ _ h5 => by
    have := h5.len
    simp
    omega
theorem RunsTo.le_n {w : Nat → Int} {n : Nat} : ∀ {k m : Nat} {rs : List (Nat × Nat)}, RunsTo w n k m rs → rs ≠ [] → m ≤ n
  | _, _, _, .nil, h => absurd rfl h
  | _, m, _, .cons (rs := rs) h1 h2 _ _ h5, _ => by
    cases rs with
    | nil => cases h5; exact h2
    | cons r rs => exact h5.le_n (by simp)
theorem RunsTo.app {w : Nat → Int} {n : Nat} : ∀ {k m l : Nat} {rs qs : List (Nat × Nat)}, RunsTo w n k m rs → RunsTo w n m l qs → RunsTo w n k l (rs ++ qs)
  | _, _, _, _, _, .nil, h => h
  | _, _, _, _, _, .cons h1 h2 h3 h4 h5, h => .cons h1 h2 h3 h4 (h5.app h)
theorem RunsTo.split {w : Nat → Int} {n : Nat} : ∀ {rs qs : List (Nat × Nat)} {k l : Nat}, RunsTo w n k l (rs ++ qs) → ∃ m, RunsTo w n k m rs ∧ RunsTo w n m l qs
  | [], qs, k, l, h => ⟨k, .nil, h⟩
  | r :: rs, qs, k, l, h => by
    cases h with
    | cons h1 h2 h3 h4 h5 =>
      obtain ⟨m, a, b⟩ := RunsTo.split h5
      exact ⟨m, .cons h1 h2 h3 h4 a, b⟩
theorem RunsTo.runs {w : Nat → Int} {n : Nat} : ∀ {k : Nat} {rs : List (Nat × Nat)}, RunsTo w n k n rs → Runs w n k rs
  | _, _, .nil => .nil
  | _, _, .cons h1 h2 h3 h4 h5 => .cons h1 h2 h3 h4 h5.runs
/-- rising -/
def Up (n : Nat) (w : Nat → Int) : Prop := ∀ i j, i ≤ j → j < n → w i ≤ w j
theorem Rise.mono {n : Nat} {pl : Int} {y : Nat → Int} (h : Rise n pl y) : Up n y := by
  intro i j hij
  induction j with
  | zero =>
    intro _
    have : i = 0 := by omega
    subst this
    exact Int.le_refl _
  | succ j ih =>
    intro hj
    by_cases e : i = j + 1
    · subst e; exact Int.le_refl _
    · have := ih (by omega) (by omega)
      have := h.up j hj
      omega
/-- the last run -/
theorem RunsTo.last {w : Nat → Int} {n : Nat} : ∀ {k m : Nat} {rs : List (Nat × Nat)} {r : Nat × Nat}, RunsTo w n k m (rs ++ [r]) → r.2 = m ∧ r.1 < m ∧ m ≤ n ∧ (∀ j, r.1 ≤ j → j < m → w j = w r.1) ∧ (m < n → w r.1 < w m) ∧ RunsTo w n k r.1 rs := by
  intro k m rs r h
  obtain ⟨l, a, b⟩ := h.split
  cases b with
  | cons h1 h2 h3 h4 h5 =>
    cases h5
    exact ⟨rfl, h1, h2, h3, h4, a⟩
/-! what a push leaves as it is -/
def Sim (n : Nat) (w : Nat → Int) (k : Nat) (z y : Nat → Int) : Prop := ∀ j, k ≤ j → j < n → (z j < w j ↔ y j < w j) ∧ (w j < z j ↔ w j < y j)
theorem Sim.refl {n : Nat} {w : Nat → Int} {k : Nat} {y : Nat → Int} : Sim n w k y y := fun _ _ _ => ⟨Iff.rfl, Iff.rfl⟩
theorem Sim.trans {n : Nat} {w : Nat → Int} {k : Nat} {x y z : Nat → Int} (h : Sim n w k x y) (g : Sim n w k y z) : Sim n w k x z := fun j h1 h2 => ⟨(h j h1 h2).1.trans (g j h1 h2).1, (h j h1 h2).2.trans (g j h1 h2).2⟩
theorem Sim.le {n : Nat} {w : Nat → Int} {k m : Nat} {x y : Nat → Int} (h : Sim n w k x y) (e : k ≤ m) : Sim n w m x y := fun j h1 h2 => h j (by omega) h2
theorem sim_pR {n : Nat} {w z : Nat → Int} {k g : Nat} {b : Int} (h : ∀ j, k ≤ j → j < n → b < w j) : Sim n w k (pR g b z) z := fun j h1 h2 => by
  have := h j h1 h2
  unfold pR
  split <;> omega
theorem sim_pL {n : Nat} {w z : Nat → Int} {k g : Nat} {b : Int} (h : g ≤ k) : Sim n w k (pL g b z) z := fun j h1 h2 => by
  unfold pL
  rw [if_neg (by omega)]
  exact ⟨Iff.rfl, Iff.rfl⟩
theorem above {n : Nat} {w : Nat → Int} {r m : Nat} (up : Up n w) (h : m < n → w r < w m) : ∀ j, m ≤ j → j < n → w r < w j := fun j h1 h2 => by
  have := up m j h1 h2
  have := h (by omega)
  omega
/-! all from the left, down to their places -/
theorem low_all {n : Nat} {w : Nat → Int} (up : Up n w) : ∀ {k m : Nat} {rs : List (Nat × Nat)}, RunsTo w n k m rs → ∀ (z : Nat → Int) (P : Int), (∀ j, j < k → z j = w j) → (∀ j, k ≤ j → j < m → z j = P) → (∀ j, k ≤ j → j < m → w j ≤ P) →
    (∀ j, j < m → doR z (rs.map fun r => (false, r.2, w r.1)) j = w j) ∧ ∀ j, m ≤ j → doR z (rs.map fun r => (false, r.2, w r.1)) j = z j
  | k, _, _, .nil, z, P, h1, h2, h3 => ⟨h1, fun _ _ => rfl⟩
  | k, m, _, .cons (e := e) (rs := rs) c1 c2 c3 c4 c5, z, P, h1, h2, h3 => by
    have hle := c5.le
    have ih := low_all up c5 (pL e (w k) z) P (fun j hj => by
      unfold pL
      rw [if_pos hj]
      by_cases hk : j < k
      · rw [h1 j hk]
        have := up j k (by omega) (by omega)
        omega
      · rw [h2 j (by omega) (by omega), c3 j (by omega) hj]
        have := h3 k (by omega) (by omega)
        omega) (fun j a b => by
        unfold pL
        rw [if_neg (by omega)]
        exact h2 j (by omega) b) (fun j a b => h3 j (by omega) b)
    refine ⟨ih.1, fun j hj => ?_⟩
    have := ih.2 j hj
    show doR (pL e (w k) z) (rs.map fun r => (false, r.2, w r.1)) j = z j
    rw [this]
    unfold pL
    rw [if_neg (by omega)]
/-! all from the left, up to their places -/
theorem raise_all {n : Nat} {w : Nat → Int} (up : Up n w) : ∀ {k m : Nat} {rs : List (Nat × Nat)}, RunsTo w n k m rs → ∀ (z : Nat → Int) (P : Int), (∀ j, j < k → z j = w j) → (∀ j, k ≤ j → j < m → z j = P) → (∀ j, k ≤ j → j < m → P ≤ w j) →
    (∀ j, j < m → doR z (rs.map fun r => (true, r.1, w r.1)) j = w j) ∧ Sim n w m (doR z (rs.map fun r => (true, r.1, w r.1))) z
  | k, _, _, .nil, z, P, h1, h2, h3 => ⟨h1, Sim.refl⟩
  | k, m, _, .cons (e := e) (rs := rs) c1 c2 c3 c4 c5, z, P, h1, h2, h3 => by
    have hle := c5.le
    have ih := raise_all up c5 (pR k (w k) z) (w k) (fun j hj => by
      unfold pR
      by_cases hk : j < k
      · rw [if_neg (by omega)]
        exact h1 j hk
      · rw [if_pos (by omega), h2 j (by omega) (by omega), c3 j (by omega) hj]
        have := h3 k (by omega) (by omega)
        omega) (fun j a b => by
        unfold pR
        rw [if_pos (by omega), h2 j (by omega) b]
        have := h3 k (by omega) (by omega)
        omega) (fun j a b => by
          by_cases hmn : j < n
          · exact up k j (by omega) hmn
          · exfalso
            cases rs with
            | nil => cases c5; omega
            | cons r rs =>
              have := c5.le_n (by simp)
              omega)
    refine ⟨ih.1, ih.2.trans (sim_pR fun j a b => ?_)⟩
    exact above up c4 j (by omega) b
def rowAlone (y w : Nat → Int) (r : Nat × Nat) : List Push := (if y r.1 < w r.1 then [(true, r.1, w r.1)] else []) ++ (if w r.1 < y (r.2 - 1) then [(false, r.2, w r.1)] else [])
def rowLast (w : Nat → Int) (G : List (Nat × Nat)) (f l : Nat × Nat) : List Push := (true, f.1, w l.1) :: G.dropLast.map fun r => (false, r.2, w r.1)
def rowFirst (y w : Nat → Int) (G : List (Nat × Nat)) (f l : Nat × Nat) : List Push := (false, l.2, w f.1) :: ((if y f.1 < w f.1 then [(true, f.1, w f.1)] else []) ++ G.tail.map fun r => (true, r.1, w r.1))
def rowT (y w : Nat → Int) (G : List (Nat × Nat)) : List Push :=
  if G.length = 1 then rowAlone y w (G.headD (0, 0)) else
  if ¬ w (G.getLastD (0, 0)).1 < y ((G.getLastD (0, 0)).2 - 1) then rowLast w G (G.headD (0, 0)) (G.getLastD (0, 0)) else rowFirst y w G (G.headD (0, 0)) (G.getLastD (0, 0))
/-- where the row of a group leads -/
theorem alone_ok {n : Nat} {w y z : Nat → Int} (up : Up n w) (uz : Up n z) {k e : Nat} (h1 : k < e) (h2 : e ≤ n) (h3 : ∀ j, k ≤ j → j < e → w j = w k) (h4 : e < n → w k < w e) (hz : ∀ j, j < k → z j = w j) (sm : Sim n w k z y) :
    (∀ j, j < e → doR z (rowAlone y w (k, e)) j = w j) ∧ Sim n w e (doR z (rowAlone y w (k, e))) z := by
  have ab := above up h4
  have s1 := (sm k (by omega) (by omega)).1
  have s2 := (sm (e - 1) (by omega) (by omega)).2
  rw [h3 (e - 1) (by omega) (by omega)] at s2
  have below : ∀ j, j < k → w j ≤ w k := fun j hj => up j k (by omega) (by omega)
  have zlo : ∀ j, k ≤ j → j < e → z k ≤ z j := fun j a b => uz k j a (by omega)
  have zhi : ∀ j, k ≤ j → j < e → z j ≤ z (e - 1) := fun j a b => uz j (e - 1) (by omega) (by omega)
  unfold rowAlone
  by_cases u : y k < w k
  · by_cases d : w k < y (e - 1)
    · rw [if_pos u, if_pos d]
      show (∀ j, j < e → pL e (w k) (pR k (w k) z) j = w j) ∧ Sim n w e (pL e (w k) (pR k (w k) z)) z
      refine ⟨fun j hj => ?_, (sim_pL (Nat.le_refl _)).trans (sim_pR fun j a b => ab j (by omega) b)⟩
      unfold pL pR
      rw [if_pos hj]
      by_cases hk : j < k
      · rw [if_neg (by omega), hz j hk]
        have := below j hk
        omega
      · rw [if_pos (by omega), h3 j (by omega) hj]
        omega
    · rw [if_pos u, if_neg d]
      show (∀ j, j < e → pR k (w k) z j = w j) ∧ Sim n w e (pR k (w k) z) z
      refine ⟨fun j hj => ?_, sim_pR fun j a b => ab j (by omega) b⟩
      unfold pR
      by_cases hk : j < k
      · rw [if_neg (by omega), hz j hk]
      · rw [if_pos (by omega), h3 j (by omega) hj]
        have := zhi j (by omega) hj
        omega
  · by_cases d : w k < y (e - 1)
    · rw [if_neg u, if_pos d]
      show (∀ j, j < e → pL e (w k) z j = w j) ∧ Sim n w e (pL e (w k) z) z
      refine ⟨fun j hj => ?_, sim_pL (Nat.le_refl _)⟩
      unfold pL
      rw [if_pos hj]
      by_cases hk : j < k
      · rw [hz j hk]
        have := below j hk
        omega
      · rw [h3 j (by omega) hj]
        have := zlo j (by omega) hj
        omega
    · rw [if_neg u, if_neg d]
      show (∀ j, j < e → z j = w j) ∧ Sim n w e z z
      refine ⟨fun j hj => ?_, Sim.refl⟩
      by_cases hk : j < k
      · exact hz j hk
      · rw [h3 j (by omega) hj]
        have := zlo j (by omega) hj
        have := zhi j (by omega) hj
        omega
theorem last_ok {n : Nat} {w y z : Nat → Int} (up : Up n w) (uz : Up n z) {k e : Nat} {G : List (Nat × Nat)} {f l : Nat × Nat} (h : RunsTo w n k e (G ++ [l])) (hf : f.1 = k) (hd : ¬ w l.1 < y (l.2 - 1)) (hz : ∀ j, j < k → z j = w j) (sm : Sim n w k z y) :
    (∀ j, j < e → doR z (rowLast w (G ++ [l]) f l) j = w j) ∧ Sim n w e (doR z (rowLast w (G ++ [l]) f l)) z := by
  obtain ⟨e1, e2, e3, e4, e5, e6⟩ := h.last
  have hk : k ≤ l.1 := e6.le
  have s2 := (sm (e - 1) (by omega) (by omega)).2
  rw [e4 (e - 1) (by omega) (by omega)] at s2
  rw [e1] at hd
  have zP : ∀ j, k ≤ j → j < e → z j ≤ w l.1 := fun j a b => by
    have := uz j (e - 1) (by omega) (by omega)
    omega
  unfold rowLast
  rw [List.dropLast_concat]
  show (∀ j, j < e → doR (pR f.1 (w l.1) z) (G.map fun r => (false, r.2, w r.1)) j = w j) ∧ Sim n w e (doR (pR f.1 (w l.1) z) (G.map fun r => (false, r.2, w r.1))) z
  rw [hf]
  have la := low_all up e6 (pR k (w l.1) z) (w l.1) (fun j hj => by
    unfold pR
    rw [if_neg (by omega)]
    exact hz j hj) (fun j a b => by
      unfold pR
      rw [if_pos a]
      have := zP j a (by omega)
      omega) (fun j a b => up j l.1 (by omega) (by omega))
  refine ⟨fun j hj => ?_, fun j a b => ?_⟩
  · by_cases c : j < l.1
    · exact la.1 j c
    · rw [la.2 j (by omega)]
      unfold pR
      rw [if_pos (by omega), e4 j (by omega) hj]
      have := zP j (by omega) hj
      omega
  · have e8 := la.2 j (by omega)
    rw [e8]
    exact sim_pR (z := z) (g := k) (b := w l.1) (fun i a' b' => above up e5 i a' b') j a b
theorem first_ok {n : Nat} {w y z : Nat → Int} (up : Up n w) (uz : Up n z) {k e : Nat} {G : List (Nat × Nat)} {f l : Nat × Nat} (h : RunsTo w n k e (f :: G)) (hl : l.2 = e) (hz : ∀ j, j < k → z j = w j) (sm : Sim n w k z y) :
    (∀ j, j < e → doR z (rowFirst y w (f :: G) f l) j = w j) ∧ Sim n w e (doR z (rowFirst y w (f :: G) f l)) z := by
  have hen := h.le_n (by simp)
  cases h with
  | @cons _ e1 _ _ h1 h2 h3 h4 h5 =>
    have hle := h5.le
    have s1 := (sm k (by omega) (by omega)).1
    have zlo : ∀ j, k ≤ j → j < e → z k ≤ z j := fun j a b => uz k j a (by omega)
    unfold rowFirst
    simp only [List.tail_cons, hl]
    have fin : ∀ x : Nat → Int, (∀ j, j < k → x j = w j) → (∀ j, k ≤ j → j < e → x j = w k) → Sim n w e x z → (∀ j, j < e → doR x (G.map fun r => (true, r.1, w r.1)) j = w j) ∧ Sim n w e (doR x (G.map fun r => (true, r.1, w r.1))) z := fun x a b s => by
      have ra := raise_all up h5 x (w k) (fun j hj => by
        by_cases c : j < k
        · exact a j c
        · rw [b j (by omega) (by omega), h3 j (by omega) hj]) (fun j p q => b j (by omega) q) (fun j p q => up k j (by omega) (by omega))
      exact ⟨ra.1, ra.2.trans s⟩
    have lo : ∀ j, j < k → pL e (w k) z j = w j := fun j hj => by
      unfold pL
      rw [if_pos (by omega), hz j hj]
      have := up j k (by omega) (by omega)
      omega
    by_cases u : y k < w k
    · rw [if_pos u]
      show (∀ j, j < e → doR (pR k (w k) (pL e (w k) z)) (G.map fun r => (true, r.1, w r.1)) j = w j) ∧ Sim n w e (doR (pR k (w k) (pL e (w k) z)) (G.map fun r => (true, r.1, w r.1))) z
      apply fin
      · intro j hj
        unfold pR
        rw [if_neg (by omega)]
        exact lo j hj
      · intro j a b
        unfold pR pL
        rw [if_pos a, if_pos b]
        omega
      · exact (sim_pR fun j a b => above up h4 j (by omega) b).trans (sim_pL (Nat.le_refl _))
    · rw [if_neg u]
      show (∀ j, j < e → doR (pL e (w k) z) (G.map fun r => (true, r.1, w r.1)) j = w j) ∧ Sim n w e (doR (pL e (w k) z) (G.map fun r => (true, r.1, w r.1))) z
      apply fin
      · exact lo
      · intro j a b
        unfold pL
        rw [if_pos b]
        have := zlo j a b
        omega
      · exact sim_pL (Nat.le_refl _)
theorem lastD_ne {α : Type} {l : List α} {d : α} (h : l ≠ []) : l.getLastD d = l.getLast h := by
  cases l with
  | nil => exact absurd rfl h
  | cons a l => rw [List.getLastD_cons, List.getLast_eq_getLastD]
theorem rowT_ok {n : Nat} {w y z : Nat → Int} (up : Up n w) (uz : Up n z) {k e : Nat} {G : List (Nat × Nat)} (h : RunsTo w n k e G) (hG : G ≠ []) (hz : ∀ j, j < k → z j = w j) (sm : Sim n w k z y) :
    (∀ j, j < e → doR z (rowT y w G) j = w j) ∧ Sim n w e (doR z (rowT y w G)) z := by
  unfold rowT
  match G, hG with
  | [r], _ =>
    rw [if_pos (show [r].length = 1 from rfl)]
    cases h with
    | cons h1 h2 h3 h4 h5 =>
      cases h5
      exact alone_ok up uz h1 h2 h3 h4 hz sm
  | r :: q :: G, _ =>
    rw [if_neg (by simp)]
    have hr : r.1 = k := by cases h; rfl
    have hs : r :: q :: G = (r :: q :: G).dropLast ++ [(r :: q :: G).getLastD (0, 0)] := by
      rw [lastD_ne (by simp)]
      exact (List.dropLast_concat_getLast (by simp)).symm
    split
    · rename_i hd
      generalize hll : (r :: q :: G).getLastD (0, 0) = l at *
      rw [hs] at h ⊢
      exact last_ok up uz h hr hd hz sm
    · refine first_ok up uz h ?_ hz sm
      rw [hs] at h
      exact h.last.1
/-! the length -/
theorem rowT_len {w y : Nat → Int} {G : List (Nat × Nat)} (hG : G ≠ []) : (rowT y w G).length = gc (fls y w G) := by
  unfold rowT
  match G, hG with
  | [r], _ =>
    rw [if_pos (show [r].length = 1 from rfl)]
    show (rowAlone y w r).length = (decide (y r.1 < w r.1)).toNat + (decide (w r.1 < y (r.2 - 1))).toNat
    unfold rowAlone
    rw [List.length_append]
    congr 1
    · by_cases c : y r.1 < w r.1
      · rw [if_pos c, decide_eq_true c]; rfl
      · rw [if_neg c, decide_eq_false c]; rfl
    · by_cases c : w r.1 < y (r.2 - 1)
      · rw [if_pos c, decide_eq_true c]; rfl
      · rw [if_neg c, decide_eq_false c]; rfl
  | r :: q :: G, _ =>
    rw [if_neg (by simp), gc_two (by simp [fls])]
    have hlen : (fls y w (r :: q :: G)).length = G.length + 2 := by simp [fls]
    have hl : (fls y w (r :: q :: G)).getLast? = some (fl y w ((r :: q :: G).getLastD (0, 0))) := by
      unfold fls
      rw [List.getLast?_map, List.getLast?_eq_some_getLast (by simp), lastD_ne (by simp)]
      rfl
    have hb : bad (fls y w (r :: q :: G)) = (decide (y r.1 < w r.1) && decide (w ((r :: q :: G).getLastD (0, 0)).1 < y (((r :: q :: G).getLastD (0, 0)).2 - 1))).toNat := by
      unfold bad
      rw [hl]
      rfl
    rw [hlen, hb]
    generalize (r :: q :: G).getLastD (0, 0) = l
    split
    · rename_i hd
      rw [decide_eq_false hd]
      unfold rowLast
      simp
    · rename_i hd
      rw [decide_eq_true (Decidable.not_not.mp hd)]
      unfold rowFirst
      simp only [List.headD_cons, List.length_cons, List.length_append, List.length_map, List.tail_cons, Bool.and_true]
      by_cases u : y r.1 < w r.1
      · simp [u]; omega
      · simp [u]
/-! the pushes are good ones -/
theorem rowT_pu {n : Nat} {pl : Int} {w y : Nat → Int} (ri : Rise n pl w) {k e : Nat} {G : List (Nat × Nat)} (h : RunsTo w n k e G) (hG : G ≠ []) : ∀ p ∈ rowT y w G, PuOk n pl p := by
  have hr : ∀ {k e : Nat} {G : List (Nat × Nat)}, RunsTo w n k e G → ∀ r ∈ G, r.1 < r.2 ∧ r.2 ≤ n := by
    intro k e G h
    induction h with
    | nil => intro r hr; simp at hr
    | cons h1 h2 _ _ _ ih =>
      intro r hr
      rcases List.mem_cons.mp hr with z | z
      · rw [z]; exact ⟨h1, h2⟩
      · exact ih r z
  have hr := hr h
  have R : ∀ r ∈ G, ∀ q ∈ G, PuOk n pl (true, r.1, w q.1) := fun r a q b => by
    have := hr r a
    have := hr q b
    exact ⟨fun _ => by simp only; omega, fun z => by simp at z, ri.lo q.1 (by omega), ri.hi q.1 (by omega)⟩
  have L : ∀ r ∈ G, ∀ q ∈ G, PuOk n pl (false, r.2, w q.1) := fun r a q b => by
    have := hr r a
    have := hr q b
    exact ⟨fun z => by simp at z, fun _ => by simp only; omega, ri.lo q.1 (by omega), ri.hi q.1 (by omega)⟩
  have hf : G.headD (0, 0) ∈ G := by
    cases G with
    | nil => exact absurd rfl hG
    | cons r G => simp
  have hl : G.getLastD (0, 0) ∈ G := by
    cases G with
    | nil => exact absurd rfl hG
    | cons r G =>
      rw [lastD_ne (by simp)]
      exact List.getLast_mem _
  intro p hp
  unfold rowT at hp
  split at hp
  · unfold rowAlone at hp
    rcases List.mem_append.mp hp with z | z
    · split at z
      · rw [List.mem_singleton.mp z]; exact R _ hf _ hf
      · simp at z
    · split at z
      · rw [List.mem_singleton.mp z]; exact L _ hf _ hf
      · simp at z
  · split at hp
    · unfold rowLast at hp
      rcases List.mem_cons.mp hp with z | z
      · rw [z]; exact R _ hf _ hl
      · obtain ⟨r, hr, rfl⟩ := List.mem_map.mp z
        exact L _ (List.dropLast_subset _ hr) _ (List.dropLast_subset _ hr)
    · unfold rowFirst at hp
      rcases List.mem_cons.mp hp with z | z
      · rw [z]; exact L _ hl _ hf
      · rcases List.mem_append.mp z with z | z
        · split at z
          · rw [List.mem_singleton.mp z]; exact R _ hf _ hf
          · simp at z
        · obtain ⟨r, hr, rfl⟩ := List.mem_map.mp z
          exact R _ (List.mem_of_mem_tail hr) _ (List.mem_of_mem_tail hr)
/-! ### one group behind the other: what the program has for the first m bands -/
structure Told (n : Nat) (pl : Int) (y w : Nat → Int) (rs : List (Nat × Nat)) (m : Nat) (r : List Push) : Prop where
  ok : ∀ p ∈ r, PuOk n pl p
  least : Least (fls y w (rs.take m)) r.length
  lead : ∀ k, RunsTo w n 0 k (rs.take m) → (∀ j, j < k → doR y r j = w j) ∧ Sim n w k (doR y r) y
theorem told_nil {n : Nat} {pl : Int} {y w : Nat → Int} {rs : List (Nat × Nat)} : Told n pl y w rs 0 [] where
  ok := by simp
  least := by
    simp only [List.take_zero]
    exact ⟨.nil, fun c _ => Nat.zero_le _⟩
  lead := fun k h => by
    simp only [List.take_zero] at h
    cases h
    exact ⟨fun j hj => by omega, Sim.refl⟩
theorem told_next {n : Nat} {pl : Int} {y w : Nat → Int} {rs : List (Nat × Nat)} {m : Nat} (rw' : Rise n pl w) (ry : Rise n pl y) (h : RunsTo w n 0 n rs) (hm : m < rs.length) (f : Nat → List Push) (hf : ∀ a, a ≤ m → Told n pl y w rs a (f a))
    {a : Nat} (ha : a ≤ m) (r : List Push) (hr : r = f a ++ rowT y w ((rs.take (m + 1)).drop a)) (hmin : ∀ b, b ≤ m → r.length ≤ (f b ++ rowT y w ((rs.take (m + 1)).drop b)).length) : Told n pl y w rs (m + 1) r := by
  have hne : ∀ b, b ≤ m → (rs.take (m + 1)).drop b ≠ [] := fun b hb z => by
    have := congrArg List.length z
    rw [List.length_drop, List.length_take] at this
    simp at this
    omega
  have tk : ∀ b, b ≤ m → (rs.take (m + 1)).take b = rs.take b := fun b hb => by rw [List.take_take, Nat.min_eq_left (by omega)]
  have sp : ∀ b, b ≤ m → ∀ k, RunsTo w n 0 k (rs.take (m + 1)) → ∃ l, RunsTo w n 0 l (rs.take b) ∧ RunsTo w n l k ((rs.take (m + 1)).drop b) := fun b hb k hk => by
    rw [← List.take_append_drop b (rs.take (m + 1)), tk b hb] at hk
    exact hk.split
  obtain ⟨K, hK, _⟩ : ∃ K, RunsTo w n 0 K (rs.take (m + 1)) ∧ RunsTo w n K n (rs.drop (m + 1)) := by
    rw [← List.take_append_drop (m + 1) rs] at h
    exact h.split
  have flt : ∀ b, b ≤ m → (fls y w (rs.take (m + 1))).take b = fls y w (rs.take b) := fun b hb => by
    unfold fls
    rw [← List.map_take, tk b hb]
  have fld : ∀ b, (fls y w (rs.take (m + 1))).drop b = fls y w ((rs.take (m + 1)).drop b) := fun b => by
    unfold fls
    rw [List.map_drop]
  have fll : (fls y w (rs.take (m + 1))).length = m + 1 := by
    unfold fls
    rw [List.length_map, List.length_take]
    omega
  refine ⟨fun p hp => ?_, ⟨?_, fun c hc => ?_⟩, fun k hk => ?_⟩
  · rw [hr] at hp
    rcases List.mem_append.mp hp with z | z
    · exact (hf a ha).ok p z
    · obtain ⟨l, _, h2⟩ := sp a ha K hK
      exact rowT_pu rw' h2 (hne a ha) p z
  · rw [hr, List.length_append, rowT_len (hne a ha), ← fld]
    refine last_way (by omega) ?_
    rw [flt a ha]
    exact (hf a ha).least.1
  · obtain ⟨b, c', h1, h2, h3⟩ := way_last hc (fun z => by rw [z] at fll; simp at fll)
    rw [fll] at h1
    rw [flt b (by omega)] at h2
    have h4 := (hf b (by omega)).least.2 c' h2
    have h5 := hmin b (by omega)
    rw [List.length_append, rowT_len (hne b (by omega)), ← fld] at h5
    omega
  · obtain ⟨l, h1, h2⟩ := sp a ha k hk
    obtain ⟨l1, l2⟩ := (hf a ha).lead l h1
    have uz : Up n (doR y (f a)) := (doR_rise ry (hf a ha).ok).mono
    have := rowT_ok (y := y) rw'.mono uz h2 (hne a ha) l1 l2
    rw [hr, doR_app]
    exact ⟨this.1, this.2.trans (l2.le (by have := h2.le; omega))⟩
/-- all bands -/
theorem told_all {n : Nat} {pl : Int} {y w : Nat → Int} {rs : List (Nat × Nat)} {r : List Push} (h : RunsTo w n 0 n rs) (t : Told n pl y w rs rs.length r) : Least (fls y w rs) r.length ∧ (∀ p ∈ r, PuOk n pl p) ∧ (∀ j, j < n → doR y r j = w j) ∧ ∀ q : List Push, (∀ j, j < n → doR y q j = w j) → r.length ≤ q.length := by
  have hl := t.least
  rw [List.take_length] at hl
  refine ⟨hl, t.ok, (t.lead n (by rw [List.take_length]; exact h)).1, fun q hq => ?_⟩
  obtain ⟨c, hc, hle⟩ := low_row h.runs q y hq
  exact Nat.le_trans (hl.2 c hc) hle
end PS

namespace PS
/-! ### how long a run is, counted -/
theorem sorted_run : ∀ (l : List Int) (a : Int), (a :: l).Pairwise (· ≤ ·) → ∀ j, j < l.length + 1 → ((a :: l).getD j 0 = a ↔ j < (a :: l).count a)
  | [], a, _, j, hj => by
    have : j = 0 := by simpa using hj
    subst this
    simp
  | b :: l, a, h, j, hj => by
    have hab : a ≤ b := (List.pairwise_cons.mp h).1 b (by simp)
    by_cases e : b = a
    · subst e
      rw [List.count_cons_self]
      cases j with
      | zero => simp
      | succ j =>
        have ih := sorted_run l b (List.pairwise_cons.mp h).2 j (by simpa using hj)
        rw [List.getD_cons_succ]
        omega
    · have hgt : ∀ x ∈ b :: l, a < x := fun x hx => by
        have h2 := (List.pairwise_cons.mp h).2
        rcases List.mem_cons.mp hx with z | z
        · omega
        · have := (List.pairwise_cons.mp h2).1 x z
          omega
      have hc : (a :: b :: l).count a = 1 := by
        rw [List.count_cons_self, List.count_eq_zero.mpr]
        intro hm
        have := hgt a hm
        omega
      rw [hc]
      cases j with
      | zero => simp
      | succ j =>
        rw [List.getD_cons_succ]
        have hj' : j < (b :: l).length := by simpa using hj
        have : (b :: l).getD j 0 = (b :: l)[j] := by
          rw [List.getD_eq_getElem?_getD, List.getElem?_eq_getElem hj']
          rfl
        rw [this]
        have := hgt _ (List.getElem_mem hj')
        omega
theorem run_count {n : Nat} {w : Nat → Int} {f : Nat} (up : Up n w) (hf : f < n) (hb : f = 0 ∨ w (f - 1) < w f) :
    1 ≤ ((List.range n).map w).count (w f) ∧ f + ((List.range n).map w).count (w f) ≤ n ∧ (∀ j, f ≤ j → j < f + ((List.range n).map w).count (w f) → w j = w f) ∧ (f + ((List.range n).map w).count (w f) < n → w f < w (f + ((List.range n).map w).count (w f))) := by
  have h0 : (((List.range n).map w).take f).count (w f) = 0 := by
    rw [List.count_eq_zero]
    intro hm
    rw [← List.map_take, List.take_range] at hm
    obtain ⟨j, hj, e⟩ := List.mem_map.mp hm
    rw [List.mem_range] at hj
    rcases hb with z | z
    · omega
    · have := up j (f - 1) (by omega) (by omega)
      omega
  have hlen : ((List.range n).map w).length = n := by simp
  have hsplit : ((List.range n).map w).count (w f) = (((List.range n).map w).drop f).count (w f) := by
    have := List.take_append_drop f ((List.range n).map w)
    rw [← this, List.count_append, h0, Nat.zero_add, this]
  have hd : ((List.range n).map w).drop f = w f :: ((List.range n).map w).drop (f + 1) := by
    rw [List.drop_eq_getElem_cons (by omega)]
    simp
  have hget : ∀ j, j < n - f → (((List.range n).map w).drop f).getD j 0 = w (f + j) := fun j hj => by
    rw [List.getD_eq_getElem?_getD, List.getElem?_drop, List.getElem?_map, List.getElem?_range (by omega)]
    rfl
  have hs : (((List.range n).map w).drop f).Pairwise (· ≤ ·) := by
    apply List.Pairwise.drop
    rw [List.pairwise_iff_getElem]
    intro i j hi hj hij
    simp only [List.getElem_map, List.getElem_range]
    simp at hi hj
    exact up i j (by omega) hj
  rw [hsplit]
  have hl2 : (((List.range n).map w).drop f).length = n - f := by rw [List.length_drop, hlen]
  have key : ∀ j, j < n - f → (w (f + j) = w f ↔ j < (((List.range n).map w).drop f).count (w f)) := fun j hj => by
    have := sorted_run (((List.range n).map w).drop (f + 1)) (w f) (by rw [← hd]; exact hs) j (by rw [hd] at hl2; simp at hl2 ⊢; omega)
    rw [← hd, hget j hj] at this
    exact this
  have hle : (((List.range n).map w).drop f).count (w f) ≤ n - f := by
    rw [← hl2]
    exact List.count_le_length
  refine ⟨?_, by omega, fun j h1 h2 => ?_, fun h => ?_⟩
  · have := (key 0 (by omega)).mp rfl
    omega
  · have := (key (j - f) (by omega)).mpr (by omega)
    rw [show f + (j - f) = j from by omega] at this
    exact this
  · have h1 := mt (key _ (show (((List.range n).map w).drop f).count (w f) < n - f by omega)).mp (Nat.lt_irrefl _)
    have h2 := up f (f + (((List.range n).map w).drop f).count (w f)) (by omega) h
    omega
/-- the end of the last run so far, and what is next -/
theorem RunsTo.front {w : Nat → Int} {n : Nat} : ∀ {k m : Nat} {rs : List (Nat × Nat)}, RunsTo w n k m rs → rs ≠ [] → m < n → w (m - 1) < w m
  | _, _, _, .nil, h, _ => absurd rfl h
  | k, m, _, .cons (e := e) (rs := rs) h1 h2 h3 h4 h5, _, hm => by
    cases rs with
    | nil =>
      cases h5
      have := h4 hm
      rw [h3 (m - 1) (by omega) (by omega)]
      exact this
    | cons r rs => exact h5.front (by simp) hm
/-! ### lengths -/
theorem way_singles : ∀ l : List Fl, ∃ c, Way l c ∧ c ≤ 2 * l.length
  | [] => ⟨0, .nil, by simp⟩
  | b :: l => by
    obtain ⟨c, h1, h2⟩ := way_singles l
    refine ⟨gc [b] + c, Way.grp (g := [b]) (by simp) h1, ?_⟩
    rw [gc_one, List.length_cons]
    have := Bool.toNat_le b.1
    have := Bool.toNat_le b.2
    omega
theorem Told.len {n : Nat} {pl : Int} {y w : Nat → Int} {rs : List (Nat × Nat)} {m : Nat} {r : List Push} (t : Told n pl y w rs m r) : r.length ≤ 2 * m := by
  obtain ⟨c, h1, h2⟩ := way_singles (fls y w (rs.take m))
  have h3 := t.least.2 c h1
  unfold fls at h2
  rw [List.length_map, List.length_take] at h2
  omega
theorem rowT_le {w y : Nat → Int} {G : List (Nat × Nat)} (hG : G ≠ []) : (rowT y w G).length ≤ G.length + 1 := by
  rw [rowT_len hG]
  by_cases h : 2 ≤ (fls y w G).length
  · have := gc_le h
    have e : (fls y w G).length = G.length := by simp [fls]
    omega
  · have e : (fls y w G).length = G.length := by simp [fls]
    match G, hG with
    | [r], _ =>
      show gc [fl y w r] ≤ 2
      rw [gc_one]
      have := Bool.toNat_le (fl y w r).1
      have := Bool.toNat_le (fl y w r).2
      omega
    | _ :: _ :: _, _ => simp [fls] at h
/-- what is told of two stands: a row of the fewest pushes -/
structure Best (n : Nat) (pl : Int) (y w : Nat → Int) (r : List Push) : Prop where
  ok : ∀ p ∈ r, PuOk n pl p
  lead : ∀ j, j < n → doR y r j = w j
  least : ∃ rs, RunsTo w n 0 n rs ∧ Least (fls y w rs) r.length
  few : ∀ q : List Push, (∀ j, j < n → doR y q j = w j) → r.length ≤ q.length
  len : r.length ≤ 2 * n
theorem best_of {n : Nat} {pl : Int} {y w : Nat → Int} {rs : List (Nat × Nat)} {r : List Push} (h : RunsTo w n 0 n rs) (t : Told n pl y w rs rs.length r) : Best n pl y w r := by
  obtain ⟨h1, h2, h3, h4⟩ := told_all h t
  have h5 := t.len
  have h6 := h.len
  exact ⟨h2, h3, ⟨rs, h, h1⟩, h4, by omega⟩
theorem Best.same {n : Nat} {pl : Int} {y w : Nat → Int} {r q : List Push} (h : Best n pl y w r) (k : Best n pl y w q) : r.length = q.length := Nat.le_antisymm (h.few q k.lead) (k.few r h.lead)
end PS

namespace PS
/-! ### bands as the law sees them -/
def lawB (y w : Nat → Int) : Nat → List Fl
  | 0 => []
  | k + 1 =>
    let L := if k = 0 ∨ w k ≠ w (k - 1) then lawB y w k ++ [(false, false)] else lawB y w k
    L.dropLast ++ [((L.getLastD (false, false)).1 || decide (y k < w k), (L.getLastD (false, false)).2 || decide (w k < y k))]
theorem lastD_sn (L : List Fl) (x : Fl) : (L ++ [x]).getLastD (false, false) = x := by
  rw [lastD_ne (by simp)]
  simp
theorem lawB_run {n : Nat} {y w : Nat → Int} (up : Up n y) {f k : Nat} (hk : k ≤ n) (hc : ∀ j, f ≤ j → j < k → w j = w f) (hf : f = 0 ∨ w (f - 1) < w f) :
    ∀ i, f + (i + 1) ≤ k → lawB y w (f + (i + 1)) = lawB y w f ++ [(decide (y f < w f), decide (w f < y (f + i)))]
  | 0, hi => by
    show (let L := if f = 0 ∨ w f ≠ w (f - 1) then lawB y w f ++ [(false, false)] else lawB y w f; L.dropLast ++ [((L.getLastD (false, false)).1 || decide (y f < w f), (L.getLastD (false, false)).2 || decide (w f < y f))]) = _
    rw [if_pos (by rcases hf with z | z; exact .inl z; exact .inr (by omega))]
    simp only [List.dropLast_concat, lastD_sn, Bool.false_or]
    rfl
  | i + 1, hi => by
    have ih := lawB_run up hk hc hf i (by omega)
    show (let L := if f + (i + 1) = 0 ∨ w (f + (i + 1)) ≠ w (f + (i + 1) - 1) then lawB y w (f + (i + 1)) ++ [(false, false)] else lawB y w (f + (i + 1)); L.dropLast ++ [((L.getLastD (false, false)).1 || decide (y (f + (i + 1)) < w (f + (i + 1))), (L.getLastD (false, false)).2 || decide (w (f + (i + 1)) < y (f + (i + 1))))]) = _
    have e1 := hc (f + (i + 1)) (by omega) (by omega)
    have e2 := hc (f + i) (by omega) (by omega)
    rw [if_neg (by
      rintro (z | z)
      · omega
      · rw [show f + (i + 1) - 1 = f + i from by omega, e1, e2] at z
        exact z rfl), ih]
    simp only [List.dropLast_concat, lastD_sn]
    have u1 := up f (f + (i + 1)) (by omega) (by omega)
    have u2 := up (f + i) (f + (i + 1)) (by omega) (by omega)
    rw [e1]
    congr 3
    · by_cases c : y f < w f
      · simp [c]
      · rw [decide_eq_false c, decide_eq_false (by omega)]; rfl
    · by_cases c : w f < y (f + i)
      · rw [decide_eq_true c, decide_eq_true (by omega)]; rfl
      · rw [decide_eq_false c, Bool.false_or]
theorem runs_nil {w : Nat → Int} {n k m : Nat} (h : RunsTo w n k m []) : k = m := by
  cases h
  rfl
theorem lawB_runs {n : Nat} {y w : Nat → Int} (up : Up n y) : ∀ (m : Nat) (rs : List (Nat × Nat)) (k : Nat), rs.length = m → k ≤ n → RunsTo w n 0 k rs → lawB y w k = fls y w rs
  | 0, rs, k, hm, _, h => by
    have : rs = [] := List.length_eq_zero_iff.mp hm
    subst this
    cases h
    rfl
  | m + 1, rs, k, hm, hk, h => by
    obtain ⟨rs0, r, rfl⟩ : ∃ rs0 r, rs = rs0 ++ [r] := by
      cases List.eq_nil_or_concat rs with
      | inl h' => rw [h'] at hm; simp at hm
      | inr h' =>
        obtain ⟨a, b, h'⟩ := h'
        exact ⟨a, b, by rw [h']; simp⟩
    obtain ⟨e1, e2, e3, e4, e5, e6⟩ := h.last
    have ih := lawB_runs up m rs0 r.1 (by simpa using hm) (by omega) e6
    have hf : r.1 = 0 ∨ w (r.1 - 1) < w r.1 := by
      by_cases c : rs0 = []
      · subst c
        exact .inl (runs_nil e6).symm
      · exact .inr (e6.front c (by omega))
    have := lawB_run up hk e4 hf (k - r.1 - 1) (by omega)
    rw [show r.1 + (k - r.1 - 1 + 1) = k from by omega, show r.1 + (k - r.1 - 1) = k - 1 from by omega, ih] at this
    rw [this]
    unfold fls
    rw [List.map_append]
    show _ = _ ++ [fl y w r]
    unfold fl
    rw [e1]
theorem lawB_len {y w : Nat → Int} : ∀ k, (lawB y w k).length ≤ k ∧ (0 < k → 0 < (lawB y w k).length)
  | 0 => ⟨Nat.le_refl _, fun h => by omega⟩
  | k + 1 => by
    have ih := lawB_len (y := y) (w := w) k
    refine ⟨?_, fun _ => by simp [lawB]⟩
    show (let L := if k = 0 ∨ w k ≠ w (k - 1) then lawB y w k ++ [(false, false)] else lawB y w k; L.dropLast ++ [((L.getLastD (false, false)).1 || decide (y k < w k), (L.getLastD (false, false)).2 || decide (w k < y k))]).length ≤ k + 1
    simp only [List.length_append, List.length_dropLast, List.length_cons, List.length_nil]
    split
    · rw [List.length_append]
      simp
      omega
    · rename_i c
      have : 0 < k := by
        by_cases e : k = 0
        · exact absurd (.inl e) c
        · omega
      have := ih.2 this
      omega
/-! ### the least, from the first group on -/
theorem least_ex (l : List Fl) : ∃ c, Least l c := by
  obtain ⟨c0, h0, _⟩ := way_singles l
  have : ∀ n c, c ≤ n → Way l c → ∃ d, Least l d := fun n => by
    induction n with
    | zero =>
      intro c hc hw
      have : c = 0 := by omega
      subst this
      exact ⟨0, hw, fun _ _ => Nat.zero_le _⟩
    | succ n ih =>
      intro c hc hw
      by_cases h : ∃ d, d < c ∧ Way l d
      · obtain ⟨d, hd, hw'⟩ := h
        exact ih d (by omega) hw'
      · exact ⟨c, hw, fun d hd => by
          by_cases e : c ≤ d
          · exact e
          · exact absurd ⟨d, by omega, hd⟩ h⟩
  exact this c0 c0 (Nat.le_refl _) h0
structure BestTo (l : List Fl) (m b : Nat) : Prop where
  at_ : ∃ j c, 1 ≤ j ∧ j < m ∧ Least (l.drop j) c ∧ b = gc (l.take j) + c
  le : ∀ j c, 1 ≤ j → j < m → Least (l.drop j) c → b ≤ gc (l.take j) + c
theorem BestTo.first {l : List Fl} {c : Nat} (h : Least (l.drop 1) c) : BestTo l 2 (gc (l.take 1) + c) where
  at_ := ⟨1, c, by omega, by omega, h, rfl⟩
  le := fun j d h1 h2 hd => by
    have : j = 1 := by omega
    subst this
    rw [h.uniq hd]
    exact Nat.le_refl _
theorem BestTo.next {l : List Fl} {m b c : Nat} (h : BestTo l m b) (hm : 1 ≤ m) (hc : Least (l.drop m) c) : BestTo l (m + 1) (min b (gc (l.take m) + c)) where
  at_ := by
    by_cases e : b ≤ gc (l.take m) + c
    · obtain ⟨j, d, h1, h2, h3, h4⟩ := h.at_
      exact ⟨j, d, h1, by omega, h3, by omega⟩
    · exact ⟨m, c, hm, by omega, hc, by omega⟩
  le := fun j d h1 h2 hd => by
    by_cases e : j = m
    · subst e
      rw [hc.uniq hd]
      exact Nat.min_le_right _ _
    · have := h.le j d h1 (by omega) hd
      omega
theorem BestTo.least {l : List Fl} {b : Nat} (hl : l ≠ []) (h : BestTo l (l.length + 1) b) : Least l b := by
  obtain ⟨j, c, h1, h2, h3, h4⟩ := h.at_
  refine ⟨by rw [h4]; exact first_way h1 (by omega) h3.1, fun c' hc' => ?_⟩
  obtain ⟨m, d, m1, m2, hd, e⟩ := way_first hc' hl
  obtain ⟨c0, hc0⟩ := least_ex (l.drop m)
  have := h.le m c0 m1 (by omega) hc0
  have := hc0.2 d hd
  omega
def ownS (l : List Fl) (m s : Nat) : Nat := if (s = m - 1 ∧ (l.getD s (false, false)).2 = false) ∨ (s = 0 ∧ (l.getD s (false, false)).1 = false) then 1 else 2
theorem bad_take {l : List Fl} {m : Nat} (h2 : 2 ≤ m) (hm : m ≤ l.length) : bad (l.take m) = ((l.getD 0 (false, false)).1 && (l.getD (m - 1) (false, false)).2).toNat := by
  unfold bad
  have e1 : (l.take m).head? = some (l.getD 0 (false, false)) := by
    rw [List.head?_eq_getElem?, List.getElem?_take, if_pos (by omega), List.getElem?_eq_getElem (by omega)]
    simp [show 0 < l.length by omega]
  have e2 : (l.take m).getLast? = some (l.getD (m - 1) (false, false)) := by
    rw [List.getLast?_eq_getElem?, List.length_take, Nat.min_eq_left hm, List.getElem?_take, if_pos (by omega), List.getElem?_eq_getElem (by omega)]
    simp [show m - 1 < l.length by omega]
  rw [e1, e2]
  rfl
theorem own_le {l : List Fl} {m s : Nat} (h2 : 2 ≤ m) (hm : m ≤ l.length) (hs : s < m) : gc (l.take m) ≤ m - 1 + ownS l m s := by
  rw [gc_two (by rw [List.length_take]; omega), bad_take h2 hm, List.length_take, Nat.min_eq_left hm]
  unfold ownS
  split
  · rename_i c
    rcases c with ⟨e, z⟩ | ⟨e, z⟩
    · rw [e] at z
      rw [z]
      simp
      omega
    · rw [e] at z
      rw [z]
      simp
      omega
  · have := Bool.toNat_le ((l.getD 0 (false, false)).1 && (l.getD (m - 1) (false, false)).2)
    omega
theorem own_at {l : List Fl} {m : Nat} (h2 : 2 ≤ m) (hm : m ≤ l.length) : ∃ s, s < m ∧ gc (l.take m) = m - 1 + ownS l m s := by
  rw [gc_two (by rw [List.length_take]; omega), bad_take h2 hm, List.length_take, Nat.min_eq_left hm]
  cases e1 : (l.getD 0 (false, false)).1 with
  | false =>
    refine ⟨0, by omega, ?_⟩
    unfold ownS
    rw [if_pos (.inr ⟨rfl, e1⟩)]
    simp
    omega
  | true =>
    cases e2 : (l.getD (m - 1) (false, false)).2 with
    | false =>
      refine ⟨m - 1, by omega, ?_⟩
      unfold ownS
      rw [if_pos (.inl ⟨rfl, e2⟩)]
      simp
      omega
    | true =>
      refine ⟨0, by omega, ?_⟩
      unfold ownS
      rw [if_neg (by
        rintro (⟨z, _⟩ | ⟨_, z⟩)
        · omega
        · rw [e1] at z; cases z)]
      simp
      omega
/-! ### rows as data -/
theorem nat_inj {a b : Nat} (h : (a : Int) = (b : Int)) : a = b := by omega
end PS

namespace PS
open PySem PySem.Spec PyProof.Rows L2
def topS (i : Nat) : Stmt := PySem.Challenge.pw_pushshelf_k09_whole_shortest_rows.main.body.getD i (.Pass ⟨0, 0, 0, 0⟩)
abbrev s_is_whole : Stmt := topS 9
theorem sc_is_whole : FnScope ["thing"] ["thing"] (defScope s_is_whole) := ⟨rfl, rfl, rfl, by decide +kernel, rfl, by decide +kernel, by decide +kernel⟩
abbrev s_is_within : Stmt := topS 10
theorem sc_is_within : FnScope ["thing", "low", "high"] ["thing", "low", "high"] (defScope s_is_within) := ⟨rfl, rfl, rfl, by decide +kernel, rfl, by decide +kernel, by decide +kernel⟩
abbrev s_is_tuple_of : Stmt := topS 11
theorem sc_is_tuple_of : FnScope ["thing", "many"] ["thing", "many"] (defScope s_is_tuple_of) := ⟨rfl, rfl, rfl, by decide +kernel, rfl, by decide +kernel, by decide +kernel⟩
abbrev s_are_blocks : Stmt := topS 12
theorem sc_are_blocks : FnScope ["thing", "length"] ["thing"] (defScope s_are_blocks) := ⟨rfl, rfl, rfl, by decide +kernel, rfl, by decide +kernel, by decide +kernel⟩
abbrev s_is_shelf : Stmt := topS 13
theorem sc_is_shelf : FnScope ["thing", "room", "blocks", "total"] ["thing"] (defScope s_is_shelf) := ⟨rfl, rfl, rfl, by decide +kernel, rfl, by decide +kernel, by decide +kernel⟩
abbrev s_need_shelf : Stmt := topS 14
theorem sc_need_shelf : FnScope ["thing"] ["thing"] (defScope s_need_shelf) := ⟨rfl, rfl, rfl, by decide +kernel, rfl, by decide +kernel, by decide +kernel⟩
abbrev s_play_of : Stmt := topS 15
theorem sc_play_of : FnScope ["shelf", "room", "blocks"] ["shelf"] (defScope s_play_of) := ⟨rfl, rfl, rfl, by decide +kernel, rfl, by decide +kernel, by decide +kernel⟩
abbrev s_gap_length : Stmt := topS 16
theorem sc_gap_length : FnScope ["shelf", "gap"] ["shelf", "gap"] (defScope s_gap_length) := ⟨rfl, rfl, rfl, by decide +kernel, rfl, by decide +kernel, by decide +kernel⟩
abbrev s_places_of : Stmt := topS 17
theorem sc_places_of : FnScope ["shelf", "stand", "at", "left"] ["shelf", "stand"] (defScope s_places_of) := ⟨rfl, rfl, rfl, by decide +kernel, rfl, by decide +kernel, by decide +kernel⟩
abbrev s_is_stand : Stmt := topS 18
theorem sc_is_stand : FnScope ["shelf", "thing", "room", "blocks", "edge", "left", "length"] ["shelf", "thing"] (defScope s_is_stand) := ⟨rfl, rfl, rfl, by decide +kernel, rfl, by decide +kernel, by decide +kernel⟩
abbrev s_need_stand : Stmt := topS 19
theorem sc_need_stand : FnScope ["shelf", "thing"] ["shelf", "thing"] (defScope s_need_stand) := ⟨rfl, rfl, rfl, by decide +kernel, rfl, by decide +kernel, by decide +kernel⟩
abbrev s_is_gap : Stmt := topS 20
theorem sc_is_gap : FnScope ["shelf", "side", "thing", "many"] ["shelf", "side", "thing"] (defScope s_is_gap) := ⟨rfl, rfl, rfl, by decide +kernel, rfl, by decide +kernel, by decide +kernel⟩
abbrev s_is_push : Stmt := topS 21
theorem sc_is_push : FnScope ["shelf", "thing", "side", "gap", "place", "length"] ["shelf", "thing"] (defScope s_is_push) := ⟨rfl, rfl, rfl, by decide +kernel, rfl, by decide +kernel, by decide +kernel⟩
abbrev s_is_row : Stmt := topS 22
theorem sc_is_row : FnScope ["shelf", "thing", "push"] ["shelf", "thing"] (defScope s_is_row) := ⟨rfl, rfl, rfl, by decide +kernel, rfl, by decide +kernel, by decide +kernel⟩
abbrev s_pushed_right : Stmt := topS 23
theorem sc_pushed_right : FnScope ["blocks", "stand", "gap", "place", "lefts", "edge", "at"] ["blocks", "stand", "gap", "place"] (defScope s_pushed_right) := ⟨rfl, rfl, rfl, by decide +kernel, rfl, by decide +kernel, by decide +kernel⟩
abbrev s_pushed_left : Stmt := topS 24
theorem sc_pushed_left : FnScope ["blocks", "stand", "gap", "place", "lefts", "edge", "at"] ["blocks", "stand", "gap", "place"] (defScope s_pushed_left) := ⟨rfl, rfl, rfl, by decide +kernel, rfl, by decide +kernel, by decide +kernel⟩
abbrev s_pushed : Stmt := topS 25
theorem sc_pushed : FnScope ["shelf", "stand", "push", "side", "gap", "place"] ["shelf", "stand", "push"] (defScope s_pushed) := ⟨rfl, rfl, rfl, by decide +kernel, rfl, by decide +kernel, by decide +kernel⟩
abbrev s_done : Stmt := topS 26
theorem sc_done : FnScope ["shelf", "stand", "row", "push"] ["shelf", "stand", "row"] (defScope s_done) := ⟨rfl, rfl, rfl, by decide +kernel, rfl, by decide +kernel, by decide +kernel⟩
abbrev s_Band_init : Stmt := inClass (topS 28) 0
theorem sc_Band_init : FnScope ["self", "first", "beyond", "place", "up", "down"] ["self", "first", "beyond", "place", "up", "down"] (defScope s_Band_init) := ⟨rfl, rfl, rfl, by decide +kernel, rfl, by decide +kernel, by decide +kernel⟩
abbrev s_band_from : Stmt := topS 29
theorem sc_band_from : FnScope ["now", "wished", "first", "place", "beyond"] ["now", "wished", "first"] (defScope s_band_from) := ⟨rfl, rfl, rfl, by decide +kernel, rfl, by decide +kernel, by decide +kernel⟩
abbrev s_bands_of : Stmt := topS 30
theorem sc_bands_of : FnScope ["shelf", "stand", "wish", "now", "wished", "bands", "first", "band"] ["shelf", "stand", "wish"] (defScope s_bands_of) := ⟨rfl, rfl, rfl, by decide +kernel, rfl, by decide +kernel, by decide +kernel⟩
abbrev s_raised : Stmt := topS 31
theorem sc_raised : FnScope ["shelf", "gap", "place"] ["shelf", "gap", "place"] (defScope s_raised) := ⟨rfl, rfl, rfl, by decide +kernel, rfl, by decide +kernel, by decide +kernel⟩
abbrev s_lowered : Stmt := topS 32
theorem sc_lowered : FnScope ["shelf", "gap", "place"] ["shelf", "gap", "place"] (defScope s_lowered) := ⟨rfl, rfl, rfl, by decide +kernel, rfl, by decide +kernel, by decide +kernel⟩
abbrev s_row_alone : Stmt := topS 33
theorem sc_row_alone : FnScope ["shelf", "band", "row"] ["shelf", "band"] (defScope s_row_alone) := ⟨rfl, rfl, rfl, by decide +kernel, rfl, by decide +kernel, by decide +kernel⟩
abbrev s_row_served_by_last : Stmt := topS 34
theorem sc_row_served_by_last : FnScope ["shelf", "bands", "row", "band"] ["shelf", "bands"] (defScope s_row_served_by_last) := ⟨rfl, rfl, rfl, by decide +kernel, rfl, by decide +kernel, by decide +kernel⟩
abbrev s_row_served_by_first : Stmt := topS 35
theorem sc_row_served_by_first : FnScope ["shelf", "bands", "server", "row", "band"] ["shelf", "bands"] (defScope s_row_served_by_first) := ⟨rfl, rfl, rfl, by decide +kernel, rfl, by decide +kernel, by decide +kernel⟩
abbrev s_row_together : Stmt := topS 36
theorem sc_row_together : FnScope ["shelf", "bands"] ["shelf", "bands"] (defScope s_row_together) := ⟨rfl, rfl, rfl, by decide +kernel, rfl, by decide +kernel, by decide +kernel⟩
abbrev s_shortest_row : Stmt := topS 37
theorem sc_shortest_row : FnScope ["shelf", "stand", "wish", "bands", "rows", "many", "ways", "ahead"] ["shelf", "stand", "wish"] (defScope s_shortest_row) := ⟨rfl, rfl, rfl, by decide +kernel, rfl, by decide +kernel, by decide +kernel⟩
abbrev s_need_both : Stmt := topS 38
theorem sc_need_both : FnScope ["shelf", "stand", "wish"] ["shelf", "stand", "wish"] (defScope s_need_both) := ⟨rfl, rfl, rfl, by decide +kernel, rfl, by decide +kernel, by decide +kernel⟩
abbrev s_fewest : Stmt := topS 39
theorem sc_fewest : FnScope ["shelf", "stand", "wish"] ["shelf", "stand", "wish"] (defScope s_fewest) := ⟨rfl, rfl, rfl, by decide +kernel, rfl, by decide +kernel, by decide +kernel⟩
abbrev s_pushes_to : Stmt := topS 40
theorem sc_pushes_to : FnScope ["shelf", "stand", "wish"] ["shelf", "stand", "wish"] (defScope s_pushes_to) := ⟨rfl, rfl, rfl, by decide +kernel, rfl, by decide +kernel, by decide +kernel⟩
abbrev s_leads : Stmt := topS 41
theorem sc_leads : FnScope ["shelf", "stand", "wish", "thing"] ["shelf", "stand", "wish", "thing"] (defScope s_leads) := ⟨rfl, rfl, rfl, by decide +kernel, rfl, by decide +kernel, by decide +kernel⟩
abbrev s_law_deck : Stmt := topS 43
theorem sc_law_deck : FnScope ["cell", "turn"] ["cell", "turn"] (defScope s_law_deck) := ⟨rfl, rfl, rfl, by decide +kernel, rfl, by decide +kernel, by decide +kernel⟩
abbrev s_law_pick : Stmt := topS 44
theorem sc_law_pick : FnScope ["deck", "size", "found", "number"] ["deck", "size"] (defScope s_law_pick) := ⟨rfl, rfl, rfl, by decide +kernel, rfl, by decide +kernel, by decide +kernel⟩
abbrev s_law_whole : Stmt := topS 45
theorem sc_law_whole : FnScope ["thing"] ["thing"] (defScope s_law_whole) := ⟨rfl, rfl, rfl, by decide +kernel, rfl, by decide +kernel, by decide +kernel⟩
abbrev s_law_one : Stmt := topS 46
theorem sc_law_one : FnScope ["deck", "some"] ["deck", "some"] (defScope s_law_one) := ⟨rfl, rfl, rfl, by decide +kernel, rfl, by decide +kernel, by decide +kernel⟩
abbrev s_law_sort : Stmt := topS 47
theorem sc_law_sort : FnScope ["thing"] ["thing"] (defScope s_law_sort) := ⟨rfl, rfl, rfl, by decide +kernel, rfl, by decide +kernel, by decide +kernel⟩
abbrev s_law_same : Stmt := topS 48
theorem sc_law_same : FnScope ["told", "due", "k", "part"] ["told", "due"] (defScope s_law_same) := ⟨rfl, rfl, rfl, by decide +kernel, rfl, by decide +kernel, by decide +kernel⟩
abbrev s_law_odd : Stmt := topS 49
theorem sc_law_odd : FnScope ["deck", "some"] ["deck"] (defScope s_law_odd) := ⟨rfl, rfl, rfl, by decide +kernel, rfl, by decide +kernel, by decide +kernel⟩
abbrev s_law_spoilt : Stmt := topS 50
theorem sc_law_spoilt : FnScope ["deck", "thing", "rows", "at", "other"] ["deck", "thing"] (defScope s_law_spoilt) := ⟨rfl, rfl, rfl, by decide +kernel, rfl, by decide +kernel, by decide +kernel⟩
abbrev s_law_shelf : Stmt := topS 51
theorem sc_law_shelf : FnScope ["deck", "at_most", "play", "blocks", "k"] ["deck", "at_most", "play"] (defScope s_law_shelf) := ⟨rfl, rfl, rfl, by decide +kernel, rfl, by decide +kernel, by decide +kernel⟩
abbrev s_law_play : Stmt := topS 52
theorem sc_law_play : FnScope ["shelf"] ["shelf"] (defScope s_law_play) := ⟨rfl, rfl, rfl, by decide +kernel, rfl, by decide +kernel, by decide +kernel⟩
abbrev s_law_stand_of : Stmt := topS 53
theorem sc_law_stand_of : FnScope ["shelf", "places", "found", "ahead", "place", "long"] ["shelf", "places"] (defScope s_law_stand_of) := ⟨rfl, rfl, rfl, by decide +kernel, rfl, by decide +kernel, by decide +kernel⟩
abbrev s_law_stand : Stmt := topS 54
theorem sc_law_stand : FnScope ["deck", "shelf", "places", "long"] ["deck", "shelf"] (defScope s_law_stand) := ⟨rfl, rfl, rfl, by decide +kernel, rfl, by decide +kernel, by decide +kernel⟩
abbrev s_law_push : Stmt := topS 55
theorem sc_law_push : FnScope ["deck", "shelf", "side", "gap"] ["deck", "shelf"] (defScope s_law_push) := ⟨rfl, rfl, rfl, by decide +kernel, rfl, by decide +kernel, by decide +kernel⟩
abbrev s_law_row : Stmt := topS 56
theorem sc_law_row : FnScope ["deck", "shelf", "at_most", "k"] ["deck", "shelf", "at_most"] (defScope s_law_row) := ⟨rfl, rfl, rfl, by decide +kernel, rfl, by decide +kernel, by decide +kernel⟩
abbrev s_law_pushed : Stmt := topS 57
theorem sc_law_pushed : FnScope ["shelf", "stand", "push", "side", "gap", "bound", "found", "at"] ["shelf", "stand", "push"] (defScope s_law_pushed) := ⟨rfl, rfl, rfl, by decide +kernel, rfl, by decide +kernel, by decide +kernel⟩
abbrev s_law_done : Stmt := topS 58
theorem sc_law_done : FnScope ["shelf", "stand", "row", "push"] ["shelf", "stand", "row"] (defScope s_law_done) := ⟨rfl, rfl, rfl, by decide +kernel, rfl, by decide +kernel, by decide +kernel⟩
abbrev s_law_is_push : Stmt := topS 59
theorem sc_law_is_push : FnScope ["shelf", "thing", "low"] ["shelf", "thing"] (defScope s_law_is_push) := ⟨rfl, rfl, rfl, by decide +kernel, rfl, by decide +kernel, by decide +kernel⟩
abbrev s_law_bands : Stmt := topS 60
theorem sc_law_bands : FnScope ["shelf", "stand", "wish", "found", "last", "at", "left", "place"] ["shelf", "stand", "wish"] (defScope s_law_bands) := ⟨rfl, rfl, rfl, by decide +kernel, rfl, by decide +kernel, by decide +kernel⟩
abbrev s_law_fewest : Stmt := topS 61
theorem sc_law_fewest : FnScope ["bands", "best", "many", "server", "own"] ["bands"] (defScope s_law_fewest) := ⟨rfl, rfl, rfl, by decide +kernel, rfl, by decide +kernel, by decide +kernel⟩
abbrev s_law_leads : Stmt := topS 62
theorem sc_law_leads : FnScope ["shelf", "stand", "wish", "thing", "push"] ["shelf", "stand", "wish", "thing"] (defScope s_law_leads) := ⟨rfl, rfl, rfl, by decide +kernel, rfl, by decide +kernel, by decide +kernel⟩
abbrev s_law : Stmt := topS 63
theorem sc_law : FnScope ["script", "cell", "deck", "shelf", "stand", "wishes", "wish", "told", "many", "some", "thing", "said"] ["script"] (defScope s_law) := ⟨rfl, rfl, rfl, by decide +kernel, rfl, by decide +kernel, by decide +kernel⟩
/-- what the top has left -/
structure Tx (K : PySem.W.Frag) (mg : Str → Option Value) where
  {f_is_whole : Addr}
  {fd_is_whole : FuncData}
  F_is_whole : Fun K "is_whole" "is_whole" s_is_whole f_is_whole fd_is_whole
  g_is_whole : mg "is_whole" = some (.ref f_is_whole)
  {f_is_within : Addr}
  {fd_is_within : FuncData}
  F_is_within : Fun K "is_within" "is_within" s_is_within f_is_within fd_is_within
  g_is_within : mg "is_within" = some (.ref f_is_within)
  {f_is_tuple_of : Addr}
  {fd_is_tuple_of : FuncData}
  F_is_tuple_of : Fun K "is_tuple_of" "is_tuple_of" s_is_tuple_of f_is_tuple_of fd_is_tuple_of
  g_is_tuple_of : mg "is_tuple_of" = some (.ref f_is_tuple_of)
  {f_are_blocks : Addr}
  {fd_are_blocks : FuncData}
  F_are_blocks : Fun K "are_blocks" "are_blocks" s_are_blocks f_are_blocks fd_are_blocks
  g_are_blocks : mg "are_blocks" = some (.ref f_are_blocks)
  {f_is_shelf : Addr}
  {fd_is_shelf : FuncData}
  F_is_shelf : Fun K "is_shelf" "is_shelf" s_is_shelf f_is_shelf fd_is_shelf
  g_is_shelf : mg "is_shelf" = some (.ref f_is_shelf)
  {f_need_shelf : Addr}
  {fd_need_shelf : FuncData}
  F_need_shelf : Fun K "need_shelf" "need_shelf" s_need_shelf f_need_shelf fd_need_shelf
  g_need_shelf : mg "need_shelf" = some (.ref f_need_shelf)
  {f_play_of : Addr}
  {fd_play_of : FuncData}
  F_play_of : Fun K "play_of" "play_of" s_play_of f_play_of fd_play_of
  g_play_of : mg "play_of" = some (.ref f_play_of)
  {f_gap_length : Addr}
  {fd_gap_length : FuncData}
  F_gap_length : Fun K "gap_length" "gap_length" s_gap_length f_gap_length fd_gap_length
  g_gap_length : mg "gap_length" = some (.ref f_gap_length)
  {f_places_of : Addr}
  {fd_places_of : FuncData}
  F_places_of : Fun K "places_of" "places_of" s_places_of f_places_of fd_places_of
  g_places_of : mg "places_of" = some (.ref f_places_of)
  {f_is_stand : Addr}
  {fd_is_stand : FuncData}
  F_is_stand : Fun K "is_stand" "is_stand" s_is_stand f_is_stand fd_is_stand
  g_is_stand : mg "is_stand" = some (.ref f_is_stand)
  {f_need_stand : Addr}
  {fd_need_stand : FuncData}
  F_need_stand : Fun K "need_stand" "need_stand" s_need_stand f_need_stand fd_need_stand
  g_need_stand : mg "need_stand" = some (.ref f_need_stand)
  {f_is_gap : Addr}
  {fd_is_gap : FuncData}
  F_is_gap : Fun K "is_gap" "is_gap" s_is_gap f_is_gap fd_is_gap
  g_is_gap : mg "is_gap" = some (.ref f_is_gap)
  {f_is_push : Addr}
  {fd_is_push : FuncData}
  F_is_push : Fun K "is_push" "is_push" s_is_push f_is_push fd_is_push
  g_is_push : mg "is_push" = some (.ref f_is_push)
  {f_is_row : Addr}
  {fd_is_row : FuncData}
  F_is_row : Fun K "is_row" "is_row" s_is_row f_is_row fd_is_row
  g_is_row : mg "is_row" = some (.ref f_is_row)
  {f_pushed_right : Addr}
  {fd_pushed_right : FuncData}
  F_pushed_right : Fun K "pushed_right" "pushed_right" s_pushed_right f_pushed_right fd_pushed_right
  g_pushed_right : mg "pushed_right" = some (.ref f_pushed_right)
  {f_pushed_left : Addr}
  {fd_pushed_left : FuncData}
  F_pushed_left : Fun K "pushed_left" "pushed_left" s_pushed_left f_pushed_left fd_pushed_left
  g_pushed_left : mg "pushed_left" = some (.ref f_pushed_left)
  {f_pushed : Addr}
  {fd_pushed : FuncData}
  F_pushed : Fun K "pushed" "pushed" s_pushed f_pushed fd_pushed
  g_pushed : mg "pushed" = some (.ref f_pushed)
  {f_done : Addr}
  {fd_done : FuncData}
  F_done : Fun K "done" "done" s_done f_done fd_done
  g_done : mg "done" = some (.ref f_done)
  {f_Band_init : Addr}
  {fd_Band_init : FuncData}
  F_Band_init : Fun K "__init__" "Band.__init__" s_Band_init f_Band_init fd_Band_init
  {f_band_from : Addr}
  {fd_band_from : FuncData}
  F_band_from : Fun K "band_from" "band_from" s_band_from f_band_from fd_band_from
  g_band_from : mg "band_from" = some (.ref f_band_from)
  {f_bands_of : Addr}
  {fd_bands_of : FuncData}
  F_bands_of : Fun K "bands_of" "bands_of" s_bands_of f_bands_of fd_bands_of
  g_bands_of : mg "bands_of" = some (.ref f_bands_of)
  {f_raised : Addr}
  {fd_raised : FuncData}
  F_raised : Fun K "raised" "raised" s_raised f_raised fd_raised
  g_raised : mg "raised" = some (.ref f_raised)
  {f_lowered : Addr}
  {fd_lowered : FuncData}
  F_lowered : Fun K "lowered" "lowered" s_lowered f_lowered fd_lowered
  g_lowered : mg "lowered" = some (.ref f_lowered)
  {f_row_alone : Addr}
  {fd_row_alone : FuncData}
  F_row_alone : Fun K "row_alone" "row_alone" s_row_alone f_row_alone fd_row_alone
  g_row_alone : mg "row_alone" = some (.ref f_row_alone)
  {f_row_served_by_last : Addr}
  {fd_row_served_by_last : FuncData}
  F_row_served_by_last : Fun K "row_served_by_last" "row_served_by_last" s_row_served_by_last f_row_served_by_last fd_row_served_by_last
  g_row_served_by_last : mg "row_served_by_last" = some (.ref f_row_served_by_last)
  {f_row_served_by_first : Addr}
  {fd_row_served_by_first : FuncData}
  F_row_served_by_first : Fun K "row_served_by_first" "row_served_by_first" s_row_served_by_first f_row_served_by_first fd_row_served_by_first
  g_row_served_by_first : mg "row_served_by_first" = some (.ref f_row_served_by_first)
  {f_row_together : Addr}
  {fd_row_together : FuncData}
  F_row_together : Fun K "row_together" "row_together" s_row_together f_row_together fd_row_together
  g_row_together : mg "row_together" = some (.ref f_row_together)
  {f_shortest_row : Addr}
  {fd_shortest_row : FuncData}
  F_shortest_row : Fun K "shortest_row" "shortest_row" s_shortest_row f_shortest_row fd_shortest_row
  g_shortest_row : mg "shortest_row" = some (.ref f_shortest_row)
  {f_need_both : Addr}
  {fd_need_both : FuncData}
  F_need_both : Fun K "need_both" "need_both" s_need_both f_need_both fd_need_both
  g_need_both : mg "need_both" = some (.ref f_need_both)
  {f_fewest : Addr}
  {fd_fewest : FuncData}
  F_fewest : Fun K "fewest" "fewest" s_fewest f_fewest fd_fewest
  g_fewest : mg "fewest" = some (.ref f_fewest)
  {f_pushes_to : Addr}
  {fd_pushes_to : FuncData}
  F_pushes_to : Fun K "pushes_to" "pushes_to" s_pushes_to f_pushes_to fd_pushes_to
  g_pushes_to : mg "pushes_to" = some (.ref f_pushes_to)
  {f_leads : Addr}
  {fd_leads : FuncData}
  F_leads : Fun K "leads" "leads" s_leads f_leads fd_leads
  g_leads : mg "leads" = some (.ref f_leads)
  {f_law_deck : Addr}
  {fd_law_deck : FuncData}
  F_law_deck : Fun K "_law_deck" "_law_deck" s_law_deck f_law_deck fd_law_deck
  g_law_deck : mg "_law_deck" = some (.ref f_law_deck)
  {f_law_pick : Addr}
  {fd_law_pick : FuncData}
  F_law_pick : Fun K "_law_pick" "_law_pick" s_law_pick f_law_pick fd_law_pick
  g_law_pick : mg "_law_pick" = some (.ref f_law_pick)
  {f_law_whole : Addr}
  {fd_law_whole : FuncData}
  F_law_whole : Fun K "_law_whole" "_law_whole" s_law_whole f_law_whole fd_law_whole
  g_law_whole : mg "_law_whole" = some (.ref f_law_whole)
  {f_law_one : Addr}
  {fd_law_one : FuncData}
  F_law_one : Fun K "_law_one" "_law_one" s_law_one f_law_one fd_law_one
  g_law_one : mg "_law_one" = some (.ref f_law_one)
  {f_law_sort : Addr}
  {fd_law_sort : FuncData}
  F_law_sort : Fun K "_law_sort" "_law_sort" s_law_sort f_law_sort fd_law_sort
  g_law_sort : mg "_law_sort" = some (.ref f_law_sort)
  {f_law_same : Addr}
  {fd_law_same : FuncData}
  F_law_same : Fun K "_law_same" "_law_same" s_law_same f_law_same fd_law_same
  g_law_same : mg "_law_same" = some (.ref f_law_same)
  {f_law_odd : Addr}
  {fd_law_odd : FuncData}
  F_law_odd : Fun K "_law_odd" "_law_odd" s_law_odd f_law_odd fd_law_odd
  g_law_odd : mg "_law_odd" = some (.ref f_law_odd)
  {f_law_spoilt : Addr}
  {fd_law_spoilt : FuncData}
  F_law_spoilt : Fun K "_law_spoilt" "_law_spoilt" s_law_spoilt f_law_spoilt fd_law_spoilt
  g_law_spoilt : mg "_law_spoilt" = some (.ref f_law_spoilt)
  {f_law_shelf : Addr}
  {fd_law_shelf : FuncData}
  F_law_shelf : Fun K "_law_shelf" "_law_shelf" s_law_shelf f_law_shelf fd_law_shelf
  g_law_shelf : mg "_law_shelf" = some (.ref f_law_shelf)
  {f_law_play : Addr}
  {fd_law_play : FuncData}
  F_law_play : Fun K "_law_play" "_law_play" s_law_play f_law_play fd_law_play
  g_law_play : mg "_law_play" = some (.ref f_law_play)
  {f_law_stand_of : Addr}
  {fd_law_stand_of : FuncData}
  F_law_stand_of : Fun K "_law_stand_of" "_law_stand_of" s_law_stand_of f_law_stand_of fd_law_stand_of
  g_law_stand_of : mg "_law_stand_of" = some (.ref f_law_stand_of)
  {f_law_stand : Addr}
  {fd_law_stand : FuncData}
  F_law_stand : Fun K "_law_stand" "_law_stand" s_law_stand f_law_stand fd_law_stand
  g_law_stand : mg "_law_stand" = some (.ref f_law_stand)
  {f_law_push : Addr}
  {fd_law_push : FuncData}
  F_law_push : Fun K "_law_push" "_law_push" s_law_push f_law_push fd_law_push
  g_law_push : mg "_law_push" = some (.ref f_law_push)
  {f_law_row : Addr}
  {fd_law_row : FuncData}
  F_law_row : Fun K "_law_row" "_law_row" s_law_row f_law_row fd_law_row
  g_law_row : mg "_law_row" = some (.ref f_law_row)
  {f_law_pushed : Addr}
  {fd_law_pushed : FuncData}
  F_law_pushed : Fun K "_law_pushed" "_law_pushed" s_law_pushed f_law_pushed fd_law_pushed
  g_law_pushed : mg "_law_pushed" = some (.ref f_law_pushed)
  {f_law_done : Addr}
  {fd_law_done : FuncData}
  F_law_done : Fun K "_law_done" "_law_done" s_law_done f_law_done fd_law_done
  g_law_done : mg "_law_done" = some (.ref f_law_done)
  {f_law_is_push : Addr}
  {fd_law_is_push : FuncData}
  F_law_is_push : Fun K "_law_is_push" "_law_is_push" s_law_is_push f_law_is_push fd_law_is_push
  g_law_is_push : mg "_law_is_push" = some (.ref f_law_is_push)
  {f_law_bands : Addr}
  {fd_law_bands : FuncData}
  F_law_bands : Fun K "_law_bands" "_law_bands" s_law_bands f_law_bands fd_law_bands
  g_law_bands : mg "_law_bands" = some (.ref f_law_bands)
  {f_law_fewest : Addr}
  {fd_law_fewest : FuncData}
  F_law_fewest : Fun K "_law_fewest" "_law_fewest" s_law_fewest f_law_fewest fd_law_fewest
  g_law_fewest : mg "_law_fewest" = some (.ref f_law_fewest)
  {f_law_leads : Addr}
  {fd_law_leads : FuncData}
  F_law_leads : Fun K "_law_leads" "_law_leads" s_law_leads f_law_leads fd_law_leads
  g_law_leads : mg "_law_leads" = some (.ref f_law_leads)
  {C_Band : Addr}
  cl_Band : Cls K C_Band
  g_Band : mg "Band" = some (.ref C_Band)
  mk_Band : Mk K C_Band f_Band_init
  na_Band_first : NoAttr K C_Band "first"
  na_Band_beyond : NoAttr K C_Band "beyond"
  na_Band_place : NoAttr K C_Band "place"
  na_Band_up : NoAttr K C_Band "up"
  na_Band_down : NoAttr K C_Band "down"
  n_all : mg "all" = none
  n_bool : mg "bool" = none
  n_enumerate : mg "enumerate" = none
  n_int : mg "int" = none
  n_isinstance : mg "isinstance" = none
  n_len : mg "len" = none
  n_list : mg "list" = none
  n_max : mg "max" = none
  n_min : mg "min" = none
  n_range : mg "range" = none
  n_reversed : mg "reversed" = none
  n_sorted : mg "sorted" = none
  n_str : mg "str" = none
  n_sum : mg "sum" = none
  n_tuple : mg "tuple" = none
  n_zip : mg "zip" = none
  {cu_MOST_BLOCKS : Value}
  c_MOST_BLOCKS : RelV (.int 8) cu_MOST_BLOCKS ∧ mg "MOST_BLOCKS" = some cu_MOST_BLOCKS
  {cu_MOST_LENGTH : Value}
  c_MOST_LENGTH : RelV (.int 50) cu_MOST_LENGTH ∧ mg "MOST_LENGTH" = some cu_MOST_LENGTH
  {cu_MOST_PLAY : Value}
  c_MOST_PLAY : RelV (.int 400) cu_MOST_PLAY ∧ mg "MOST_PLAY" = some cu_MOST_PLAY
  {cu_MOST_PUSHES : Value}
  c_MOST_PUSHES : RelV (.int 200) cu_MOST_PUSHES ∧ mg "MOST_PUSHES" = some cu_MOST_PUSHES
variable {P : Program} {w : World} {K : PySem.W.Frag} {mg : Str → Option Value} {base : Heap}
theorem Tx.b_is_whole (T : Tx K mg) : Binds K T.fd_is_whole ["thing"] [] := T.F_is_whole.binds fun _ _ _ _ _ _ us hl => match us, hl with | [_], _ => rfl
theorem Tx.b_is_within (T : Tx K mg) : Binds K T.fd_is_within ["thing", "low", "high"] [] := T.F_is_within.binds fun _ _ _ _ _ _ us hl => match us, hl with | [_, _, _], _ => rfl
theorem Tx.b_is_tuple_of (T : Tx K mg) : Binds K T.fd_is_tuple_of ["thing", "many"] [] := T.F_is_tuple_of.binds fun _ _ _ _ _ _ us hl => match us, hl with | [_, _], _ => rfl
theorem Tx.b_are_blocks (T : Tx K mg) : Binds K T.fd_are_blocks ["thing"] [] := T.F_are_blocks.binds fun _ _ _ _ _ _ us hl => match us, hl with | [_], _ => rfl
theorem Tx.b_is_shelf (T : Tx K mg) : Binds K T.fd_is_shelf ["thing"] [] := T.F_is_shelf.binds fun _ _ _ _ _ _ us hl => match us, hl with | [_], _ => rfl
theorem Tx.b_need_shelf (T : Tx K mg) : Binds K T.fd_need_shelf ["thing"] [] := T.F_need_shelf.binds fun _ _ _ _ _ _ us hl => match us, hl with | [_], _ => rfl
theorem Tx.b_play_of (T : Tx K mg) : Binds K T.fd_play_of ["shelf"] [] := T.F_play_of.binds fun _ _ _ _ _ _ us hl => match us, hl with | [_], _ => rfl
theorem Tx.b_gap_length (T : Tx K mg) : Binds K T.fd_gap_length ["shelf", "gap"] [] := T.F_gap_length.binds fun _ _ _ _ _ _ us hl => match us, hl with | [_, _], _ => rfl
theorem Tx.b_places_of (T : Tx K mg) : Binds K T.fd_places_of ["shelf", "stand"] [] := T.F_places_of.binds fun _ _ _ _ _ _ us hl => match us, hl with | [_, _], _ => rfl
theorem Tx.b_is_stand (T : Tx K mg) : Binds K T.fd_is_stand ["shelf", "thing"] [] := T.F_is_stand.binds fun _ _ _ _ _ _ us hl => match us, hl with | [_, _], _ => rfl
theorem Tx.b_need_stand (T : Tx K mg) : Binds K T.fd_need_stand ["shelf", "thing"] [] := T.F_need_stand.binds fun _ _ _ _ _ _ us hl => match us, hl with | [_, _], _ => rfl
theorem Tx.b_is_gap (T : Tx K mg) : Binds K T.fd_is_gap ["shelf", "side", "thing"] [] := T.F_is_gap.binds fun _ _ _ _ _ _ us hl => match us, hl with | [_, _, _], _ => rfl
theorem Tx.b_is_push (T : Tx K mg) : Binds K T.fd_is_push ["shelf", "thing"] [] := T.F_is_push.binds fun _ _ _ _ _ _ us hl => match us, hl with | [_, _], _ => rfl
theorem Tx.b_is_row (T : Tx K mg) : Binds K T.fd_is_row ["shelf", "thing"] [] := T.F_is_row.binds fun _ _ _ _ _ _ us hl => match us, hl with | [_, _], _ => rfl
theorem Tx.b_pushed_right (T : Tx K mg) : Binds K T.fd_pushed_right ["blocks", "stand", "gap", "place"] [] := T.F_pushed_right.binds fun _ _ _ _ _ _ us hl => match us, hl with | [_, _, _, _], _ => rfl
theorem Tx.b_pushed_left (T : Tx K mg) : Binds K T.fd_pushed_left ["blocks", "stand", "gap", "place"] [] := T.F_pushed_left.binds fun _ _ _ _ _ _ us hl => match us, hl with | [_, _, _, _], _ => rfl
theorem Tx.b_pushed (T : Tx K mg) : Binds K T.fd_pushed ["shelf", "stand", "push"] [] := T.F_pushed.binds fun _ _ _ _ _ _ us hl => match us, hl with | [_, _, _], _ => rfl
theorem Tx.b_done (T : Tx K mg) : Binds K T.fd_done ["shelf", "stand", "row"] [] := T.F_done.binds fun _ _ _ _ _ _ us hl => match us, hl with | [_, _, _], _ => rfl
theorem Tx.b_Band_init (T : Tx K mg) : Binds K T.fd_Band_init ["self", "first", "beyond", "place", "up", "down"] [] := T.F_Band_init.binds fun _ _ _ _ _ _ us hl => match us, hl with | [_, _, _, _, _, _], _ => rfl
theorem Tx.b_band_from (T : Tx K mg) : Binds K T.fd_band_from ["now", "wished", "first"] [] := T.F_band_from.binds fun _ _ _ _ _ _ us hl => match us, hl with | [_, _, _], _ => rfl
theorem Tx.b_bands_of (T : Tx K mg) : Binds K T.fd_bands_of ["shelf", "stand", "wish"] [] := T.F_bands_of.binds fun _ _ _ _ _ _ us hl => match us, hl with | [_, _, _], _ => rfl
theorem Tx.b_raised (T : Tx K mg) : Binds K T.fd_raised ["shelf", "gap", "place"] [] := T.F_raised.binds fun _ _ _ _ _ _ us hl => match us, hl with | [_, _, _], _ => rfl
theorem Tx.b_lowered (T : Tx K mg) : Binds K T.fd_lowered ["shelf", "gap", "place"] [] := T.F_lowered.binds fun _ _ _ _ _ _ us hl => match us, hl with | [_, _, _], _ => rfl
theorem Tx.b_row_alone (T : Tx K mg) : Binds K T.fd_row_alone ["shelf", "band"] [] := T.F_row_alone.binds fun _ _ _ _ _ _ us hl => match us, hl with | [_, _], _ => rfl
theorem Tx.b_row_served_by_last (T : Tx K mg) : Binds K T.fd_row_served_by_last ["shelf", "bands"] [] := T.F_row_served_by_last.binds fun _ _ _ _ _ _ us hl => match us, hl with | [_, _], _ => rfl
theorem Tx.b_row_served_by_first (T : Tx K mg) : Binds K T.fd_row_served_by_first ["shelf", "bands"] [] := T.F_row_served_by_first.binds fun _ _ _ _ _ _ us hl => match us, hl with | [_, _], _ => rfl
theorem Tx.b_row_together (T : Tx K mg) : Binds K T.fd_row_together ["shelf", "bands"] [] := T.F_row_together.binds fun _ _ _ _ _ _ us hl => match us, hl with | [_, _], _ => rfl
theorem Tx.b_shortest_row (T : Tx K mg) : Binds K T.fd_shortest_row ["shelf", "stand", "wish"] [] := T.F_shortest_row.binds fun _ _ _ _ _ _ us hl => match us, hl with | [_, _, _], _ => rfl
theorem Tx.b_need_both (T : Tx K mg) : Binds K T.fd_need_both ["shelf", "stand", "wish"] [] := T.F_need_both.binds fun _ _ _ _ _ _ us hl => match us, hl with | [_, _, _], _ => rfl
theorem Tx.b_fewest (T : Tx K mg) : Binds K T.fd_fewest ["shelf", "stand", "wish"] [] := T.F_fewest.binds fun _ _ _ _ _ _ us hl => match us, hl with | [_, _, _], _ => rfl
theorem Tx.b_pushes_to (T : Tx K mg) : Binds K T.fd_pushes_to ["shelf", "stand", "wish"] [] := T.F_pushes_to.binds fun _ _ _ _ _ _ us hl => match us, hl with | [_, _, _], _ => rfl
theorem Tx.b_leads (T : Tx K mg) : Binds K T.fd_leads ["shelf", "stand", "wish", "thing"] [] := T.F_leads.binds fun _ _ _ _ _ _ us hl => match us, hl with | [_, _, _, _], _ => rfl
theorem Tx.b_law_deck (T : Tx K mg) : Binds K T.fd_law_deck ["cell", "turn"] [] := T.F_law_deck.binds fun _ _ _ _ _ _ us hl => match us, hl with | [_, _], _ => rfl
theorem Tx.b_law_pick (T : Tx K mg) : Binds K T.fd_law_pick ["deck", "size"] [] := T.F_law_pick.binds fun _ _ _ _ _ _ us hl => match us, hl with | [_, _], _ => rfl
theorem Tx.b_law_whole (T : Tx K mg) : Binds K T.fd_law_whole ["thing"] [] := T.F_law_whole.binds fun _ _ _ _ _ _ us hl => match us, hl with | [_], _ => rfl
theorem Tx.b_law_one (T : Tx K mg) : Binds K T.fd_law_one ["deck", "some"] [] := T.F_law_one.binds fun _ _ _ _ _ _ us hl => match us, hl with | [_, _], _ => rfl
theorem Tx.b_law_sort (T : Tx K mg) : Binds K T.fd_law_sort ["thing"] [] := T.F_law_sort.binds fun _ _ _ _ _ _ us hl => match us, hl with | [_], _ => rfl
theorem Tx.b_law_same (T : Tx K mg) : Binds K T.fd_law_same ["told", "due"] [] := T.F_law_same.binds fun _ _ _ _ _ _ us hl => match us, hl with | [_, _], _ => rfl
theorem Tx.b_law_odd (T : Tx K mg) : Binds K T.fd_law_odd ["deck"] [] := T.F_law_odd.binds fun _ _ _ _ _ _ us hl => match us, hl with | [_], _ => rfl
theorem Tx.b_law_spoilt (T : Tx K mg) : Binds K T.fd_law_spoilt ["deck", "thing"] [] := T.F_law_spoilt.binds fun _ _ _ _ _ _ us hl => match us, hl with | [_, _], _ => rfl
theorem Tx.b_law_shelf (T : Tx K mg) : Binds K T.fd_law_shelf ["deck", "at_most", "play"] [] := T.F_law_shelf.binds fun _ _ _ _ _ _ us hl => match us, hl with | [_, _, _], _ => rfl
theorem Tx.b_law_play (T : Tx K mg) : Binds K T.fd_law_play ["shelf"] [] := T.F_law_play.binds fun _ _ _ _ _ _ us hl => match us, hl with | [_], _ => rfl
theorem Tx.b_law_stand_of (T : Tx K mg) : Binds K T.fd_law_stand_of ["shelf", "places"] [] := T.F_law_stand_of.binds fun _ _ _ _ _ _ us hl => match us, hl with | [_, _], _ => rfl
theorem Tx.b_law_stand (T : Tx K mg) : Binds K T.fd_law_stand ["deck", "shelf"] [] := T.F_law_stand.binds fun _ _ _ _ _ _ us hl => match us, hl with | [_, _], _ => rfl
theorem Tx.b_law_push (T : Tx K mg) : Binds K T.fd_law_push ["deck", "shelf"] [] := T.F_law_push.binds fun _ _ _ _ _ _ us hl => match us, hl with | [_, _], _ => rfl
theorem Tx.b_law_row (T : Tx K mg) : Binds K T.fd_law_row ["deck", "shelf", "at_most"] [] := T.F_law_row.binds fun _ _ _ _ _ _ us hl => match us, hl with | [_, _, _], _ => rfl
theorem Tx.b_law_pushed (T : Tx K mg) : Binds K T.fd_law_pushed ["shelf", "stand", "push"] [] := T.F_law_pushed.binds fun _ _ _ _ _ _ us hl => match us, hl with | [_, _, _], _ => rfl
theorem Tx.b_law_done (T : Tx K mg) : Binds K T.fd_law_done ["shelf", "stand", "row"] [] := T.F_law_done.binds fun _ _ _ _ _ _ us hl => match us, hl with | [_, _, _], _ => rfl
theorem Tx.b_law_is_push (T : Tx K mg) : Binds K T.fd_law_is_push ["shelf", "thing"] [] := T.F_law_is_push.binds fun _ _ _ _ _ _ us hl => match us, hl with | [_, _], _ => rfl
theorem Tx.b_law_bands (T : Tx K mg) : Binds K T.fd_law_bands ["shelf", "stand", "wish"] [] := T.F_law_bands.binds fun _ _ _ _ _ _ us hl => match us, hl with | [_, _, _], _ => rfl
theorem Tx.b_law_fewest (T : Tx K mg) : Binds K T.fd_law_fewest ["bands"] [] := T.F_law_fewest.binds fun _ _ _ _ _ _ us hl => match us, hl with | [_], _ => rfl
theorem Tx.b_law_leads (T : Tx K mg) : Binds K T.fd_law_leads ["shelf", "stand", "wish", "thing"] [] := T.F_law_leads.binds fun _ _ _ _ _ _ us hl => match us, hl with | [_, _, _, _], _ => rfl

end PS

namespace PS
open PySem PySem.Spec PyProof.Rows L2
variable {P : Program} {w : World} {K : PySem.W.Frag} {mg : Str → Option Value} {base : Heap}
def sp_is_whole (K : PySem.W.Frag) : Sp := fun vs H Q _ => ∃ v d, vs = [v] ∧ Dp K H v d ∧ Q (.bl (isW d)) H
theorem ok_is_whole (T : Tx K mg) : FnOk P w K mg base CX0 1 T.f_is_whole T.fd_is_whole ["thing"] (sp_is_whole K) := by
  refine T.F_is_whole.ok sc_is_whole (fun vs H Q E h => ?_) (fun cdv A outer s H vs Q E hr h => ?_)
  · obtain ⟨v, d, rfl, _⟩ := h
    rfl
  · obtain ⟨v, d, rfl, hd, q⟩ := h
    refine ⟨_, (pss_one (ps_ret (pe_and (pe_callB call_isD (by rfl) T.n_isinstance (by decide +kernel) (pa_cons (pv 0) (pa_cons (pe_bltn (v := .ty "int") (by rfl) T.n_int (by decide +kernel) rfl) pa_nil))) (pe_one (pe_not (pe_callB call_isD (by rfl) T.n_isinstance (by decide +kernel) (pa_cons (pv 0) (pa_cons (pe_bltn (v := .ty "bool") (by rfl) T.n_bool (by decide +kernel) rfl) pa_nil)))))))), ?_⟩
    refine ⟨v, rfl, v, _, d, rfl, hd, kInt d, _, rfl, ?_⟩
    rw [isA_int]
    cases hd with
    | bl b => exact iteT ⟨_, rfl, _, _, _, rfl, .bl b, kBool _, _, rfl, by rw [isA_bool]; exact q⟩
    | int b => exact iteT ⟨_, rfl, _, _, _, rfl, .int b, kBool _, _, rfl, by rw [isA_bool]; exact q⟩
    | _ => exact iteF q
def sp_is_within (K : PySem.W.Frag) : Sp := fun vs H Q _ => ∃ v d lo hi, vs = [v, .int lo, .int hi] ∧ Dp K H v d ∧ Q (.bl (within d lo hi)) H
theorem ok_is_within (T : Tx K mg) : FnOk P w K mg base CX0 2 T.f_is_within T.fd_is_within ["thing", "low", "high"] (sp_is_within K) := by
  have G_is_whole := ok_is_whole (P := P) (w := w) (base := base) T
  refine T.F_is_within.ok sc_is_within (fun vs H Q E h => ?_) (fun cdv A outer s H vs Q E hr h => ?_)
  · obtain ⟨v, d, lo, hi, rfl, _⟩ := h
    rfl
  · obtain ⟨v, d, lo, hi, rfl, hd, q⟩ := h
    refine ⟨_, (pss_one (ps_ret (pe_and (pe_call (G_is_whole.mono (by first | decide | omega)) hr (by rfl) T.g_is_whole T.F_is_whole.kp T.b_is_whole .nil pass0 (pa_cons (pv 0) pa_nil)) (pe_one (pe_chain op_le op_le (pv 1) (pv 0) (pv 2)))))), ?_⟩
    refine ⟨v, rfl, v, d, rfl, hd, _, rfl, ?_⟩
    cases hd with
    | int i =>
      refine iteT ⟨_, rfl, _, rfl, _, _, rfl, rfl, _, rfl, ?_⟩
      unfold within at q
      simp only at q
      by_cases hl : lo ≤ i
      · rw [if_pos hl] at q
        rw [if_pos (decide_eq_true hl)]
        exact ⟨_, rfl, _, _, rfl, rfl, q⟩
      · rw [if_neg hl] at q
        rw [if_neg (by simp [hl])]
        exact q
    | _ => exact iteF q
def sp_is_tuple_of (K : PySem.W.Frag) : Sp := fun vs H Q _ => ∃ v d n, vs = [v, .int n] ∧ Dp K H v d ∧ Q (.bl (tupOf d n)) H
theorem ok_is_tuple_of (T : Tx K mg) : FnOk P w K mg base CX0 1 T.f_is_tuple_of T.fd_is_tuple_of ["thing", "many"] (sp_is_tuple_of K) := by
  refine T.F_is_tuple_of.ok sc_is_tuple_of (fun vs H Q E h => ?_) (fun cdv A outer s H vs Q E hr h => ?_)
  · obtain ⟨v, d, n, rfl, _⟩ := h
    rfl
  · obtain ⟨v, d, n, rfl, hd, q⟩ := h
    refine ⟨_, (pss_one (ps_ret (pe_and (pe_callB call_isD (by rfl) T.n_isinstance (by decide +kernel) (pa_cons (pv 0) (pa_cons (pe_bltn (v := .ty "tuple") (by rfl) T.n_tuple (by decide +kernel) rfl) pa_nil))) (pe_one (pe_cmpR op_eq (pe_callB call_len_seq (by rfl) T.n_len (by decide +kernel) (pa_cons (pv 0) pa_nil)) (pv 1) (nomark _)))))), ?_⟩
    refine ⟨v, rfl, v, _, d, rfl, hd, kTuple d, _, rfl, ?_⟩
    rw [isA_tuple]
    cases hd with
    | @tup a xs ds s al =>
      refine iteT ⟨_, rfl, a, xs, rfl, .inr s, _, rfl, rfl, ?_⟩
      rw [dpAll_len al]
      unfold tupOf at q
      simp only at q
      have e : decide (V.int (ds.length : Int) = V.int n) = decide ((ds.length : Int) = n) := by
        by_cases h : (ds.length : Int) = n
        · rw [h]; simp
        · rw [decide_eq_false h, decide_eq_false (fun z => h (V.int.inj z))]
      rw [e]
      exact q
    | _ => exact iteF q
def sp_are_blocks (K : PySem.W.Frag) : Sp := fun vs H Q _ => ∃ v d, vs = [v] ∧ Dp K H v d ∧ RB H Q (areBlocks d)
theorem ok_are_blocks (T : Tx K mg) : FnOk P w K mg base CX0 3 T.f_are_blocks T.fd_are_blocks ["thing"] (sp_are_blocks K) := by
  have G_is_within := ok_is_within (P := P) (w := w) (base := base) T
  refine T.F_are_blocks.ok sc_are_blocks (fun vs H Q E h => ?_) (fun cdv A outer s H vs Q E hr h => ?_)
  · obtain ⟨v, d, rfl, _⟩ := h
    rfl
  · obtain ⟨v, d, rfl, hd, q⟩ := h
    refine ⟨_, (pss_cons (ps_if (PW.pt (pw_or (pt_not (pt_val (pe_callB call_isD (by rfl) T.n_isinstance (by decide +kernel) (pa_cons (pv 0) (pa_cons (pe_bltn (v := .ty "tuple") (by rfl) T.n_tuple (by decide +kernel) rfl) pa_nil))))) (pw_or1 (pt_not (pt_chain op_le op_le pe_int (pe_callB call_len_seq (by rfl) T.n_len (by decide +kernel) (pa_cons (pv 0) pa_nil)) (pe_glob (by rfl) T.c_MOST_BLOCKS.2 T.c_MOST_BLOCKS.1)))))) (pss_one (ps_ret pe_bl)) pss_nil)
      (pss_one (ps_ret (pe_callB (cr_all rfl) (by rfl) T.n_all (by decide +kernel) (pa_cons (pe_lc (own := [("length", 1)]) (g := gName 1) (tt := tYes) rfl sc_are_blocks.nd (pi_tup (pv 0)) (blkOk_by (own := [("length", 1)]) (N := ["thing", "length"]) (sc := defScope s_are_blocks) (by decide +kernel)) (fun _ _ _ _ _ => (pg_name (i := 1) sc_are_blocks.nd rfl (.inl rfl))) (fun _ _ _ _ _ => pts_nil) (fun _ _ _ _ _ => (pe_call (G_is_within.mono (by first | decide | omega)) hr (by rfl) T.g_is_within T.F_is_within.kp T.b_is_within .nil pass0 (pa_cons (pv 1) (pa_cons pe_int (pa_cons (pe_glob (by rfl) T.c_MOST_LENGTH.2 T.c_MOST_LENGTH.1) pa_nil)))))) pa_nil))))), ?_⟩
    refine ⟨v, rfl, v, _, d, rfl, hd, kTuple d, _, rfl, ?_⟩
    rw [isA_tuple]
    cases hd with
    | @tup a xs ds s al =>
      have hl := dpAll_len al
      refine iteF ⟨.ref a, rfl, a, xs, rfl, .inr s, _, _, rfl, rfl, _, rfl, ?_⟩
      have hn : xs.length ≤ sizeLine → True := fun _ => trivial
      unfold areBlocks at q
      simp only at q
      by_cases h1 : 1 ≤ (xs.length : Int)
      · rw [if_pos (decide_eq_true h1)]
        refine ⟨_, _, rfl, rfl, _, rfl, ?_⟩
        by_cases h8 : (xs.length : Int) ≤ 8
        · rw [if_pos ⟨by rw [← hl]; exact h1, by rw [← hl]; exact h8⟩] at q
          rw [decide_eq_true h8]
          refine iteF ?_
          -- all([..])
          refine ⟨.ref a, rfl, a, rfl, ⟨xs, s⟩, fun D nD => ?_⟩
          refine lc_tup (K := K) (a := a) (xs := xs) (fun i H' => Same H H' ∧ H' D = some (.lst ((ds.take i).map fun x => V.bl (within x 1 50)))) ⟨same_new nD, by rw [upd_same]; rfl⟩ (fun i H' _ p => seqT_mono p.1 s) (fun i x H' hx p => ?_) (fun H' p => ?_)
          · obtain ⟨d, e1, e2⟩ := dpAll_get al hx
            have hi : i < xs.length := (List.getElem?_eq_some_iff.mp hx).1
            refine ⟨rfl, x, rfl, x, d, _, _, rfl, Dpm p.1 e2, ?_⟩
            refine ⟨_, p.2, ?_, ?_, ?_⟩
            · rw [List.length_map, List.length_take]
              exact small1000 (by omega)
            · intro b o hb
              have nb : b ≠ D := ne_of_none hb nD
              rw [upd_ne nb]
              exact p.1 b o hb
            · rw [upd_same, List.take_add_one, e1, List.map_append]
              rfl
          · refine ⟨D, (ds.map fun x => within x 1 50), rfl, .inl (.inl ?_), ?_⟩
            · rw [p.2, hl, List.take_length, List.map_map]
              rfl
            · rw [show (ds.map fun x => within x 1 50).all id = ds.all (fun x => within x 1 50) from by rw [List.all_map]; rfl]
              exact q H' p.1
        · rw [if_neg (by rw [← hl]; exact fun z => h8 z.2)] at q
          rw [decide_eq_false h8]
          exact iteT (q H (Same.refl H))
      · rw [if_neg (by rw [← hl]; exact fun z => h1 z.1)] at q
        rw [if_neg (by simp [h1])]
        exact ⟨_, rfl, iteT (q H (Same.refl H))⟩
    | _ => exact iteT (q H (Same.refl H))
end PS

namespace PS
open PySem PySem.Spec PyProof.Rows L2
variable {P : Program} {w : World} {K : PySem.W.Frag} {mg : Str → Option Value} {base : Heap}
theorem tupOf2 {d : PyData} (h : tupOf d 2 = true) : ∃ r b, d = .tuple [r, b] := by
  cases d with
  | tuple ds =>
    have h1 : (ds.length : Int) = 2 := of_decide_eq_true h
    match ds, h1 with
    | [r, b], _ => exact ⟨r, b, rfl⟩
    | [], h => simp at h
    | [_], h => simp at h
    | _ :: _ :: _ :: _, h => simp at h; omega
  | _ => simp [tupOf] at h
theorem tupOf3 {d : PyData} (h : tupOf d 3 = true) : ∃ r b c, d = .tuple [r, b, c] := by
  cases d with
  | tuple ds =>
    have h1 : (ds.length : Int) = 3 := of_decide_eq_true h
    match ds, h1 with
    | [r, b, c], _ => exact ⟨r, b, c, rfl⟩
    | [], h => simp at h
    | [_], h => simp at h
    | [_, _], h => simp at h
    | _ :: _ :: _ :: _ :: _, h => simp at h; omega
  | _ => simp [tupOf] at h
theorem dp_two {H : Hp} {v : V} {r b : PyData} (h : Dp K H v (.tuple [r, b])) : ∃ a x y, v = .ref a ∧ SqT K H a [x, y] ∧ Dp K H x r ∧ Dp K H y b := by
  obtain ⟨a, xs, rfl, s, al⟩ := dp_tup h
  cases al with
  | cons h1 h2 =>
    cases h2 with
    | cons h3 h4 => cases h4; exact ⟨a, _, _, rfl, s, h1, h3⟩
theorem dp_three {H : Hp} {v : V} {r b c : PyData} (h : Dp K H v (.tuple [r, b, c])) : ∃ a x y z, v = .ref a ∧ SqT K H a [x, y, z] ∧ Dp K H x r ∧ Dp K H y b ∧ Dp K H z c := by
  obtain ⟨a, xs, rfl, s, al⟩ := dp_tup h
  cases al with
  | cons h1 h2 =>
    cases h2 with
    | cons h3 h4 =>
      cases h4 with
      | cons h5 h6 => cases h6; exact ⟨a, _, _, _, rfl, s, h1, h3, h5⟩
theorem dp_shelf {H : Hp} {v : V} {room : Int} {ls : List Int} (h : Dp K H v (shD room ls)) : ∃ a b, v = .ref a ∧ SqT K H a [.int room, .ref b] ∧ SqT K H b (iV ls) := by
  obtain ⟨a, x, y, rfl, s, h1, h2⟩ := dp_two h
  obtain ⟨b, rfl, t⟩ := dp_tI h2
  cases dp_int h1
  exact ⟨a, b, rfl, s, t⟩
/-! ### is_shelf, need_shelf -/
def sp_is_shelf (K : PySem.W.Frag) : Sp := fun vs H Q _ => ∃ v d, vs = [v] ∧ Dp K H v d ∧ RB H Q (isShelf d)
theorem ok_is_shelf (T : Tx K mg) : FnOk P w K mg base CX0 4 T.f_is_shelf T.fd_is_shelf ["thing"] (sp_is_shelf K) := by
  have G_is_tuple_of := ok_is_tuple_of (P := P) (w := w) (base := base) T
  have G_are_blocks := ok_are_blocks (P := P) (w := w) (base := base) T
  have G_is_within := ok_is_within (P := P) (w := w) (base := base) T
  refine T.F_is_shelf.ok sc_is_shelf (fun vs H Q E h => ?_) (fun cdv A outer s H vs Q E hr h => ?_)
  · obtain ⟨v, d, rfl, _⟩ := h
    rfl
  · obtain ⟨v, d, rfl, hd, q⟩ := h
    refine ⟨_, (pss_cons (ps_if (pt_not (pt_val (pe_call (G_is_tuple_of.mono (by first | decide | omega)) hr (by rfl) T.g_is_tuple_of T.F_is_tuple_of.kp T.b_is_tuple_of .nil pass0 (pa_cons (pv 0) (pa_cons pe_int pa_nil))))) (pss_one (ps_ret pe_bl)) pss_nil)
      (pss_cons (ps_asg (pv 0) (pg_tup rfl (pgs_cons (pg_name (i := 1) sc_is_shelf.nd rfl (.inl rfl)) (pgs_cons (pg_name (i := 2) sc_is_shelf.nd rfl (.inl rfl)) pgs_nil))))
      (pss_cons (ps_if (pt_not (pt_val (pe_call (G_are_blocks.mono (by first | decide | omega)) hr (by rfl) T.g_are_blocks T.F_are_blocks.kp T.b_are_blocks .nil pass0 (pa_cons (pv 2) pa_nil)))) (pss_one (ps_ret pe_bl)) pss_nil)
      (pss_cons (ps_set (i := 3) sc_is_shelf.nd rfl (.inl rfl) (pe_callB (cr_sumT rfl) (by rfl) T.n_sum (by decide +kernel) (pa_cons (pv 2) pa_nil)))
      (pss_one (ps_ret (pe_call (G_is_within.mono (by first | decide | omega)) hr (by rfl) T.g_is_within T.F_is_within.kp T.b_is_within .nil pass0 (pa_cons (pv 1) (pa_cons (pv 3) (pa_cons (pe_op op_add (pv 3) (pe_glob (by rfl) T.c_MOST_PLAY.2 T.c_MOST_PLAY.1)) pa_nil)))))))))), ?_⟩
    refine ⟨v, rfl, v, d, _, rfl, hd, _, rfl, ?_⟩
    cases e : tupOf d 2 with
    | false =>
      have ef : isShelf d = false := by
        unfold isShelf
        split
        · simp [tupOf] at e
        · rfl
      rw [ef] at q
      exact iteT (q H (Same.refl H))
    | true =>
      refine iteF ?_
      obtain ⟨r, b, rfl⟩ := tupOf2 e
      obtain ⟨a, x, y, rfl, s, h1, h2⟩ := dp_two hd
      refine ⟨.ref a, rfl, a, [x, y], rfl, s, rfl, x, [y], rfl, y, [], rfl, rfl, ?_⟩
      refine ⟨y, rfl, y, b, rfl, h2, fun H' sm => ⟨_, rfl, ?_⟩⟩
      cases e2 : areBlocks b with
      | false =>
        have ef : isShelf (.tuple [r, b]) = false := by
          unfold isShelf
          split
          · rename_i h; cases h
            rw [e2]; rfl
          · rfl
        rw [ef] at q
        exact iteT (q H' sm)
      | true =>
        refine iteF ?_
        cases b with
        | tuple bs =>
          obtain ⟨ls, rfl, n1, n8, l1⟩ := areBlocks_ints e2
          obtain ⟨c, rfl, t⟩ := dp_tI h2
          refine ⟨.ref c, rfl, c, ls, rfl, seqT_mono sm t, ?_⟩
          refine ⟨x, rfl, _, rfl, _, rfl, _, _, rfl, rfl, x, r, _, _, rfl, Dpm sm h1, ?_⟩
          unfold isShelf at q
          simp only at q
          rw [if_pos e2, intOf_iD] at q
          exact q H' sm
        | _ => simp [areBlocks] at e2
def sp_need_shelf (K : PySem.W.Frag) : Sp := fun vs H Q _ => ∃ v d, vs = [v] ∧ Dp K H v d ∧ isShelf d = true ∧ ∀ H', Same H H' → Q .non H'
theorem ok_need_shelf (T : Tx K mg) : FnOk P w K mg base CX0 5 T.f_need_shelf T.fd_need_shelf ["thing"] (sp_need_shelf K) := by
  have G_is_shelf := ok_is_shelf (P := P) (w := w) (base := base) T
  refine T.F_need_shelf.ok sc_need_shelf (fun vs H Q E h => ?_) (fun cdv A outer s H vs Q E hr h => ?_)
  · obtain ⟨v, d, rfl, _⟩ := h
    rfl
  · obtain ⟨v, d, rfl, hd, e, q⟩ := h
    refine ⟨_, (pss_one (ps_if (pt_not (pt_val (pe_call (G_is_shelf.mono (by first | decide | omega)) hr (by rfl) T.g_is_shelf T.F_is_shelf.kp T.b_is_shelf .nil pass0 (pa_cons (pv 0) pa_nil)))) (pss_one ps_never) pss_nil)), ?_⟩
    refine ⟨v, rfl, v, d, rfl, hd, fun H' sm => ⟨_, rfl, ?_⟩⟩
    rw [e]
    exact iteF (q H' sm)
/-! ### play_of, gap_length -/
def sp_play_of (K : PySem.W.Frag) : Sp := fun vs H Q _ => ∃ v room ls, vs = [v] ∧ Dp K H v (shD room ls) ∧ Q (.int (room - ls.sum)) H
theorem ok_play_of (T : Tx K mg) : FnOk P w K mg base CX0 1 T.f_play_of T.fd_play_of ["shelf"] (sp_play_of K) := by
  refine T.F_play_of.ok sc_play_of (fun vs H Q E h => ?_) (fun cdv A outer s H vs Q E hr h => ?_)
  · obtain ⟨v, d, _, rfl, _⟩ := h
    rfl
  · obtain ⟨v, room, ls, rfl, hd, q⟩ := h
    obtain ⟨a, b, rfl, s, t⟩ := dp_shelf hd
    refine ⟨_, (pss_cons (ps_asg (pv 0) (pg_tup rfl (pgs_cons (pg_name (i := 1) sc_play_of.nd rfl (.inl rfl)) (pgs_cons (pg_name (i := 2) sc_play_of.nd rfl (.inl rfl)) pgs_nil))))
      (pss_one (ps_ret (pe_op op_sub (pv 1) (pe_callB (cr_sumT rfl) (by rfl) T.n_sum (by decide +kernel) (pa_cons (pv 2) pa_nil)))))), ?_⟩
    exact ⟨.ref a, rfl, a, _, rfl, s, rfl, _, _, rfl, _, [], rfl, rfl, _, rfl, _, rfl, b, ls, rfl, t, _, _, rfl, rfl, q⟩
def sp_gap_length (K : PySem.W.Frag) : Sp := fun vs H Q _ => ∃ v room ls g, vs = [v, .int (g : Nat)] ∧ Dp K H v (shD room ls) ∧ RI H Q (pre ls g)
theorem ok_gap_length (T : Tx K mg) : FnOk P w K mg base CX0 1 T.f_gap_length T.fd_gap_length ["shelf", "gap"] (sp_gap_length K) := by
  refine T.F_gap_length.ok sc_gap_length (fun vs H Q E h => ?_) (fun cdv A outer s H vs Q E hr h => ?_)
  · obtain ⟨v, d, _, _, rfl, _⟩ := h
    rfl
  · obtain ⟨v, room, ls, g, rfl, hd, q⟩ := h
    obtain ⟨a, b, rfl, s, t⟩ := dp_shelf hd
    refine ⟨_, (pss_one (ps_ret (pe_callB (cr_sumT rfl) (by rfl) T.n_sum (by decide +kernel) (pa_cons (pe_slice sl_tupA (pe_ix ix_tup (pv 0) pe_int (fun _ _ => rfl)) po_none (po_some (pv 1))) pa_nil)))), ?_⟩
    refine ⟨.ref a, rfl, a, _, 1, _, rfl, rfl, s, atI_nat (j := 1) rfl, _, rfl, _, rfl, ?_⟩
    refine slT_to (k := g) t fun p H' sm st => ⟨p, ls.take g, rfl, ?_, q H' sm⟩
    rw [← List.map_take] at st
    exact st
/-! ### is_stand, need_stand -/
def sp_is_stand (K : PySem.W.Frag) : Sp := fun vs H Q _ => ∃ v u room ls d, vs = [v, u] ∧ Dp K H v (shD room ls) ∧ ShOk room ls ∧ Dp K H u d ∧ RB H Q (isStand room ls d)
theorem ok_is_stand (T : Tx K mg) : FnOk P w K mg base CX0 6 T.f_is_stand T.fd_is_stand ["shelf", "thing"] (sp_is_stand K) := by
  have G_need_shelf := ok_need_shelf (P := P) (w := w) (base := base) T
  have G_is_tuple_of := ok_is_tuple_of (P := P) (w := w) (base := base) T
  have G_is_whole := ok_is_whole (P := P) (w := w) (base := base) T
  refine T.F_is_stand.ok sc_is_stand (fun vs H Q E h => ?_) (fun cdv A outer s H vs Q E hr h => ?_)
  · obtain ⟨v, u, _, _, d, rfl, _⟩ := h
    rfl
  · obtain ⟨v, u, room, ls, d, rfl, hs, sh, hd, q⟩ := h
    refine ⟨_, (pss_cons (ps_expr (pe_call (G_need_shelf.mono (by first | decide | omega)) hr (by rfl) T.g_need_shelf T.F_need_shelf.kp T.b_need_shelf .nil pass0 (pa_cons (pv 0) pa_nil)))
      (pss_cons (ps_asg (pv 0) (pg_tup rfl (pgs_cons (pg_name (i := 2) sc_is_stand.nd rfl (.inl rfl)) (pgs_cons (pg_name (i := 3) sc_is_stand.nd rfl (.inl rfl)) pgs_nil))))
      (pss_cons (ps_if (pt_not (pt_val (pe_call (G_is_tuple_of.mono (by first | decide | omega)) hr (by rfl) T.g_is_tuple_of T.F_is_tuple_of.kp T.b_is_tuple_of .nil pass0 (pa_cons (pv 1) (pa_cons (pe_callB call_len_seq (by rfl) T.n_len (by decide +kernel) (pa_cons (pv 3) pa_nil)) pa_nil))))) (pss_one (ps_ret pe_bl)) pss_nil)
      (pss_cons (ps_set (i := 4) sc_is_stand.nd rfl (.inl rfl) pe_int)
      (pss_cons (ps_for PassesOwn.never rfl (pi_zip2 false false (by rfl) T.n_zip (pa_cons (pv 1) (pa_cons (pv 3) pa_nil))) (pg_tup rfl (pgs_cons (pg_name (i := 5) sc_is_stand.nd rfl (.inl rfl)) (pgs_cons (pg_name (i := 6) sc_is_stand.nd rfl (.inl rfl)) pgs_nil)))
      (pss_cons (ps_if (PW.pt (pw_or (pt_not (pt_val (pe_call (G_is_whole.mono (by first | decide | omega)) hr (by rfl) T.g_is_whole T.F_is_whole.kp T.b_is_whole .nil pass0 (pa_cons (pv 5) pa_nil)))) (pw_or1 (pt_cmpR op_lt (pv 5) (pv 4) (nomark _))))) (pss_one (ps_ret pe_bl)) pss_nil)
      (pss_one (ps_set (i := 4) sc_is_stand.nd rfl (.inl rfl) (pe_op op_add (pv 5) (pv 6))))))
      (pss_one (ps_ret (pe_cmpR op_le (pv 4) (pv 2) (nomark _))))))))), ?_⟩
    refine ⟨v, rfl, v, _, rfl, hs, isShelf_ok sh, fun H1 s1 => ?_⟩
    obtain ⟨a, b, rfl, sa, sb⟩ := dp_shelf (Dpm s1 hs)
    refine ⟨.ref a, rfl, a, _, rfl, sa, rfl, _, _, rfl, _, [], rfl, rfl, ?_⟩
    refine ⟨u, rfl, .ref b, rfl, b, _, rfl, .inr sb, u, d, _, rfl, Dpm s1 hd, _, rfl, ?_⟩
    rw [List.length_map]
    cases e : tupOf d ls.length with
    | false =>
      have ef : isStand room ls d = false := by
        unfold isStand
        cases d with
        | tuple ds =>
          simp only
          rw [if_neg (of_decide_eq_false e)]
        | _ => rfl
      rw [ef] at q
      exact iteT (q H1 s1)
    | true =>
      refine iteF ?_
      cases d with
      | tuple ds =>
        have el : (ds.length : Int) = ls.length := of_decide_eq_true e
        unfold isStand at q
        simp only at q
        rw [if_pos el] at q
        obtain ⟨c, xs, rfl, sc, al⟩ := dp_tup (Dpm s1 hd)
        have hxl := dpAll_len al
        refine ⟨.ref c, rfl, .ref b, rfl, c, b, xs, iV ls, rfl, sc, sb, ?_⟩
        refine for_it (walk_2 (n := ls.length) (xs := xs) (ys := iV ls) (by rw [List.length_map]; omega)) (fun i σ H' => Same H1 H' ∧ ∃ e y5 y6, σ = [some (.ref a), some (.ref c), some (.int room), some (.ref b), some (.int e), y5, y6] ∧ standG room e (ds.drop i) (ls.drop i) = standG room 0 ds ls)
          ⟨Same.refl H1, 0, none, none, rfl, rfl⟩ (fun i σ H' _ p => ⟨seqT_mono p.1 sc, seqT_mono p.1 sb⟩) (fun i x σ H' H2 hi p y => ?_) (fun σ H' p => ?_)
        · obtain ⟨s2, e0, y5, y6, rfl, eq⟩ := p
          obtain ⟨Tt, x, y, rfl, nT, rfl, hx, hy⟩ := y
          have s3 : Same H1 (upd H' Tt (.tup [x, y])) := s2.trans (same_new nT)
          obtain ⟨dx, e1, e2⟩ := dpAll_get al hx
          have hy' : y = .int ls[i] := by
            rw [List.getElem?_map, List.getElem?_eq_getElem hi] at hy
            exact (Option.some.inj hy).symm
          subst hy'
          refine ⟨Tt, _, rfl, .inl (.inl upd_same), rfl, _, _, rfl, _, [], rfl, rfl, ?_⟩
          refine ⟨x, rfl, x, dx, rfl, Dpm s3 e2, _, rfl, ?_⟩
          have hd1 : i < ds.length := by omega
          have e1' : ds[i] = dx := by
            rw [List.getElem?_eq_getElem hd1] at e1
            exact Option.some.inj e1
          rw [List.drop_eq_getElem_cons hd1, List.drop_eq_getElem_cons hi, e1'] at eq
          cases e2 with
          | int k =>
            refine iteF ⟨_, rfl, _, rfl, _, _, rfl, rfl, _, rfl, ?_⟩
            have eq : (if k < e0 then false else standG room (k + ls[i]) (ds.drop (i + 1)) (ls.drop (i + 1))) = standG room 0 ds ls := eq
            by_cases hk : k < e0
            · rw [if_pos hk] at eq
              rw [← eq] at q
              rw [decide_eq_true hk]
              exact iteT (q _ (s1.trans s3))
            · rw [if_neg hk] at eq
              rw [decide_eq_false hk]
              exact iteF ⟨_, rfl, _, rfl, _, _, rfl, rfl, s3, _, _, _, rfl, eq⟩
          | _ =>
            refine iteT ?_
            have eq : false = standG room 0 ds ls := eq
            rw [← eq] at q
            exact q _ (s1.trans s3)
        · obtain ⟨s2, e0, y5, y6, rfl, eq⟩ := p
          rw [List.drop_of_length_le (by omega), List.drop_of_length_le (Nat.le_refl _)] at eq
          refine ⟨_, rfl, _, rfl, _, _, rfl, rfl, ?_⟩
          rw [← eq] at q
          exact q _ (s1.trans s2)
      | _ => simp [tupOf] at e
def sp_need_stand (K : PySem.W.Frag) : Sp := fun vs H Q _ => ∃ v u room ls d, vs = [v, u] ∧ Dp K H v (shD room ls) ∧ ShOk room ls ∧ Dp K H u d ∧ isStand room ls d = true ∧ ∀ H', Same H H' → Q .non H'
theorem ok_need_stand (T : Tx K mg) : FnOk P w K mg base CX0 7 T.f_need_stand T.fd_need_stand ["shelf", "thing"] (sp_need_stand K) := by
  have G_is_stand := ok_is_stand (P := P) (w := w) (base := base) T
  refine T.F_need_stand.ok sc_need_stand (fun vs H Q E h => ?_) (fun cdv A outer s H vs Q E hr h => ?_)
  · obtain ⟨v, u, _, _, d, rfl, _⟩ := h
    rfl
  · obtain ⟨v, u, room, ls, d, rfl, hs, sh, hd, e, q⟩ := h
    refine ⟨_, (pss_one (ps_if (pt_not (pt_val (pe_call (G_is_stand.mono (by first | decide | omega)) hr (by rfl) T.g_is_stand T.F_is_stand.kp T.b_is_stand .nil pass0 (pa_cons (pv 0) (pa_cons (pv 1) pa_nil))))) (pss_one ps_never) pss_nil)), ?_⟩
    refine ⟨v, rfl, u, rfl, v, u, room, ls, d, rfl, hs, sh, hd, fun H' sm => ⟨_, rfl, ?_⟩⟩
    rw [e]
    exact iteF (q H' sm)
end PS

namespace PS
open PySem PySem.Spec PyProof.Rows L2
variable {P : Program} {w : World} {K : PySem.W.Frag} {mg : Str → Option Value} {base : Heap}
/-! ### is_gap, is_push, is_row -/
def sp_is_gap (K : PySem.W.Frag) : Sp := fun vs H Q _ => ∃ v s g room ls sd gd, vs = [v, s, g] ∧ Dp K H v (shD room ls) ∧ Dp K H s sd ∧ sd.depth ≤ 64 ∧ Dp K H g gd ∧ Q (.bl (isGap ls.length sd gd)) H
theorem ok_is_gap (T : Tx K mg) : FnOk P w K mg base CX0 3 T.f_is_gap T.fd_is_gap ["shelf", "side", "thing"] (sp_is_gap K) := by
  have G_is_within := ok_is_within (P := P) (w := w) (base := base) T
  refine T.F_is_gap.ok sc_is_gap (fun vs H Q E h => ?_) (fun cdv A outer s H vs Q E hr h => ?_)
  · obtain ⟨v, s, g, _, _, _, _, rfl, _⟩ := h
    rfl
  · obtain ⟨v, s, g, room, ls, sd, gd, rfl, hv, hs, dep, hg, q⟩ := h
    obtain ⟨a, b, rfl, sa, sb⟩ := dp_shelf hv
    refine ⟨_, (pss_cons (ps_set (i := 3) sc_is_gap.nd rfl (.inl rfl) (pe_callB call_len_seq (by rfl) T.n_len (by decide +kernel) (pa_cons (pe_ix ix_tup (pv 0) pe_int (fun _ _ => rfl)) pa_nil)))
      (pss_cons (ps_if (pt_cmpR (op_eqP hr.units) (pv 1) pe_str (nomark _)) (pss_one (ps_ret (pe_call (G_is_within.mono (by first | decide | omega)) hr (by rfl) T.g_is_within T.F_is_within.kp T.b_is_within .nil pass0 (pa_cons (pv 2) (pa_cons pe_int (pa_cons (pe_op op_sub (pv 3) pe_int) pa_nil)))))) pss_nil)
      (pss_cons (ps_if (pt_cmpR (op_eqP hr.units) (pv 1) pe_str (nomark _)) (pss_one (ps_ret (pe_call (G_is_within.mono (by first | decide | omega)) hr (by rfl) T.g_is_within T.F_is_within.kp T.b_is_within .nil pass0 (pa_cons (pv 2) (pa_cons pe_int (pa_cons (pv 3) pa_nil)))))) pss_nil)
      (pss_one (ps_ret pe_bl))))), ?_⟩
    have hl : (iV ls).length = ls.length := List.length_map ..
    refine ⟨.ref a, rfl, a, _, 1, _, rfl, rfl, sa, atI_nat (j := 1) rfl, b, _, rfl, .inr sb, ?_⟩
    rw [hl]
    refine ⟨s, rfl, sd, _, hs, .str _, dep, _, rfl, ?_⟩
    unfold isGap at q
    cases e : PyData.eqv sd (.str "right") with
    | true =>
      rw [if_pos e] at q
      exact iteT ⟨g, rfl, _, rfl, _, _, rfl, rfl, g, gd, _, _, rfl, hg, q⟩
    | false =>
      rw [if_neg (by simp [e])] at q
      refine iteF ⟨s, rfl, sd, _, hs, .str _, dep, _, rfl, ?_⟩
      cases e2 : PyData.eqv sd (.str "left") with
      | true =>
        rw [if_pos e2] at q
        exact iteT ⟨g, rfl, _, rfl, g, gd, _, _, rfl, hg, q⟩
      | false =>
        rw [if_neg (by simp [e2])] at q
        exact iteF q
theorem within_int {d : PyData} {lo hi : Int} (h : within d lo hi = true) : ∃ i, d = .int i ∧ lo ≤ i ∧ i ≤ hi := by
  cases d with
  | int i =>
    have h : (if lo ≤ i then decide (i ≤ hi) else false) = true := h
    by_cases hl : lo ≤ i
    · rw [if_pos hl] at h
      exact ⟨i, rfl, hl, of_decide_eq_true h⟩
    · rw [if_neg hl] at h; cases h
  | _ => simp [within] at h
theorem isGap_int {n : Int} {s g : PyData} (h : isGap n s g = true) : ∃ k : Nat, g = .int (k : Int) := by
  unfold isGap at h
  split at h
  · obtain ⟨i, rfl, h0, _⟩ := within_int h
    exact ⟨i.toNat, by rw [Int.toNat_of_nonneg h0]⟩
  · split at h
    · obtain ⟨i, rfl, h0, _⟩ := within_int h
      exact ⟨i.toNat, by rw [Int.toNat_of_nonneg (by omega)]⟩
    · cases h
def sp_is_push (K : PySem.W.Frag) : Sp := fun vs H Q _ => ∃ v u room ls d, vs = [v, u] ∧ Dp K H v (shD room ls) ∧ Dp K H u d ∧ d.depth ≤ 64 ∧ RB H Q (isPush room ls d)
theorem ok_is_push (T : Tx K mg) : FnOk P w K mg base CX0 4 T.f_is_push T.fd_is_push ["shelf", "thing"] (sp_is_push K) := by
  have G_is_tuple_of := ok_is_tuple_of (P := P) (w := w) (base := base) T
  have G_is_gap := ok_is_gap (P := P) (w := w) (base := base) T
  have G_gap_length := ok_gap_length (P := P) (w := w) (base := base) T
  have G_is_within := ok_is_within (P := P) (w := w) (base := base) T
  have G_play_of := ok_play_of (P := P) (w := w) (base := base) T
  refine T.F_is_push.ok sc_is_push (fun vs H Q E h => ?_) (fun cdv A outer s H vs Q E hr h => ?_)
  · obtain ⟨v, u, _, _, d, rfl, _⟩ := h
    rfl
  · obtain ⟨v, u, room, ls, d, rfl, hv, hd, dep, q⟩ := h
    refine ⟨_, (pss_cons (ps_if (pt_not (pt_val (pe_call (G_is_tuple_of.mono (by first | decide | omega)) hr (by rfl) T.g_is_tuple_of T.F_is_tuple_of.kp T.b_is_tuple_of .nil pass0 (pa_cons (pv 1) (pa_cons pe_int pa_nil))))) (pss_one (ps_ret pe_bl)) pss_nil)
      (pss_cons (ps_asg (pv 1) (pg_tup rfl (pgs_cons (pg_name (i := 2) sc_is_push.nd rfl (.inl rfl)) (pgs_cons (pg_name (i := 3) sc_is_push.nd rfl (.inl rfl)) (pgs_cons (pg_name (i := 4) sc_is_push.nd rfl (.inl rfl)) pgs_nil)))))
      (pss_cons (ps_if (pt_not (pt_val (pe_call (G_is_gap.mono (by first | decide | omega)) hr (by rfl) T.g_is_gap T.F_is_gap.kp T.b_is_gap .nil pass0 (pa_cons (pv 0) (pa_cons (pv 2) (pa_cons (pv 3) pa_nil)))))) (pss_one (ps_ret pe_bl)) pss_nil)
      (pss_cons (ps_set (i := 5) sc_is_push.nd rfl (.inl rfl) (pe_call (G_gap_length.mono (by first | decide | omega)) hr (by rfl) T.g_gap_length T.F_gap_length.kp T.b_gap_length .nil pass0 (pa_cons (pv 0) (pa_cons (pv 3) pa_nil))))
      (pss_one (ps_ret (pe_call (G_is_within.mono (by first | decide | omega)) hr (by rfl) T.g_is_within T.F_is_within.kp T.b_is_within .nil pass0 (pa_cons (pv 4) (pa_cons (pv 5) (pa_cons (pe_op op_add (pv 5) (pe_call (G_play_of.mono (by first | decide | omega)) hr (by rfl) T.g_play_of T.F_play_of.kp T.b_play_of .nil pass0 (pa_cons (pv 0) pa_nil))) pa_nil)))))))))), ?_⟩
    refine ⟨u, rfl, u, d, _, rfl, hd, _, rfl, ?_⟩
    cases e : tupOf d 3 with
    | false =>
      have ef : isPush room ls d = false := by
        unfold isPush
        split
        · simp [tupOf] at e
        · rfl
      rw [ef] at q
      exact iteT (q H (Same.refl H))
    | true =>
      refine iteF ?_
      obtain ⟨s, g, p, rfl⟩ := tupOf3 e
      obtain ⟨a, x, y, z, rfl, sq, h1, h2, h3⟩ := dp_three hd
      have dall : PyData.depthAll [s, g, p] + 1 ≤ 64 := by simpa [PyData.depth] using dep
      have ds : s.depth ≤ 64 := Nat.le_trans (depth_of_all (n := 63) [s, g, p] (by omega) s (by simp)) (by decide)
      refine ⟨.ref a, rfl, a, _, rfl, sq, rfl, _, _, rfl, _, _, rfl, _, [], rfl, rfl, ?_⟩
      refine ⟨v, rfl, x, rfl, y, rfl, v, x, y, room, ls, s, g, rfl, hv, h1, ds, h2, _, rfl, ?_⟩
      unfold isPush at q
      simp only at q
      cases e2 : isGap ls.length s g with
      | false =>
        rw [if_neg (by simp [e2])] at q
        exact iteT (q H (Same.refl H))
      | true =>
        rw [if_pos e2] at q
        refine iteF ?_
        obtain ⟨k, rfl⟩ := isGap_int e2
        cases dp_int h2
        refine ⟨v, rfl, _, rfl, v, room, ls, k, rfl, hv, fun H' sm => ?_⟩
        refine ⟨z, rfl, _, rfl, _, rfl, v, rfl, v, room, ls, rfl, Dpm sm hv, _, _, rfl, rfl, z, p, _, _, rfl, Dpm sm h3, ?_⟩
        simpa [intOf] using q H' sm
def sp_is_row (K : PySem.W.Frag) : Sp := fun vs H Q _ => ∃ v u room ls d, vs = [v, u] ∧ Dp K H v (shD room ls) ∧ ShOk room ls ∧ Dp K H u d ∧ d.depth ≤ 64 ∧ RB H Q (isRow room ls d)
theorem ok_is_row (T : Tx K mg) : FnOk P w K mg base CX0 6 T.f_is_row T.fd_is_row ["shelf", "thing"] (sp_is_row K) := by
  have G_need_shelf := ok_need_shelf (P := P) (w := w) (base := base) T
  have G_is_push := ok_is_push (P := P) (w := w) (base := base) T
  refine T.F_is_row.ok sc_is_row (fun vs H Q E h => ?_) (fun cdv A outer s H vs Q E hr h => ?_)
  · obtain ⟨v, u, _, _, d, rfl, _⟩ := h
    rfl
  · obtain ⟨v, u, room, ls, d, rfl, hv, sh, hd, dep, q⟩ := h
    refine ⟨_, (pss_cons (ps_expr (pe_call (G_need_shelf.mono (by first | decide | omega)) hr (by rfl) T.g_need_shelf T.F_need_shelf.kp T.b_need_shelf .nil pass0 (pa_cons (pv 0) pa_nil)))
      (pss_cons (ps_if (PW.pt (pw_or (pt_not (pt_val (pe_callB call_isD (by rfl) T.n_isinstance (by decide +kernel) (pa_cons (pv 1) (pa_cons (pe_bltn (v := .ty "list") (by rfl) T.n_list (by decide +kernel) rfl) pa_nil))))) (pw_or1 (pt_cmpR op_gt (pe_callB call_len_seq (by rfl) T.n_len (by decide +kernel) (pa_cons (pv 1) pa_nil)) (pe_glob (by rfl) T.c_MOST_PUSHES.2 T.c_MOST_PUSHES.1) (nomark _))))) (pss_one (ps_ret pe_bl)) pss_nil)
      (pss_one (ps_ret (pe_callB (cr_all rfl) (by rfl) T.n_all (by decide +kernel) (pa_cons (pe_lc (own := [("push", 2)]) (g := gName 2) (tt := tYes) rfl sc_is_row.nd (pi_list (pv 1)) (blkOk_by (own := [("push", 2)]) (N := ["shelf", "thing", "push"]) (sc := defScope s_is_row) (by decide +kernel)) (fun _ _ _ _ _ => (pg_name (i := 2) sc_is_row.nd rfl (.inl rfl))) (fun _ _ _ _ _ => pts_nil) (fun _ _ _ _ _ => (pe_call (G_is_push.mono (by first | decide | omega)) hr (by rfl) T.g_is_push T.F_is_push.kp T.b_is_push .nil pass0 (pa_cons (pv 0) (pa_cons (pv 2) pa_nil))))) pa_nil)))))), ?_⟩
    refine ⟨v, rfl, v, _, rfl, hv, isShelf_ok sh, fun H1 s1 => ?_⟩
    refine ⟨u, rfl, u, _, d, rfl, Dpm s1 hd, kList d, _, rfl, ?_⟩
    rw [isA_list]
    cases hd with
    | @lst a xs ds s al =>
      have hl := dpAll_len al
      have s' := s1.seq s
      refine iteF ⟨.ref a, rfl, a, xs, rfl, .inl s', _, _, rfl, rfl, _, rfl, ?_⟩
      have q : RB H Q (if (ds.length : Int) > 200 then false else ds.all (isPush room ls)) := q
      rw [hl]
      by_cases h2 : (ds.length : Int) > 200
      · rw [if_pos h2] at q
        rw [decide_eq_true h2]
        exact iteT (q H1 s1)
      · rw [if_neg h2] at q
        rw [decide_eq_false h2]
        refine iteF ?_
        have dall : PyData.depthAll ds + 1 ≤ 64 := by simpa [PyData.depth] using dep
        refine ⟨.ref a, rfl, a, rfl, ⟨xs, s'⟩, fun D nD => ?_⟩
        refine lc_list (K := K) (a := a) (xs := xs) (fun i H' => Same H1 H' ∧ H' D = some (.lst ((ds.take i).map fun x => V.bl (isPush room ls x)))) ⟨same_new nD, by rw [upd_same]; rfl⟩ (fun i H' _ p => p.1.seq s') (fun i x H' hx p => ?_) (fun H' p => ?_)
        · obtain ⟨d, e1, e2⟩ := dpAll_get al hx
          have hi : i < xs.length := (List.getElem?_eq_some_iff.mp hx).1
          have hm : d ∈ ds := List.mem_of_getElem? e1
          refine ⟨rfl, v, rfl, x, rfl, v, x, room, ls, d, rfl, Dpm (s1.trans p.1) hv, Dpm (s1.trans p.1) e2, Nat.le_trans (depth_of_all (n := 63) _ (by omega) d hm) (by decide), fun H3 s3 => ?_⟩
          refine ⟨_, s3 _ _ p.2, ?_, ?_, ?_⟩
          · rw [List.length_map, List.length_take]
            exact small1000 (by omega)
          · intro b o hb
            have nb : b ≠ D := ne_of_none hb nD
            rw [upd_ne nb]
            exact s3 _ _ (p.1 b o hb)
          · rw [upd_same, List.take_add_one, e1, List.map_append]
            rfl
        · refine ⟨D, (ds.map (isPush room ls)), rfl, .inl (.inl ?_), ?_⟩
          · rw [p.2, hl, List.take_length, List.map_map]
            rfl
          · rw [show (ds.map (isPush room ls)).all id = ds.all (isPush room ls) from by rw [List.all_map]; rfl]
            exact q H' (s1.trans p.1)
    | _ => exact iteT (q H1 s1)
end PS

namespace PS
open PySem PySem.Spec PyProof.Rows L2
variable {P : Program} {w : World} {K : PySem.W.Frag} {mg : Str → Option Value} {base : Heap}
/-- what is known of the places while a push to the right goes on -/
def zR (g : Nat) (b : Int) (y : Nat → Int) (i : Nat) : Nat → Int := fun j => if g ≤ j ∧ j < g + i then max (y j) b else y j
def zL (g : Nat) (b : Int) (y : Nat → Int) (i : Nat) : Nat → Int := fun j => if g - i ≤ j ∧ j < g then min (y j) b else y j
def eR (g : Nat) (b : Int) (y : Nat → Int) (i : Nat) : Int := if i = 0 then b else max (y (g + i - 1)) b
def eL (g : Nat) (b : Int) (y : Nat → Int) (i : Nat) : Int := if i = 0 then b else min (y (g - i)) b
theorem zR_step {n g i : Nat} {pl b : Int} {y : Nat → Int} (h : Rise n pl y) (hi : g + i < n) : max (zR g b y i (g + i)) (eR g b y i) = max (y (g + i)) b := by
  have e1 : zR g b y i (g + i) = y (g + i) := by unfold zR; rw [if_neg (by omega)]
  rw [e1]
  unfold eR
  split
  · rfl
  · have := h.up (g + i - 1) (by omega)
    rw [show g + i - 1 + 1 = g + i from by omega] at this
    omega
theorem zL_step {n g i : Nat} {pl b : Int} {y : Nat → Int} (h : Rise n pl y) (hg : g ≤ n) (hi : i < g) : min (zL g b y i (g - 1 - i)) (eL g b y i) = min (y (g - 1 - i)) b := by
  have e1 : zL g b y i (g - 1 - i) = y (g - 1 - i) := by unfold zL; rw [if_neg (by omega)]
  rw [e1]
  unfold eL
  split
  · rfl
  · have := h.up (g - 1 - i) (by omega)
    rw [show g - 1 - i + 1 = g - i from by omega] at this
    omega
theorem zR_next {ls : List Int} {g i : Nat} {b : Int} {y : Nat → Int} (hi : g + i < ls.length) : (stL ls (zR g b y i)).set (g + i) (max (y (g + i)) b + pre ls (g + i)) = stL ls (zR g b y (i + 1)) := by
  rw [stL_set hi]
  apply stL_congr
  intro j hj
  unfold zR
  by_cases e : j = g + i
  · rw [if_pos e, if_pos (by omega)]
    subst e
    omega
  · rw [if_neg e]
    by_cases h2 : g ≤ j ∧ j < g + i
    · rw [if_pos h2, if_pos (by omega)]
    · rw [if_neg h2, if_neg (by omega)]
theorem zL_next {ls : List Int} {g i : Nat} {b : Int} {y : Nat → Int} (hg : g ≤ ls.length) (hi : i < g) : (stL ls (zL g b y i)).set (g - 1 - i) (min (y (g - 1 - i)) b + pre ls (g - 1 - i)) = stL ls (zL g b y (i + 1)) := by
  rw [stL_set (by omega)]
  apply stL_congr
  intro j hj
  unfold zL
  by_cases e : j = g - 1 - i
  · rw [if_pos e, if_pos (by omega)]
    subst e
    omega
  · rw [if_neg e]
    by_cases h2 : g - i ≤ j ∧ j < g
    · rw [if_pos h2, if_pos (by omega)]
    · rw [if_neg h2, if_neg (by omega)]
/-! ### pushed_right, pushed_left -/
def sp_pushed_right (K : PySem.W.Frag) : Sp := fun vs H Q _ => ∃ v u ls y g b pl, vs = [v, u, .int (g : Nat), .int (b + pre ls g)] ∧ Dp K H v (tI ls) ∧ Dp K H u (tI (stL ls y)) ∧ Rise ls.length pl y ∧ ls.length ≤ 8 ∧ g ≤ ls.length ∧ RD K H Q (tI (stL ls (pR g b y)))
theorem ok_pushed_right (T : Tx K mg) : FnOk P w K mg base CX0 1 T.f_pushed_right T.fd_pushed_right ["blocks", "stand", "gap", "place"] (sp_pushed_right K) := by
  refine T.F_pushed_right.ok sc_pushed_right (fun vs H Q E h => ?_) (fun cdv A outer s H vs Q E hr h => ?_)
  · obtain ⟨_, _, _, _, _, _, _, rfl, _⟩ := h
    rfl
  · obtain ⟨v, u, ls, y, g, b, pl, rfl, hv, hu, ri, n8, hg, q⟩ := h
    obtain ⟨a, rfl, sa⟩ := dp_tI hv
    obtain ⟨c, rfl, sc⟩ := dp_tI hu
    refine ⟨_, (pss_cons (ps_set (i := 4) sc_pushed_right.nd rfl (.inl rfl) (pe_callTy call_list_of (by rfl) T.n_list (by decide +kernel) (pa_cons (pv 1) pa_nil)))
      (pss_cons (ps_set (i := 5) sc_pushed_right.nd rfl (.inl rfl) (pv 3))
      (pss_cons (ps_for PassesOwn.never rfl (pi_range2 (by rfl) T.n_range (pa_cons (pv 2) (pa_cons (pe_callB call_len_seq (by rfl) T.n_len (by decide +kernel) (pa_cons (pv 0) pa_nil)) pa_nil))) (pg_name (i := 6) sc_pushed_right.nd rfl (.inl rfl))
      (pss_cons (ps_asg (pe_callB (call_max2 rfl) (by rfl) T.n_max (by decide +kernel) (pa_cons (pe_ix ix_list (pv 4) (pv 6) (fun _ _ => rfl)) (pa_cons (pv 5) pa_nil))) (pg_sub (pv 4) (pv 6) set_list))
      (pss_one (ps_set (i := 5) sc_pushed_right.nd rfl (.inl rfl) (pe_op op_add (pe_ix ix_list (pv 4) (pv 6) (fun _ _ => rfl)) (pe_ix ix_tup (pv 0) (pv 6) (fun _ _ => rfl)))))))
      (pss_one (ps_ret (pe_callTy call_tuple_of (by rfl) T.n_tuple (by decide +kernel) (pa_cons (pv 4) pa_nil))))))), ?_⟩
    refine ⟨.ref c, rfl, c, _, rfl, .inr sc, fun l nl => ?_⟩
    refine ⟨_, rfl, ?_⟩
    refine ⟨_, rfl, .ref a, rfl, a, _, rfl, .inr (seqT_mono (same_new nl) sa), _, _, rfl, ⟨by omega, by omega, by omega, by rw [iV_len]; omega⟩, ?_⟩
    refine for_range (lo := (g : Int)) (n := (((iV ls).length : Int) - (g : Int)).toNat) (fun i σ H' => Same H H' ∧ H' l = some (.lst (iV (stL ls (zR g b y i)))) ∧ ∃ y6, σ = [some (.ref a), some (.ref c), some (.int (g : Nat)), some (.int (b + pre ls g)), some (.ref l), some (.int (eR g b y i + pre ls (g + i))), y6])
      ⟨same_new nl, ?_, none, ?_⟩ (fun i σ H' hi p => ?_) (fun σ H' p => ?_)
    · rw [upd_same]
      congr 3
      apply stL_congr
      intro j hj
      unfold zR
      rw [if_neg (by omega)]
    · rfl
    · obtain ⟨s1, hl, y6, rfl⟩ := p
      rw [iV_len] at hi
      have hgi : g + i < ls.length := by omega
      have eat : (g : Int) + (i : Int) = ((g + i : Nat) : Int) := by omega
      have g1 := iV_get (stL_get (y := zR g b y i) hgi)
      have e1 : (if eR g b y i + pre ls (g + i) > zR g b y i (g + i) + pre ls (g + i) then eR g b y i + pre ls (g + i) else zR g b y i (g + i) + pre ls (g + i)) = max (y (g + i)) b + pre ls (g + i) := by
        rw [← zR_step ri hgi]
        split <;> omega
      refine ⟨.ref l, rfl, _, rfl, l, _, _, _, rfl, rfl, .inl (.inl hl), at_of eat g1, _, rfl, _, _, rfl, ?_⟩
      rw [e1]
      refine ⟨.ref l, rfl, _, rfl, l, _, _, g + i, rfl, rfl, hl, ixN_at eat (by rw [iV_len, stL_len]; exact hgi), ?_⟩
      rw [iV_set, zR_next hgi]
      have g2 := iV_get (stL_get (y := zR g b y (i + 1)) hgi)
      have e2 : zR g b y (i + 1) (g + i) = max (y (g + i)) b := by unfold zR; rw [if_pos (by omega)]
      have s2 : Same H (upd H' l (.lst (iV (stL ls (zR g b y (i + 1)))))) := fun b o hb => by
        rw [upd_ne (ne_of_none hb nl)]
        exact s1 b o hb
      refine ⟨.ref l, rfl, _, rfl, l, _, _, _, rfl, rfl, .inl (.inl upd_same), at_of eat g2, .ref a, rfl, _, rfl, a, _, _, _, rfl, rfl, seqT_mono s2 sa, at_of eat (iV_get (List.getElem?_eq_getElem hgi)), _, _, rfl, rfl, s2, upd_same, some (.int ((g : Int) + (i : Int))), ?_⟩
      have e3 : eR g b y (i + 1) + pre ls (g + (i + 1)) = zR g b y (i + 1) (g + i) + pre ls (g + i) + ls[g + i] := by
        rw [e2, show g + (i + 1) = g + i + 1 from by omega, pre_succ hgi]
        unfold eR
        rw [if_neg (by omega), show g + (i + 1) - 1 = g + i from by omega]
        omega
      rw [e3]
      rfl
    · obtain ⟨s1, hl, y6, rfl⟩ := p
      refine ⟨.ref l, rfl, l, _, rfl, .inl ⟨.inl (.inl hl), fun t nt => ?_⟩⟩
      have e : stL ls (zR g b y (((iV ls).length : Int) - (g : Int)).toNat) = stL ls (pR g b y) := by
        rw [iV_len]
        apply stL_congr
        intro j hj
        unfold zR pR
        by_cases h2 : g ≤ j
        · rw [if_pos h2, if_pos (by omega)]
        · rw [if_neg h2, if_neg (by omega)]
      rw [e]
      exact q _ _ (s1.trans (same_new nt)) (tI_dp (.inl (.inl upd_same)))
def sp_pushed_left (K : PySem.W.Frag) : Sp := fun vs H Q _ => ∃ v u ls y g b pl, vs = [v, u, .int (g : Nat), .int (b + pre ls g)] ∧ Dp K H v (tI ls) ∧ Dp K H u (tI (stL ls y)) ∧ Rise ls.length pl y ∧ ls.length ≤ 8 ∧ g ≤ ls.length ∧ RD K H Q (tI (stL ls (pL g b y)))
theorem ok_pushed_left (T : Tx K mg) : FnOk P w K mg base CX0 1 T.f_pushed_left T.fd_pushed_left ["blocks", "stand", "gap", "place"] (sp_pushed_left K) := by
  refine T.F_pushed_left.ok sc_pushed_left (fun vs H Q E h => ?_) (fun cdv A outer s H vs Q E hr h => ?_)
  · obtain ⟨_, _, _, _, _, _, _, rfl, _⟩ := h
    rfl
  · obtain ⟨v, u, ls, y, g, b, pl, rfl, hv, hu, ri, n8, hg, q⟩ := h
    obtain ⟨a, rfl, sa⟩ := dp_tI hv
    obtain ⟨c, rfl, sc⟩ := dp_tI hu
    refine ⟨_, (pss_cons (ps_set (i := 4) sc_pushed_left.nd rfl (.inl rfl) (pe_callTy call_list_of (by rfl) T.n_list (by decide +kernel) (pa_cons (pv 1) pa_nil)))
      (pss_cons (ps_set (i := 5) sc_pushed_left.nd rfl (.inl rfl) (pv 3))
      (pss_cons (ps_for PassesOwn.never rfl (pi_revR (by rfl) T.n_reversed (prg_1 (by rfl) T.n_range (pv 2))) (pg_name (i := 6) sc_pushed_left.nd rfl (.inl rfl))
      (pss_cons (ps_asg (pe_callB (call_min2 rfl) (by rfl) T.n_min (by decide +kernel) (pa_cons (pe_ix ix_list (pv 4) (pv 6) (fun _ _ => rfl)) (pa_cons (pe_op op_sub (pv 5) (pe_ix ix_tup (pv 0) (pv 6) (fun _ _ => rfl))) pa_nil))) (pg_sub (pv 4) (pv 6) set_list))
      (pss_one (ps_set (i := 5) sc_pushed_left.nd rfl (.inl rfl) (pe_ix ix_list (pv 4) (pv 6) (fun _ _ => rfl))))))
      (pss_one (ps_ret (pe_callTy call_tuple_of (by rfl) T.n_tuple (by decide +kernel) (pa_cons (pv 4) pa_nil))))))), ?_⟩
    refine ⟨.ref c, rfl, c, _, rfl, .inr sc, fun l nl => ?_⟩
    refine ⟨_, rfl, ?_⟩
    refine ⟨_, rfl, _, rfl, by omega, by omega, by omega, by omega, ?_⟩
    have en : ((g : Int) - 0).toNat = g := by omega
    rw [en]
    refine for_rangeC (lo := 0 + ((g : Nat) : Int) - 1) (c := -1) (n := g) (fun i σ H' => Same H H' ∧ H' l = some (.lst (iV (stL ls (zL g b y i)))) ∧ ∃ y6, σ = [some (.ref a), some (.ref c), some (.int (g : Nat)), some (.int (b + pre ls g)), some (.ref l), some (.int (eL g b y i + pre ls (g - i))), y6])
      ⟨same_new nl, ?_, none, ?_⟩ (fun i σ H' hi p => ?_) (fun σ H' p => ?_)
    · rw [upd_same]
      congr 3
      apply stL_congr
      intro j hj
      unfold zL
      rw [if_neg (by omega)]
    · rfl
    · obtain ⟨s1, hl, y6, rfl⟩ := p
      have hgi : g - 1 - i < ls.length := by omega
      have eat : 0 + ((g : Nat) : Int) - 1 + (i : Nat) * (-1) = ((g - 1 - i : Nat) : Int) := by omega
      have g1 := iV_get (stL_get (y := zL g b y i) hgi)
      have epre : pre ls (g - i) = pre ls (g - 1 - i) + ls[g - 1 - i] := by
        have := pre_succ hgi
        rw [show g - 1 - i + 1 = g - i from by omega] at this
        exact this
      have e1 : (if eL g b y i + pre ls (g - i) - ls[g - 1 - i] < zL g b y i (g - 1 - i) + pre ls (g - 1 - i) then eL g b y i + pre ls (g - i) - ls[g - 1 - i] else zL g b y i (g - 1 - i) + pre ls (g - 1 - i)) = min (y (g - 1 - i)) b + pre ls (g - 1 - i) := by
        rw [← zL_step ri hg hi, epre]
        split <;> omega
      refine ⟨.ref l, rfl, _, rfl, l, _, _, _, rfl, rfl, .inl (.inl hl), at_of eat g1, _, rfl, .ref a, rfl, _, rfl, a, _, _, _, rfl, rfl, seqT_mono s1 sa, at_of eat (iV_get (List.getElem?_eq_getElem hgi)), _, _, rfl, rfl, _, _, rfl, ?_⟩
      rw [e1]
      refine ⟨.ref l, rfl, _, rfl, l, _, _, g - 1 - i, rfl, rfl, hl, ixN_at eat (by rw [iV_len, stL_len]; exact hgi), ?_⟩
      rw [iV_set, zL_next hg hi]
      have g2 := iV_get (stL_get (y := zL g b y (i + 1)) hgi)
      have e2 : zL g b y (i + 1) (g - 1 - i) = min (y (g - 1 - i)) b := by unfold zL; rw [if_pos (by omega)]
      have s2 : Same H (upd H' l (.lst (iV (stL ls (zL g b y (i + 1)))))) := fun b o hb => by
        rw [upd_ne (ne_of_none hb nl)]
        exact s1 b o hb
      refine ⟨.ref l, rfl, _, rfl, l, _, _, _, rfl, rfl, .inl (.inl upd_same), at_of eat g2, s2, upd_same, some (.int (0 + ((g : Nat) : Int) - 1 + (i : Nat) * (-1))), ?_⟩
      have e3 : eL g b y (i + 1) + pre ls (g - (i + 1)) = zL g b y (i + 1) (g - 1 - i) + pre ls (g - 1 - i) := by
        rw [e2, show g - (i + 1) = g - 1 - i from by omega]
        unfold eL
        rw [if_neg (by omega), show g - (i + 1) = g - 1 - i from by omega]
      rw [e3]
      rfl
    · obtain ⟨s1, hl, y6, rfl⟩ := p
      refine ⟨.ref l, rfl, l, _, rfl, .inl ⟨.inl (.inl hl), fun t nt => ?_⟩⟩
      have e : stL ls (zL g b y g) = stL ls (pL g b y) := by
        apply stL_congr
        intro j hj
        unfold zL pL
        by_cases h2 : j < g
        · rw [if_pos h2, if_pos (by omega)]
        · rw [if_neg h2, if_neg (by omega)]
      rw [e]
      exact q _ _ (s1.trans (same_new nt)) (tI_dp (.inl (.inl upd_same)))
/-! ### pushed, done, behind -/
def sp_pushed (K : PySem.W.Frag) : Sp := fun vs H Q _ => ∃ v u t room ls y p pl, vs = [v, u, t] ∧ Dp K H v (shD room ls) ∧ Dp K H u (tI (stL ls y)) ∧ Dp K H t (puD ls p) ∧ Rise ls.length pl y ∧ ls.length ≤ 8 ∧ PuOk ls.length pl p ∧ RD K H Q (tI (stL ls (doP y p)))
theorem ok_pushed (T : Tx K mg) : FnOk P w K mg base CX0 2 T.f_pushed T.fd_pushed ["shelf", "stand", "push"] (sp_pushed K) := by
  have G_pushed_right := ok_pushed_right (P := P) (w := w) (base := base) T
  have G_pushed_left := ok_pushed_left (P := P) (w := w) (base := base) T
  refine T.F_pushed.ok sc_pushed (fun vs H Q E h => ?_) (fun cdv A outer s H vs Q E hr h => ?_)
  · obtain ⟨_, _, _, _, _, _, _, _, rfl, _⟩ := h
    rfl
  · obtain ⟨v, u, t, room, ls, y, ⟨r, g, b⟩, pl, rfl, hv, hu, ht, ri, n8, pk, q⟩ := h
    obtain ⟨a, ba, rfl, sa, sb⟩ := dp_shelf hv
    obtain ⟨c, x1, x2, x3, rfl, sc, h1, h2, h3⟩ := dp_three ht
    cases dp_str h1
    cases dp_int h2
    cases dp_int h3
    refine ⟨_, (pss_cons (ps_asg (pv 2) (pg_tup rfl (pgs_cons (pg_name (i := 3) sc_pushed.nd rfl (.inl rfl)) (pgs_cons (pg_name (i := 4) sc_pushed.nd rfl (.inl rfl)) (pgs_cons (pg_name (i := 5) sc_pushed.nd rfl (.inl rfl)) pgs_nil)))))
      (pss_cons (ps_if (pt_cmpR op_eq (pv 3) pe_str (nomark _)) (pss_one (ps_ret (pe_call (G_pushed_right.mono (by first | decide | omega)) hr (by rfl) T.g_pushed_right T.F_pushed_right.kp T.b_pushed_right .nil pass0 (pa_cons (pe_ix ix_tup (pv 0) pe_int (fun _ _ => rfl)) (pa_cons (pv 1) (pa_cons (pv 4) (pa_cons (pv 5) pa_nil))))))) pss_nil)
      (pss_one (ps_ret (pe_call (G_pushed_left.mono (by first | decide | omega)) hr (by rfl) T.g_pushed_left T.F_pushed_left.kp T.b_pushed_left .nil pass0 (pa_cons (pe_ix ix_tup (pv 0) pe_int (fun _ _ => rfl)) (pa_cons (pv 1) (pa_cons (pv 4) (pa_cons (pv 5) pa_nil))))))))), ?_⟩
    refine ⟨.ref c, rfl, c, _, rfl, sc, rfl, _, _, rfl, _, _, rfl, _, [], rfl, rfl, ?_⟩
    cases r with
    | true =>
      have := pk.g0 rfl
      refine ⟨_, rfl, rfl, _, rfl, ?_⟩
      rw [decide_eq_true (show V.str (sideS true) = V.str "right" from rfl)]
      refine iteT ⟨.ref a, rfl, a, _, 1, _, rfl, rfl, sa, atI_nat (j := 1) rfl, u, rfl, _, rfl, _, rfl, _, u, ls, y, g, b, pl, rfl, tI_dp sb, hu, ri, n8, Nat.le_of_lt this, ?_⟩
      exact q
    | false =>
      have := pk.g1 rfl
      refine ⟨_, rfl, rfl, _, rfl, ?_⟩
      rw [decide_eq_false (show ¬ V.str (sideS false) = V.str "right" from by decide +kernel)]
      refine iteF ⟨.ref a, rfl, a, _, 1, _, rfl, rfl, sa, atI_nat (j := 1) rfl, u, rfl, _, rfl, _, rfl, _, u, ls, y, g, b, pl, rfl, tI_dp sb, hu, ri, n8, this.2, ?_⟩
      exact q
def sp_done (K : PySem.W.Frag) : Sp := fun vs H Q _ => ∃ v u t room ls y r pl, vs = [v, u, t] ∧ Dp K H v (shD room ls) ∧ Dp K H u (tI (stL ls y)) ∧ Dp K H t (roD ls r) ∧ Rise ls.length pl y ∧ ls.length ≤ 8 ∧ (∀ p ∈ r, PuOk ls.length pl p) ∧ RD K H Q (tI (stL ls (doR y r)))
theorem ok_done (T : Tx K mg) : FnOk P w K mg base CX0 3 T.f_done T.fd_done ["shelf", "stand", "row"] (sp_done K) := by
  have G_pushed := ok_pushed (P := P) (w := w) (base := base) T
  refine T.F_done.ok sc_done (fun vs H Q E h => ?_) (fun cdv A outer s H vs Q E hr h => ?_)
  · obtain ⟨_, _, _, _, _, _, _, _, rfl, _⟩ := h
    rfl
  · obtain ⟨v, u, t, room, ls, y, r, pl, rfl, hv, hu, ht, ri, n8, pk, q⟩ := h
    obtain ⟨c, xs, rfl, sc, al⟩ := dp_lst ht
    have hl := dpAll_len al
    rw [List.length_map] at hl
    refine ⟨_, (pss_cons (ps_for PassesOwn.never rfl (pi_list (pv 2)) (pg_name (i := 3) sc_done.nd rfl (.inl rfl))
      (pss_one (ps_set (i := 1) sc_done.nd rfl (.inl rfl) (pe_call (G_pushed.mono (by first | decide | omega)) hr (by rfl) T.g_pushed T.F_pushed.kp T.b_pushed .nil pass0 (pa_cons (pv 0) (pa_cons (pv 1) (pa_cons (pv 3) pa_nil)))))))
      (pss_one (ps_ret (pv 1)))), ?_⟩
    refine ⟨.ref c, rfl, c, rfl, ⟨xs, sc⟩, ?_⟩
    refine for_list (K := K) (a := c) (xs := xs) (fun i σ H' => Same H H' ∧ ∃ u' y3, σ = [some v, some u', some (.ref c), y3] ∧ Dp K H' u' (tI (stL ls (doR y (r.take i))))) ⟨Same.refl H, u, none, rfl, hu⟩ (fun i σ H' _ p => p.1.seq sc) (fun i x σ H' hx p => ?_) (fun σ H' p => ?_)
    · obtain ⟨s1, u', y3, rfl, hu'⟩ := p
      obtain ⟨d, e1, e2⟩ := dpAll_get al hx
      rw [List.getElem?_map] at e1
      obtain ⟨p, ep, rfl⟩ := Option.map_eq_some_iff.mp e1
      have hp : p ∈ r := List.mem_of_getElem? ep
      refine ⟨v, rfl, u', rfl, x, rfl, v, u', x, room, ls, doR y (r.take i), p, pl, rfl, Dpm s1 hv, hu', Dpm s1 e2, doR_rise ri (fun z hz => pk z (List.mem_of_mem_take hz)), n8, pk p hp, fun v' H2 s2 h2 => ?_⟩
      refine ⟨s1.trans s2, v', _, rfl, ?_⟩
      rw [List.take_add_one, ep]
      show Dp K H2 v' (tI (stL ls (doR y (r.take i ++ [p]))))
      rw [doR_app]
      exact h2
    · obtain ⟨s1, u', y3, rfl, hu'⟩ := p
      rw [hl, List.take_length] at hu'
      exact ⟨u', rfl, q _ _ s1 hu'⟩
def sp_behind (K : PySem.W.Frag) : Sp := fun vs H Q _ => ∃ v u t room ls y r, vs = [v, u, t] ∧ Dp K H v (shD room ls) ∧ ShOk room ls ∧ Dp K H u (tI (stL ls y)) ∧ Dp K H t (roD ls r) ∧ Rise ls.length (room - ls.sum) y ∧ r.length ≤ 200 ∧ (∀ p ∈ r, PuOk ls.length (room - ls.sum) p) ∧ RD K H Q (tI (stL ls (doR y r)))
theorem roD_depth (ls : List Int) (r : List Push) : (roD ls r).depth ≤ 2 := by
  unfold roD
  rw [PyData.depth]
  have : PyData.depthAll (r.map (puD ls)) ≤ 1 := depthAll_le _ fun d hd => by
    obtain ⟨p, _, rfl⟩ := List.mem_map.mp hd
    exact puD_depth ls p
  omega
end PS

namespace PS
open PySem PySem.Spec PyProof.Rows L2
variable {P : Program} {w : World} {K : PySem.W.Frag} {mg : Str → Option Value} {base : Heap}
/-! ### places_of -/
abbrev plL (n : Nat) (y : Nat → Int) : List Int := (List.range n).map y
theorem plL_len (n : Nat) (y : Nat → Int) : (plL n y).length = n := by simp [plL]
theorem plL_get {n j : Nat} {y : Nat → Int} (h : j < n) : (plL n y)[j]? = some (y j) := by simp [plL, h]
theorem plL_take {n j : Nat} {y : Nat → Int} (h : j < n) : (plL n y).take (j + 1) = (plL n y).take j ++ [y j] := by
  rw [List.take_add_one, plL_get h]
  rfl
def sp_places_of (K : PySem.W.Frag) : Sp := fun vs H Q _ => ∃ v u room ls y, vs = [v, u] ∧ Dp K H v (shD room ls) ∧ Dp K H u (tI (stL ls y)) ∧ ls.length ≤ 8 ∧ ∀ p H', Same H H' → H p = none → H' p = some (.lst (iV (plL ls.length y))) → Q (.ref p) H'
theorem ok_places_of (T : Tx K mg) : FnOk P w K mg base CX0 2 T.f_places_of T.fd_places_of ["shelf", "stand"] (sp_places_of K) := by
  have G_gap_length := ok_gap_length (P := P) (w := w) (base := base) T
  refine T.F_places_of.ok sc_places_of (fun vs H Q E h => ?_) (fun cdv A outer s H vs Q E hr h => ?_)
  · obtain ⟨_, _, _, _, _, rfl, _⟩ := h
    rfl
  · obtain ⟨v, u, room, ls, y, rfl, hv, hu, n8, q⟩ := h
    obtain ⟨d, rfl, sd⟩ := dp_tI hu
    refine ⟨_, (pss_one (ps_ret (pe_lc (own := [("at", 2), ("left", 3)]) (g := gTup K 2 (gCons (gName 2) (gCons (gName 3) gNil))) (tt := tYes) rfl sc_places_of.nd (pi_enum1 (by rfl) T.n_enumerate (pa_cons (pv 1) pa_nil)) (blkOk_by (own := [("at", 2), ("left", 3)]) (N := ["shelf", "stand", "at", "left"]) (sc := defScope s_places_of) (by decide +kernel)) (fun _ _ _ _ _ => (pg_tup rfl (pgs_cons (pg_name (i := 2) sc_places_of.nd rfl (.inl rfl)) (pgs_cons (pg_name (i := 3) sc_places_of.nd rfl (.inl rfl)) pgs_nil)))) (fun _ _ _ _ _ => pts_nil) (fun _ _ _ _ _ => (pe_op op_sub (pv 3) (pe_call (G_gap_length.mono (by first | decide | omega)) hr (by rfl) T.g_gap_length T.F_gap_length.kp T.b_gap_length .nil pass0 (pa_cons (pv 0) (pa_cons (pv 2) pa_nil)))))))), ?_⟩
    refine ⟨_, rfl, false, d, _, rfl, sd, fun D nD => ?_⟩
    refine lc_it (walk_1 (n := ls.length) (xs := iV (stL ls y)) (by rw [iV_len, stL_len])) (fun i H' => Same H H' ∧ H' D = some (.lst (iV ((plL ls.length y).take i)))) ⟨same_new nD, upd_same⟩ (fun i H' _ p => seqT_mono p.1 sd) (fun i x H' H2 hi p yy => ?_) (fun H' p => ?_)
    · obtain ⟨Tt, x, rfl, nT, rfl, hx⟩ := yy
      rw [iV_get (stL_get hi)] at hx
      cases Option.some.inj hx
      have t1 := same_new (o := .tup [.int (i : Nat), .int (y i + pre ls i)]) nT
      have s1 := p.1.trans t1
      have hD1 := t1 _ _ p.2
      refine ⟨Tt, _, rfl, .inl (.inl upd_same), rfl, _, _, rfl, _, [], rfl, rfl, rfl, _, rfl, v, rfl, _, rfl, v, room, ls, i, rfl, Dpm s1 hv, fun H3 s3 => ?_⟩
      refine ⟨_, _, rfl, rfl, _, s3 _ _ hD1, ?_, fun b o hb => ?_, ?_⟩
      · rw [List.length_map, List.length_take]
        exact small1000 (by omega)
      · rw [upd_ne (ne_of_none hb nD)]
        exact s3 _ _ (s1 b o hb)
      · rw [upd_same, plL_take hi]
        dsimp only
        rw [show y i + pre ls i - pre ls i = y i from by omega]
        simp
    · obtain ⟨s1, hD⟩ := p
      rw [List.take_of_length_le (by rw [plL_len]; exact Nat.le_refl _)] at hD
      exact q D H' s1 nD hD
end PS

namespace PS
open PySem PySem.Spec PyProof.Rows L2
variable {P : Program} {w : World} {K : PySem.W.Frag} {mg : Str → Option Value} {base : Heap}
/-! ### bands -/
abbrev bandL (v1 v2 v3 v4 v5 : V) : List (Str × V) := [("first", v1), ("beyond", v2), ("place", v3), ("up", v4), ("down", v5)]
def bandF (y w : Nat → Int) (r : Nat × Nat) : List (Str × V) := bandL (.int r.1) (.int r.2) (.int (w r.1)) (.bl (fl y w r).1) (.bl (fl y w r).2)
theorem band_put (v1 v2 v3 v4 v5 : V) : putF "down" v5 (putF "up" v4 (putF "place" v3 (putF "beyond" v2 (putF "first" v1 [])))) = bandL v1 v2 v3 v4 v5 := rfl
theorem band_first (y w : Nat → Int) (r : Nat × Nat) : (bandF y w r).lookup ("first" : Str) = some (.int r.1) := rfl
theorem band_beyond (y w : Nat → Int) (r : Nat × Nat) : (bandF y w r).lookup ("beyond" : Str) = some (.int r.2) := rfl
theorem band_place (y w : Nat → Int) (r : Nat × Nat) : (bandF y w r).lookup ("place" : Str) = some (.int (w r.1)) := rfl
theorem band_up (y w : Nat → Int) (r : Nat × Nat) : (bandF y w r).lookup ("up" : Str) = some (.bl (fl y w r).1) := rfl
theorem band_down (y w : Nat → Int) (r : Nat × Nat) : (bandF y w r).lookup ("down" : Str) = some (.bl (fl y w r).2) := rfl
def sp_Band_init (C : Addr) : Sp := fun vs H Q _ => ∃ (x dx : Addr) (v1 v2 v3 v4 v5 : V), vs = [.ref x, v1, v2, v3, v4, v5] ∧ H x = some (.ins C dx []) ∧ ∀ H', H' x = some (.ins C dx (bandL v1 v2 v3 v4 v5)) → (∀ b o, H b = some o → b ≠ x → H' b = some o) → Q .non H'
theorem ok_Band_init (T : Tx K mg) : FnOk P w K mg base CX0 1 T.f_Band_init T.fd_Band_init ["self", "first", "beyond", "place", "up", "down"] (sp_Band_init T.C_Band) := by
  refine T.F_Band_init.ok sc_Band_init (fun vs H Q E h => ?_) (fun cdv A outer s H vs Q E hr h => ?_)
  · obtain ⟨_, _, _, _, _, _, _, rfl, _⟩ := h
    rfl
  · obtain ⟨x, dx, v1, v2, v3, v4, v5, rfl, hx, q⟩ := h
    refine ⟨_, (pss_cons (ps_fld (pv 0) (pv 1) rfl)
      (pss_cons (ps_fld (pv 0) (pv 2) rfl)
      (pss_cons (ps_fld (pv 0) (pv 3) rfl)
      (pss_cons (ps_fld (pv 0) (pv 4) rfl)
      (pss_one (ps_fld (pv 0) (pv 5) rfl)))))), ?_⟩
    refine ⟨v1, rfl, _, rfl, x, T.C_Band, dx, _, rfl, hx, T.cl_Band, T.na_Band_first, (by show 0 < 1000; decide), ?_⟩
    refine ⟨v2, rfl, _, rfl, x, T.C_Band, dx, _, rfl, upd_same, T.cl_Band, T.na_Band_beyond, (by show 1 < 1000; decide), ?_⟩
    refine ⟨v3, rfl, _, rfl, x, T.C_Band, dx, _, rfl, upd_same, T.cl_Band, T.na_Band_place, (by show 2 < 1000; decide), ?_⟩
    refine ⟨v4, rfl, _, rfl, x, T.C_Band, dx, _, rfl, upd_same, T.cl_Band, T.na_Band_up, (by show 3 < 1000; decide), ?_⟩
    refine ⟨v5, rfl, _, rfl, x, T.C_Band, dx, _, rfl, upd_same, T.cl_Band, T.na_Band_down, (by show 4 < 1000; decide), ?_⟩
    exact q _ upd_same fun b o e hb => by rw [upd_ne hb, upd_ne hb, upd_ne hb, upd_ne hb, upd_ne hb]; exact e
/-- a band in the heap -/
def BandAt (C : Addr) (H : Hp) (y w : Nat → Int) (v : V) (r : Nat × Nat) : Prop := ∃ a dx, v = .ref a ∧ H a = some (.ins C dx (bandF y w r))
inductive Bands (C : Addr) (H : Hp) (y w : Nat → Int) : List V → List (Nat × Nat) → Prop
  | nil : Bands C H y w [] []
  | cons {v : V} {vs : List V} {r : Nat × Nat} {rs : List (Nat × Nat)} : BandAt C H y w v r → Bands C H y w vs rs → Bands C H y w (v :: vs) (r :: rs)
theorem Bands.len {C : Addr} {H : Hp} {y w : Nat → Int} : ∀ {vs : List V} {rs : List (Nat × Nat)}, Bands C H y w vs rs → vs.length = rs.length
  | _, _, .nil => rfl
  | _, _, .cons _ h => by simp [h.len]
theorem Bands.mono {C : Addr} {H H' : Hp} {y w : Nat → Int} (k : ∀ a dx fs, H a = some (.ins C dx fs) → H' a = some (.ins C dx fs)) : ∀ {vs : List V} {rs : List (Nat × Nat)}, Bands C H y w vs rs → Bands C H' y w vs rs
  | _, _, .nil => .nil
  | _, _, .cons ⟨a, dx, e, h⟩ hs => .cons ⟨a, dx, e, k _ _ _ h⟩ (hs.mono k)
theorem Bands.same {C : Addr} {H H' : Hp} {y w : Nat → Int} {vs : List V} {rs : List (Nat × Nat)} (h : Bands C H y w vs rs) (s : Same H H') : Bands C H' y w vs rs := h.mono fun a dx fs e => s _ _ e
theorem Bands.app {C : Addr} {H : Hp} {y w : Nat → Int} : ∀ {vs us : List V} {rs qs : List (Nat × Nat)}, Bands C H y w vs rs → Bands C H y w us qs → Bands C H y w (vs ++ us) (rs ++ qs)
  | _, _, _, _, .nil, h => h
  | _, _, _, _, .cons a h, k => .cons a (h.app k)
theorem Bands.take {C : Addr} {H : Hp} {y w : Nat → Int} : ∀ {vs : List V} {rs : List (Nat × Nat)} (n : Nat), Bands C H y w vs rs → Bands C H y w (vs.take n) (rs.take n)
  | vs, rs, 0, h => by simp; exact .nil
  | _, _, n + 1, .nil => .nil
  | _, _, n + 1, .cons a h => .cons a (h.take n)
theorem Bands.drop {C : Addr} {H : Hp} {y w : Nat → Int} : ∀ {vs : List V} {rs : List (Nat × Nat)} (n : Nat), Bands C H y w vs rs → Bands C H y w (vs.drop n) (rs.drop n)
  | vs, rs, 0, h => by simpa using h
  | _, _, n + 1, .nil => .nil
  | _, _, n + 1, .cons a h => h.drop n
theorem Bands.get {C : Addr} {H : Hp} {y w : Nat → Int} : ∀ {vs : List V} {rs : List (Nat × Nat)} {i : Nat} {v : V}, Bands C H y w vs rs → vs[i]? = some v → ∃ r, rs[i]? = some r ∧ BandAt C H y w v r
  | _, _, i, v, .nil, e => by simp at e
  | _, _, 0, v, .cons a h, e => by simp at e; subst e; exact ⟨_, rfl, a⟩
  | _, _, i + 1, v, .cons a h, e => by
    obtain ⟨r, h1, h2⟩ := h.get (i := i) (v := v) (by simpa using e)
    exact ⟨r, by simpa using h1, h2⟩
def sp_band_from (K : PySem.W.Frag) (C : Addr) : Sp := fun vs H Q _ => ∃ (a b : Addr) (n : Nat) (y w : Nat → Int) (f : Nat), vs = [.ref a, .ref b, .int (f : Int)] ∧ SqL K H a (iV (plL n y)) ∧ SqL K H b (iV (plL n w)) ∧ Up n w ∧ f < n ∧ (f = 0 ∨ w (f - 1) < w f) ∧ n ≤ 8 ∧
  ∀ x dx H', Same H H' → H' x = some (.ins C dx (bandF y w (f, f + (plL n w).count (w f)))) → Q (.ref x) H'
theorem ok_band_from (T : Tx K mg) : FnOk P w K mg base CX0 3 T.f_band_from T.fd_band_from ["now", "wished", "first"] (sp_band_from K T.C_Band) := by
  have G_Band_init := ok_Band_init (P := P) (w := w) (base := base) T
  refine T.F_band_from.ok sc_band_from (fun vs H Q E h => ?_) (fun cdv A outer s H vs Q E hr h => ?_)
  · obtain ⟨_, _, _, _, _, _, rfl, _⟩ := h
    rfl
  · obtain ⟨a, b, n, y, w, f, rfl, sa, sb, up, hf, hb, n8, q⟩ := h
    refine ⟨_, (pss_cons (ps_set (i := 3) sc_band_from.nd rfl (.inl rfl) (pe_ix ix_list (pv 1) (pv 2) (fun _ _ => rfl)))
      (pss_cons (ps_set (i := 4) sc_band_from.nd rfl (.inl rfl) (pe_op op_add (pv 2) (pe_bm PySem.F.plainAttrs_list PySem.F.slot_list_count PySem.F.type_list_count mt_lcount (pv 1) (pa_cons (pv 3) pa_nil))))
      (pss_one (ps_ret (pe_make T.mk_Band (G_Band_init.mono (by first | decide | omega)) hr (by rfl) T.g_Band T.b_Band_init .nil pass0 (pa_cons (pv 2) (pa_cons (pv 4) (pa_cons (pv 3) (pa_cons (pe_cmpR op_lt (pe_ix ix_list (pv 0) (pv 2) (fun _ _ => rfl)) (pv 3) (nomark _)) (pa_cons (pe_cmpR op_gt (pe_ix ix_list (pv 0) (pe_op op_sub (pv 4) pe_int) (fun _ _ => rfl)) (pv 3) (nomark _)) pa_nil)))))))))), ?_⟩
    obtain ⟨c1, c2, c3, c4⟩ := run_count up hf hb
    generalize hc : (plL n w).count (w f) = c at *
    refine ⟨.ref b, rfl, _, rfl, b, _, _, _, rfl, rfl, sb, at_of (j := f) rfl (iV_get (plL_get hf)), ?_⟩
    refine ⟨_, rfl, .ref b, rfl, .inl ⟨rfl, _, sb⟩, _, rfl, b, _, _, rfl, rfl, sb, ?_⟩
    rw [hc]
    refine ⟨_, _, rfl, rfl, ?_⟩
    have e1 : (f : Int) + (c : Int) = ((f + c : Nat) : Int) := by omega
    dsimp only
    rw [e1]
    refine ⟨_, rfl, _, rfl, _, rfl, .ref a, rfl, _, rfl, a, _, _, _, rfl, rfl, sa, at_of (j := f) rfl (iV_get (plL_get hf)), _, rfl, _, _, rfl, rfl, .ref a, rfl, _, rfl, _, _, rfl, rfl, a, _, _, _, rfl, rfl, sa, at_of (j := f + c - 1) (by omega) (iV_get (plL_get (by omega))), _, rfl, _, _, rfl, rfl, ?_⟩
    intro x dx nx ndx nex
    refine ⟨x, dx, _, _, _, _, _, rfl, upd_same, fun H1 h1 k1 => ⟨rfl, ?_⟩⟩
    exact q x dx H1 (Same.made nx ndx k1) h1
def sp_bands_of (K : PySem.W.Frag) (C : Addr) : Sp := fun vs H Q _ => ∃ v u t room ls y w pl, vs = [v, u, t] ∧ Dp K H v (shD room ls) ∧ Dp K H u (tI (stL ls y)) ∧ Dp K H t (tI (stL ls w)) ∧ Rise ls.length pl w ∧ ls.length ≤ 8 ∧
  ∀ p H' us rs, Same H H' → H p = none → H' p = some (.lst us) → RunsTo w ls.length 0 ls.length rs → Bands C H' y w us rs → Q (.ref p) H'
theorem ok_bands_of (T : Tx K mg) : FnOk P w K mg base CX0 4 T.f_bands_of T.fd_bands_of ["shelf", "stand", "wish"] (sp_bands_of K T.C_Band) := by
  have G_places_of := ok_places_of (P := P) (w := w) (base := base) T
  have G_band_from := ok_band_from (P := P) (w := w) (base := base) T
  refine T.F_bands_of.ok sc_bands_of (fun vs H Q E h => ?_) (fun cdv A outer s H vs Q E hr h => ?_)
  · obtain ⟨_, _, _, _, _, _, _, _, rfl, _⟩ := h
    rfl
  · obtain ⟨v, u, t, room, ls, y, w, pl, rfl, hv, hu, ht, ri, n8, q⟩ := h
    refine ⟨_, (pss_cons (ps_set (i := 3) sc_bands_of.nd rfl (.inl rfl) (pe_call (G_places_of.mono (by first | decide | omega)) hr (by rfl) T.g_places_of T.F_places_of.kp T.b_places_of .nil pass0 (pa_cons (pv 0) (pa_cons (pv 1) pa_nil))))
      (pss_cons (ps_set (i := 4) sc_bands_of.nd rfl (.inl rfl) (pe_call (G_places_of.mono (by first | decide | omega)) hr (by rfl) T.g_places_of T.F_places_of.kp T.b_places_of .nil pass0 (pa_cons (pv 0) (pa_cons (pv 2) pa_nil))))
      (pss_cons (ps_set (i := 5) sc_bands_of.nd rfl (.inl rfl) (pe_lst pa_nil))
      (pss_cons (ps_set (i := 6) sc_bands_of.nd rfl (.inl rfl) pe_int)
      (pss_cons (ps_while PassesOwn.never (pt_cmpR op_lt (pv 6) (pe_callB call_len_seq (by rfl) T.n_len (by decide +kernel) (pa_cons (pv 4) pa_nil)) (nomark _))
      (pss_cons (ps_set (i := 7) sc_bands_of.nd rfl (.inl rfl) (pe_call (G_band_from.mono (by first | decide | omega)) hr (by rfl) T.g_band_from T.F_band_from.kp T.b_band_from .nil pass0 (pa_cons (pv 3) (pa_cons (pv 4) (pa_cons (pv 6) pa_nil)))))
      (pss_cons (ps_expr (pe_bm PySem.F.plainAttrs_list PySem.F.slot_list_append PySem.F.type_list_append mt_append (pv 5) (pa_cons (pv 7) pa_nil)))
      (pss_one (ps_set (i := 6) sc_bands_of.nd rfl (.inl rfl) (pe_fld (pv 7) rfl))))))
      (pss_one (ps_ret (pv 5)))))))), ?_⟩
    refine ⟨v, rfl, u, rfl, v, u, room, ls, y, rfl, hv, hu, n8, fun a H1 s1 na ha => ?_⟩
    refine ⟨v, rfl, t, rfl, v, t, room, ls, w, rfl, Dpm s1 hv, Dpm s1 ht, n8, fun b H2 s2 nb hb => ?_⟩
    have ha := s2 _ _ ha
    refine ⟨Nat.zero_le _, fun l nl => ?_⟩
    have t3 := same_new (o := .lst []) nl
    have nlH : H l = none := (s1.trans s2).free nl
    refine ⟨fun m σ H' => ∃ k rs us y7, m = ls.length - k ∧ k ≤ ls.length ∧ Same H2 H' ∧ RunsTo w ls.length 0 k rs ∧ σ = [some v, some u, some t, some (.ref a), some (.ref b), some (.ref l), some (.int (k : Nat)), y7] ∧ H' l = some (.lst us) ∧ Bands T.C_Band H' y w us rs,
      ⟨_, 0, [], [], none, rfl, Nat.zero_le _, t3, .nil, rfl, upd_same, .nil⟩, ?_⟩
    rintro m σ H' ⟨k, rs, us, y7, rfl, hk, s3, runs, rfl, hl, bs⟩
    have ha3 := s3 _ _ ha
    have hb3 := s3 _ _ hb
    refine ⟨_, rfl, .ref b, rfl, b, _, rfl, .inl (.inl (.inl hb3)), _, _, rfl, rfl, _, rfl, ?_⟩
    rw [iV_len, plL_len]
    by_cases c : k < ls.length
    · rw [decide_eq_true (show (k : Int) < ((ls.length : Nat) : Int) by omega)]
      refine iteT ⟨fun σ' H4 => ∃ k' rs us y7, k < k' ∧ k' ≤ ls.length ∧ Same H2 H4 ∧ RunsTo w ls.length 0 k' rs ∧ σ' = [some v, some u, some t, some (.ref a), some (.ref b), some (.ref l), some (.int (k' : Nat)), y7] ∧ H4 l = some (.lst us) ∧ Bands T.C_Band H4 y w us rs, ?_, ?_⟩
      · rintro σ' H4 ⟨k', rs', us', y7', h1, h2, h3, h4, rfl, h5, h6⟩
        exact ⟨ls.length - k', by omega, k', rs', us', y7', rfl, h2, h3, h4, rfl, h5, h6⟩
      · have up := ri.mono
        have hfront : k = 0 ∨ w (k - 1) < w k := by
          by_cases e : rs = []
          · subst e
            cases runs
            exact .inl rfl
          · exact .inr (runs.front e c)
        obtain ⟨c1, c2, c3, c4⟩ := run_count up c hfront
        refine ⟨_, rfl, _, rfl, _, rfl, a, b, ls.length, y, w, k, rfl, .inl (.inl ha3), .inl (.inl hb3), up, c, hfront, n8, fun x dx H5 s5 hx => ?_⟩
        have hl5 := s5 _ _ hl
        have hul : us.length ≤ 8 := by
          have h1 := bs.len
          have h2 := runs.len
          omega
        refine ⟨.ref l, rfl, .inl ⟨rfl, _, .inl (.inl hl5)⟩, _, rfl, l, _, _, rfl, rfl, hl5, small1000 (by omega), ?_⟩
        have nxl : x ≠ l := ne_of hx hl5 (by intro z; cases z)
        have hx6 : upd H5 l (.lst (us ++ [.ref x])) x = some (.ins T.C_Band dx (bandF y w (k, k + (plL ls.length w).count (w k)))) := by
          rw [upd_ne nxl]
          exact hx
        refine ⟨_, rfl, x, T.C_Band, dx, _, _, rfl, hx6, T.cl_Band, T.na_Band_beyond, band_beyond _ _ _, ?_⟩
        refine ⟨k + (plL ls.length w).count (w k), rs ++ [(k, k + (plL ls.length w).count (w k))], us ++ [.ref x], _, by show k < k + ((List.range ls.length).map w).count (w k); omega, c2, fun b' o hb' => ?_, ?_, rfl, upd_same, ?_⟩
        · rw [upd_ne (ne_of_none hb' nl)]
          exact s5 _ _ (s3 _ _ hb')
        · exact runs.app (.cons (by show k < k + ((List.range ls.length).map w).count (w k); omega) c2 c3 c4 .nil)
        · refine Bands.app ((bs.same s5).mono fun a' dx' fs e => ?_) (.cons ⟨x, dx, rfl, hx6⟩ .nil)
          rw [upd_ne (ne_of e hl5 (by intro z; cases z))]
          exact e
    · rw [decide_eq_false (show ¬ (k : Int) < ((ls.length : Nat) : Int) by omega)]
      have ek : k = ls.length := by omega
      subst ek
      exact iteF ⟨.ref l, rfl, q l H' us rs ((s1.trans s2).trans s3) nlH hl runs bs⟩
/-! ### rows -/
abbrev RRow (K : PySem.W.Frag) (H : Hp) (Q : VK) (ls : List Int) (r : List Push) : Prop := ∀ p H' us, Same H H' → H p = none → H' p = some (.lst us) → DpAll K (Off p H') us (r.map (puD ls)) → Q (.ref p) H'
def sp_shove (K : PySem.W.Frag) (rt : Bool) : Sp := fun vs H Q _ => ∃ v room ls g b, vs = [v, .int (g : Nat), .int b] ∧ Dp K H v (shD room ls) ∧ RD K H Q (puD ls (rt, g, b))
theorem ok_raised (T : Tx K mg) : FnOk P w K mg base CX0 2 T.f_raised T.fd_raised ["shelf", "gap", "place"] (sp_shove K true) := by
  have G_gap_length := ok_gap_length (P := P) (w := w) (base := base) T
  refine T.F_raised.ok sc_raised (fun vs H Q E h => ?_) (fun cdv A outer s H vs Q E hr h => ?_)
  · obtain ⟨_, _, _, _, _, rfl, _⟩ := h
    rfl
  · obtain ⟨v, room, ls, g, b, rfl, hv, q⟩ := h
    refine ⟨_, (pss_one (ps_ret (pe_tup (pa_cons pe_str (pa_cons (pv 1) (pa_cons (pe_op op_add (pe_call (G_gap_length.mono (by first | decide | omega)) hr (by rfl) T.g_gap_length T.F_gap_length.kp T.b_gap_length .nil pass0 (pa_cons (pv 0) (pa_cons (pv 1) pa_nil))) (pv 2)) pa_nil)))))), ?_⟩
    refine ⟨_, rfl, v, rfl, _, rfl, v, room, ls, g, rfl, hv, fun H1 s1 => ?_⟩
    refine ⟨_, rfl, _, _, rfl, rfl, by show 3 ≤ sizeLine; decide, fun t nt => ?_⟩
    refine q _ _ (s1.trans (same_new nt)) (.tup (.inl (.inl upd_same)) (.cons (.str _) (.cons (.int _) (.cons ?_ .nil))))
    show Dp K _ (.int (pre ls g + b)) (.int (b + pre ls g))
    rw [Int.add_comm]
    exact .int _
theorem ok_lowered (T : Tx K mg) : FnOk P w K mg base CX0 2 T.f_lowered T.fd_lowered ["shelf", "gap", "place"] (sp_shove K false) := by
  have G_gap_length := ok_gap_length (P := P) (w := w) (base := base) T
  refine T.F_lowered.ok sc_lowered (fun vs H Q E h => ?_) (fun cdv A outer s H vs Q E hr h => ?_)
  · obtain ⟨_, _, _, _, _, rfl, _⟩ := h
    rfl
  · obtain ⟨v, room, ls, g, b, rfl, hv, q⟩ := h
    refine ⟨_, (pss_one (ps_ret (pe_tup (pa_cons pe_str (pa_cons (pv 1) (pa_cons (pe_op op_add (pe_call (G_gap_length.mono (by first | decide | omega)) hr (by rfl) T.g_gap_length T.F_gap_length.kp T.b_gap_length .nil pass0 (pa_cons (pv 0) (pa_cons (pv 1) pa_nil))) (pv 2)) pa_nil)))))), ?_⟩
    refine ⟨_, rfl, v, rfl, _, rfl, v, room, ls, g, rfl, hv, fun H1 s1 => ?_⟩
    refine ⟨_, rfl, _, _, rfl, rfl, by show 3 ≤ sizeLine; decide, fun t nt => ?_⟩
    refine q _ _ (s1.trans (same_new nt)) (.tup (.inl (.inl upd_same)) (.cons (.str _) (.cons (.int _) (.cons ?_ .nil))))
    show Dp K _ (.int (pre ls g + b)) (.int (b + pre ls g))
    rw [Int.add_comm]
    exact .int _
/-- a row that grows -/
theorem app_row {H H2 : Hp} {l : Addr} {us : List V} {ds : List PyData} {v : V} {d : PyData} (hl : H l = some (.lst us)) (al : DpAll K (Off l H) us ds) (s : Same H H2) (hd : Dp K H2 v d) (n : noL d = true) : DpAll K (Off l (upd H2 l (.lst (us ++ [v])))) (us ++ [v]) (ds ++ [d]) := by
  rw [show Off l (upd H2 l (.lst (us ++ [v]))) = Off l H2 from by
    funext b
    unfold Off
    split
    · rfl
    · rename_i z
      rw [upd_ne z]]
  exact dpAll_app (dpAll_mono (off_mono s) _ _ al) (.cons (dp_off (s _ _ hl) _ _ n hd) .nil)
theorem keep_row {H0 H2 : Hp} {l : Addr} {o : HO} (nl : H0 l = none) (s : Same H0 H2) : Same H0 (upd H2 l o) := fun b x e => by
  rw [upd_ne (ne_of_none e nl)]
  exact s b x e
def sp_row_alone (K : PySem.W.Frag) (C : Addr) : Sp := fun vs H Q _ => ∃ v u room ls y w r, vs = [v, u] ∧ Dp K H v (shD room ls) ∧ BandAt C H y w u r ∧ RRow K H Q ls (rowAlone y w r)
theorem ok_row_alone (T : Tx K mg) : FnOk P w K mg base CX0 3 T.f_row_alone T.fd_row_alone ["shelf", "band"] (sp_row_alone K T.C_Band) := by
  have G_raised := ok_raised (P := P) (w := w) (base := base) T
  have G_lowered := ok_lowered (P := P) (w := w) (base := base) T
  refine T.F_row_alone.ok sc_row_alone (fun vs H Q E h => ?_) (fun cdv A outer s H vs Q E hr h => ?_)
  · obtain ⟨_, _, _, _, _, _, _, rfl, _⟩ := h
    rfl
  · obtain ⟨v, u, room, ls, y, w, r, rfl, hv, ⟨x, dx, rfl, hx⟩, q⟩ := h
    refine ⟨_, (pss_cons (ps_set (i := 2) sc_row_alone.nd rfl (.inl rfl) (pe_lst pa_nil))
      (C8.pss_cut (ps_if (pt_val (pe_fld (pv 1) rfl)) (pss_one (ps_expr (pe_bm PySem.F.plainAttrs_list PySem.F.slot_list_append PySem.F.type_list_append mt_append (pv 2) (pa_cons (pe_call (G_raised.mono (by first | decide | omega)) hr (by rfl) T.g_raised T.F_raised.kp T.b_raised .nil pass0 (pa_cons (pv 0) (pa_cons (pe_fld (pv 1) rfl) (pa_cons (pe_fld (pv 1) rfl) pa_nil)))) pa_nil)))) pss_nil)
      (C8.pss_cut (ps_if (pt_val (pe_fld (pv 1) rfl)) (pss_one (ps_expr (pe_bm PySem.F.plainAttrs_list PySem.F.slot_list_append PySem.F.type_list_append mt_append (pv 2) (pa_cons (pe_call (G_lowered.mono (by first | decide | omega)) hr (by rfl) T.g_lowered T.F_lowered.kp T.b_lowered .nil pass0 (pa_cons (pv 0) (pa_cons (pe_fld (pv 1) rfl) (pa_cons (pe_fld (pv 1) rfl) pa_nil)))) pa_nil)))) pss_nil)
      (pss_one (ps_ret (pv 2)))))), ?_⟩
    refine ⟨Nat.zero_le _, fun l nl => ?_⟩
    have s1 := same_new (o := .lst []) nl
    refine ⟨fun σ' H' => Same H H' ∧ σ' = [some v, some (.ref x), some (.ref l)] ∧ ∃ us, H' l = some (.lst us) ∧ DpAll K (Off l H') us (((if y r.1 < w r.1 then [((true, r.1, w r.1) : Push)] else [])).map (puD ls)), ?_, ?_⟩
    · refine ⟨.ref x, rfl, x, T.C_Band, dx, _, _, rfl, s1 _ _ hx, T.cl_Band, T.na_Band_up, band_up _ _ _, _, rfl, ?_⟩
      show if decide (y r.1 < w r.1) = true then _ else _
      by_cases c : y r.1 < w r.1
      · rw [decide_eq_true c]
        refine iteT ⟨.ref l, rfl, .inl ⟨rfl, _, .inl (.inl upd_same)⟩, v, rfl, .ref x, rfl, x, T.C_Band, dx, _, _, rfl, s1 _ _ hx, T.cl_Band, T.na_Band_first, band_first _ _ _, .ref x, rfl, x, T.C_Band, dx, _, _, rfl, s1 _ _ hx, T.cl_Band, T.na_Band_place, band_place _ _ _, v, room, ls, r.1, w r.1, rfl, Dpm s1 hv, fun z H2 s2 hz => ?_⟩
        refine ⟨l, [], _, rfl, rfl, s2 _ _ upd_same, small1000 (by simp), keep_row nl (s1.trans s2), rfl, [] ++ [z], upd_same, ?_⟩
        rw [if_pos c]
        exact app_row (K := K) (ds := []) upd_same .nil s2 hz (noL_puD _ _)
      · rw [decide_eq_false c]
        refine iteF ⟨s1, rfl, [], upd_same, ?_⟩
        rw [if_neg c]
        exact .nil
    · rintro σ' H1 ⟨g1, rfl, us, hl, al⟩
      have hlen : us.length ≤ 1 := by
        have h1 := dpAll_len al
        rw [List.length_map] at h1
        rw [h1]
        split <;> simp
      refine ⟨fun σ' H' => Same H H' ∧ σ' = [some v, some (.ref x), some (.ref l)] ∧ ∃ us, H' l = some (.lst us) ∧ DpAll K (Off l H') us ((rowAlone y w r).map (puD ls)), ?_, ?_⟩
      · refine ⟨.ref x, rfl, x, T.C_Band, dx, _, _, rfl, g1 _ _ hx, T.cl_Band, T.na_Band_down, band_down _ _ _, _, rfl, ?_⟩
        show if decide (w r.1 < y (r.2 - 1)) = true then _ else _
        unfold rowAlone
        rw [List.map_append]
        by_cases c : w r.1 < y (r.2 - 1)
        · rw [decide_eq_true c]
          refine iteT ⟨.ref l, rfl, .inl ⟨rfl, _, .inl (.inl hl)⟩, v, rfl, .ref x, rfl, x, T.C_Band, dx, _, _, rfl, g1 _ _ hx, T.cl_Band, T.na_Band_beyond, band_beyond _ _ _, .ref x, rfl, x, T.C_Band, dx, _, _, rfl, g1 _ _ hx, T.cl_Band, T.na_Band_place, band_place _ _ _, v, room, ls, r.2, w r.1, rfl, Dpm g1 hv, fun z H2 s2 hz => ?_⟩
          refine ⟨l, us, _, rfl, rfl, s2 _ _ hl, small1000 (by omega), keep_row nl (g1.trans s2), rfl, us ++ [z], upd_same, ?_⟩
          rw [if_pos c]
          exact app_row hl al s2 hz (noL_puD _ _)
        · rw [decide_eq_false c]
          refine iteF ⟨g1, rfl, us, hl, ?_⟩
          rw [if_neg c]
          simpa using al
      · rintro σ' H2 ⟨g2, rfl, us, hl, al⟩
        exact ⟨.ref l, rfl, q l H2 us g2 nl hl al⟩
/-! one that serves -/
theorem cut_m1 (xs : List V) : cutV xs none (some (-1)) = xs.dropLast := by
  unfold cutV
  rw [HT.sIx_none, List.drop_zero, Nat.sub_zero, List.dropLast_eq_take]
  have e : HT.sIx xs.length xs.length (some (-1)) = xs.length - 1 := by
    show (if (-1 : Int) < 0 then (-1 + (xs.length : Int)).toNat else min (-1 : Int).toNat xs.length) = xs.length - 1
    rw [if_pos (by decide)]
    omega
  rw [e]
theorem cut_am (xs : List V) {a m : Nat} (h1 : a ≤ m) (h2 : m ≤ xs.length) : cutV xs (some (a : Int)) (some (m : Int)) = (xs.take m).drop a := by
  unfold cutV
  rw [HT.sIx_nat, HT.sIx_nat, Nat.min_eq_left h2, Nat.min_eq_left (Nat.le_trans h1 h2), List.drop_take]
theorem Bands.snoc {C : Addr} {H : Hp} {y w : Nat → Int} : ∀ {us : List V} {G : List (Nat × Nat)}, Bands C H y w us G → G ≠ [] → ∃ us0 u0 G0 l0, us = us0 ++ [u0] ∧ G = G0 ++ [l0] ∧ Bands C H y w us0 G0 ∧ BandAt C H y w u0 l0
  | _, _, .nil, h => absurd rfl h
  | _, _, .cons (v := v) (vs := vs) (r := r) (rs := rs) a h, _ => by
    by_cases e : rs = []
    · subst e
      cases h
      exact ⟨[], v, [], r, rfl, rfl, .nil, a⟩
    · obtain ⟨us0, u0, G0, l0, rfl, rfl, h1, h2⟩ := h.snoc e
      exact ⟨v :: us0, u0, r :: G0, l0, rfl, rfl, .cons a h1, h2⟩
theorem headD_snoc {G : List (Nat × Nat)} {l : Nat × Nat} {r : Nat × Nat} (h : (G ++ [l])[0]? = some r) : (G ++ [l]).headD (0, 0) = r := by
  cases G with
  | nil => simpa using h
  | cons a G => simpa using h
theorem lastD_snoc (G : List (Nat × Nat)) (l : Nat × Nat) : (G ++ [l]).getLastD (0, 0) = l := by
  rw [lastD_ne (by simp)]
  simp
def sp_by_last (K : PySem.W.Frag) (C : Addr) : Sp := fun vs H Q _ => ∃ v a room ls y w us G, vs = [v, .ref a] ∧ Dp K H v (shD room ls) ∧ SqL K H a us ∧ Bands C H y w us G ∧ G ≠ [] ∧ G.length ≤ 8 ∧ RRow K H Q ls (rowLast w G (G.headD (0, 0)) (G.getLastD (0, 0)))
theorem ok_row_served_by_last (T : Tx K mg) : FnOk P w K mg base CX0 3 T.f_row_served_by_last T.fd_row_served_by_last ["shelf", "bands"] (sp_by_last K T.C_Band) := by
  have G_raised := ok_raised (P := P) (w := w) (base := base) T
  have G_lowered := ok_lowered (P := P) (w := w) (base := base) T
  refine T.F_row_served_by_last.ok sc_row_served_by_last (fun vs H Q E h => ?_) (fun cdv A outer s H vs Q E hr h => ?_)
  · obtain ⟨_, _, _, _, _, _, _, _, rfl, _⟩ := h
    rfl
  · obtain ⟨v, a, room, ls, y, w, us, G, rfl, hv, sa, bs, hG, g8, q⟩ := h
    obtain ⟨us0, u0, G0, l0, rfl, rfl, bs0, ⟨xl, dl, rfl, hxl⟩⟩ := bs.snoc hG
    have hl0 : 0 < (us0 ++ [V.ref xl]).length := by simp
    obtain ⟨r0, er0, ⟨xf, df, exf, hxf⟩⟩ := bs.get (List.getElem?_eq_getElem hl0)
    have exf' : (us0 ++ [V.ref xl])[0]? = some (.ref xf) := by rw [List.getElem?_eq_getElem hl0, exf]
    rw [headD_snoc er0, lastD_snoc] at q
    have lb := bs0.len
    have l8 : G0.length ≤ 7 := by simpa using g8
    refine ⟨_, (pss_cons (ps_set (i := 2) sc_row_served_by_last.nd rfl (.inl rfl) (pe_lst (pa_cons (pe_call (G_raised.mono (by first | decide | omega)) hr (by rfl) T.g_raised T.F_raised.kp T.b_raised .nil pass0 (pa_cons (pv 0) (pa_cons (pe_fld (pe_ix ix_list (pv 1) pe_int (fun _ _ => rfl)) rfl) (pa_cons (pe_fld (pe_ix ix_list (pv 1) (pe_un un_neg pe_int) (fun _ _ => rfl)) rfl) pa_nil)))) pa_nil)))
      (pss_cons (ps_for PassesOwn.never rfl (pi_list (pe_slice sl_list (pv 1) po_none (po_some (pe_un un_neg pe_int)))) (pg_name (i := 3) sc_row_served_by_last.nd rfl (.inl rfl))
      (pss_one (ps_expr (pe_bm PySem.F.plainAttrs_list PySem.F.slot_list_append PySem.F.type_list_append mt_append (pv 2) (pa_cons (pe_call (G_lowered.mono (by first | decide | omega)) hr (by rfl) T.g_lowered T.F_lowered.kp T.b_lowered .nil pass0 (pa_cons (pv 0) (pa_cons (pe_fld (pv 3) rfl) (pa_cons (pe_fld (pv 3) rfl) pa_nil)))) pa_nil)))))
      (pss_one (ps_ret (pv 2))))), ?_⟩
    refine ⟨v, rfl, .ref a, rfl, a, _, 0, _, rfl, rfl, sa, atI_nat (j := 0) exf', xf, T.C_Band, df, _, _, rfl, hxf, T.cl_Band, T.na_Band_first, band_first _ _ _, ?_⟩
    refine ⟨.ref a, rfl, 1, rfl, a, _, -1, _, rfl, rfl, sa, atI_last _ _, xl, T.C_Band, dl, _, _, rfl, hxl, T.cl_Band, T.na_Band_place, band_place _ _ _, ?_⟩
    refine ⟨v, room, ls, r0.1, w l0.1, rfl, hv, fun z H1 s1 hz => ?_⟩
    refine ⟨by show 1 ≤ sizeLine; decide, fun l nl => ?_⟩
    have t2 := same_new (o := .lst [z]) nl
    have s2 := s1.trans t2
    have nlH : H l = none := s1.free nl
    have hl2 : upd H1 l (.lst [z]) l = some (.lst [z]) := upd_same
    have al2 : DpAll K (Off l (upd H1 l (.lst [z]))) [z] [puD ls (true, r0.1, w l0.1)] := .cons (dp_off hl2 _ _ (noL_puD _ _) (Dpm t2 hz)) .nil
    generalize upd H1 l (.lst [z]) = H2 at *
    refine ⟨.ref a, rfl, 1, rfl, _, rfl, a, _, rfl, s2.seq sa, fun p3 np3 => ?_⟩
    rw [cut_m1, List.dropLast_concat]
    have t3 := same_new (o := .lst us0) np3
    have hp3 : upd H2 p3 (.lst us0) p3 = some (.lst us0) := upd_same
    have hl3 := t3 _ _ hl2
    have al3 := dpAll_mono (off_mono (k := l) t3) _ _ al2
    have s3 := s2.trans t3
    have npl : p3 ≠ l := (ne_of_none hl2 np3).symm
    generalize upd H2 p3 (.lst us0) = H3 at *
    refine ⟨p3, rfl, ⟨us0, .inl (.inl hp3)⟩, ?_⟩
    refine for_list (K := K) (a := p3) (xs := us0) (fun i σ H' => Same H H' ∧ H' p3 = some (.lst us0) ∧ ∃ us' y3, σ = [some v, some (.ref a), some (.ref l), y3] ∧ H' l = some (.lst us') ∧ us'.length = i + 1 ∧ DpAll K (Off l H') us' (puD ls (true, r0.1, w l0.1) :: ((G0.take i).map fun r => puD ls (false, r.2, w r.1))))
      ⟨s3, hp3, [z], _, rfl, hl3, rfl, al3⟩ (fun i σ H' _ p => .inl (.inl p.2.1)) (fun i x σ H4 hx p => ?_) (fun σ H4 p => ?_)
    · obtain ⟨s4, hp4, us', y3, rfl, hl4, hul, al4⟩ := p
      have hi : i < us0.length := (List.getElem?_eq_some_iff.mp hx).1
      obtain ⟨r, er, ⟨xb, db, rfl, hxb⟩⟩ := bs0.get hx
      have hxb4 := s4 _ _ hxb
      refine ⟨.ref l, rfl, .inl ⟨rfl, _, .inl (.inl hl4)⟩, v, rfl, _, rfl, xb, T.C_Band, db, _, _, rfl, hxb4, T.cl_Band, T.na_Band_beyond, band_beyond _ _ _, _, rfl, xb, T.C_Band, db, _, _, rfl, hxb4, T.cl_Band, T.na_Band_place, band_place _ _ _, v, room, ls, r.2, w r.1, rfl, Dpm s4 hv, fun z5 H5 s5 hz5 => ?_⟩
      refine ⟨l, us', _, rfl, rfl, s5 _ _ hl4, small1000 (by omega), keep_row nlH (s4.trans s5), ?_, us' ++ [z5], _, rfl, upd_same, by rw [List.length_append, hul]; rfl, ?_⟩
      · rw [upd_ne npl]
        exact s5 _ _ hp4
      · rw [List.take_add_one, er, List.map_append]
        exact app_row hl4 al4 s5 hz5 (noL_puD _ _)
    · obtain ⟨s4, hp4, us', y3, rfl, hl4, hul, al4⟩ := p
      refine ⟨.ref l, rfl, q l H4 us' s4 nlH hl4 ?_⟩
      rw [lb, List.take_length] at al4
      unfold rowLast
      rw [List.dropLast_concat, List.map_cons, List.map_map]
      exact al4
def sp_by_first (K : PySem.W.Frag) (C : Addr) : Sp := fun vs H Q _ => ∃ v a room ls y w us G, vs = [v, .ref a] ∧ Dp K H v (shD room ls) ∧ SqL K H a us ∧ Bands C H y w us G ∧ G ≠ [] ∧ G.length ≤ 8 ∧ RRow K H Q ls (rowFirst y w G (G.headD (0, 0)) (G.getLastD (0, 0)))
theorem ok_row_served_by_first (T : Tx K mg) : FnOk P w K mg base CX0 3 T.f_row_served_by_first T.fd_row_served_by_first ["shelf", "bands"] (sp_by_first K T.C_Band) := by
  have G_raised := ok_raised (P := P) (w := w) (base := base) T
  have G_lowered := ok_lowered (P := P) (w := w) (base := base) T
  refine T.F_row_served_by_first.ok sc_row_served_by_first (fun vs H Q E h => ?_) (fun cdv A outer s H vs Q E hr h => ?_)
  · obtain ⟨_, _, _, _, _, _, _, _, rfl, _⟩ := h
    rfl
  · obtain ⟨v, a, room, ls, y, w, us, G, rfl, hv, sa, bs, hG, g8, q⟩ := h
    obtain ⟨us0, u0, G0, l0, eus, eG, bs0, ⟨xl, dl, rfl, hxl⟩⟩ := bs.snoc hG
    have elast : G.getLastD (0, 0) = l0 := by rw [eG]; exact lastD_snoc _ _
    have hlst : atI us (-1) = some (.ref xl) := by rw [eus]; exact atI_last _ _
    cases bs with
    | nil => exact absurd rfl hG
    | @cons vf us1 rf G1 bf bs1 =>
      obtain ⟨xf, df, rfl, hxf⟩ := bf
      rw [elast] at q
      simp only [List.headD_cons] at q
      have lb := bs1.len
      have l8 : G1.length ≤ 7 := by simpa using g8
      clear eus eG elast bs0
      refine ⟨_, (pss_cons (ps_set (i := 2) sc_row_served_by_first.nd rfl (.inl rfl) (pe_ix ix_list (pv 1) pe_int (fun _ _ => rfl)))
      (pss_cons (ps_set (i := 3) sc_row_served_by_first.nd rfl (.inl rfl) (pe_lst (pa_cons (pe_call (G_lowered.mono (by first | decide | omega)) hr (by rfl) T.g_lowered T.F_lowered.kp T.b_lowered .nil pass0 (pa_cons (pv 0) (pa_cons (pe_fld (pe_ix ix_list (pv 1) (pe_un un_neg pe_int) (fun _ _ => rfl)) rfl) (pa_cons (pe_fld (pv 2) rfl) pa_nil)))) pa_nil)))
      (C8.pss_cut (ps_if (pt_val (pe_fld (pv 2) rfl)) (pss_one (ps_expr (pe_bm PySem.F.plainAttrs_list PySem.F.slot_list_append PySem.F.type_list_append mt_append (pv 3) (pa_cons (pe_call (G_raised.mono (by first | decide | omega)) hr (by rfl) T.g_raised T.F_raised.kp T.b_raised .nil pass0 (pa_cons (pv 0) (pa_cons (pe_fld (pv 2) rfl) (pa_cons (pe_fld (pv 2) rfl) pa_nil)))) pa_nil)))) pss_nil)
      (pss_cons (ps_for PassesOwn.never rfl (pi_list (pe_slice sl_list (pv 1) (po_some pe_int) po_none)) (pg_name (i := 4) sc_row_served_by_first.nd rfl (.inl rfl))
      (pss_one (ps_expr (pe_bm PySem.F.plainAttrs_list PySem.F.slot_list_append PySem.F.type_list_append mt_append (pv 3) (pa_cons (pe_call (G_raised.mono (by first | decide | omega)) hr (by rfl) T.g_raised T.F_raised.kp T.b_raised .nil pass0 (pa_cons (pv 0) (pa_cons (pe_fld (pv 4) rfl) (pa_cons (pe_fld (pv 4) rfl) pa_nil)))) pa_nil)))))
      (pss_one (ps_ret (pv 3))))))), ?_⟩
      refine ⟨.ref a, rfl, a, _, 0, _, rfl, rfl, sa, atI_nat (j := 0) rfl, ?_⟩
      refine ⟨v, rfl, .ref a, rfl, 1, rfl, a, _, -1, _, rfl, rfl, sa, hlst, xl, T.C_Band, dl, _, _, rfl, hxl, T.cl_Band, T.na_Band_beyond, band_beyond _ _ _, _, rfl, xf, T.C_Band, df, _, _, rfl, hxf, T.cl_Band, T.na_Band_place, band_place _ _ _, v, room, ls, l0.2, w rf.1, rfl, hv, fun z H1 s1 hz => ?_⟩
      refine ⟨by show 1 ≤ sizeLine; decide, fun l nl => ?_⟩
      have t2 := same_new (o := .lst [z]) nl
      have s2 := s1.trans t2
      have nlH : H l = none := s1.free nl
      have hl2 : upd H1 l (.lst [z]) l = some (.lst [z]) := upd_same
      have al2 : DpAll K (Off l (upd H1 l (.lst [z]))) [z] [puD ls (false, l0.2, w rf.1)] := .cons (dp_off hl2 _ _ (noL_puD _ _) (Dpm t2 hz)) .nil
      generalize upd H1 l (.lst [z]) = H2 at *
      refine ⟨fun σ' H' => Same H H' ∧ σ' = [some v, some (.ref a), some (.ref xf), some (.ref l), none] ∧ ∃ us', H' l = some (.lst us') ∧ us'.length ≤ 2 ∧ DpAll K (Off l H') us' (puD ls (false, l0.2, w rf.1) :: ((if y rf.1 < w rf.1 then [((true, rf.1, w rf.1) : Push)] else [])).map (puD ls)), ?_, ?_⟩
      · refine ⟨.ref xf, rfl, xf, T.C_Band, df, _, _, rfl, s2 _ _ hxf, T.cl_Band, T.na_Band_up, band_up _ _ _, _, rfl, ?_⟩
        show if decide (y rf.1 < w rf.1) = true then _ else _
        by_cases c : y rf.1 < w rf.1
        · rw [decide_eq_true c]
          refine iteT ⟨.ref l, rfl, .inl ⟨rfl, _, .inl (.inl hl2)⟩, v, rfl, _, rfl, xf, T.C_Band, df, _, _, rfl, s2 _ _ hxf, T.cl_Band, T.na_Band_first, band_first _ _ _, _, rfl, xf, T.C_Band, df, _, _, rfl, s2 _ _ hxf, T.cl_Band, T.na_Band_place, band_place _ _ _, v, room, ls, rf.1, w rf.1, rfl, Dpm s2 hv, fun z3 H3 s3 hz3 => ?_⟩
          refine ⟨l, [z], _, rfl, rfl, s3 _ _ hl2, small1000 (by simp), keep_row nlH (s2.trans s3), rfl, [z] ++ [z3], upd_same, by simp, ?_⟩
          rw [if_pos c]
          exact app_row hl2 al2 s3 hz3 (noL_puD _ _)
        · rw [decide_eq_false c]
          refine iteF ⟨s2, rfl, [z], hl2, by simp, ?_⟩
          rw [if_neg c]
          exact al2
      · rintro σ' H3 ⟨s3, rfl, us', hl3, hul3, al3⟩
        refine ⟨.ref a, rfl, 1, rfl, ?_⟩
        unfold tNoPart
        refine ⟨a, _, rfl, s3.seq sa, fun p4 np4 => ?_⟩
        rw [show (some (1 : Int)) = some ((1 : Nat) : Int) from rfl, cut_from, List.drop_succ_cons, List.drop_zero]
        have t4 := same_new (o := .lst us1) np4
        have hp4 : upd H3 p4 (.lst us1) p4 = some (.lst us1) := upd_same
        have hl4 := t4 _ _ hl3
        have al4 := dpAll_mono (off_mono (k := l) t4) _ _ al3
        have s4 := s3.trans t4
        have npl : p4 ≠ l := (ne_of_none hl3 np4).symm
        generalize upd H3 p4 (.lst us1) = H4 at *
        refine ⟨p4, rfl, ⟨us1, .inl (.inl hp4)⟩, ?_⟩
        refine for_list (K := K) (a := p4) (xs := us1) (fun i σ H' => Same H H' ∧ H' p4 = some (.lst us1) ∧ ∃ us' y3, σ = [some v, some (.ref a), some (.ref xf), some (.ref l), y3] ∧ H' l = some (.lst us') ∧ us'.length ≤ i + 2 ∧ DpAll K (Off l H') us' (puD ls (false, l0.2, w rf.1) :: ((if y rf.1 < w rf.1 then [((true, rf.1, w rf.1) : Push)] else [])).map (puD ls) ++ ((G1.take i).map fun r => puD ls (true, r.1, w r.1))))
          ⟨s4, hp4, us', _, rfl, hl4, by omega, by simpa using al4⟩ (fun i σ H' _ p => .inl (.inl p.2.1)) (fun i x σ H5 hx p => ?_) (fun σ H5 p => ?_)
        · obtain ⟨s5, hp5, us', y3, rfl, hl5, hul, al5⟩ := p
          have hi : i < us1.length := (List.getElem?_eq_some_iff.mp hx).1
          obtain ⟨r, er, ⟨xb, db, rfl, hxb⟩⟩ := bs1.get hx
          have hxb5 := s5 _ _ hxb
          refine ⟨.ref l, rfl, .inl ⟨rfl, _, .inl (.inl hl5)⟩, v, rfl, _, rfl, xb, T.C_Band, db, _, _, rfl, hxb5, T.cl_Band, T.na_Band_first, band_first _ _ _, _, rfl, xb, T.C_Band, db, _, _, rfl, hxb5, T.cl_Band, T.na_Band_place, band_place _ _ _, v, room, ls, r.1, w r.1, rfl, Dpm s5 hv, fun z6 H6 s6 hz6 => ?_⟩
          refine ⟨l, us', _, rfl, rfl, s6 _ _ hl5, small1000 (by omega), keep_row nlH (s5.trans s6), ?_, us' ++ [z6], _, rfl, upd_same, by rw [List.length_append]; simp; omega, ?_⟩
          · rw [upd_ne npl]
            exact s6 _ _ hp5
          · rw [List.take_add_one, er, List.map_append, ← List.append_assoc]
            exact app_row hl5 al5 s6 hz6 (noL_puD _ _)
        · obtain ⟨s5, hp5, us', y3, rfl, hl5, hul, al5⟩ := p
          refine ⟨.ref l, rfl, q l H5 us' s5 nlH hl5 ?_⟩
          rw [lb, List.take_length] at al5
          unfold rowFirst
          rw [List.map_cons, List.map_append, List.tail_cons, List.map_map]
          exact al5
/-! ### together -/
def sp_together (K : PySem.W.Frag) (C : Addr) : Sp := fun vs H Q _ => ∃ v a room ls y w us G, vs = [v, .ref a] ∧ Dp K H v (shD room ls) ∧ SqL K H a us ∧ Bands C H y w us G ∧ G ≠ [] ∧ G.length ≤ 8 ∧ RRow K H Q ls (rowT y w G)
theorem ok_row_together (T : Tx K mg) : FnOk P w K mg base CX0 4 T.f_row_together T.fd_row_together ["shelf", "bands"] (sp_together K T.C_Band) := by
  have G_row_alone := ok_row_alone (P := P) (w := w) (base := base) T
  have G_row_served_by_last := ok_row_served_by_last (P := P) (w := w) (base := base) T
  have G_row_served_by_first := ok_row_served_by_first (P := P) (w := w) (base := base) T
  refine T.F_row_together.ok sc_row_together (fun vs H Q E h => ?_) (fun cdv A outer s H vs Q E hr h => ?_)
  · obtain ⟨_, _, _, _, _, _, _, _, rfl, _⟩ := h
    rfl
  · obtain ⟨v, a, room, ls, y, w, us, G, rfl, hv, sa, bs, hG, g8, q⟩ := h
    have lb := bs.len
    refine ⟨_, (pss_cons (ps_if (pt_cmpR op_eq (pe_callB call_len_seq (by rfl) T.n_len (by decide +kernel) (pa_cons (pv 1) pa_nil)) pe_int (nomark _)) (pss_one (ps_ret (pe_call (G_row_alone.mono (by first | decide | omega)) hr (by rfl) T.g_row_alone T.F_row_alone.kp T.b_row_alone .nil pass0 (pa_cons (pv 0) (pa_cons (pe_ix ix_list (pv 1) pe_int (fun _ _ => rfl)) pa_nil))))) pss_nil)
      (pss_cons (ps_if (pt_not (pt_val (pe_fld (pe_ix ix_list (pv 1) (pe_un un_neg pe_int) (fun _ _ => rfl)) rfl))) (pss_one (ps_ret (pe_call (G_row_served_by_last.mono (by first | decide | omega)) hr (by rfl) T.g_row_served_by_last T.F_row_served_by_last.kp T.b_row_served_by_last .nil pass0 (pa_cons (pv 0) (pa_cons (pv 1) pa_nil))))) pss_nil)
      (pss_one (ps_ret (pe_call (G_row_served_by_first.mono (by first | decide | omega)) hr (by rfl) T.g_row_served_by_first T.F_row_served_by_first.kp T.b_row_served_by_first .nil pass0 (pa_cons (pv 0) (pa_cons (pv 1) pa_nil))))))), ?_⟩
    refine ⟨.ref a, rfl, a, us, rfl, .inl sa, rfl, _, rfl, ?_⟩
    unfold rowT at q
    by_cases c : G.length = 1
    · rw [if_pos c] at q
      rw [decide_eq_true (show V.int (us.length : Int) = V.int 1 by rw [lb, c]; rfl)]
      match G, c, bs, q with
      | [r], _, .cons b .nil, q => exact iteT ⟨v, rfl, .ref a, rfl, a, _, 0, _, rfl, rfl, sa, atI_nat (j := 0) rfl, v, _, room, ls, y, w, r, rfl, hv, b, q⟩
    · rw [if_neg c] at q
      rw [decide_eq_false (show ¬ V.int (us.length : Int) = V.int 1 from fun z => c (by have := V.int.inj z; omega))]
      obtain ⟨us0, u0, G0, l0, eus, eG, bs0, ⟨xl, dl, rfl, hxl⟩⟩ := bs.snoc hG
      have elast : G.getLastD (0, 0) = l0 := by rw [eG]; exact lastD_snoc _ _
      have hlst : atI us (-1) = some (.ref xl) := by rw [eus]; exact atI_last _ _
      refine iteF ⟨.ref a, rfl, 1, rfl, a, _, -1, _, rfl, rfl, sa, hlst, xl, T.C_Band, dl, _, _, rfl, hxl, T.cl_Band, T.na_Band_down, band_down _ _ _, _, rfl, ?_⟩
      show if (!decide (w l0.1 < y (l0.2 - 1))) = true then _ else _
      by_cases c2 : w l0.1 < y (l0.2 - 1)
      · rw [elast, if_neg (by simpa using c2), ← elast] at q
        rw [decide_eq_true c2]
        exact iteF ⟨v, rfl, .ref a, rfl, v, a, room, ls, y, w, us, G, rfl, hv, sa, bs, hG, g8, q⟩
      · rw [elast, if_pos (by simpa using c2), ← elast] at q
        rw [decide_eq_false c2]
        exact iteT ⟨v, rfl, .ref a, rfl, v, a, room, ls, y, w, us, G, rfl, hv, sa, bs, hG, g8, q⟩
end PS

namespace PS
open PySem PySem.Spec PyProof.Rows L2
variable {P : Program} {w : World} {K : PySem.W.Frag} {mg : Str → Option Value} {base : Heap}
/-! ### a row of the fewest pushes -/
def Fresh (H : Hp) (v : V) : Prop := ∃ c, v = .ref c ∧ H c = none
def sp_shortest (K : PySem.W.Frag) : Sp := fun vs H Q _ => ∃ v u t room ls y w, vs = [v, u, t] ∧ Dp K H v (shD room ls) ∧ ls.length ≤ 8 ∧ Dp K H u (tI (stL ls y)) ∧ Dp K H t (tI (stL ls w)) ∧ Rise ls.length (room - ls.sum) y ∧ Rise ls.length (room - ls.sum) w ∧
  ∀ c H' r us, Same H H' → H c = none → H' c = some (.lst us) → DpAll K (Off c H') us (r.map (puD ls)) → Best ls.length (room - ls.sum) y w r → Q (.ref c) H'
/-- a list of pushes, untouched by what is made elsewhere -/
def RowC (K : PySem.W.Frag) (H : Hp) (ls : List Int) (v : V) (r : List Push) : Prop := ∃ c us, v = .ref c ∧ H c = some (.lst us) ∧ DpAll K (Off c H) us (r.map (puD ls))
theorem noLs_pu (ls : List Int) (r : List Push) : noLs (r.map (puD ls)) = true := noLs_all _ fun d hd => by
  obtain ⟨p, _, rfl⟩ := List.mem_map.mp hd
  exact noL_puD ls p
theorem RowC.keep {H H' : Hp} {ls : List Int} {v : V} {r : List Push} (h : RowC K H ls v r) (s : Same H H') : RowC K H' ls v r := by
  obtain ⟨c, us, rfl, h1, h2⟩ := h
  exact ⟨c, us, rfl, s _ _ h1, dpAll_mono (off_mono s) _ _ h2⟩
theorem RowC.put {H : Hp} {ls : List Int} {v : V} {r : List Push} {l : Addr} {xs zs : List V} (h : RowC K H ls v r) (hl : H l = some (.lst xs)) (nv : v ≠ .ref l) : RowC K (upd H l (.lst zs)) ls v r := by
  obtain ⟨c, us, rfl, h1, h2⟩ := h
  have ncl : c ≠ l := fun z => nv (by rw [z])
  have h3 : upd H l (.lst zs) c = some (.lst us) := by rw [upd_ne ncl]; exact h1
  refine ⟨c, us, rfl, h3, dpAll_off h3 _ _ (noLs_pu ls r) ?_⟩
  have h4 := dpAll_off hl _ _ (noLs_pu ls r) (dpAll_mono (off_same c H) _ _ h2)
  refine dpAll_mono (fun b o e => ?_) _ _ h4
  unfold Off at e
  split at e
  · cases e
  · rename_i nb
    rw [upd_ne nb]
    exact e
theorem RowC.dp {H : Hp} {ls : List Int} {v : V} {r : List Push} (h : RowC K H ls v r) : Dp K H v (roD ls r) := by
  obtain ⟨c, us, rfl, h1, h2⟩ := h
  exact .lst (.inl (.inl h1)) (dpAll_mono (off_same c H) _ _ h2)
def wayL (y w : Nat → Int) (rs : List (Nat × Nat)) (fR : Nat → List Push) (m a : Nat) : List Push := fR a ++ rowT y w ((rs.take (m + 1)).drop a)
theorem ok_shortest_row (T : Tx K mg) : FnOk P w K mg base CX0 5 T.f_shortest_row T.fd_shortest_row ["shelf", "stand", "wish"] (sp_shortest K) := by
  have G_bands_of := ok_bands_of (P := P) (w := w) (base := base) T
  have G_row_together := ok_row_together (P := P) (w := w) (base := base) T
  refine T.F_shortest_row.ok sc_shortest_row (fun vs H Q E h => ?_) (fun cdv A outer s H vs Q E hr h => ?_)
  · obtain ⟨_, _, _, _, _, _, _, rfl, _⟩ := h
    rfl
  · obtain ⟨v, u, t, room, ls, y, w, rfl, hv, n8, hu, ht, riy, riw, q⟩ := h
    refine ⟨_, (pss_cons (ps_set (i := 3) sc_shortest_row.nd rfl (.inr rfl) (pe_call (G_bands_of.mono (by first | decide | omega)) hr (by rfl) T.g_bands_of T.F_bands_of.kp T.b_bands_of .nil pass0 (pa_cons (pv 0) (pa_cons (pv 1) (pa_cons (pv 2) pa_nil)))))
      (pss_cons (ps_set (i := 4) sc_shortest_row.nd rfl (.inr rfl) (pe_lst (pa_cons (pe_lst pa_nil) pa_nil)))
      (pss_cons (ps_for PassesOwn.never rfl (pi_range2 (by rfl) T.n_range (pa_cons pe_int (pa_cons (pe_op op_add (pe_callB call_len_seq (by rfl) T.n_len (by decide +kernel) (pa_cons (pv 3) pa_nil)) pe_int) pa_nil))) (pg_name (i := 5) sc_shortest_row.nd rfl (.inr rfl))
      (pss_cons (ps_setLc (i := 6) (own := [("ahead", 7)]) (g := gName 7) (tt := tYes) rfl sc_shortest_row.nd rfl rfl (sw_true rfl rfl rfl (by decide +kernel)) (pi_range1 (by rfl) T.n_range (pa_cons (pv 5) pa_nil)) (blkOk_by (own := [("ahead", 7)]) (N := ["shelf", "stand", "wish", "bands", "rows", "many", "ways", "ahead"]) (sc := defScope s_shortest_row) (by decide +kernel)) (fun _ _ _ _ _ => (pg_name (i := 7) sc_shortest_row.nd rfl (.inl rfl))) (fun _ _ _ _ _ => pts_nil) (fun _ _ _ _ _ => (pe_op (show OpR _ _ (rCatL K) from op_catL) (pe_ix (show IxR _ (rIxL K) from ix_list) (pv 4) (pv 7) (fun _ _ => rfl)) (pe_call (G_row_together.mono (by first | decide | omega)) hr (by rfl) T.g_row_together T.F_row_together.kp T.b_row_together .nil pass0 (pa_cons (pv 0) (pa_cons (pe_slice (show SlR _ (rSlL K) from sl_list) (pv 3) (po_some (pv 7)) (po_some (pv 5))) pa_nil))))))
      (pss_one (ps_expr (pe_bm PySem.F.plainAttrs_list PySem.F.slot_list_append PySem.F.type_list_append mt_append (pv 4) (pa_cons (pe_minLen rfl (by rfl) T.n_min (by rfl) T.n_len (pa_cons (pv 6) pa_nil)) pa_nil))))))
      (pss_one (ps_ret (pe_ix ix_list (pv 4) (pe_un un_neg pe_int) (fun _ _ => rfl))))))), ?_⟩
    refine ⟨v, rfl, u, rfl, t, rfl, v, u, t, room, ls, y, w, _, rfl, hv, hu, ht, riw, n8, fun pb H1 ub rs s1 npb hpb runs bs => ?_⟩
    have lb := bs.len
    have lr := runs.len
    have r8 : rs.length ≤ 8 := by omega
    refine ⟨Nat.zero_le _, fun e0 ne0 => ⟨by show 1 ≤ sizeLine; decide, fun l nl => ?_⟩⟩
    have t2 := same_new (o := .lst []) ne0
    have nle : e0 ≠ l := fun z => by
      rw [z, upd_same] at nl
      cases nl
    have nl1 : H1 l = none := by rw [upd_ne nle.symm] at nl; exact nl
    have t3 := same_new (o := .lst [.ref e0]) nl
    have hl3 : upd (upd H1 e0 (.lst [])) l (.lst [.ref e0]) l = some (.lst [.ref e0]) := upd_same
    have he3 : upd (upd H1 e0 (.lst [])) l (.lst [.ref e0]) e0 = some (.lst []) := t3 _ _ upd_same
    have g3 := t2.trans t3
    generalize upd (upd H1 e0 (.lst [])) l (.lst [.ref e0]) = H3 at *
    refine ⟨.ref pb, rfl, pb, ub, rfl, .inl (.inl (.inl (g3 _ _ hpb))), _, _, rfl, rfl, _, _, rfl, ⟨by omega, by omega, by omega, by rw [lb]; omega⟩, ?_⟩
    rw [lb]
    refine for_range (lo := 1) (n := ((rs.length : Int) + 1 - 1).toNat) (fun i σ H' => Same H1 H' ∧ ∃ (vs : List V) (fR : Nat → List Push) (y5 y6 : Option V), σ = [some v, some u, some t, some (.ref pb), some (.ref l), y5, y6, none] ∧ H' l = some (.lst vs) ∧ vs.length = i + 1 ∧ (∀ m, m ≤ i → Told ls.length (room - ls.sum) y w rs m (fR m)) ∧ (∀ m x, vs[m]? = some x → RowC K H' ls x (fR m) ∧ x ≠ .ref l ∧ Fresh H x))
      ⟨g3, [.ref e0], fun _ => [], none, none, rfl, hl3, rfl, fun m hm => ?_, fun m x hx => ?_⟩ (fun i σ H4 hi p => ?_) (fun σ H4 p => ?_)
    · have : m = 0 := by omega
      subst this
      exact told_nil
    · have hm : m = 0 := by
        have := (List.getElem?_eq_some_iff.mp hx).1
        simpa using this
      subst hm
      have : x = .ref e0 := by simpa using hx.symm
      subst this
      exact ⟨⟨e0, [], rfl, he3, .nil⟩, fun z => nle (by cases z; rfl), e0, rfl, s1.free ne0⟩
    · obtain ⟨s4, vs, fR, y5, y6, rfl, hl4, hvl, told, rows⟩ := p
      have hir : i < rs.length := by omega
      have hpb4 := s4 _ _ hpb
      have bs4 := bs.same s4
      -- the ways
      refine ⟨_, rfl, _, rfl, by omega, by omega, fun D nD => ?_⟩
      have nDl : l ≠ D := ne_of_none hl4 nD
      refine lc_range (lo := 0) (n := (1 + (i : Int)).toNat) (fun a H' => Same H4 H' ∧ ∃ us, H' D = some (.lst us) ∧ us.length = a ∧ ∀ m x, us[m]? = some x → RowC K H' ls x (wayL y w rs fR i m) ∧ x ≠ .ref l ∧ x ≠ .ref D ∧ Fresh H x)
        ⟨same_new nD, [], upd_same, rfl, fun m x hx => by simp at hx⟩ (fun a H5 ha p => ?_) (fun H5 p => ?_)
      · obtain ⟨s5, us, hD, hul, hus⟩ := p
        have ha' : a ≤ i := by omega
        have hva : vs[a]? = some vs[a] := List.getElem?_eq_getElem (by omega)
        obtain ⟨rowA, nA, frA⟩ := rows a _ hva
        obtain ⟨c1, us1, ec1, hc1, al1⟩ := rowA
        have hl5 := s5 _ _ hl4
        refine ⟨rfl, .ref l, rfl, _, rfl, l, _, _, _, rfl, rfl, .inl (.inl hl5), at_of (j := a) (by omega) hva, ?_⟩
        rw [ec1]
        refine ⟨v, rfl, .ref pb, rfl, _, rfl, _, rfl, _, rfl, _, rfl, pb, ub, rfl, .inl (.inl (s5 _ _ hpb4)), fun p6 np6 => ?_⟩
        rw [show (0 : Int) + (a : Int) = ((a : Nat) : Int) from by omega, show (1 : Int) + (i : Int) = ((i + 1 : Nat) : Int) from by omega, cut_am ub (by omega) (by omega)]
        have t6 := same_new (o := .lst ((ub.take (i + 1)).drop a)) np6
        have hp6 : upd H5 p6 (.lst ((ub.take (i + 1)).drop a)) p6 = some (.lst ((ub.take (i + 1)).drop a)) := upd_same
        have g6 := s5.trans t6
        generalize upd H5 p6 (.lst ((ub.take (i + 1)).drop a)) = H6 at *
        have hne : (rs.take (i + 1)).drop a ≠ [] := fun z => by
          have := congrArg List.length z
          rw [List.length_drop, List.length_take] at this
          simp at this
          omega
        refine ⟨v, p6, room, ls, y, w, _, (rs.take (i + 1)).drop a, rfl, Dpm ((s1.trans s4).trans g6) hv, .inl (.inl hp6), ((bs4.same g6).take (i + 1)).drop a, hne, by rw [List.length_drop, List.length_take]; omega, fun p7 H7 us7 s7 np7 hp7 al7 => ?_⟩
        have g7 := g6.trans s7
        have hc7 := g7 _ _ hc1
        have hl1 := dpAll_len al1
        rw [List.length_map] at hl1
        have hl7 := dpAll_len al7
        rw [List.length_map] at hl7
        have b1 := (told a ha').len
        have b2 := rowT_le (y := y) (w := w) hne
        have b3 : ((rs.take (i + 1)).drop a).length ≤ 8 := by rw [List.length_drop, List.length_take]; omega
        refine ⟨c1, p7, us1, us7, rfl, rfl, .inl (.inl hc7), .inl (.inl hp7), Nat.le_of_lt (small1000 (by omega)), fun p8 np8 => ?_⟩
        have t8 := same_new (o := .lst (us1 ++ us7)) np8
        have hp8 : upd H7 p8 (.lst (us1 ++ us7)) p8 = some (.lst (us1 ++ us7)) := upd_same
        have g8 := g7.trans t8
        have hD8 := t8 _ _ (s7 _ _ (t6 _ _ hD))
        have hl8 := g8 _ _ hl4
        have al8 : DpAll K (Off p8 (upd H7 p8 (.lst (us1 ++ us7)))) (us1 ++ us7) ((wayL y w rs fR i a).map (puD ls)) := by
          refine dpAll_off hp8 _ _ (noLs_pu ls _) ?_
          unfold wayL
          rw [List.map_append]
          exact dpAll_app (dpAll_mono ((off_same c1 H4).trans g8) _ _ al1) (dpAll_mono ((off_same p7 H7).trans t8) _ _ al7)
        have np8H : H p8 = none := (s1.trans s4).free (g7.free np8)
        generalize upd H7 p8 (.lst (us1 ++ us7)) = H8 at *
        have n8D : p8 ≠ D := (ne_of_none (s7 _ _ (t6 _ _ hD)) np8).symm
        have n8l : p8 ≠ l := (ne_of_none (g7 _ _ hl4) np8).symm
        refine ⟨us, hD8, small1000 (by omega), fun b o e => ?_, us ++ [.ref p8], upd_same, by rw [List.length_append, hul]; rfl, fun m x hx => ?_⟩
        · rw [upd_ne (ne_of_none e nD)]
          exact g8 _ _ e
        · by_cases cm : m < us.length
          · rw [List.getElem?_append_left cm] at hx
            obtain ⟨h1, h2, h3, h4⟩ := hus m x hx
            exact ⟨(h1.keep ((t6.trans s7).trans t8)).put hD8 h3, h2, h3, h4⟩
          · have em : m = a := by
              have := (List.getElem?_eq_some_iff.mp hx).1
              rw [List.length_append] at this
              simp at this
              omega
            subst em
            rw [List.getElem?_append_right (by omega), hul, Nat.sub_self] at hx
            cases Option.some.inj hx
            exact ⟨(show RowC K H8 ls (.ref p8) _ from ⟨p8, _, rfl, hp8, al8⟩).put hD8 (fun z => n8D (by cases z; rfl)), fun z => n8l (by cases z; rfl), fun z => n8D (by cases z; rfl), p8, rfl, np8H⟩
      · obtain ⟨s5, us, hD, hul, hus⟩ := p
        have hul' : us.length = i + 1 := by omega
        have hl5 := s5 _ _ hl4
        -- the shortest of them
        refine ⟨.ref l, rfl, .inl ⟨rfl, _, .inl (.inl hl5)⟩, .ref D, rfl, D, us, fun m => (wayL y w rs fR i m).length, rfl, .inl (.inl hD), by omega, fun m x hx => ?_, fun a x hx hmin => ?_⟩
        · obtain ⟨⟨c, us', rfl, h1, h2⟩, _⟩ := hus m x hx
          refine ⟨c, us', rfl, .inl (.inl h1), ?_⟩
          have := dpAll_len h2
          rwa [List.length_map] at this
        · have ha : a ≤ i := by
            have := (List.getElem?_eq_some_iff.mp hx).1
            omega
          obtain ⟨h1, h2, h3, h4⟩ := hus a x hx
          refine ⟨l, vs, x, rfl, rfl, hl5, small1000 (by omega), fun b o e => ?_, vs ++ [x], fun m => if m ≤ i then fR m else wayL y w rs fR i a, _, _, rfl, upd_same, by rw [List.length_append, hvl]; rfl, fun m hm => ?_, fun m z hz => ?_⟩
          · rw [upd_ne (ne_of_none e nl1)]
            exact s5 _ _ (s4 _ _ e)
          · dsimp only
            by_cases c : m ≤ i
            · rw [if_pos c]
              exact told m c
            · have : m = i + 1 := by omega
              subst this
              rw [if_neg c]
              exact told_next riw riy runs hir fR told ha _ rfl fun b hb => hmin b (by omega)
          · dsimp only
            by_cases c : m < vs.length
            · rw [List.getElem?_append_left c] at hz
              obtain ⟨k1, k2, k3⟩ := rows m z hz
              rw [if_pos (by omega)]
              exact ⟨(k1.keep s5).put hl5 k2, k2, k3⟩
            · have em : m = i + 1 := by
                have := (List.getElem?_eq_some_iff.mp hz).1
                rw [List.length_append] at this
                simp at this
                omega
              subst em
              rw [List.getElem?_append_right (by omega), hvl, Nat.sub_self] at hz
              cases Option.some.inj hz
              rw [if_neg (by omega)]
              exact ⟨h1.put hl5 h2, h2, h4⟩
    · obtain ⟨s4, vs, fR, y5, y6, rfl, hl4, hvl, told, rows⟩ := p
      rw [show ((rs.length : Int) + 1 - 1).toNat = rs.length from by omega] at hvl told
      have hlast : vs[rs.length]? = some vs[rs.length] := List.getElem?_eq_getElem (by omega)
      have hat : atI vs (-1) = some vs[rs.length] := by
        have e : vs = vs.take rs.length ++ [vs[rs.length]] := by
          have := List.take_append_drop rs.length vs
          rw [List.drop_eq_getElem_cons (by omega), List.drop_of_length_le (by omega)] at this
          exact this.symm
        have := atI_last (vs.take rs.length) vs[rs.length]
        rw [← e] at this
        exact this
      obtain ⟨⟨c, us, ec, hc, al⟩, _, c', ec', nc⟩ := rows _ _ hlast
      rw [ec] at ec'
      cases ec'
      refine ⟨.ref l, rfl, 1, rfl, l, _, -1, _, rfl, rfl, .inl (.inl hl4), hat, ?_⟩
      rw [ec]
      exact q c H4 (fR rs.length) us (s1.trans s4) nc hc al (best_of runs (told rs.length (Nat.le_refl _)))
def sp_need_both (K : PySem.W.Frag) : Sp := fun vs H Q _ => ∃ v u t room ls d e, vs = [v, u, t] ∧ Dp K H v (shD room ls) ∧ ShOk room ls ∧ Dp K H u d ∧ isStand room ls d = true ∧ Dp K H t e ∧ isStand room ls e = true ∧ ∀ H', Same H H' → Q .non H'
theorem ok_need_both (T : Tx K mg) : FnOk P w K mg base CX0 8 T.f_need_both T.fd_need_both ["shelf", "stand", "wish"] (sp_need_both K) := by
  have G_need_stand := ok_need_stand (P := P) (w := w) (base := base) T
  refine T.F_need_both.ok sc_need_both (fun vs H Q E h => ?_) (fun cdv A outer s H vs Q E hr h => ?_)
  · obtain ⟨_, _, _, _, _, _, _, rfl, _⟩ := h
    rfl
  · obtain ⟨v, u, t, room, ls, d, e, rfl, hv, sh, hu, du, ht, dt, q⟩ := h
    refine ⟨_, (pss_cons (ps_expr (pe_call (G_need_stand.mono (by first | decide | omega)) hr (by rfl) T.g_need_stand T.F_need_stand.kp T.b_need_stand .nil pass0 (pa_cons (pv 0) (pa_cons (pv 1) pa_nil))))
      (pss_one (ps_expr (pe_call (G_need_stand.mono (by first | decide | omega)) hr (by rfl) T.g_need_stand T.F_need_stand.kp T.b_need_stand .nil pass0 (pa_cons (pv 0) (pa_cons (pv 2) pa_nil)))))), ?_⟩
    refine ⟨v, rfl, u, rfl, v, u, room, ls, d, rfl, hv, sh, hu, du, fun H1 s1 => ?_⟩
    exact ⟨v, rfl, t, rfl, v, t, room, ls, e, rfl, Dpm s1 hv, sh, Dpm s1 ht, dt, fun H2 s2 => q H2 (s1.trans s2)⟩
end PS

namespace PS
open PySem PySem.Spec PyProof.Rows L2
variable {P : Program} {w : World} {K : PySem.W.Frag} {mg : Str → Option Value} {base : Heap}
def sp_fewest (K : PySem.W.Frag) : Sp := fun vs H Q _ => ∃ v u t room ls y w, vs = [v, u, t] ∧ Dp K H v (shD room ls) ∧ ShOk room ls ∧ Dp K H u (tI (stL ls y)) ∧ Dp K H t (tI (stL ls w)) ∧ Rise ls.length (room - ls.sum) y ∧ Rise ls.length (room - ls.sum) w ∧
  ∀ H' r, Same H H' → Best ls.length (room - ls.sum) y w r → Q (.int (r.length : Nat)) H'
theorem ok_fewest (T : Tx K mg) : FnOk P w K mg base CX0 9 T.f_fewest T.fd_fewest ["shelf", "stand", "wish"] (sp_fewest K) := by
  have G_need_both := ok_need_both (P := P) (w := w) (base := base) T
  have G_shortest_row := ok_shortest_row (P := P) (w := w) (base := base) T
  refine T.F_fewest.ok sc_fewest (fun vs H Q E h => ?_) (fun cdv A outer s H vs Q E hr h => ?_)
  · obtain ⟨_, _, _, _, _, _, _, rfl, _⟩ := h
    rfl
  · obtain ⟨v, u, t, room, ls, y, w, rfl, hv, sh, hu, ht, riy, riw, q⟩ := h
    refine ⟨_, (pss_cons (ps_expr (pe_call (G_need_both.mono (by first | decide | omega)) hr (by rfl) T.g_need_both T.F_need_both.kp T.b_need_both .nil pass0 (pa_cons (pv 0) (pa_cons (pv 1) (pa_cons (pv 2) pa_nil)))))
      (pss_one (ps_ret (pe_callB call_len_seq (by rfl) T.n_len (by decide +kernel) (pa_cons (pe_call (G_shortest_row.mono (by first | decide | omega)) hr (by rfl) T.g_shortest_row T.F_shortest_row.kp T.b_shortest_row .nil pass0 (pa_cons (pv 0) (pa_cons (pv 1) (pa_cons (pv 2) pa_nil)))) pa_nil))))), ?_⟩
    refine ⟨v, rfl, u, rfl, t, rfl, v, u, t, room, ls, _, _, rfl, hv, sh, hu, isStand_ok riy sh.lo, ht, isStand_ok riw sh.lo, fun H1 s1 => ?_⟩
    refine ⟨v, rfl, u, rfl, t, rfl, v, u, t, room, ls, y, w, rfl, Dpm s1 hv, sh.n8, Dpm s1 hu, Dpm s1 ht, riy, riw, fun c H2 r us s2 nc hc al bst => ?_⟩
    have := dpAll_len al
    rw [List.length_map] at this
    refine ⟨c, us, rfl, .inl (.inl (.inl hc)), ?_⟩
    rw [this]
    exact q H2 r (s1.trans s2) bst
end PS

namespace PS
open PySem PySem.Spec PyProof.Rows L2
variable {P : Program} {w : World} {K : PySem.W.Frag} {mg : Str → Option Value} {base : Heap}
def sp_pushes_to (K : PySem.W.Frag) : Sp := fun vs H Q _ => ∃ v u t room ls y w, vs = [v, u, t] ∧ Dp K H v (shD room ls) ∧ ShOk room ls ∧ Dp K H u (tI (stL ls y)) ∧ Dp K H t (tI (stL ls w)) ∧ Rise ls.length (room - ls.sum) y ∧ Rise ls.length (room - ls.sum) w ∧
  ∀ c H' r us, Same H H' → H c = none → H' c = some (.lst us) → DpAll K (Off c H') us (r.map (puD ls)) → Best ls.length (room - ls.sum) y w r → Q (.ref c) H'
theorem ok_pushes_to (T : Tx K mg) : FnOk P w K mg base CX0 9 T.f_pushes_to T.fd_pushes_to ["shelf", "stand", "wish"] (sp_pushes_to K) := by
  have G_need_both := ok_need_both (P := P) (w := w) (base := base) T
  have G_shortest_row := ok_shortest_row (P := P) (w := w) (base := base) T
  refine T.F_pushes_to.ok sc_pushes_to (fun vs H Q E h => ?_) (fun cdv A outer s H vs Q E hr h => ?_)
  · obtain ⟨_, _, _, _, _, _, _, rfl, _⟩ := h
    rfl
  · obtain ⟨v, u, t, room, ls, y, w, rfl, hv, sh, hu, ht, riy, riw, q⟩ := h
    refine ⟨_, (pss_cons (ps_expr (pe_call (G_need_both.mono (by first | decide | omega)) hr (by rfl) T.g_need_both T.F_need_both.kp T.b_need_both .nil pass0 (pa_cons (pv 0) (pa_cons (pv 1) (pa_cons (pv 2) pa_nil)))))
      (pss_one (ps_ret (pe_call (G_shortest_row.mono (by first | decide | omega)) hr (by rfl) T.g_shortest_row T.F_shortest_row.kp T.b_shortest_row .nil pass0 (pa_cons (pv 0) (pa_cons (pv 1) (pa_cons (pv 2) pa_nil))))))), ?_⟩
    refine ⟨v, rfl, u, rfl, t, rfl, v, u, t, room, ls, _, _, rfl, hv, sh, hu, isStand_ok riy sh.lo, ht, isStand_ok riw sh.lo, fun H1 s1 => ?_⟩
    exact ⟨v, rfl, u, rfl, t, rfl, v, u, t, room, ls, y, w, rfl, Dpm s1 hv, sh.n8, Dpm s1 hu, Dpm s1 ht, riy, riw, fun c H2 r us s2 nc hc al bst => q c H2 r us (s1.trans s2) (s1.free nc) hc al bst⟩
end PS

namespace PS
open PySem PySem.Spec PyProof.Rows L2
variable {P : Program} {w : World} {K : PySem.W.Frag} {mg : Str → Option Value} {base : Heap}
/-! ### leads -/
theorem push_data {room : Int} {ls : List Int} {d : PyData} (h : isPush room ls d = true) : ∃ p, d = puD ls p ∧ PuOk ls.length (room - ls.sum) p := by
  unfold isPush at h
  split at h
  · rename_i s g p
    split at h
    · rename_i hg
      obtain ⟨k, rfl⟩ := isGap_int hg
      obtain ⟨i, rfl, i0, i1⟩ := within_int h
      have e : (intOf (.int (k : Int))).toNat = k := by simp [intOf]
      rw [e] at i0 i1
      unfold isGap at hg
      by_cases c1 : PyData.eqv s (.str "right") = true
      · rw [if_pos c1] at hg
        obtain ⟨j, e1, j0, j1⟩ := within_int hg
        cases e1
        have es : s = .str "right" := by
          cases s with
          | str x =>
            have : (x == ("right" : Str)) = true := by simpa [PyData.eqv] using c1
            rw [eq_of_beq this]
          | _ => simp [PyData.eqv] at c1
        refine ⟨(true, k, i - pre ls k), ?_, ⟨fun _ => by simp only; omega, fun z => by simp at z, by simp only; omega, by simp only; omega⟩⟩
        subst es
        show PyData.tuple [.str "right", .int k, .int i] = PyData.tuple [.str "right", .int k, .int (i - pre ls k + pre ls k)]
        rw [show i - pre ls k + pre ls k = i from by omega]
      · rw [if_neg c1] at hg
        by_cases c2 : PyData.eqv s (.str "left") = true
        · rw [if_pos c2] at hg
          obtain ⟨j, e1, j0, j1⟩ := within_int hg
          cases e1
          have es : s = .str "left" := by
            cases s with
            | str x =>
              have : (x == ("left" : Str)) = true := by simpa [PyData.eqv] using c2
              rw [eq_of_beq this]
            | _ => simp [PyData.eqv] at c2
          refine ⟨(false, k, i - pre ls k), ?_, ⟨fun z => by simp at z, fun _ => by simp only; omega, by simp only; omega, by simp only; omega⟩⟩
          subst es
          show PyData.tuple [.str "left", .int k, .int i] = PyData.tuple [.str "left", .int k, .int (i - pre ls k + pre ls k)]
          rw [show i - pre ls k + pre ls k = i from by omega]
        · rw [if_neg c2] at hg
          cases hg
    · cases h
  · cases h
theorem rows_data {room : Int} {ls : List Int} : ∀ {ds : List PyData}, ds.all (isPush room ls) = true → ∃ r : List Push, ds = r.map (puD ls) ∧ ∀ p ∈ r, PuOk ls.length (room - ls.sum) p
  | [], _ => ⟨[], rfl, by simp⟩
  | d :: ds, h => by
    have h' : isPush room ls d = true ∧ ds.all (isPush room ls) = true := by simpa using h
    obtain ⟨p, rfl, hp⟩ := push_data h'.1
    obtain ⟨r, rfl, hr⟩ := rows_data h'.2
    exact ⟨p :: r, rfl, fun q hq => by
      rcases List.mem_cons.mp hq with z | z
      · rw [z]; exact hp
      · exact hr q z⟩
theorem row_data {room : Int} {ls : List Int} {d : PyData} (h : isRow room ls d = true) : ∃ r : List Push, d = roD ls r ∧ r.length ≤ 200 ∧ ∀ p ∈ r, PuOk ls.length (room - ls.sum) p := by
  cases d with
  | list ds =>
    have h : (if (ds.length : Int) > 200 then false else ds.all (isPush room ls)) = true := h
    split at h
    · cases h
    · obtain ⟨r, rfl, hr⟩ := rows_data h
      exact ⟨r, rfl, by rename_i c; rw [List.length_map] at c; omega, hr⟩
  | _ => cases h
theorem puD_inj {ls : List Int} {p q : Push} (h : puD ls p = puD ls q) : p = q := by
  obtain ⟨r, g, b⟩ := p
  obtain ⟨r', g', b'⟩ := q
  unfold puD at h
  have h := PyData.tuple.inj h
  have h1 := PyData.str.inj (List.cons.inj h).1
  have h2 := PyData.int.inj (List.cons.inj (List.cons.inj h).2).1
  have h3 := PyData.int.inj (List.cons.inj (List.cons.inj (List.cons.inj h).2).2).1
  simp only at h1 h2 h3
  have hg := nat_inj h2
  subst hg
  have hr : r = r' := by
    cases r <;> cases r' <;> first | rfl | (exfalso; revert h1; decide +kernel)
  subst hr
  congr 2
  omega
theorem roD_inj {ls : List Int} : ∀ {r q : List Push}, r.map (puD ls) = q.map (puD ls) → r = q
  | [], [], _ => rfl
  | [], _ :: _, h => by simp at h
  | _ :: _, [], h => by simp at h
  | p :: r, p' :: q, h => by
    have h := List.cons.inj h
    rw [puD_inj h.1, roD_inj h.2]
/-- whether the thing leads there -/
def LeadsB (room : Int) (ls : List Int) (y w : Nat → Int) (d : PyData) (b : Bool) : Prop :=
  (isRow room ls d = false ∧ b = false) ∨ ∃ r : List Push, d = roD ls r ∧ isRow room ls d = true ∧ b = decide (stL ls (doR y r) = stL ls w)
theorem LeadsB.uniq {room : Int} {ls : List Int} {y w : Nat → Int} {d : PyData} {b c : Bool} (h : LeadsB room ls y w d b) (k : LeadsB room ls y w d c) : b = c := by
  rcases h with ⟨h1, h2⟩ | ⟨r, h1, h2, h3⟩
  · rcases k with ⟨_, k2⟩ | ⟨_, _, k2, _⟩
    · rw [h2, k2]
    · rw [h1] at k2; cases k2
  · rcases k with ⟨k1, _⟩ | ⟨q, k1, k2, k3⟩
    · rw [h2] at k1; cases k1
    · have : r = q := roD_inj (PyData.list.inj (h1.symm.trans k1))
      subst this
      rw [h3, k3]
theorem eqv_stands (ls : List Int) (y z : Nat → Int) : PyData.eqv (tI (stL ls y)) (tI (stL ls z)) = decide (stL ls y = stL ls z) := by
  have : ∀ a b : List Int, PyData.eqvAll (iD a) (iD b) = decide (a = b) := by
    intro a
    induction a with
    | nil => intro b; cases b <;> simp [PyData.eqvAll]
    | cons x a ih =>
      intro b
      cases b with
      | nil => simp [PyData.eqvAll]
      | cons y b =>
        show PyData.eqvAll (PyData.int x :: iD a) (PyData.int y :: iD b) = _
        rw [PyData.eqvAll, ih b]
        by_cases h1 : x = y
        · subst h1
          simp [PyData.eqv]
        · simp [PyData.eqv, h1]
  exact this _ _
def sp_leads (K : PySem.W.Frag) : Sp := fun vs H Q _ => ∃ v u t x room ls y w d, vs = [v, u, t, x] ∧ Dp K H v (shD room ls) ∧ ShOk room ls ∧ Dp K H u (tI (stL ls y)) ∧ Dp K H t (tI (stL ls w)) ∧ Rise ls.length (room - ls.sum) y ∧ Rise ls.length (room - ls.sum) w ∧ Dp K H x d ∧ d.depth ≤ 64 ∧
  ∀ H' b, Same H H' → LeadsB room ls y w d b → Q (.bl b) H'
theorem ok_leads (T : Tx K mg) : FnOk P w K mg base CX0 9 T.f_leads T.fd_leads ["shelf", "stand", "wish", "thing"] (sp_leads K) := by
  have G_need_both := ok_need_both (P := P) (w := w) (base := base) T
  have G_is_row := ok_is_row (P := P) (w := w) (base := base) T
  have G_done := ok_done (P := P) (w := w) (base := base) T
  refine T.F_leads.ok sc_leads (fun vs H Q E h => ?_) (fun cdv A outer s H vs Q E hr h => ?_)
  · obtain ⟨_, _, _, _, _, _, _, _, _, rfl, _⟩ := h
    rfl
  · obtain ⟨v, u, t, x, room, ls, y, w, d, rfl, hv, sh, hu, ht, riy, riw, hx, dd, q⟩ := h
    refine ⟨_, (pss_cons (ps_expr (pe_call (G_need_both.mono (by first | decide | omega)) hr (by rfl) T.g_need_both T.F_need_both.kp T.b_need_both .nil pass0 (pa_cons (pv 0) (pa_cons (pv 1) (pa_cons (pv 2) pa_nil)))))
      (pss_one (ps_ret (pe_and (pe_call (G_is_row.mono (by first | decide | omega)) hr (by rfl) T.g_is_row T.F_is_row.kp T.b_is_row .nil pass0 (pa_cons (pv 0) (pa_cons (pv 3) pa_nil))) (pe_one (pe_cmpR (op_eqP hr.units) (pe_call (G_done.mono (by first | decide | omega)) hr (by rfl) T.g_done T.F_done.kp T.b_done .nil pass0 (pa_cons (pv 0) (pa_cons (pv 1) (pa_cons (pv 3) pa_nil)))) (pv 2) (nomark _))))))), ?_⟩
    refine ⟨v, rfl, u, rfl, t, rfl, v, u, t, room, ls, _, _, rfl, hv, sh, hu, isStand_ok riy sh.lo, ht, isStand_ok riw sh.lo, fun H1 s1 => ?_⟩
    refine ⟨v, rfl, x, rfl, v, x, room, ls, d, rfl, Dpm s1 hv, sh, Dpm s1 hx, dd, fun H2 s2 => ⟨_, rfl, ?_⟩⟩
    have g2 := s1.trans s2
    cases e : isRow room ls d with
    | false => exact iteF (q H2 false g2 (.inl ⟨e, rfl⟩))
    | true =>
      obtain ⟨r, rfl, r2, rp⟩ := row_data e
      refine iteT ⟨v, rfl, u, rfl, x, rfl, v, u, x, room, ls, y, r, _, rfl, Dpm g2 hv, Dpm g2 hu, Dpm g2 hx, riy, sh.n8, rp, fun th H3 s3 hth => ?_⟩
      refine ⟨t, rfl, _, _, hth, Dpm (g2.trans s3) ht, Nat.le_trans (depth_tI _) (by decide), ?_⟩
      rw [eqv_stands]
      exact q H3 _ (g2.trans s3) (.inr ⟨r, rfl, e, rfl⟩)
end PS

namespace PS
open PySem PySem.Spec PyProof.Rows L2
variable {P : Program} {w : World} {K : PySem.W.Frag} {mg : Str → Option Value} {base : Heap}
/-! ### the deck -/
def Dk (k : Addr) (H : Hp) (n : Nat) : Prop := ∃ a b c : Int, H k = some (.lst [.int a, .int b, .int c]) ∧ 0 ≤ b ∧ b < 2147483579 ∧ 0 ≤ c ∧ c + (n : Int) ≤ 1073741824
theorem Dk.le {k : Addr} {H : Hp} {n m : Nat} (h : Dk k H n) (e : m ≤ n) : Dk k H m := by
  obtain ⟨a, b, c, h1, h2, h3, h4, h5⟩ := h
  exact ⟨a, b, c, h1, h2, h3, h4, by omega⟩
theorem Dk.lst {k : Addr} {H : Hp} {n : Nat} (h : Dk k H n) : ∃ l, H k = some (.lst l) := by
  obtain ⟨a, b, c, h1, _⟩ := h
  exact ⟨_, h1⟩
theorem Dk.same {k : Addr} {H H' : Hp} {n : Nat} (h : Dk k H n) (s : Same H H') : Dk k H' n := by
  obtain ⟨a, b, c, h1, h2⟩ := h
  exact ⟨a, b, c, s _ _ h1, h2⟩
theorem Dk.ne {k : Addr} {H : Hp} {n : Nat} (h : Dk k H n) {p : Addr} (np : H p = none) : p ≠ k := by
  obtain ⟨a, b, c, h1, _⟩ := h
  exact (ne_of_none h1 np).symm
theorem fmod_in {a b : Int} (h : 0 < b) : 0 ≤ a.fmod b ∧ a.fmod b < b := ⟨Int.fmod_nonneg_of_pos a h, Int.fmod_lt_of_pos a h⟩
def sp_deck (K : PySem.W.Frag) : Sp := fun vs H Q _ => ∃ c t : Int, vs = [.int c, .int t] ∧ 0 ≤ t ∧ t ≤ 1000 ∧ ∀ p H', Same H H' → H p = none → Dk p H' 1000000 → Q (.ref p) H'
theorem ok_law_deck (T : Tx K mg) : FnOk P w K mg base CX0 1 T.f_law_deck T.fd_law_deck ["cell", "turn"] (sp_deck K) := by
  refine T.F_law_deck.ok sc_law_deck (fun vs H Q E h => ?_) (fun cdv A outer s H vs Q E hr h => ?_)
  · obtain ⟨c, t, rfl, _⟩ := h
    rfl
  · obtain ⟨c, t, rfl, t0, t1, q⟩ := h
    refine ⟨_, (pss_cons (ps_if (pt_cmpR op_ge (pv 0) (pe_op op_pow pe_int pe_int) (nomark _)) (pss_one (ps_ret (pe_lst (pa_cons (pe_op op_sub (pv 0) (pe_op op_pow pe_int pe_int)) (pa_cons (pe_op op_modN (pv 0) pe_int) (pa_cons (pv 1) pa_nil)))))) pss_nil)
      (pss_one (ps_ret (pe_lst (pa_cons pe_int (pa_cons (pe_op op_modN (pv 0) pe_int) (pa_cons (pv 1) pa_nil))))))), ?_⟩
    have m := fmod_in (a := c) (b := 2147483579) (by decide)
    have fin : ∀ (z : Int) (p : Addr), H p = none → Q (.ref p) (upd H p (.lst [.int z, .int (c.fmod 2147483579), .int t])) := fun z p np =>
      q p _ (same_new np) np ⟨z, _, t, upd_same, m.1, m.2, t0, by omega⟩
    refine ⟨_, rfl, _, _, rfl, rfl, ⟨by decide, by decide, by decide⟩, _, _, rfl, rfl, _, rfl, ite2 (fun _ => ?_) (fun _ => ?_)⟩
    · exact ⟨_, rfl, _, _, rfl, rfl, ⟨by decide, by decide, by decide⟩, _, _, rfl, rfl, _, rfl, _, _, rfl, rfl, (show (2147483579 : Int) ≠ 0 by decide), _, rfl, by show 3 ≤ sizeLine; decide, fun p np => fin _ p np⟩
    · exact ⟨_, rfl, _, _, rfl, rfl, (show (2147483579 : Int) ≠ 0 by decide), _, rfl, by show 3 ≤ sizeLine; decide, fun p np => fin _ p np⟩
def sp_pick (K : PySem.W.Frag) : Sp := fun vs H Q _ => ∃ (k : Addr) (m : Int) (n : Nat), vs = [.ref k, .int m] ∧ 0 < m ∧ m < 1000000 ∧ Dk k H (n + 1) ∧ ∀ r H', 0 ≤ r → r < m → Dk k H' n → Same (Off k H) (Off k H') → Q (.int r) H'
theorem off_upd {k : Addr} {H : Hp} {o : HO} : Off k (upd H k o) = Off k H := by
  funext b
  unfold Off
  split
  · rfl
  · rename_i n
    rw [upd_ne n]
theorem ok_law_pick (T : Tx K mg) : FnOk P w K mg base CX0 1 T.f_law_pick T.fd_law_pick ["deck", "size"] (sp_pick K) := by
  refine T.F_law_pick.ok sc_law_pick (fun vs H Q E h => ?_) (fun cdv A outer s H vs Q E hr h => ?_)
  · obtain ⟨k, m, n, rfl, _⟩ := h
    rfl
  · obtain ⟨k, m, n, rfl, m0, m1, ⟨a, b, c, hk, b0, b1, c0, c1⟩, q⟩ := h
    refine ⟨_, (pss_cons (ps_if (pt_cmpR op_gt (pe_ix ix_list (pv 0) pe_int (fun _ _ => rfl)) pe_int (nomark _)) (pss_cons (ps_set (i := 2) sc_law_pick.nd rfl (.inl rfl) (pe_op op_modN (pe_ix ix_list (pv 0) pe_int (fun _ _ => rfl)) (pv 1)))
      (pss_cons (ps_asg (pe_op op_fdivN (pe_ix ix_list (pv 0) pe_int (fun _ _ => rfl)) (pv 1)) (pg_sub (pv 0) pe_int set_list))
      (pss_one (ps_ret (pv 2))))) pss_nil)
      (pss_cons (ps_asg (pe_op op_add (pe_ix ix_list (pv 0) pe_int (fun _ _ => rfl)) pe_int) (pg_sub (pv 0) pe_int set_list))
      (pss_cons (ps_set (i := 3) sc_law_pick.nd rfl (.inl rfl) (pe_op op_modN (pe_op op_pow (pe_op op_add (pe_ix ix_list (pv 0) pe_int (fun _ _ => rfl)) (pe_op op_mul pe_int (pe_ix ix_list (pv 0) pe_int (fun _ _ => rfl)))) pe_int) pe_int))
      (pss_cons (ps_set (i := 2) sc_law_pick.nd rfl (.inl rfl) (pe_op op_fdivN (pe_op op_modN (pe_op op_pow (pe_op op_add (pv 3) (pe_op op_mul pe_int (pe_ix ix_list (pv 0) pe_int (fun _ _ => rfl)))) pe_int) pe_int) pe_int))
      (pss_one (ps_ret (pe_op op_modN (pv 2) (pv 1)))))))), ?_⟩
    refine ⟨.ref k, rfl, k, _, 0, _, rfl, rfl, .inl (.inl hk), atI_nat (j := 0) rfl, _, _, rfl, rfl, _, rfl, ite2 (fun _ => ?_) (fun _ => ?_)⟩
    · refine ⟨.ref k, rfl, k, _, 0, _, rfl, rfl, .inl (.inl hk), atI_nat (j := 0) rfl, _, rfl, _, _, rfl, rfl, by omega, ?_⟩
      refine ⟨.ref k, rfl, k, _, 0, _, rfl, rfl, .inl (.inl hk), atI_nat (j := 0) rfl, _, rfl, _, _, rfl, rfl, ⟨by omega, by omega⟩, ?_⟩
      refine ⟨.ref k, rfl, k, _, 0, 0, rfl, rfl, hk, rfl, ?_⟩
      refine ⟨_, rfl, ?_⟩
      have mm := fmod_in (a := a) m0
      exact q _ _ mm.1 mm.2 ⟨_, b, c, upd_same, b0, b1, c0, by omega⟩ (by rw [off_upd]; exact Same.refl _)
    · refine ⟨.ref k, rfl, k, _, 2, _, rfl, rfl, .inl (.inl hk), atI_nat (j := 2) rfl, _, _, rfl, rfl, ?_⟩
      refine ⟨.ref k, rfl, k, _, 2, 2, rfl, rfl, hk, rfl, ?_⟩
      have hk1 : upd H k (.lst ([V.int a, V.int b, V.int c].set 2 (V.int (c + 1)))) k = some (.lst [.int a, .int b, .int (c + 1)]) := upd_same
      refine ⟨.ref k, rfl, k, _, 1, _, rfl, rfl, .inl (.inl hk1), atI_nat (j := 1) rfl, .ref k, rfl, k, _, 2, _, rfl, rfl, .inl (.inl hk1), atI_nat (j := 2) rfl, _, _, rfl, rfl, .inl ⟨by decide, by decide⟩, _, _, rfl, rfl, _, _, rfl, rfl, ⟨by decide, by decide, by omega⟩, _, _, rfl, rfl, (show (2147483647 : Int) ≠ 0 by decide), ?_⟩
      have m2 := fmod_in (a := (b + 15485867 * (c + 1)) ^ (5 : Int).toNat) (b := 2147483647) (by decide)
      refine ⟨_, rfl, .ref k, rfl, k, _, 2, _, rfl, rfl, .inl (.inl hk1), atI_nat (j := 2) rfl, _, _, rfl, rfl, .inl ⟨by decide, by decide⟩, _, _, rfl, rfl, _, _, rfl, rfl, ⟨by decide, by decide, by omega⟩, _, _, rfl, rfl, (show (2147483629 : Int) ≠ 0 by decide), _, _, rfl, rfl, (show (32 : Int) ≠ 0 ∧ (32 : Int).natAbs < 1073741824 by decide), ?_⟩
      refine ⟨_, rfl, _, rfl, _, _, rfl, rfl, by omega, ?_⟩
      have mm := fmod_in (a := (((((b + 15485867 * (c + 1)) ^ (5 : Int).toNat).fmod 2147483647 + 7919 * (c + 1)) ^ (3 : Int).toNat).fmod 2147483629).fdiv 32) m0
      exact q _ _ mm.1 mm.2 ⟨a, b, c + 1, hk1, b0, b1, by omega, by omega⟩ (by rw [off_upd]; exact Same.refl _)
def sp_one (K : PySem.W.Frag) : Sp := fun vs H Q _ => ∃ (k a : Addr) (xs : List V) (n : Nat), vs = [.ref k, .ref a] ∧ SqL K (Off k H) a xs ∧ 0 < xs.length ∧ xs.length < 1000 ∧ Dk k H (n + 1) ∧ ∀ x H', x ∈ xs → Dk k H' n → Same (Off k H) (Off k H') → Q x H'
theorem ok_law_one (T : Tx K mg) : FnOk P w K mg base CX0 2 T.f_law_one T.fd_law_one ["deck", "some"] (sp_one K) := by
  have G_law_pick := ok_law_pick (P := P) (w := w) (base := base) T
  refine T.F_law_one.ok sc_law_one (fun vs H Q E h => ?_) (fun cdv A outer s H vs Q E hr h => ?_)
  · obtain ⟨k, a, xs, n, rfl, _⟩ := h
    rfl
  · obtain ⟨k, a, xs, n, rfl, hs, l0, l1, dk, q⟩ := h
    refine ⟨_, (pss_one (ps_ret (pe_ix ix_list (pv 1) (pe_call (G_law_pick.mono (by first | decide | omega)) hr (by rfl) T.g_law_pick T.F_law_pick.kp T.b_law_pick .nil pass0 (pa_cons (pv 0) (pa_cons (pe_callB call_len_seq (by rfl) T.n_len (by decide +kernel) (pa_cons (pv 1) pa_nil)) pa_nil))) (fun _ _ => rfl)))), ?_⟩
    refine ⟨.ref a, rfl, .ref k, rfl, .ref a, rfl, a, xs, rfl, .inl ((off_same k H).seq hs), k, _, n, rfl, by omega, by omega, dk, fun r H' r0 r1 dk' sm => ?_⟩
    have hr' : r.toNat < xs.length := by omega
    have hx : xs[r.toNat]? = some xs[r.toNat] := List.getElem?_eq_getElem hr'
    exact ⟨a, xs, r, _, rfl, rfl, ((off_same k H').seq (sm.seq hs)), at_of (j := r.toNat) (by omega) hx, q _ _ (List.mem_of_getElem? hx) dk' sm⟩
/-! ### sorts, sameness -/
theorem ok_law_whole (T : Tx K mg) : FnOk P w K mg base CX0 1 T.f_law_whole T.fd_law_whole ["thing"] (fun vs H Q _ => ∃ v d, vs = [v] ∧ Dp K H v d ∧ Q (.bl (isW d)) H) := by
  refine T.F_law_whole.ok sc_law_whole (fun vs H Q E h => ?_) (fun cdv A outer s H vs Q E hr h => ?_)
  · obtain ⟨v, d, rfl, _⟩ := h
    rfl
  · obtain ⟨v, d, rfl, hd, q⟩ := h
    refine ⟨_, (pss_one (ps_ret (pe_and (pe_callB call_isD (by rfl) T.n_isinstance (by decide +kernel) (pa_cons (pv 0) (pa_cons (pe_bltn (v := .ty "int") (by rfl) T.n_int (by decide +kernel) rfl) pa_nil))) (pe_one (pe_not (pe_callB call_isD (by rfl) T.n_isinstance (by decide +kernel) (pa_cons (pv 0) (pa_cons (pe_bltn (v := .ty "bool") (by rfl) T.n_bool (by decide +kernel) rfl) pa_nil)))))))), ?_⟩
    refine ⟨v, rfl, v, _, d, rfl, hd, kInt d, _, rfl, ?_⟩
    rw [isA_int]
    cases hd with
    | bl b => exact iteT ⟨_, rfl, _, _, _, rfl, .bl b, kBool _, _, rfl, by rw [isA_bool]; exact q⟩
    | int b => exact iteT ⟨_, rfl, _, _, _, rfl, .int b, kBool _, _, rfl, by rw [isA_bool]; exact q⟩
    | _ => exact iteF q
def sortD : PyData → Int
  | .bool _ => 1 | .int _ => 2 | .str _ => 3 | .list _ => 4 | .tuple _ => 5 | _ => 6
def sp_sort (K : PySem.W.Frag) : Sp := fun vs H Q _ => ∃ v d, vs = [v] ∧ Dp K H v d ∧ Q (.int (sortD d)) H
theorem ok_law_sort (T : Tx K mg) : FnOk P w K mg base CX0 1 T.f_law_sort T.fd_law_sort ["thing"] (sp_sort K) := by
  refine T.F_law_sort.ok sc_law_sort (fun vs H Q E h => ?_) (fun cdv A outer s H vs Q E hr h => ?_)
  · obtain ⟨v, d, rfl, _⟩ := h
    rfl
  · obtain ⟨v, d, rfl, hd, q⟩ := h
    refine ⟨_, (pss_cons (ps_if (pt_val (pe_callB call_isD (by rfl) T.n_isinstance (by decide +kernel) (pa_cons (pv 0) (pa_cons (pe_bltn (v := .ty "bool") (by rfl) T.n_bool (by decide +kernel) rfl) pa_nil)))) (pss_one (ps_ret pe_int)) pss_nil)
      (pss_cons (ps_if (pt_val (pe_callB call_isD (by rfl) T.n_isinstance (by decide +kernel) (pa_cons (pv 0) (pa_cons (pe_bltn (v := .ty "int") (by rfl) T.n_int (by decide +kernel) rfl) pa_nil)))) (pss_one (ps_ret pe_int)) pss_nil)
      (pss_cons (ps_if (pt_val (pe_callB call_isD (by rfl) T.n_isinstance (by decide +kernel) (pa_cons (pv 0) (pa_cons (pe_bltn (v := .ty "str") (by rfl) T.n_str (by decide +kernel) rfl) pa_nil)))) (pss_one (ps_ret pe_int)) pss_nil)
      (pss_cons (ps_if (pt_val (pe_callB call_isD (by rfl) T.n_isinstance (by decide +kernel) (pa_cons (pv 0) (pa_cons (pe_bltn (v := .ty "list") (by rfl) T.n_list (by decide +kernel) rfl) pa_nil)))) (pss_one (ps_ret pe_int)) pss_nil)
      (pss_one (ps_ret (pe_ifExp (pt_val (pe_callB call_isD (by rfl) T.n_isinstance (by decide +kernel) (pa_cons (pv 0) (pa_cons (pe_bltn (v := .ty "tuple") (by rfl) T.n_tuple (by decide +kernel) rfl) pa_nil)))) pe_int pe_int))))))), ?_⟩
    refine ⟨v, rfl, v, _, d, rfl, hd, kBool d, _, rfl, ?_⟩
    rw [isA_bool]
    refine ite2 (fun e => ?_) (fun e => ⟨v, rfl, v, _, d, rfl, hd, kInt d, _, rfl, ?_⟩)
    · cases d <;> simp [isB] at e <;> exact q
    rw [isA_int]
    refine ite2 (fun e2 => ?_) (fun e2 => ⟨v, rfl, v, _, d, rfl, hd, kStr d, _, rfl, ?_⟩)
    · cases d <;> simp [isB, isIB] at e e2 <;> exact q
    rw [isA_str]
    refine ite2 (fun e3 => ?_) (fun e3 => ⟨v, rfl, v, _, d, rfl, hd, kList d, _, rfl, ?_⟩)
    · cases d <;> simp [isS] at e3 <;> exact q
    rw [isA_list]
    refine ite2 (fun e4 => ?_) (fun e4 => ⟨v, rfl, v, _, d, rfl, hd, kTuple d, _, rfl, ?_⟩)
    · cases d <;> simp [isL] at e4 <;> exact q
    rw [isA_tuple]
    refine ite2 (fun e5 => ?_) (fun e5 => ?_)
    · cases d <;> simp [isT] at e5 <;> exact q
    · cases d <;> simp [isB, isIB, isS, isL, isT] at e e2 e3 e4 e5 <;> exact q
def sp_same (K : PySem.W.Frag) (n : Nat) : Sp := fun vs H Q _ => ∃ v u d, vs = [v, u] ∧ Dp K H v d ∧ Dp K H u d ∧ d.depth < n ∧ RB H Q true
theorem same_step (T : Tx K mg) {n k : Nat} (hk : 1 ≤ k) (G_law_same : FnOk P w K mg base CX0 k T.f_law_same T.fd_law_same ["told", "due"] (sp_same K n)) : FnOk P w K mg base CX0 (k + 1) T.f_law_same T.fd_law_same ["told", "due"] (sp_same K (n + 1)) := by
  have G_law_sort := ok_law_sort (P := P) (w := w) (base := base) T
  refine T.F_law_same.ok sc_law_same (fun vs H Q E h => ?_) (fun cdv A outer s H vs Q E hr h => ?_)
  · obtain ⟨v, u, d, rfl, _⟩ := h
    rfl
  · obtain ⟨v, u, d, rfl, hv, hu, hd, q⟩ := h
    refine ⟨_, (pss_cons (ps_if (pt_cmpR op_ne (pe_call (G_law_sort.mono (by first | decide | omega)) hr (by rfl) T.g_law_sort T.F_law_sort.kp T.b_law_sort .nil pass0 (pa_cons (pv 0) pa_nil)) (pe_call (G_law_sort.mono (by first | decide | omega)) hr (by rfl) T.g_law_sort T.F_law_sort.kp T.b_law_sort .nil pass0 (pa_cons (pv 1) pa_nil)) (nomark _)) (pss_one (ps_ret pe_bl)) pss_nil)
      (pss_cons (ps_if (PW.pt (pw_and (pt_cmpR op_gt (pe_call (G_law_sort.mono (by first | decide | omega)) hr (by rfl) T.g_law_sort T.F_law_sort.kp T.b_law_sort .nil pass0 (pa_cons (pv 0) pa_nil)) pe_int (nomark _)) (pw_and1 (pt_cmpR op_lt (pe_call (G_law_sort.mono (by first | decide | omega)) hr (by rfl) T.g_law_sort T.F_law_sort.kp T.b_law_sort .nil pass0 (pa_cons (pv 0) pa_nil)) pe_int (nomark _))))) (pss_cons (ps_if (pt_cmpR op_ne (pe_callB call_len_seq (by rfl) T.n_len (by decide +kernel) (pa_cons (pv 0) pa_nil)) (pe_callB call_len_seq (by rfl) T.n_len (by decide +kernel) (pa_cons (pv 1) pa_nil)) (nomark _)) (pss_one (ps_ret pe_bl)) pss_nil)
      (pss_one (ps_ret (pe_cmpR (op_eqP hr.units) (pe_lc (own := [("k", 2), ("part", 3)]) (g := gTup K 2 (gCons (gName 2) (gCons (gName 3) gNil))) rfl sc_law_same.nd (pi_enum1 (by rfl) T.n_enumerate (pa_cons (pv 0) pa_nil)) (blkOk_by (own := [("k", 2), ("part", 3)]) (N := ["told", "due", "k", "part"]) (sc := defScope s_law_same) (by decide +kernel)) (fun _ _ _ _ _ => (pg_tup rfl (pgs_cons (pg_name (i := 2) sc_law_same.nd rfl (.inl rfl)) (pgs_cons (pg_name (i := 3) sc_law_same.nd rfl (.inl rfl)) pgs_nil)))) (fun _ _ _ _ _ => pts_one (pt_not (pt_val (pe_call (G_law_same.mono (by first | decide | omega)) hr (by rfl) T.g_law_same T.F_law_same.kp T.b_law_same .nil pass0 (pa_cons (pv 3) (pa_cons (pe_ix (show IxR _ (rIx K) from ix_seq) (pv 1) (pv 2) (fun _ _ => rfl)) pa_nil)))))) (fun _ _ _ _ _ => (pv 2))) (pe_lst pa_nil) (nomark _))))) pss_nil)
      (pss_one (ps_ret (pe_cmpR (op_eqP hr.units) (pv 0) (pv 1) (nomark _)))))), ?_⟩
    refine ⟨v, rfl, v, d, rfl, hv, u, rfl, u, d, rfl, hu, rfl, _, rfl, ?_⟩
    rw [decide_eq_true (show V.int (sortD d) = V.int (sortD d) from rfl)]
    refine iteF ⟨v, rfl, v, d, rfl, hv, _, _, rfl, rfl, _, rfl, ?_⟩
    have comp : ∀ (b : Bool) (a c : Addr) (xs ys : List V) (ds : List PyData), v = .ref a → u = .ref c → SqK b K H a xs → SqK b K H c ys → DpAll K H xs ds → DpAll K H ys ds → (∀ d ∈ ds, d.depth < n) →
        tOp (rEqP K) (tLc (iEnum1 K (tCons (tVar 0) tNil)) (gTup K 2 (gCons (gName 2) (gCons (gName 3) gNil))) (tNot (tB (tCall (sp_same K n) [] E0 (tCons (tVar 3) (tCons (fun σ H Q => tVar 1 σ H fun x H1 => tVar 2 σ H1 fun y H2 => rIx K x y H2 Q) tNil))))) (tVar 2) [2, 3]) (tLst tNil) (start ["told", "due", "k", "part"] [v, u]) H Q := by
      intro b a c xs ys ds ev eu s1 s2 a1 a2 hdep
      subst ev eu
      have l1 := dpAll_len a1
      have l2 := dpAll_len a2
      refine ⟨_, rfl, b, a, xs, rfl, s1, fun D nD => ?_⟩
      refine lc_it (walk_1 (n := ds.length) (xs := xs) (by omega)) (fun i H' => Same H H' ∧ H' D = some (.lst [])) ⟨same_new nD, upd_same⟩ (fun i H' _ p => ?_) (fun i x H' H2 hi p y => ?_) (fun H' p => ?_)
      · cases b
        · exact seqT_mono p.1 s1
        · exact p.1.seq s1
      · obtain ⟨Tt, x, rfl, nT, rfl, hx⟩ := y
        have s3 : Same H (upd H' Tt (.tup [.int (i : Nat), x])) := p.1.trans (same_new nT)
        obtain ⟨d1, e1, h1⟩ := dpAll_get a1 hx
        obtain ⟨y, hy, h2⟩ := dpAll_at a2 e1
        refine ⟨Tt, _, rfl, .inl (.inl upd_same), rfl, _, _, rfl, _, [], rfl, rfl, ?_⟩
        refine ⟨rfl, x, rfl, .ref c, rfl, _, rfl, ?_⟩
        have hD' : upd H' Tt (.tup [.int (i : Nat), x]) D = some (.lst []) := by
          rw [upd_ne (ne_of_none p.2 nT)]
          exact p.2
        have dd := hdep d1 (List.mem_of_getElem? e1)
        cases b
        · exact .inr (.inl ⟨c, ys, _, y, rfl, rfl, seqT_mono s3 s2, atI_nat hy, x, y, d1, rfl, Dpm s3 h1, Dpm s3 h2, dd, fun H3 s4 => ⟨true, rfl, iteF ⟨s3.trans s4, s4 _ _ hD'⟩⟩⟩)
        · exact .inl ⟨c, ys, _, y, rfl, rfl, s3.seq s2, atI_nat hy, x, y, d1, rfl, Dpm s3 h1, Dpm s3 h2, dd, fun H3 s4 => ⟨true, rfl, iteF ⟨s3.trans s4, s4 _ _ hD'⟩⟩⟩
      · refine ⟨Nat.zero_le _, fun p2 np2 => ?_⟩
        have s5 := p.1.trans (same_new (o := .lst []) np2)
        refine ⟨.list [], .list [], .lst (.inl (.inl ?_)) .nil, .lst (.inl (.inl upd_same)) .nil, by simp [PyData.depth, PyData.depthAll], q _ s5⟩
        rw [upd_ne (ne_of_none p.2 np2)]
        exact p.2
    have flat : d.depth ≤ 64 → tOp (rEqP K) (tVar 0) (tVar 1) (start ["told", "due", "k", "part"] [v, u]) H Q := fun h64 => by
      refine ⟨v, rfl, u, rfl, d, d, hv, hu, h64, ?_⟩
      rw [eqv_self hv]
      exact q H (Same.refl H)
    cases d with
    | none => exact iteT ⟨v, rfl, v, _, rfl, hv, _, _, rfl, rfl, _, rfl, flat (by simp [PyData.depth])⟩
    | bool b => exact flat (by simp [PyData.depth])
    | int b => exact flat (by simp [PyData.depth])
    | str b => exact flat (by simp [PyData.depth])
    | dict b => cases hv
    | list ds =>
      obtain ⟨a, xs, rfl, s1, a1⟩ := dp_lst hv
      obtain ⟨c, ys, rfl, s2, a2⟩ := dp_lst hu
      refine iteT ⟨.ref a, rfl, .ref a, _, rfl, hv, _, _, rfl, rfl, _, rfl, ?_⟩
      refine iteT ⟨.ref a, rfl, a, xs, rfl, .inl s1, .ref c, rfl, c, ys, rfl, .inl s2, rfl, _, rfl, ?_⟩
      rw [dpAll_len a1, dpAll_len a2, decide_eq_true (show V.int (ds.length : Int) = V.int (ds.length : Int) from rfl)]
      refine iteF (comp true a c xs ys ds rfl rfl s1 s2 a1 a2 (fun x hx => ?_))
      have : PyData.depthAll ds + 1 < n + 1 := by simpa [PyData.depth] using hd
      have := depth_of_all (n := PyData.depthAll ds) ds (Nat.le_refl _) x hx
      omega
    | tuple ds =>
      obtain ⟨a, xs, rfl, s1, a1⟩ := dp_tup hv
      obtain ⟨c, ys, rfl, s2, a2⟩ := dp_tup hu
      refine iteT ⟨.ref a, rfl, .ref a, _, rfl, hv, _, _, rfl, rfl, _, rfl, ?_⟩
      refine iteT ⟨.ref a, rfl, a, xs, rfl, .inr s1, .ref c, rfl, c, ys, rfl, .inr s2, rfl, _, rfl, ?_⟩
      rw [dpAll_len a1, dpAll_len a2, decide_eq_true (show V.int (ds.length : Int) = V.int (ds.length : Int) from rfl)]
      refine iteF (comp false a c xs ys ds rfl rfl s1 s2 a1 a2 (fun x hx => ?_))
      have : PyData.depthAll ds + 1 < n + 1 := by simpa [PyData.depth] using hd
      have := depth_of_all (n := PyData.depthAll ds) ds (Nat.le_refl _) x hx
      omega
theorem ok_law_same (T : Tx K mg) : ∀ n : Nat, FnOk P w K mg base CX0 (n + 1) T.f_law_same T.fd_law_same ["told", "due"] (sp_same K n)
  | 0 => ⟨fun vs H Q E h => by
      obtain ⟨_, _, _, _, _, _, z, _⟩ := h
      omega, fun A outer s H args us vs Q E hr he hb hv h => by
      obtain ⟨_, _, _, _, _, _, z, _⟩ := h
      omega⟩
  | n + 1 => same_step T (Nat.succ_le_succ (Nat.zero_le n)) (ok_law_same T n)
end PS

namespace PS
open PySem PySem.Spec PyProof.Rows L2
variable {P : Program} {w : World} {K : PySem.W.Frag} {mg : Str → Option Value} {base : Heap}
theorem off_new {k p : Addr} {H : Hp} {o : HO} (np : H p = none) : Same (Off k H) (Off k (upd H p o)) := off_mono (same_new np)
theorem off_free {k p : Addr} {H : Hp} (np : H p = none) : Off k H p = none := by
  unfold Off
  split
  · rfl
  · exact np
theorem off_up {k p : Addr} {H : Hp} {o : HO} (n : p ≠ k) : Off k (upd H p o) p = some o := off_at n upd_same
theorem off_keep {k D : Addr} {H0 H : Hp} {o : HO} (s : Same (Off k H0) (Off k H)) (nD : H0 D = none) : Same (Off k H0) (Off k (upd H D o)) := fun b x e => by
  have nb : b ≠ D := ne_of_none e (off_free nD)
  have h := s b x e
  unfold Off at h ⊢
  split at h
  · cases h
  · rename_i nk
    rw [if_neg nk, upd_ne nb]
    exact h
/-! ### shelves -/
def sp_shelf (K : PySem.W.Frag) : Sp := fun vs H Q _ => ∃ (k : Addr) (m pl : Int) (n : Nat), vs = [.ref k, .int m, .int pl] ∧ 1 ≤ m ∧ m ≤ 8 ∧ 0 ≤ pl ∧ pl ≤ 400 ∧ Dk k H (n + 20) ∧
  ∀ v H' room ls, ShOk room ls → (ls.length : Int) ≤ m → room - ls.sum ≤ pl → Dk k H' n → Same (Off k H) (Off k H') → Dp K (Off k H') v (shD room ls) → Q v H'
theorem ok_law_shelf (T : Tx K mg) : FnOk P w K mg base CX0 3 T.f_law_shelf T.fd_law_shelf ["deck", "at_most", "play"] (sp_shelf K) := by
  have G_law_pick := ok_law_pick (P := P) (w := w) (base := base) T
  have G_law_one := ok_law_one (P := P) (w := w) (base := base) T
  refine T.F_law_shelf.ok sc_law_shelf (fun vs H Q E h => ?_) (fun cdv A outer s H vs Q E hr h => ?_)
  · obtain ⟨k, m, pl, n, rfl, _⟩ := h
    rfl
  · obtain ⟨k, m, pl, n, rfl, m1, m8, p0, p4, dk, q⟩ := h
    refine ⟨_, (pss_cons (ps_set (i := 3) sc_law_shelf.nd rfl (.inl rfl) (pe_callTy call_tuple_of (by rfl) T.n_tuple (by decide +kernel) (pa_cons (pe_lc (own := [("k", 4)]) (g := gName 4) (tt := tYes) rfl sc_law_shelf.nd (pi_range1 (by rfl) T.n_range (pa_cons (pe_op op_add pe_int (pe_call (G_law_pick.mono (by first | decide | omega)) hr (by rfl) T.g_law_pick T.F_law_pick.kp T.b_law_pick .nil pass0 (pa_cons (pv 0) (pa_cons (pv 1) pa_nil)))) pa_nil)) (blkOk_by (own := [("k", 4)]) (N := ["deck", "at_most", "play", "blocks", "k"]) (sc := defScope s_law_shelf) (by decide +kernel)) (fun _ _ _ _ _ => (pg_name (i := 4) sc_law_shelf.nd rfl (.inl rfl))) (fun _ _ _ _ _ => pts_nil) (fun _ _ _ _ _ => (pe_op op_add pe_int (pe_call (G_law_pick.mono (by first | decide | omega)) hr (by rfl) T.g_law_pick T.F_law_pick.kp T.b_law_pick .nil pass0 (pa_cons (pv 0) (pa_cons (pe_call (G_law_one.mono (by first | decide | omega)) hr (by rfl) T.g_law_one T.F_law_one.kp T.b_law_one .nil pass0 (pa_cons (pv 0) (pa_cons (pe_lst (pa_cons pe_int (pa_cons pe_int pa_nil))) pa_nil))) pa_nil)))))) pa_nil)))
      (pss_one (ps_ret (pe_tup (pa_cons (pe_op op_add (pe_callB (cr_sumT rfl) (by rfl) T.n_sum (by decide +kernel) (pa_cons (pv 3) pa_nil)) (pe_call (G_law_pick.mono (by first | decide | omega)) hr (by rfl) T.g_law_pick T.F_law_pick.kp T.b_law_pick .nil pass0 (pa_cons (pv 0) (pa_cons (pe_op op_add (pv 2) pe_int) pa_nil)))) (pa_cons (pv 3) pa_nil)))))), ?_⟩
    refine ⟨.ref k, rfl, .int m, rfl, k, m, n + 19, rfl, by omega, by omega, dk, fun r H1 r0 r1 dk1 s1 => ?_⟩
    refine ⟨_, _, rfl, rfl, _, rfl, by omega, by omega, fun D nD => ?_⟩
    refine lc_range (lo := 0) (n := (1 + r).toNat) (fun i H' => Same (Off k H1) (Off k H') ∧ Dk k H' (n + 19 - 2 * i) ∧ ∃ ns : List Int, H' D = some (.lst (iV ns)) ∧ ns.length = i ∧ ∀ l ∈ ns, 1 ≤ l ∧ l ≤ 50)
      ⟨off_new nD, dk1.same (same_new nD), [], upd_same, rfl, by simp⟩ (fun i H' hi p => ?_) (fun H' p => ?_)
    · obtain ⟨s2, dk2, ns, hD, hl, hb⟩ := p
      refine ⟨rfl, .ref k, rfl, .ref k, rfl, by show 2 ≤ sizeLine; decide, fun z nz => ?_⟩
      have nzk := dk2.ne nz
      refine ⟨k, z, [.int 3, .int 50], n + 17 - 2 * i + 1, rfl, .inl (.inl (off_up nzk)), by decide, by decide, (dk2.same (same_new nz)).le (by omega), fun x H3 hx dk3 s3 => ?_⟩
      have hx' : x = .int 3 ∨ x = .int 50 := by simpa using hx
      have fin : ∀ c : Int, 0 < c → c ≤ 50 → sp_pick K [.ref k, .int c] H3 (fun y H4 => ∃ i1 j1, (V.int 1) = .int i1 ∧ y = .int j1 ∧ ∃ acc, H4 D = some (.lst acc) ∧ acc.length < sizeLine ∧ Same (Off k H1) (Off k (upd H4 D (.lst (acc ++ [.int (i1 + j1)])))) ∧ Dk k (upd H4 D (.lst (acc ++ [.int (i1 + j1)]))) (n + 19 - 2 * (i + 1)) ∧ ∃ ns : List Int, upd H4 D (.lst (acc ++ [.int (i1 + j1)])) D = some (.lst (iV ns)) ∧ ns.length = i + 1 ∧ ∀ l ∈ ns, 1 ≤ l ∧ l ≤ 50) E0 := by
        intro c c0 c1
        refine ⟨k, c, n + 17 - 2 * i, rfl, c0, by omega, dk3, fun t H4 t0 t1 dk4 s4 => ?_⟩
        have nDk : D ≠ k := dk1.ne nD
        have sA : Same (Off k H') (Off k H4) := ((off_new nz).trans s3).trans s4
        have hD4 : H4 D = some (.lst (iV ns)) := off_back sA nDk hD
        have s5 : Same (Off k H1) (Off k H4) := s2.trans sA
        refine ⟨1, t, rfl, rfl, _, hD4, ?_, off_keep s5 nD, ?_, ns ++ [1 + t], ?_, ?_, ?_⟩
        · rw [List.length_map]
          exact small1000 (by omega)
        · obtain ⟨a, b, c, h1, h2⟩ := dk4.le (show n + 19 - 2 * (i + 1) ≤ n + 17 - 2 * i by omega)
          exact ⟨a, b, c, by rw [upd_ne nDk.symm]; exact h1, h2⟩
        · rw [upd_same]
          simp
        · rw [List.length_append, hl]
          rfl
        · intro l hl'
          rcases List.mem_append.mp hl' with z | z
          · exact hb l z
          · have : l = 1 + t := by simpa using z
            omega
      rcases hx' with rfl | rfl
      · exact fin 3 (by decide) (by decide)
      · exact fin 50 (by decide) (by decide)
    · obtain ⟨s2, dk2, ns, hD, hl, hb⟩ := p
      refine ⟨D, _, rfl, .inl ⟨.inl (.inl hD), fun t nt => ?_⟩⟩
      have hT : upd H' t (.tup (iV ns)) t = some (.tup (iV ns)) := upd_same
      have ntk := dk2.ne nt
      refine ⟨.ref t, rfl, t, ns, rfl, .inl (.inl hT), .ref k, rfl, _, rfl, _, _, rfl, rfl, k, pl + 1, n, rfl, by omega, by omega, (dk2.same (same_new nt)).le (by omega), fun r2 H4 r20 r21 dk4 s4 => ?_⟩
      refine ⟨_, _, rfl, rfl, .ref t, rfl, by show 2 ≤ sizeLine; decide, fun z nz => ?_⟩
      have h5 : Off k H4 t = some (.tup (iV ns)) := s4 _ _ (off_up ntk)
      have nzk := dk4.ne nz
      refine q (.ref z) _ (ns.sum + r2) ns ⟨by omega, by omega, hb, by omega, by omega⟩ (by omega) (by omega) (dk4.same (same_new nz)) (((s1.trans s2).trans (off_new nt)).trans (s4.trans (off_new nz))) ?_
      refine .tup (.inl (.inl (off_up nzk))) (.cons (.int _) (.cons (tI_dp (.inl (.inl ?_))) .nil))
      exact off_new nz _ _ h5
def sp_play (K : PySem.W.Frag) : Sp := fun vs H Q _ => ∃ v room ls, vs = [v] ∧ Dp K H v (shD room ls) ∧ Q (.int (room - ls.sum)) H
theorem ok_law_play (T : Tx K mg) : FnOk P w K mg base CX0 1 T.f_law_play T.fd_law_play ["shelf"] (sp_play K) := by
  refine T.F_law_play.ok sc_law_play (fun vs H Q E h => ?_) (fun cdv A outer s H vs Q E hr h => ?_)
  · obtain ⟨v, room, ls, rfl, _⟩ := h
    rfl
  · obtain ⟨v, room, ls, rfl, hv, q⟩ := h
    obtain ⟨a, b, rfl, sa, sb⟩ := dp_shelf hv
    refine ⟨_, (pss_one (ps_ret (pe_op op_sub (pe_ix ix_tup (pv 0) pe_int (fun _ _ => rfl)) (pe_callB (cr_sumT rfl) (by rfl) T.n_sum (by decide +kernel) (pa_cons (pe_ix ix_tup (pv 0) pe_int (fun _ _ => rfl)) pa_nil))))), ?_⟩
    exact ⟨.ref a, rfl, a, _, 0, _, rfl, rfl, sa, atI_nat (j := 0) rfl, .ref a, rfl, a, _, 1, _, rfl, rfl, sa, atI_nat (j := 1) rfl, b, ls, rfl, sb, _, _, rfl, rfl, q⟩
/-! ### stands -/
def sp_stand_of (K : PySem.W.Frag) : Sp := fun vs H Q _ => ∃ v a room ls y, vs = [v, .ref a] ∧ Dp K H v (shD room ls) ∧ ls.length ≤ 8 ∧ (SqL K H a (iV ((List.range ls.length).map y)) ∨ SqT K H a (iV ((List.range ls.length).map y))) ∧ RD K H Q (tI (stL ls y))
theorem stL_take {ls : List Int} {y : Nat → Int} {i : Nat} (h : i < ls.length) : (stL ls y).take (i + 1) = (stL ls y).take i ++ [y i + pre ls i] := by
  rw [List.take_add_one, stL_get h]
  rfl
theorem stand_of_any (b : Bool) (T : Tx K mg) : FnOk P w K mg base CX0 1 T.f_law_stand_of T.fd_law_stand_of ["shelf", "places"] (fun vs H Q _ => ∃ v a room ls y, vs = [v, .ref a] ∧ Dp K H v (shD room ls) ∧ ls.length ≤ 8 ∧ SqK b K H a (iV ((List.range ls.length).map y)) ∧ RD K H Q (tI (stL ls y))) := by
  refine T.F_law_stand_of.ok sc_law_stand_of (fun vs H Q E h => ?_) (fun cdv A outer s H vs Q E hr h => ?_)
  · obtain ⟨v, a, room, ls, y, rfl, _⟩ := h
    rfl
  · obtain ⟨v, a, room, ls, y, rfl, hv, n8, ha, q⟩ := h
    obtain ⟨c, d, rfl, sc, sd⟩ := dp_shelf hv
    refine ⟨_, (pss_cons (ps_par (i := 2) (j := 3) (by rfl) sc_law_stand_of.nd rfl rfl (by decide) rfl rfl (pa_cons (pe_lst pa_nil) (pa_cons pe_int pa_nil)) (by rfl))
      (pss_cons (ps_for PassesOwn.never rfl (pi_zip2 b false (by rfl) T.n_zip (pa_cons (pv 1) (pa_cons (pe_ix ix_tup (pv 0) pe_int (fun _ _ => rfl)) pa_nil))) (pg_tup rfl (pgs_cons (pg_name (i := 4) sc_law_stand_of.nd rfl (.inl rfl)) (pgs_cons (pg_name (i := 5) sc_law_stand_of.nd rfl (.inl rfl)) pgs_nil)))
      (pss_cons (ps_expr (pe_bm PySem.F.plainAttrs_list PySem.F.slot_list_append PySem.F.type_list_append mt_append (pv 2) (pa_cons (pe_op op_add (pv 4) (pv 3)) pa_nil)))
      (pss_one (ps_set (i := 3) sc_law_stand_of.nd rfl (.inl rfl) (pe_op op_add (pv 3) (pv 5))))))
      (pss_one (ps_ret (pe_callTy call_tuple_of (by rfl) T.n_tuple (by decide +kernel) (pa_cons (pv 2) pa_nil)))))), ?_⟩
    refine ⟨Nat.zero_le _, fun l nl => ⟨_, _, rfl, ?_⟩⟩
    have s1 : Same H (upd H l (.lst [])) := same_new nl
    have ha1 : SqK b K (upd H l (.lst [])) a (iV ((List.range ls.length).map y)) := by
      cases b
      · exact seqT_mono s1 ha
      · exact s1.seq ha
    refine ⟨.ref a, rfl, .ref c, rfl, c, _, 1, _, rfl, rfl, seqT_mono s1 sc, atI_nat (j := 1) rfl, a, d, _, _, rfl, ha1, seqT_mono s1 sd, ?_⟩
    refine for_it (walk_2 (n := ls.length) (xs := iV ((List.range ls.length).map y)) (ys := iV ls) (by simp)) (fun i σ H' => Same H H' ∧ H' l = some (.lst (iV ((stL ls y).take i))) ∧ ∃ y4 y5, σ = [some (.ref c), some (.ref a), some (.ref l), some (.int (pre ls i)), y4, y5])
      ⟨s1, upd_same, none, none, by rw [pre_zero]; rfl⟩ (fun i σ H' _ p => ⟨?_, seqT_mono p.1 sd⟩) (fun i x σ H' H2 hi p yy => ?_) (fun σ H' p => ?_)
    · cases b
      · exact seqT_mono p.1 ha
      · exact p.1.seq ha
    · obtain ⟨s2, hl, y4, y5, rfl⟩ := p
      obtain ⟨Tt, x, z, rfl, nT, rfl, hx, hz⟩ := yy
      have s3 : Same H (upd H' Tt (.tup [x, z])) := s2.trans (same_new nT)
      have ex : x = .int (y i) := by
        rw [iV_get (v := y i) (by simp [hi])] at hx
        exact (Option.some.inj hx).symm
      have ez : z = .int ls[i] := by
        rw [iV_get (List.getElem?_eq_getElem hi)] at hz
        exact (Option.some.inj hz).symm
      subst ex ez
      have hl2 : upd H' Tt (.tup [.int (y i), .int ls[i]]) l = some (.lst (iV ((stL ls y).take i))) := by
        rw [upd_ne (ne_of_none hl nT)]
        exact hl
      refine ⟨Tt, _, rfl, .inl (.inl upd_same), rfl, _, _, rfl, _, [], rfl, rfl, ?_⟩
      refine ⟨.ref l, rfl, .inl ⟨rfl, _, .inl (.inl hl2)⟩, _, rfl, _, rfl, _, _, rfl, rfl, l, _, _, rfl, rfl, hl2, ?_, ?_⟩
      · rw [List.length_map, List.length_take]
        exact small1000 (by omega)
      · refine ⟨_, rfl, _, rfl, _, _, rfl, rfl, fun b o hb => ?_, ?_, some (.int (y i)), some (.int ls[i]), ?_⟩
        · rw [upd_ne (ne_of_none hb nl)]
          exact s3 b o hb
        · rw [upd_same, stL_take hi]
          simp
        · rw [pre_succ hi]
          rfl
    · obtain ⟨s2, hl, y4, y5, rfl⟩ := p
      rw [List.take_of_length_le (by rw [stL_len]; exact Nat.le_refl _)] at hl
      refine ⟨.ref l, rfl, l, _, rfl, .inl ⟨.inl (.inl hl), fun t nt => ?_⟩⟩
      exact q _ _ (s2.trans (same_new nt)) (tI_dp (.inl (.inl upd_same)))
end PS

namespace PS
open PySem PySem.Spec PyProof.Rows L2
variable {P : Program} {w : World} {K : PySem.W.Frag} {mg : Str → Option Value} {base : Heap}
theorem range_getD (ns : List Int) : (List.range ns.length).map (fun j => ns.getD j 0) = ns := by
  apply List.ext_getElem?
  intro j
  by_cases h : j < ns.length
  · simp [h]
  · rw [List.getElem?_eq_none (by simp; omega), List.getElem?_eq_none (by omega)]
theorem rise_sorted {ns : List Int} {pl : Int} (hs : ns.Pairwise (· ≤ ·)) (hb : ∀ x ∈ ns, 0 ≤ x ∧ x ≤ pl) : Rise ns.length pl (fun j => ns.getD j 0) where
  lo := fun j hj => by
    have := hb ns[j] (List.getElem_mem hj)
    simp [hj]; omega
  hi := fun j hj => by
    have := hb ns[j] (List.getElem_mem hj)
    simp [hj]; omega
  up := fun j hj => by
    have h1 : j < ns.length := by omega
    have := List.pairwise_iff_getElem.mp hs j (j + 1) h1 hj (by omega)
    simp [h1, hj]
    exact this
def sp_stand (K : PySem.W.Frag) : Sp := fun vs H Q _ => ∃ (k : Addr) (v : V) (room : Int) (ls : List Int) (n : Nat), vs = [.ref k, v] ∧ Dp K (Off k H) v (shD room ls) ∧ ShOk room ls ∧ Dk k H (n + 20) ∧
  ∀ u H' y, Rise ls.length (room - ls.sum) y → Dk k H' n → Same (Off k H) (Off k H') → Dp K (Off k H') u (tI (stL ls y)) → Q u H'
theorem ok_law_stand (T : Tx K mg) : FnOk P w K mg base CX0 3 T.f_law_stand T.fd_law_stand ["deck", "shelf"] (sp_stand K) := by
  have G_law_pick := ok_law_pick (P := P) (w := w) (base := base) T
  have G_law_one := ok_law_one (P := P) (w := w) (base := base) T
  have G_law_play := ok_law_play (P := P) (w := w) (base := base) T
  have G_law_stand_of := stand_of_any (P := P) (w := w) (base := base) true T
  refine T.F_law_stand.ok sc_law_stand (fun vs H Q E h => ?_) (fun cdv A outer s H vs Q E hr h => ?_)
  · obtain ⟨k, v, _, _, n, rfl, _⟩ := h
    rfl
  · obtain ⟨k, v, room, ls, n, rfl, hv, sh, dk, q⟩ := h
    have fin : ∀ (H' : Hp) (p : Addr) (ns : List Int), Same (Off k H) (Off k H') → Dk k H' n → p ≠ k → H' p = some (.lst (iV ns)) → ns.length = ls.length → ns.Pairwise (· ≤ ·) → (∀ x ∈ ns, 0 ≤ x ∧ x ≤ room - ls.sum) →
        ∃ v' a room' ls' y, [v, .ref p] = [v', V.ref a] ∧ Dp K H' v' (shD room' ls') ∧ ls'.length ≤ 8 ∧ SqK true K H' a (iV ((List.range ls'.length).map y)) ∧ RD K H' Q (tI (stL ls' y)) := by
      intro H' p ns sm dk' npk hp hl hs hb
      refine ⟨v, p, room, ls, fun j => ns.getD j 0, rfl, Dpm (sm.trans (off_same k H')) hv, sh.n8, ?_, fun u H3 s3 h3 => ?_⟩
      · rw [← hl, range_getD]
        exact .inl (.inl hp)
      · obtain ⟨l, hk⟩ := (dk'.same s3).lst
        have ri := rise_sorted hs hb
        rw [hl] at ri
        exact q u H3 _ ri (dk'.same s3) (sm.trans (off_mono s3)) (dp_off hk _ _ (noL_tI _) h3)
    obtain ⟨a, b, rfl, sa, sb⟩ := dp_shelf hv
    have pl0 := sh.lo
    have pl4 := sh.hi
    have n8 := sh.n8
    refine ⟨_, (pss_cons (ps_set (i := 2) sc_law_stand.nd rfl (.inr rfl) (pe_callB cr_sorted (by rfl) T.n_sorted (by decide +kernel) (pa_cons (pe_lc (own := [("long", 3)]) (g := gName 3) (tt := tYes) rfl sc_law_stand.nd (pi_tup (pe_ix ix_tup (pv 1) pe_int (fun _ _ => rfl))) (blkOk_by (own := [("long", 3)]) (N := ["deck", "shelf", "places", "long"]) (sc := defScope s_law_stand) (by decide +kernel)) (fun _ _ _ _ _ => (pg_name (i := 3) sc_law_stand.nd rfl (.inl rfl))) (fun _ _ _ _ _ => pts_nil) (fun _ _ _ _ _ => (pe_call (G_law_pick.mono (by first | decide | omega)) hr (by rfl) T.g_law_pick T.F_law_pick.kp T.b_law_pick .nil pass0 (pa_cons (pv 0) (pa_cons (pe_op op_add (pe_call (G_law_play.mono (by first | decide | omega)) hr (by rfl) T.g_law_play T.F_law_play.kp T.b_law_play .nil pass0 (pa_cons (pv 1) pa_nil)) pe_int) pa_nil))))) pa_nil)))
      (pss_cons (ps_if (pt_cmpR op_eq (pe_call (G_law_pick.mono (by first | decide | omega)) hr (by rfl) T.g_law_pick T.F_law_pick.kp T.b_law_pick .nil pass0 (pa_cons (pv 0) (pa_cons pe_int pa_nil))) pe_int (nomark _)) (pss_one (ps_set (i := 2) sc_law_stand.nd rfl (.inr rfl) (pe_callB cr_sorted (by rfl) T.n_sorted (by decide +kernel) (pa_cons (pe_lc (own := [("long", 3)]) (g := gName 3) (tt := tYes) rfl sc_law_stand.nd (pi_tup (pe_ix ix_tup (pv 1) pe_int (fun _ _ => rfl))) (blkOk_by (own := [("long", 3)]) (N := ["deck", "shelf", "places", "long"]) (sc := defScope s_law_stand) (by decide +kernel)) (fun _ _ _ _ _ => (pg_name (i := 3) sc_law_stand.nd rfl (.inl rfl))) (fun _ _ _ _ _ => pts_nil) (fun _ _ _ _ _ => (pe_call (G_law_one.mono (by first | decide | omega)) hr (by rfl) T.g_law_one T.F_law_one.kp T.b_law_one .nil pass0 (pa_cons (pv 0) (pa_cons (pv 2) pa_nil))))) pa_nil)))) pss_nil)
      (pss_one (ps_ret (pe_call (G_law_stand_of.mono (by first | decide | omega)) hr (by rfl) T.g_law_stand_of T.F_law_stand_of.kp T.b_law_stand_of .nil pass0 (pa_cons (pv 1) (pa_cons (pv 2) pa_nil))))))), ?_⟩
    refine ⟨.ref a, rfl, a, _, 1, _, rfl, rfl, seqT_mono (off_same k H) sa, atI_nat (j := 1) rfl, b, rfl, ⟨_, seqT_mono (off_same k H) sb⟩, fun D nD => ?_⟩
    have nDk : D ≠ k := dk.ne nD
    refine lc_tup (K := K) (a := b) (xs := iV ls) (fun i H' => Same (Off k H) (Off k H') ∧ Dk k H' (n + 20 - i) ∧ ∃ ns : List Int, H' D = some (.lst (iV ns)) ∧ ns.length = i ∧ ∀ x ∈ ns, 0 ≤ x ∧ x ≤ room - ls.sum)
      ⟨off_new nD, dk.same (same_new nD), [], upd_same, rfl, by simp⟩ (fun i H' _ p => seqT_mono (p.1.trans (off_same k H')) sb) (fun i x H' hx p => ?_) (fun H' p => ?_)
    · obtain ⟨s2, dk2, ns, hD, hl, hb⟩ := p
      have hi : i < ls.length := by
        have := (List.getElem?_eq_some_iff.mp hx).1
        rwa [iV_len] at this
      refine ⟨rfl, .ref k, rfl, .ref a, rfl, .ref a, room, ls, rfl, Dpm (s2.trans (off_same k H')) hv, _, _, rfl, rfl, k, _, n + 19 - i, rfl, by omega, by omega, dk2.le (by omega), fun r H4 r0 r1 dk4 s4 => ?_⟩
      have hD4 : H4 D = some (.lst (iV ns)) := off_back s4 nDk hD
      refine ⟨_, hD4, ?_, off_keep (s2.trans s4) nD, ?_, ns ++ [r], ?_, ?_, ?_⟩
      · rw [List.length_map]
        exact small1000 (by omega)
      · obtain ⟨a, b, c, h1, h2⟩ := dk4.le (show n + 20 - (i + 1) ≤ n + 19 - i by omega)
        exact ⟨a, b, c, by rw [upd_ne nDk.symm]; exact h1, h2⟩
      · rw [upd_same]
        simp
      · rw [List.length_append, hl]
        rfl
      · intro l hl'
        rcases List.mem_append.mp hl' with z | z
        · exact hb l z
        · have : l = r := by simpa using z
          omega
    · obtain ⟨s2, dk2, ns, hD, hl, hb⟩ := p
      rw [iV_len] at hl dk2
      refine ⟨D, ns, rfl, .inl (.inl hD), by omega, fun ns1 p1 perm1 sort1 np1 => ?_⟩
      have hl1 : ns1.length = ls.length := by rw [perm1.length_eq, hl]
      have hb1 : ∀ x ∈ ns1, 0 ≤ x ∧ x ≤ room - ls.sum := fun x hx => hb x (perm1.mem_iff.mp hx)
      have np1k : p1 ≠ k := dk2.ne np1
      refine ⟨.ref k, rfl, k, 3, n + 11, rfl, by decide, by decide, (dk2.same (same_new np1)).le (by omega), fun r H3 r0 r1 dk3 s3 => ?_⟩
      have hp1 : H3 p1 = some (.lst (iV ns1)) := off_back s3 np1k upd_same
      have s13 : Same (Off k H) (Off k H3) := (s2.trans (off_new np1)).trans s3
      refine ⟨rfl, _, rfl, ite2 (fun _ => ?_) (fun _ => ?_)⟩
      · have sa3 := seqT_mono (s13.trans (off_same k H3)) sa
        have sb3 := seqT_mono (s13.trans (off_same k H3)) sb
        refine ⟨.ref a, rfl, a, _, 1, _, rfl, rfl, sa3, atI_nat (j := 1) rfl, b, rfl, ⟨_, sb3⟩, fun D2 nD2 => ?_⟩
        have nD2k : D2 ≠ k := dk3.ne nD2
        have nDp : p1 ≠ D2 := ne_of_none hp1 nD2
        refine lc_tup (K := K) (a := b) (xs := iV ls) (fun i H' => Same (Off k H3) (Off k H') ∧ Dk k H' (n + 11 - i) ∧ ∃ ns : List Int, H' D2 = some (.lst (iV ns)) ∧ ns.length = i ∧ ∀ x ∈ ns, 0 ≤ x ∧ x ≤ room - ls.sum)
          ⟨off_new nD2, dk3.same (same_new nD2), [], upd_same, rfl, by simp⟩ (fun i H' _ p => seqT_mono ((s13.trans p.1).trans (off_same k H')) sb) (fun i x H' hx p => ?_) (fun H' p => ?_)
        · obtain ⟨s4, dk4, ns2, hD2, hl2, hb2⟩ := p
          have hi : i < ls.length := by
            have := (List.getElem?_eq_some_iff.mp hx).1
            rwa [iV_len] at this
          have hp4 : Off k H' p1 = some (.lst (iV ns1)) := s4 _ _ (off_at np1k hp1)
          refine ⟨rfl, .ref k, rfl, .ref p1, rfl, k, p1, _, n + 10 - i, rfl, .inl (.inl hp4), by rw [iV_len]; have := sh.n1; omega, by rw [iV_len]; omega, dk4.le (by omega), fun x H5 hx5 dk5 s5 => ?_⟩
          obtain ⟨r5, hr5, rfl⟩ := List.mem_map.mp hx5
          have hD5 : H5 D2 = some (.lst (iV ns2)) := off_back s5 nD2k hD2
          refine ⟨_, hD5, ?_, off_keep (s4.trans s5) nD2, ?_, ns2 ++ [r5], ?_, ?_, ?_⟩
          · rw [List.length_map]
            exact small1000 (by omega)
          · obtain ⟨a, b, c, h1, h2⟩ := dk5.le (show n + 11 - (i + 1) ≤ n + 10 - i by omega)
            exact ⟨a, b, c, by rw [upd_ne nD2k.symm]; exact h1, h2⟩
          · rw [upd_same]
            simp
          · rw [List.length_append, hl2]
            rfl
          · intro l hl'
            rcases List.mem_append.mp hl' with z | z
            · exact hb2 l z
            · have : l = r5 := by simpa using z
              rw [this]
              exact hb1 r5 hr5
        · obtain ⟨s4, dk4, ns2, hD2, hl2, hb2⟩ := p
          rw [iV_len] at hl2 dk4
          refine ⟨D2, ns2, rfl, .inl (.inl hD2), by omega, fun ns3 p3 perm3 sort3 np3 => ?_⟩
          refine ⟨.ref a, rfl, .ref p3, rfl, ?_⟩
          exact fin _ p3 ns3 ((s13.trans s4).trans (off_new np3)) ((dk4.same (same_new np3)).le (by omega)) (dk4.ne np3) upd_same (by rw [perm3.length_eq, hl2]) sort3 (fun x hx => hb2 x (perm3.mem_iff.mp hx))
      · refine ⟨.ref a, rfl, .ref p1, rfl, ?_⟩
        exact fin _ p1 ns1 s13 (dk3.le (by omega)) np1k hp1 hl1 sort1 hb1
/-! ### pushes and rows -/
def sp_push (K : PySem.W.Frag) : Sp := fun vs H Q _ => ∃ (k : Addr) (v : V) (room : Int) (ls : List Int) (n : Nat), vs = [.ref k, v] ∧ Dp K (Off k H) v (shD room ls) ∧ ShOk room ls ∧ Dk k H (n + 3) ∧
  ∀ u H' p, PuOk ls.length (room - ls.sum) p → Dk k H' n → Same (Off k H) (Off k H') → Dp K (Off k H') u (puD ls p) → Q u H'
theorem ok_law_push (T : Tx K mg) : FnOk P w K mg base CX0 3 T.f_law_push T.fd_law_push ["deck", "shelf"] (sp_push K) := by
  have G_law_pick := ok_law_pick (P := P) (w := w) (base := base) T
  have G_law_one := ok_law_one (P := P) (w := w) (base := base) T
  have G_law_play := ok_law_play (P := P) (w := w) (base := base) T
  refine T.F_law_push.ok sc_law_push (fun vs H Q E h => ?_) (fun cdv A outer s H vs Q E hr h => ?_)
  · obtain ⟨k, v, _, _, n, rfl, _⟩ := h
    rfl
  · obtain ⟨k, v, room, ls, n, rfl, hv, sh, dk, q⟩ := h
    obtain ⟨a, b, rfl, sa, sb⟩ := dp_shelf hv
    have pl0 := sh.lo
    have pl4 := sh.hi
    have n8 := sh.n8
    have n1 := sh.n1
    refine ⟨_, (pss_cons (ps_set (i := 2) sc_law_push.nd rfl (.inl rfl) (pe_call (G_law_one.mono (by first | decide | omega)) hr (by rfl) T.g_law_one T.F_law_one.kp T.b_law_one .nil pass0 (pa_cons (pv 0) (pa_cons (pe_lst (pa_cons pe_str (pa_cons pe_str pa_nil))) pa_nil))))
      (pss_cons (ps_set (i := 3) sc_law_push.nd rfl (.inl rfl) (pe_op op_add (pe_call (G_law_pick.mono (by first | decide | omega)) hr (by rfl) T.g_law_pick T.F_law_pick.kp T.b_law_pick .nil pass0 (pa_cons (pv 0) (pa_cons (pe_callB call_len_seq (by rfl) T.n_len (by decide +kernel) (pa_cons (pe_ix ix_tup (pv 1) pe_int (fun _ _ => rfl)) pa_nil)) pa_nil))) (pe_callTy call_int1 (by rfl) T.n_int (by decide +kernel) (pa_cons (pe_cmpR op_eq (pv 2) pe_str (nomark _)) pa_nil))))
      (pss_one (ps_ret (pe_tup (pa_cons (pv 2) (pa_cons (pv 3) (pa_cons (pe_op op_add (pe_callB (cr_sumT rfl) (by rfl) T.n_sum (by decide +kernel) (pa_cons (pe_slice sl_tupA (pe_ix ix_tup (pv 1) pe_int (fun _ _ => rfl)) po_none (po_some (pv 3))) pa_nil)) (pe_call (G_law_pick.mono (by first | decide | omega)) hr (by rfl) T.g_law_pick T.F_law_pick.kp T.b_law_pick .nil pass0 (pa_cons (pv 0) (pa_cons (pe_op op_add (pe_call (G_law_play.mono (by first | decide | omega)) hr (by rfl) T.g_law_play T.F_law_play.kp T.b_law_play .nil pass0 (pa_cons (pv 1) pa_nil)) pe_int) pa_nil)))) pa_nil)))))))), ?_⟩
    refine ⟨.ref k, rfl, by show 2 ≤ sizeLine; decide, fun z nz => ?_⟩
    have nzk := dk.ne nz
    refine ⟨k, z, [.str "right", .str "left"], n + 2, rfl, .inl (.inl (off_up nzk)), by decide, by decide, dk.same (same_new nz), fun x H1 hx dk1 s1 => ?_⟩
    have sm1 : Same (Off k H) (Off k H1) := (off_new nz).trans s1
    have t1 := sm1.trans (off_same k H1)
    have hx' : ∃ rt : Bool, x = .str (sideS rt) := by
      have : x = .str "right" ∨ x = .str "left" := by simpa using hx
      rcases this with e | e
      · exact ⟨true, e⟩
      · exact ⟨false, e⟩
    obtain ⟨rt, rfl⟩ := hx'
    refine ⟨.ref k, rfl, .ref a, rfl, a, _, 1, _, rfl, rfl, seqT_mono t1 sa, atI_nat (j := 1) rfl, b, _, rfl, .inr (seqT_mono t1 sb), k, _, n + 1, rfl, by rw [iV_len]; omega, by rw [iV_len]; omega, dk1, fun r H2 r0 r1 dk2 s2 => ?_⟩
    rw [iV_len] at r1
    refine ⟨_, rfl, rfl, .inr ⟨_, rfl, _, _, rfl, rfl, ?_⟩⟩
    obtain ⟨g, eg, gk⟩ : ∃ g : Nat, (r + if decide (V.str (sideS rt) = V.str "left") = true then 1 else 0) = (g : Int) ∧ (∀ c : Int, 0 ≤ c → c ≤ room - ls.sum → PuOk ls.length (room - ls.sum) (rt, g, c)) := by
      cases rt with
      | true =>
        refine ⟨r.toNat, ?_, fun c c0 c1 => ⟨fun _ => by simp only; omega, fun z => by simp at z, c0, c1⟩⟩
        rw [decide_eq_false (show ¬ V.str (sideS true) = V.str "left" from by decide +kernel)]
        simp; omega
      | false =>
        refine ⟨r.toNat + 1, ?_, fun c c0 c1 => ⟨fun z => by simp at z, fun _ => by simp only; omega, c0, c1⟩⟩
        rw [decide_eq_true (show V.str (sideS false) = V.str "left" from rfl)]
        simp; omega
    dsimp only
    rw [eg]
    have t2 := (sm1.trans s2).trans (off_same k H2)
    refine ⟨_, rfl, _, rfl, .ref a, rfl, a, _, 1, _, rfl, rfl, seqT_mono t2 sa, atI_nat (j := 1) rfl, _, rfl, _, rfl, ?_⟩
    refine slT_to (k := g) (seqT_mono t2 sb) fun p H3 s3 sp => ?_
    rw [← List.map_take] at sp
    have dk3 := dk2.same s3
    have sm3 := (sm1.trans s2).trans (off_mono s3)
    refine ⟨p, ls.take g, rfl, sp, .ref k, rfl, .ref a, rfl, .ref a, room, ls, rfl, Dpm (sm3.trans (off_same k H3)) hv, _, _, rfl, rfl, k, _, n, rfl, by omega, by omega, dk3, fun c H4 c0 c1 dk4 s4 => ?_⟩
    refine ⟨_, _, rfl, rfl, by show 3 ≤ sizeLine; decide, fun t nt => ?_⟩
    have ntk := dk4.ne nt
    refine q (.ref t) _ (rt, g, c) (gk c c0 (by omega)) (dk4.same (same_new nt)) ((sm3.trans s4).trans (off_new nt)) ?_
    refine .tup (.inl (.inl (off_up ntk))) (.cons (.str _) (.cons (.int _) (.cons ?_ .nil)))
    show Dp K _ (.int ((ls.take g).sum + c)) (.int (c + pre ls g))
    rw [show (ls.take g).sum + c = c + pre ls g from Int.add_comm _ _]
    exact .int _
def sp_row (K : PySem.W.Frag) : Sp := fun vs H Q _ => ∃ (k : Addr) (v : V) (m : Int) (room : Int) (ls : List Int) (n : Nat), vs = [.ref k, v, .int m] ∧ 0 ≤ m ∧ m ≤ 200 ∧ Dp K (Off k H) v (shD room ls) ∧ ShOk room ls ∧ Dk k H (n + 1000) ∧
  ∀ c H' (r : List Push), (r.length : Int) ≤ m → (∀ p ∈ r, PuOk ls.length (room - ls.sum) p) → c ≠ k → H c = none → Dk k H' n → Same (Off k H) (Off k H') → Dp K (Off k H') (.ref c) (roD ls r) → Q (.ref c) H'
theorem noLs_row (ls : List Int) (r : List Push) : noLs (r.map (puD ls)) = true := noLs_all _ fun d hd => by
  obtain ⟨p, _, rfl⟩ := List.mem_map.mp hd
  exact noL_puD ls p
theorem off_two {k D : Addr} {H : Hp} {o : HO} : Same (Off D (Off k H)) (Off k (upd H D o)) := fun b x e => by
  unfold Off at e ⊢
  split at e
  · cases e
  · rename_i nD
    split at e
    · cases e
    · rename_i nk
      rw [if_neg nk, upd_ne nD]
      exact e
theorem ok_law_row (T : Tx K mg) : FnOk P w K mg base CX0 4 T.f_law_row T.fd_law_row ["deck", "shelf", "at_most"] (sp_row K) := by
  have G_law_pick := ok_law_pick (P := P) (w := w) (base := base) T
  have G_law_push := ok_law_push (P := P) (w := w) (base := base) T
  refine T.F_law_row.ok sc_law_row (fun vs H Q E h => ?_) (fun cdv A outer s H vs Q E hr h => ?_)
  · obtain ⟨k, v, _, _, _, n, rfl, _⟩ := h
    rfl
  · obtain ⟨k, v, m, room, ls, n, rfl, m0, m2, hv, sh, dk, q⟩ := h
    refine ⟨_, (pss_one (ps_ret (pe_lc (own := [("k", 3)]) (g := gName 3) (tt := tYes) rfl sc_law_row.nd (pi_range1 (by rfl) T.n_range (pa_cons (pe_call (G_law_pick.mono (by first | decide | omega)) hr (by rfl) T.g_law_pick T.F_law_pick.kp T.b_law_pick .nil pass0 (pa_cons (pv 0) (pa_cons (pe_op op_add (pv 2) pe_int) pa_nil))) pa_nil)) (blkOk_by (own := [("k", 3)]) (N := ["deck", "shelf", "at_most", "k"]) (sc := defScope s_law_row) (by decide +kernel)) (fun _ _ _ _ _ => (pg_name (i := 3) sc_law_row.nd rfl (.inl rfl))) (fun _ _ _ _ _ => pts_nil) (fun _ _ _ _ _ => (pe_call (G_law_push.mono (by first | decide | omega)) hr (by rfl) T.g_law_push T.F_law_push.kp T.b_law_push .nil pass0 (pa_cons (pv 0) (pa_cons (pv 1) pa_nil))))))), ?_⟩
    refine ⟨.ref k, rfl, _, rfl, _, _, rfl, rfl, k, _, n + 999, rfl, by omega, by omega, dk, fun c H1 c0 c1 dk1 s1 => ?_⟩
    refine ⟨c, rfl, by omega, by omega, fun D nD => ?_⟩
    have nDk : D ≠ k := dk1.ne nD
    have nD0 : H D = none := by
      cases e : H D with
      | none => rfl
      | some o =>
        have := off_back s1 nDk e
        rw [nD] at this
        cases this
    refine lc_range (lo := 0) (n := c.toNat) (fun i H' => Same (Off k H1) (Off k H') ∧ Dk k H' (n + 999 - 3 * i) ∧ ∃ (vs : List V) (r : List Push), H' D = some (.lst vs) ∧ r.length = i ∧ DpAll K (Off D (Off k H')) vs (r.map (puD ls)) ∧ ∀ p ∈ r, PuOk ls.length (room - ls.sum) p)
      ⟨off_new nD, dk1.same (same_new nD), [], [], upd_same, rfl, .nil, by simp⟩ (fun i H' hi p => ?_) (fun H' p => ?_)
    · obtain ⟨s2, dk2, vs, r, hD, hl, al, hp⟩ := p
      refine ⟨rfl, .ref k, rfl, v, rfl, k, v, room, ls, n + 996 - 3 * i, rfl, Dpm (s1.trans s2) hv, sh, dk2.le (by omega), fun u H3 p pk dk3 s3 h3 => ?_⟩
      have hD3 : H3 D = some (.lst vs) := off_back s3 nDk hD
      have l2 := dpAll_len al
      rw [List.length_map] at l2
      have s3' : Same (Off D (Off k H')) (Off D (Off k H3)) := off_mono s3
      have hu : Dp K (Off D (Off k H3)) u (puD ls p) := dp_off (off_at nDk hD3) _ _ (noL_puD ls p) h3
      have sDD : ∀ o, Same (Off D (Off k H3)) (Off D (Off k (upd H3 D o))) := fun o b x e => by
        have h1 := off_two (o := o) b x e
        have nb : b ≠ D := fun z => by
          subst z
          unfold Off at e
          simp at e
        exact off_at nb h1
      refine ⟨vs, hD3, ?_, off_keep (s2.trans s3) nD, ?_, vs ++ [u], r ++ [p], ?_, ?_, ?_, ?_⟩
      · exact small1000 (by omega)
      · obtain ⟨a, b, c, h1, h2⟩ := dk3.le (show n + 999 - 3 * (i + 1) ≤ n + 996 - 3 * i by omega)
        exact ⟨a, b, c, by rw [upd_ne nDk.symm]; exact h1, h2⟩
      · rw [upd_same]
      · rw [List.length_append, hl]
        rfl
      · rw [List.map_append]
        exact dpAll_app (dpAll_mono (s3'.trans (sDD _)) _ _ al) (.cons (Dpm (sDD _) hu) .nil)
      · intro z hz
        rcases List.mem_append.mp hz with y | y
        · exact hp z y
        · have : z = p := by simpa using y
          rw [this]
          exact pk
    · obtain ⟨s2, dk2, vs, r, hD, hl, al, hp⟩ := p
      refine q D _ r (by omega) hp nDk nD0 (dk2.le (by omega)) (s1.trans s2) ?_
      exact .lst (.inl (.inl (off_at nDk hD))) (dpAll_mono (off_same D _) _ _ al)
end PS

namespace PS
open PySem PySem.Spec PyProof.Rows L2
variable {P : Program} {w : World} {K : PySem.W.Frag} {mg : Str → Option Value} {base : Heap}
theorem ok_law_pushed (T : Tx K mg) : FnOk P w K mg base CX0 1 T.f_law_pushed T.fd_law_pushed ["shelf", "stand", "push"] (sp_pushed K) := by
  refine T.F_law_pushed.ok sc_law_pushed (fun vs H Q E h => ?_) (fun cdv A outer s H vs Q E hr h => ?_)
  · obtain ⟨_, _, _, _, _, _, _, _, rfl, _⟩ := h
    rfl
  · obtain ⟨v, u, t, room, ls, y, ⟨rt, g, b⟩, pl, rfl, hv, hu, ht, ri, n8, pk, q⟩ := h
    obtain ⟨a, ba, rfl, sa, sb⟩ := dp_shelf hv
    obtain ⟨c, x1, x2, x3, rfl, sc, h1, h2, h3⟩ := dp_three ht
    obtain ⟨d, rfl, sd⟩ := dp_tI hu
    have h1 : Dp K H x1 (.str (sideS rt)) := h1
    have h2 : Dp K H x2 (.int (g : Int)) := h2
    have h3 : Dp K H x3 (.int (b + pre ls g)) := h3
    cases dp_str h1
    cases dp_int h2
    cases dp_int h3
    refine ⟨_, (pss_cons (ps_asg (pv 2) (pg_tup rfl (pgs_cons (pg_name (i := 3) sc_law_pushed.nd rfl (.inl rfl)) (pgs_cons (pg_name (i := 4) sc_law_pushed.nd rfl (.inl rfl)) (pgs_cons (pg_name (i := 5) sc_law_pushed.nd rfl (.inl rfl)) pgs_nil)))))
      (pss_cons (ps_set (i := 6) sc_law_pushed.nd rfl (.inl rfl) (pe_callTy call_list_of (by rfl) T.n_list (by decide +kernel) (pa_cons (pv 1) pa_nil)))
      (pss_cons (ps_if (pt_cmpR op_eq (pv 3) pe_str (nomark _)) (pss_one (ps_for PassesOwn.never rfl (pi_range2 (by rfl) T.n_range (pa_cons (pv 4) (pa_cons (pe_callB call_len_seq (by rfl) T.n_len (by decide +kernel) (pa_cons (pv 6) pa_nil)) pa_nil))) (pg_name (i := 7) sc_law_pushed.nd rfl (.inl rfl))
      (pss_cons (ps_asg (pe_callB (call_max2 rfl) (by rfl) T.n_max (by decide +kernel) (pa_cons (pe_ix ix_list (pv 6) (pv 7) (fun _ _ => rfl)) (pa_cons (pv 5) pa_nil))) (pg_sub (pv 6) (pv 7) set_list))
      (pss_one (ps_set (i := 5) sc_law_pushed.nd rfl (.inl rfl) (pe_op op_add (pe_ix ix_list (pv 6) (pv 7) (fun _ _ => rfl)) (pe_ix ix_tup (pe_ix ix_tup (pv 0) pe_int (fun _ _ => rfl)) (pv 7) (fun _ _ => rfl)))))))) (pss_one (ps_for PassesOwn.never rfl (pi_range3 (by rfl) T.n_range (pa_cons (pe_op op_sub (pv 4) pe_int) (pa_cons (pe_un un_neg pe_int) (pa_cons (pe_un un_neg pe_int) pa_nil)))) (pg_name (i := 7) sc_law_pushed.nd rfl (.inl rfl))
      (pss_cons (ps_asg (pe_callB (call_min2 rfl) (by rfl) T.n_min (by decide +kernel) (pa_cons (pe_ix ix_list (pv 6) (pv 7) (fun _ _ => rfl)) (pa_cons (pe_op op_sub (pv 5) (pe_ix ix_tup (pe_ix ix_tup (pv 0) pe_int (fun _ _ => rfl)) (pv 7) (fun _ _ => rfl))) pa_nil))) (pg_sub (pv 6) (pv 7) set_list))
      (pss_one (ps_set (i := 5) sc_law_pushed.nd rfl (.inl rfl) (pe_ix ix_list (pv 6) (pv 7) (fun _ _ => rfl))))))))
      (pss_one (ps_ret (pe_callTy call_tuple_of (by rfl) T.n_tuple (by decide +kernel) (pa_cons (pv 6) pa_nil))))))), ?_⟩
    refine ⟨.ref c, rfl, c, _, rfl, sc, rfl, _, _, rfl, _, _, rfl, _, [], rfl, rfl, ?_⟩
    refine ⟨.ref d, rfl, d, _, rfl, .inr sd, fun l nl => ?_⟩
    refine ⟨_, rfl, rfl, _, rfl, ?_⟩
    cases rt with
    | true =>
      have hg := pk.g0 rfl
      simp only at hg
      rw [decide_eq_true (show V.str (sideS true) = V.str "right" from rfl)]
      refine iteT ?_
      have hlen : (iV (stL ls y)).length = ls.length := by rw [iV_len, stL_len]
      refine ⟨_, rfl, .ref l, rfl, l, _, rfl, .inl (.inl (.inl upd_same)), _, _, rfl, ⟨by omega, by omega, by omega, by rw [hlen]; omega⟩, ?_⟩
      refine for_range (lo := (g : Int)) (n := (((iV (stL ls y)).length : Int) - (g : Int)).toNat) (fun i σ H' => Same H H' ∧ H' l = some (.lst (iV (stL ls (zR g b y i)))) ∧ ∃ y7, σ = [some (.ref a), some (.ref d), some (.ref c), some (.str (sideS true)), some (.int (g : Nat)), some (.int (eR g b y i + pre ls (g + i))), some (.ref l), y7])
        ⟨same_new nl, ?_, none, ?_⟩ (fun i σ H' hi p => ?_) (fun σ H' p => ?_)
      · rw [upd_same]
        congr 3
        apply stL_congr
        intro j hj
        unfold zR
        rw [if_neg (by omega)]
      · rfl
      · obtain ⟨s1, hl, y7, rfl⟩ := p
        rw [hlen] at hi
        have hgi : g + i < ls.length := by omega
        have eat : (g : Int) + (i : Int) = ((g + i : Nat) : Int) := by omega
        have g1 := iV_get (stL_get (y := zR g b y i) hgi)
        have e1 : (if eR g b y i + pre ls (g + i) > zR g b y i (g + i) + pre ls (g + i) then eR g b y i + pre ls (g + i) else zR g b y i (g + i) + pre ls (g + i)) = max (y (g + i)) b + pre ls (g + i) := by
          rw [← zR_step ri hgi]
          split <;> omega
        refine ⟨.ref l, rfl, _, rfl, l, _, _, _, rfl, rfl, .inl (.inl hl), at_of eat g1, _, rfl, _, _, rfl, ?_⟩
        rw [e1]
        refine ⟨.ref l, rfl, _, rfl, l, _, _, g + i, rfl, rfl, hl, ixN_at eat (by rw [iV_len, stL_len]; exact hgi), ?_⟩
        rw [iV_set, zR_next hgi]
        have g2 := iV_get (stL_get (y := zR g b y (i + 1)) hgi)
        have e2 : zR g b y (i + 1) (g + i) = max (y (g + i)) b := by unfold zR; rw [if_pos (by omega)]
        have s2 : Same H (upd H' l (.lst (iV (stL ls (zR g b y (i + 1)))))) := fun b o hb => by
          rw [upd_ne (ne_of_none hb nl)]
          exact s1 b o hb
        refine ⟨.ref l, rfl, _, rfl, l, _, _, _, rfl, rfl, .inl (.inl upd_same), at_of eat g2, .ref a, rfl, a, _, 1, _, rfl, rfl, seqT_mono s2 sa, atI_nat (j := 1) rfl, _, rfl, ba, _, _, _, rfl, rfl, seqT_mono s2 sb, at_of eat (iV_get (List.getElem?_eq_getElem hgi)), _, _, rfl, rfl, s2, upd_same, some (.int ((g : Int) + (i : Int))), ?_⟩
        have e3 : eR g b y (i + 1) + pre ls (g + (i + 1)) = zR g b y (i + 1) (g + i) + pre ls (g + i) + ls[g + i] := by
          rw [e2, show g + (i + 1) = g + i + 1 from by omega, pre_succ hgi]
          unfold eR
          rw [if_neg (by omega), show g + (i + 1) - 1 = g + i from by omega]
          omega
        rw [e3]
        rfl
      · obtain ⟨s1, hl, y7, rfl⟩ := p
        refine ⟨.ref l, rfl, l, _, rfl, .inl ⟨.inl (.inl hl), fun t nt => ?_⟩⟩
        have e : stL ls (zR g b y (((iV (stL ls y)).length : Int) - (g : Int)).toNat) = stL ls (doP y (true, g, b)) := by
          rw [hlen]
          apply stL_congr
          intro j hj
          show zR g b y _ j = pR g b y j
          unfold zR pR
          by_cases h2 : g ≤ j
          · rw [if_pos h2, if_pos (by omega)]
          · rw [if_neg h2, if_neg (by omega)]
        rw [e]
        exact q _ _ (s1.trans (same_new nt)) (tI_dp (.inl (.inl upd_same)))
    | false =>
      have hg := pk.g1 rfl
      simp only at hg
      rw [decide_eq_false (show ¬ V.str (sideS false) = V.str "right" from by decide +kernel)]
      refine iteF ?_
      refine ⟨_, rfl, _, _, rfl, rfl, 1, rfl, 1, rfl, _, _, _, _, rfl, RgC.neg (by omega) (by omega) (by omega) (by omega), ?_⟩
      have en : ((g : Int) - 1 - -1).toNat = g := by omega
      show ∃ W, _
      rw [en]
      refine for_rangeC (lo := (g : Int) - 1) (c := -1) (n := g) (fun i σ H' => Same H H' ∧ H' l = some (.lst (iV (stL ls (zL g b y i)))) ∧ ∃ y7, σ = [some (.ref a), some (.ref d), some (.ref c), some (.str (sideS false)), some (.int (g : Nat)), some (.int (eL g b y i + pre ls (g - i))), some (.ref l), y7])
        ⟨same_new nl, ?_, none, ?_⟩ (fun i σ H' hi p => ?_) (fun σ H' p => ?_)
      · rw [upd_same]
        congr 3
        apply stL_congr
        intro j hj
        unfold zL
        rw [if_neg (by omega)]
      · rfl
      · obtain ⟨s1, hl, y7, rfl⟩ := p
        have hgi : g - 1 - i < ls.length := by omega
        have eat : (g : Int) - 1 + (i : Nat) * (-1) = ((g - 1 - i : Nat) : Int) := by omega
        have g1 := iV_get (stL_get (y := zL g b y i) hgi)
        have epre : pre ls (g - i) = pre ls (g - 1 - i) + ls[g - 1 - i] := by
          have := pre_succ hgi
          rw [show g - 1 - i + 1 = g - i from by omega] at this
          exact this
        have e1 : (if eL g b y i + pre ls (g - i) - ls[g - 1 - i] < zL g b y i (g - 1 - i) + pre ls (g - 1 - i) then eL g b y i + pre ls (g - i) - ls[g - 1 - i] else zL g b y i (g - 1 - i) + pre ls (g - 1 - i)) = min (y (g - 1 - i)) b + pre ls (g - 1 - i) := by
          rw [← zL_step ri hg.2 hi, epre]
          split <;> omega
        refine ⟨.ref l, rfl, _, rfl, l, _, _, _, rfl, rfl, .inl (.inl hl), at_of eat g1, _, rfl, .ref a, rfl, a, _, 1, _, rfl, rfl, seqT_mono s1 sa, atI_nat (j := 1) rfl, _, rfl, ba, _, _, _, rfl, rfl, seqT_mono s1 sb, at_of eat (iV_get (List.getElem?_eq_getElem hgi)), _, _, rfl, rfl, _, _, rfl, ?_⟩
        rw [e1]
        refine ⟨.ref l, rfl, _, rfl, l, _, _, g - 1 - i, rfl, rfl, hl, ixN_at eat (by rw [iV_len, stL_len]; exact hgi), ?_⟩
        rw [iV_set, zL_next hg.2 hi]
        have g2 := iV_get (stL_get (y := zL g b y (i + 1)) hgi)
        have e2 : zL g b y (i + 1) (g - 1 - i) = min (y (g - 1 - i)) b := by unfold zL; rw [if_pos (by omega)]
        have s2 : Same H (upd H' l (.lst (iV (stL ls (zL g b y (i + 1)))))) := fun b o hb => by
          rw [upd_ne (ne_of_none hb nl)]
          exact s1 b o hb
        refine ⟨.ref l, rfl, _, rfl, l, _, _, _, rfl, rfl, .inl (.inl upd_same), at_of eat g2, s2, upd_same, some (.int ((g : Int) - 1 + (i : Nat) * (-1))), ?_⟩
        have e3 : eL g b y (i + 1) + pre ls (g - (i + 1)) = zL g b y (i + 1) (g - 1 - i) + pre ls (g - 1 - i) := by
          rw [e2, show g - (i + 1) = g - 1 - i from by omega]
          unfold eL
          rw [if_neg (by omega), show g - (i + 1) = g - 1 - i from by omega]
        rw [e3]
        rfl
      · obtain ⟨s1, hl, y7, rfl⟩ := p
        refine ⟨.ref l, rfl, l, _, rfl, .inl ⟨.inl (.inl hl), fun t nt => ?_⟩⟩
        have e : stL ls (zL g b y g) = stL ls (doP y (false, g, b)) := by
          apply stL_congr
          intro j hj
          show zL g b y g j = pL g b y j
          unfold zL pL
          by_cases h2 : j < g
          · rw [if_pos h2, if_pos (by omega)]
          · rw [if_neg h2, if_neg (by omega)]
        rw [e]
        exact q _ _ (s1.trans (same_new nt)) (tI_dp (.inl (.inl upd_same)))
theorem ok_law_done (T : Tx K mg) : FnOk P w K mg base CX0 2 T.f_law_done T.fd_law_done ["shelf", "stand", "row"] (sp_done K) := by
  have G_law_pushed := ok_law_pushed (P := P) (w := w) (base := base) T
  refine T.F_law_done.ok sc_law_done (fun vs H Q E h => ?_) (fun cdv A outer s H vs Q E hr h => ?_)
  · obtain ⟨_, _, _, _, _, _, _, _, rfl, _⟩ := h
    rfl
  · obtain ⟨v, u, t, room, ls, y, r, pl, rfl, hv, hu, ht, ri, n8, pk, q⟩ := h
    obtain ⟨c, xs, rfl, sc, al⟩ := dp_lst ht
    have hl := dpAll_len al
    rw [List.length_map] at hl
    refine ⟨_, (pss_cons (ps_for PassesOwn.never rfl (pi_list (pv 2)) (pg_name (i := 3) sc_law_done.nd rfl (.inl rfl))
      (pss_one (ps_set (i := 1) sc_law_done.nd rfl (.inl rfl) (pe_call (G_law_pushed.mono (by first | decide | omega)) hr (by rfl) T.g_law_pushed T.F_law_pushed.kp T.b_law_pushed .nil pass0 (pa_cons (pv 0) (pa_cons (pv 1) (pa_cons (pv 3) pa_nil)))))))
      (pss_one (ps_ret (pv 1)))), ?_⟩
    refine ⟨.ref c, rfl, c, rfl, ⟨xs, sc⟩, ?_⟩
    refine for_list (K := K) (a := c) (xs := xs) (fun i σ H' => Same H H' ∧ ∃ u' y3, σ = [some v, some u', some (.ref c), y3] ∧ Dp K H' u' (tI (stL ls (doR y (r.take i))))) ⟨Same.refl H, u, none, rfl, hu⟩ (fun i σ H' _ p => p.1.seq sc) (fun i x σ H' hx p => ?_) (fun σ H' p => ?_)
    · obtain ⟨s1, u', y3, rfl, hu'⟩ := p
      obtain ⟨d, e1, e2⟩ := dpAll_get al hx
      rw [List.getElem?_map] at e1
      obtain ⟨p, ep, rfl⟩ := Option.map_eq_some_iff.mp e1
      have hp : p ∈ r := List.mem_of_getElem? ep
      refine ⟨v, rfl, u', rfl, x, rfl, v, u', x, room, ls, doR y (r.take i), p, pl, rfl, Dpm s1 hv, hu', Dpm s1 e2, doR_rise ri (fun z hz => pk z (List.mem_of_mem_take hz)), n8, pk p hp, fun v' H2 s2 h2 => ?_⟩
      refine ⟨s1.trans s2, v', _, rfl, ?_⟩
      rw [List.take_add_one, ep]
      show Dp K H2 v' (tI (stL ls (doR y (r.take i ++ [p]))))
      rw [doR_app]
      exact h2
    · obtain ⟨s1, u', y3, rfl, hu'⟩ := p
      rw [hl, List.take_length] at hu'
      exact ⟨u', rfl, q _ _ s1 hu'⟩
/-! ### the law's own is-it-a-stand -/
def standH (room : Int) : Int → List PyData → List Int → Bool
  | e, d :: ds, l :: ls => match d with
    | .int i => if e ≤ i then (if i ≤ room - l then standH room (i + l) ds ls else false) else false
    | _ => false
  | _, _, _ => true
def isStandB (room : Int) (ls : List Int) (d : PyData) : Bool := match d with
  | .tuple ds => if (ds.length : Int) = ls.length then standH room 0 ds ls else false
  | _ => false
theorem standGH {room : Int} : ∀ (ds : List PyData) (ls : List Int) (e : Int), ds.length = ls.length → (∀ l ∈ ls, 0 ≤ l) → (standG room e ds ls = true ↔ (standH room e ds ls = true ∧ (ls = [] → e ≤ room))) ∧ (standG room e ds ls = true → e ≤ room)
  | [], [], e, _, _ => by simp [standG, standH]
  | [], l :: ls, e, h, _ => by simp at h
  | d :: ds, [], e, h, _ => by simp at h
  | d :: ds, l :: ls, e, h, hl => by
    have hlen : ds.length = ls.length := by simpa using h
    have hl0 := hl l (by simp)
    cases d with
    | int i =>
      have ih := standGH (room := room) ds ls (i + l) hlen (fun x hx => hl x (by simp [hx]))
      have e1 : standG room e (.int i :: ds) (l :: ls) = if i < e then false else standG room (i + l) ds ls := rfl
      have e2 : standH room e (.int i :: ds) (l :: ls) = if e ≤ i then (if i ≤ room - l then standH room (i + l) ds ls else false) else false := rfl
      rw [e1, e2]
      by_cases h1 : i < e
      · rw [if_pos h1, if_neg (by omega)]
        simp
      · rw [if_neg h1, if_pos (by omega)]
        by_cases h2 : i ≤ room - l
        · rw [if_pos h2]
          refine ⟨⟨fun z => ⟨(ih.1.mp z).1, by simp⟩, fun z => ih.1.mpr ⟨z.1, fun _ => by omega⟩⟩, fun z => by omega⟩
        · rw [if_neg h2]
          refine ⟨⟨fun z => ?_, fun z => by simp at z⟩, fun z => ?_⟩
          · have := ih.2 z
            omega
          · have := ih.2 z
            omega
    | _ =>
      refine ⟨⟨fun z => ?_, fun z => ?_⟩, fun z => ?_⟩
      · cases z
      · cases z.1
      · cases z
theorem isStandB_eq {room : Int} {ls : List Int} (sh : ShOk room ls) (d : PyData) : isStandB room ls d = isStand room ls d := by
  unfold isStandB isStand
  cases d with
  | tuple ds =>
    simp only
    by_cases e : (ds.length : Int) = ls.length
    · rw [if_pos e, if_pos e]
      have h := (standGH (room := room) ds ls 0 (by omega) (fun l hl => by have := sh.l1 l hl; omega)).1
      have hne : ls ≠ [] := fun z => by
        have := sh.n1
        rw [z] at this
        simp at this
      cases e1 : standG room 0 ds ls with
      | true => exact (h.mp e1).1
      | false =>
        cases e2 : standH room 0 ds ls with
        | false => rfl
        | true =>
          have := h.mpr ⟨e2, fun z => absurd z hne⟩
          rw [e1] at this
          cases this
    · rw [if_neg e, if_neg e]
  | _ => rfl
def sp_law_is_stand (K : PySem.W.Frag) : Sp := fun vs H Q _ => ∃ v u room ls d, vs = [v, u] ∧ Dp K H v (shD room ls) ∧ ShOk room ls ∧ Dp K H u d ∧ RB H Q (isStand room ls d)
end PS

namespace PS
open PySem PySem.Spec PyProof.Rows L2
variable {P : Program} {w : World} {K : PySem.W.Frag} {mg : Str → Option Value} {base : Heap}
/-! ### a part of the heap, and what is new beside it -/
def nw (k : Addr) (Z H H' : Hp) : Hp := fun b => if (H b).isSome = true then Z b else Off k H' b
section
variable {k : Addr} {Z H H1 H2 : Hp}
theorem nw_mono (s : Same (Off k H1) (Off k H2)) : Same (nw k Z H H1) (nw k Z H H2) := fun b o h => by
  unfold nw at h ⊢
  split at h
  · rename_i e
    rw [if_pos e]
    exact h
  · rename_i e
    rw [if_neg e]
    exact s b o h
theorem nw_new {p : Addr} {o : HO} (np : H p = none) (h : Off k H1 p = some o) : nw k Z H H1 p = some o := by
  unfold nw
  rw [if_neg (by rw [np]; simp)]
  exact h
theorem nw_old (sz : Same Z (Off k H)) : Same Z (nw k Z H H1) := fun b o h => by
  unfold nw
  rw [if_pos]
  · exact h
  · rw [off_same k H _ _ (sz b o h)]
    rfl
theorem nw_off (sz : Same Z (Off k H)) (s : Same (Off k H) (Off k H1)) : Same (nw k Z H H1) (Off k H1) := fun b o h => by
  unfold nw at h
  split at h
  · exact s b o (sz b o h)
  · exact h
theorem nw_in {l : Addr} {H3 H4 : Hp} (sH : Same (Off k H) (Off k H2)) (dk : ∀ n o, n = k → H n = some o → ∃ o', H2 n = some o') (hl : (H2 l).isSome = true) (s3 : Same (Off k H2) (Off k H3)) (h4 : ∀ b, b ≠ l → Off k H3 b = Off k H4 b) : Same (nw k (Off l (nw k Z H H2)) H2 H3) (nw k Z H H4) := fun b o h => by
  have h : (if (H2 b).isSome = true then Off l (nw k Z H H2) b else Off k H3 b) = some o := h
  by_cases e : (H2 b).isSome = true
  · rw [if_pos e] at h
    have nb : b ≠ l := fun z => by
      subst z
      unfold Off at h
      simp at h
    have h5 := off_same l _ _ _ h
    have h6 := nw_mono (Z := Z) (H := H) s3 b o h5
    unfold nw at h6 ⊢
    split at h6
    · rename_i e2
      rw [if_pos e2]
      exact h6
    · rename_i e2
      rw [if_neg e2, ← h4 b nb]
      exact h6
  · rw [if_neg e] at h
    have nb : b ≠ l := fun z => by
      subst z
      exact e hl
    have hb : ¬ (H b).isSome = true := fun z => by
      obtain ⟨o2, ho2⟩ := Option.isSome_iff_exists.mp z
      by_cases bk : b = k
      · obtain ⟨o3, ho3⟩ := dk b o2 bk ho2
        rw [ho3] at e
        simp at e
      · have := off_same k H2 _ _ (sH b o2 (off_at bk ho2))
        rw [this] at e
        simp at e
    unfold nw
    rw [if_neg hb, ← h4 b nb]
    exact h
end
/-! ### data of bounded size -/
def Gd : Nat → Nat → PyData → Prop
  | 0, _, .list _ => False
  | 0, _, .tuple _ => False
  | m + 1, N, .list ds => ds.length ≤ 300 + N ∧ ∀ x ∈ ds, Gd m N x
  | m + 1, N, .tuple ds => ds.length ≤ 300 + N ∧ ∀ x ∈ ds, Gd m N x
  | _, N, .int i => i.natAbs ≤ 2 ^ 200 + N
  | _, _, .dict _ => False
  | _, _, .none => True
  | _, _, .bool _ => True
  | _, _, .str _ => True
theorem Gd.none {m N : Nat} : Gd m N .none := by cases m <;> exact True.intro
theorem Gd.bool {m N : Nat} {b : Bool} : Gd m N (.bool b) := by cases m <;> exact True.intro
theorem Gd.str {m N : Nat} {x : Str} : Gd m N (.str x) := by cases m <;> exact True.intro
theorem Gd.int {m N : Nat} {i : Int} (h : i.natAbs ≤ 2 ^ 200 + N) : Gd m N (.int i) := by cases m <;> exact h
theorem Gd.of_int {m N : Nat} {i : Int} (h : Gd m N (.int i)) : i.natAbs ≤ 2 ^ 200 + N := by cases m <;> exact h
theorem Gd.mono {N N' : Nat} (hN : N ≤ N') : ∀ {m m' : Nat} {d : PyData}, m ≤ m' → Gd m N d → Gd m' N' d := by
  intro m
  induction m with
  | zero =>
    intro m' d hm h
    cases d with
    | none => exact .none
    | bool b => exact .bool
    | str x => exact .str
    | int i => exact .int (Nat.le_trans (Gd.of_int h) (by omega))
    | list ds => exact h.elim
    | tuple ds => exact h.elim
    | dict ds => exact h.elim
  | succ m ih =>
    intro m' d hm h
    obtain ⟨m2, rfl⟩ : ∃ m2, m' = m2 + 1 := ⟨m' - 1, by omega⟩
    cases d with
    | none => exact .none
    | bool b => exact .bool
    | str x => exact .str
    | int i => exact .int (Nat.le_trans (Gd.of_int h) (by omega))
    | list ds => exact ⟨Nat.le_trans h.1 (by omega), fun x hx => ih (by omega) (h.2 x hx)⟩
    | tuple ds => exact ⟨Nat.le_trans h.1 (by omega), fun x hx => ih (by omega) (h.2 x hx)⟩
    | dict ds => exact h.elim
theorem Gd.depth {N : Nat} : ∀ {m : Nat} {d : PyData}, Gd m N d → d.depth ≤ m := by
  intro m
  induction m with
  | zero =>
    intro d h
    cases d with
    | list ds => exact h.elim
    | tuple ds => exact h.elim
    | dict ds => exact h.elim
    | _ => simp [PyData.depth]
  | succ m ih =>
    intro d h
    cases d with
    | list ds =>
      rw [PyData.depth]
      have := depthAll_le ds fun x hx => ih (h.2 x hx)
      omega
    | tuple ds =>
      rw [PyData.depth]
      have := depthAll_le ds fun x hx => ih (h.2 x hx)
      omega
    | dict ds => exact h.elim
    | _ => simp [PyData.depth]
theorem dpAll_set {H : Hp} {u : V} {d : PyData} (h : Dp K H u d) : ∀ {ds : List PyData} {vs : List V} (j : Nat), DpAll K H vs ds → DpAll K H (vs.set j u) (ds.set j d)
  | [], _, j, a => by cases a; exact .nil
  | x :: ds, _, j, a => by
    cases a with
    | cons h1 h2 =>
      cases j with
      | zero => exact .cons h h2
      | succ j => exact .cons h1 (dpAll_set h j h2)
theorem dpAll_rev {H : Hp} : ∀ {ds : List PyData} {vs : List V}, DpAll K H vs ds → DpAll K H vs.reverse ds.reverse
  | [], _, h => by cases h; exact .nil
  | d :: ds, _, h => by
    cases h with
    | cons h1 h2 =>
      rw [List.reverse_cons, List.reverse_cons]
      exact dpAll_app (dpAll_rev h2) (.cons h1 .nil)
def sp_spoilt (K : PySem.W.Frag) (M : Nat) : Sp := fun vs H Q _ => ∃ (m : Nat) (k : Addr) (v : V) (d : PyData) (Z : Hp) (N n : Nat), M = m + 1 ∧ vs = [.ref k, v] ∧ Same Z (Off k H) ∧ Dp K Z v d ∧ Gd m N d ∧ N ≤ 500 ∧ Dk k H (n + 3 * (m + 1)) ∧
  ∀ u H' d', Gd m (N + 1) d' → Dk k H' n → Same (Off k H) (Off k H') → Dp K (nw k Z H H') u d' → Q u H'
/-- one of several, by a draw -/
theorem drawn_at {k l : Addr} {H H2 : Hp} {xs : List V} {r : Int} {c : Nat} (hl : Off k H l = some (.lst xs)) (o : Same (Off k H) (Off k H2)) (r0 : 0 ≤ r) (r1 : r < (c : Int)) (hc : xs.length = c) : ∃ x, x ∈ xs ∧ SqL K H2 l xs ∧ atI xs r = some x := by
  have hr : r.toNat < xs.length := by omega
  exact ⟨xs[r.toNat], List.getElem_mem hr, .inl (.inl (off_same k H2 _ _ (o _ _ hl))), at_of (j := r.toNat) (by omega) (List.getElem?_eq_getElem hr)⟩
/-! ### in the part -/
section
variable {k : Addr} {Z H H1 : Hp} {Q : VK}
theorem free_back (o : Same (Off k H) (Off k H1)) (hk : ∃ x, H1 k = some x) {p : Addr} (np : H1 p = none) : H p = none ∧ p ≠ k := by
  have pk : p ≠ k := fun z => by
    obtain ⟨x, hx⟩ := hk
    rw [z, hx] at np
    cases np
  refine ⟨?_, pk⟩
  cases e : H p with
  | none => rfl
  | some x =>
    have := off_back o pk e
    rw [np] at this
    cases this
theorem nw_H (sz : Same Z (Off k H)) (o : Same (Off k H) (Off k H1)) : Same (nw k Z H H1) H1 := (nw_off sz o).trans (off_same k H1)
theorem slT_to' {a : Addr} {xs : List V} {n : Nat} (sz : Same Z (Off k H)) (o : Same (Off k H) (Off k H1)) (hk : ∃ x, H1 k = some x) (s : SqT K (nw k Z H H1) a xs)
    (q : ∀ p H', Same H1 H' → SqT K (nw k Z H H') p (xs.take n) → Q (.ref p) H') : rSlA K (.ref a) none (some (n : Int)) H1 Q := by
  refine ⟨a, xs, rfl, seqT_mono (nw_H sz o) s, fun h => ?_, fun h p np => ?_⟩
  · have e : xs.take n = xs := List.take_of_length_le (by
      have := h.2
      rw [HT.sIx_nat] at this
      omega)
    exact q a H1 (Same.refl H1) (by rw [e]; exact s)
  · rw [cut_to]
    have fb := free_back o hk np
    exact q p _ (same_new np) (.inl (.inl (nw_new fb.1 (off_up fb.2))))
theorem slT_from' {a : Addr} {xs : List V} {n : Nat} (sz : Same Z (Off k H)) (o : Same (Off k H) (Off k H1)) (hk : ∃ x, H1 k = some x) (s : SqT K (nw k Z H H1) a xs)
    (q : ∀ p H', Same H1 H' → SqT K (nw k Z H H') p (xs.drop n) → Q (.ref p) H') : rSlA K (.ref a) (some (n : Int)) none H1 Q := by
  refine ⟨a, xs, rfl, seqT_mono (nw_H sz o) s, fun h => ?_, fun h p np => ?_⟩
  · have e : xs.drop n = xs := by
      have := h.1
      rw [HT.sIx_nat] at this
      by_cases hn : n = 0
      · subst hn; rfl
      · have : xs.length = 0 := by omega
        rw [List.length_eq_zero_iff.mp this]; simp
    exact q a H1 (Same.refl H1) (by rw [e]; exact s)
  · rw [cut_from]
    have fb := free_back o hk np
    exact q p _ (same_new np) (.inl (.inl (nw_new fb.1 (off_up fb.2))))
theorem catA' {a b : Addr} {xs ys : List V} (sz : Same Z (Off k H)) (o : Same (Off k H) (Off k H1)) (hk : ∃ x, H1 k = some x) (s1 : SqT K (nw k Z H H1) a xs) (s2 : SqT K (nw k Z H H1) b ys) (hl : xs.length + ys.length ≤ sizeLine)
    (q : ∀ p H', Same H1 H' → SqT K (nw k Z H H') p (xs ++ ys) → Q (.ref p) H') : rCatA K (.ref a) (.ref b) H1 Q := by
  refine ⟨a, b, xs, ys, rfl, rfl, seqT_mono (nw_H sz o) s1, seqT_mono (nw_H sz o) s2, hl, fun e => ?_, fun _ e => ?_, fun _ _ p np => ?_⟩
  · subst e
    exact q b H1 (Same.refl _) s2
  · subst e
    exact q a H1 (Same.refl _) (by rw [List.append_nil]; exact s1)
  · have fb := free_back o hk np
    exact q p _ (same_new np) (.inl (.inl (nw_new fb.1 (off_up fb.2))))
end
def mkB (b : Bool) (ds : List PyData) : PyData := if b = true then .list ds else .tuple ds
theorem seq_of {Z : Hp} {v : V} {d : PyData} {m N : Nat} (hv : Dp K Z v d) (g : Gd m N d) (h : isTL d = true) : ∃ b a xs ds m2, v = .ref a ∧ SqK b K Z a xs ∧ DpAll K Z xs ds ∧ d = mkB b ds ∧ m = m2 + 1 ∧ ds.length ≤ 300 + N ∧ ∀ x ∈ ds, Gd m2 N x := by
  cases d with
  | list ds =>
    obtain ⟨a, xs, rfl, sq, al⟩ := dp_lst hv
    cases m with
    | zero => exact g.elim
    | succ m2 => exact ⟨true, a, xs, ds, m2, rfl, sq, al, rfl, rfl, g.1, g.2⟩
  | tuple ds =>
    obtain ⟨a, xs, rfl, sq, al⟩ := dp_tup hv
    cases m with
    | zero => exact g.elim
    | succ m2 => exact ⟨false, a, xs, ds, m2, rfl, sq, al, rfl, rfl, g.1, g.2⟩
  | _ => simp [isTL] at h
theorem sqK_mono {b : Bool} {H H' : Hp} {a : Addr} {xs : List V} (s : Same H H') (h : SqK b K H a xs) : SqK b K H' a xs := by
  cases b
  · exact seqT_mono s h
  · exact s.seq h
theorem sqK_or {b : Bool} {H : Hp} {a : Addr} {xs : List V} (h : SqK b K H a xs) : SqL K H a xs ∨ SqT K H a xs := by
  cases b
  · exact .inr h
  · exact .inl h
theorem mkB_dp {b : Bool} {H : Hp} {a : Addr} {xs : List V} {ds : List PyData} (h : SqK b K H a xs) (al : DpAll K H xs ds) : Dp K H (.ref a) (mkB b ds) := by
  cases b
  · exact .tup h al
  · exact .lst h al
theorem mkB_gd {b : Bool} {m N : Nat} {ds : List PyData} (h : ds.length ≤ 300 + N) (g : ∀ x ∈ ds, Gd m N x) : Gd (m + 1) N (mkB b ds) := by
  cases b <;> exact ⟨h, g⟩
theorem isT_mkB {b : Bool} {ds : List PyData} : isT (mkB b ds) = !b := by cases b <;> rfl
theorem log_small {i : Int} (h : i.natAbs ≤ 2 ^ 200 + 500) : i.natAbs.log2 < 1920 := by
  by_cases e : i.natAbs = 0
  · rw [e]; decide
  · rw [Nat.log2_lt e]
    exact Nat.lt_of_le_of_lt h (by decide +kernel)
theorem spoilt_step (T : Tx K mg) {m : Nat} {c : Nat} (hc : 2 ≤ c) (G_law_spoilt : FnOk P w K mg base CX0 c T.f_law_spoilt T.fd_law_spoilt ["deck", "thing"] (sp_spoilt K m)) : FnOk P w K mg base CX0 (c + 1) T.f_law_spoilt T.fd_law_spoilt ["deck", "thing"] (sp_spoilt K (m + 1)) := by
  have G_law_pick := ok_law_pick (P := P) (w := w) (base := base) T
  refine T.F_law_spoilt.ok sc_law_spoilt (fun vs H Q E h => ?_) (fun cdv A outer s H vs Q E hr h => ?_)
  · obtain ⟨_, k, v, _, _, _, _, _, rfl, _⟩ := h
    rfl
  · obtain ⟨m', k, v, d, Z, N, n, em, rfl, sz, hv, gd, hN, dk, q⟩ := h
    obtain rfl : m = m' := by omega
    refine ⟨_, (C8.pss_cut (ps_if (PW.pt (pw_and (pt_val (pe_callB call_isTL (by rfl) T.n_isinstance (by decide +kernel) (pa_cons (pv 1) (pa_cons (pe_tup (pa_cons (pe_bltn (v := .ty "tuple") (by rfl) T.n_tuple (by decide +kernel) rfl) (pa_cons (pe_bltn (v := .ty "list") (by rfl) T.n_list (by decide +kernel) rfl) pa_nil))) pa_nil)))) (pw_and (pt_cmpR op_gt (pe_callB call_len_seq (by rfl) T.n_len (by decide +kernel) (pa_cons (pv 1) pa_nil)) pe_int (nomark _)) (pw_and1 (pt_cmpR op_gt (pe_call (G_law_pick.mono (by first | decide | omega)) hr (by rfl) T.g_law_pick T.F_law_pick.kp T.b_law_pick .nil pass0 (pa_cons (pv 0) (pa_cons pe_int pa_nil))) pe_int (nomark _)))))) (pss_cons (ps_set (i := 2) sc_law_spoilt.nd rfl (.inl rfl) (pe_callTy call_list_of (by rfl) T.n_list (by decide +kernel) (pa_cons (pv 1) pa_nil)))
      (pss_cons (ps_set (i := 3) sc_law_spoilt.nd rfl (.inl rfl) (pe_call (G_law_pick.mono (by first | decide | omega)) hr (by rfl) T.g_law_pick T.F_law_pick.kp T.b_law_pick .nil pass0 (pa_cons (pv 0) (pa_cons (pe_callB call_len_seq (by rfl) T.n_len (by decide +kernel) (pa_cons (pv 2) pa_nil)) pa_nil))))
      (pss_cons (ps_asg (pe_call (G_law_spoilt.mono (by first | decide | omega)) hr (by rfl) T.g_law_spoilt T.F_law_spoilt.kp T.b_law_spoilt .nil pass0 (pa_cons (pv 0) (pa_cons (pe_ix ix_list (pv 2) (pv 3) (fun _ _ => rfl)) pa_nil))) (pg_sub (pv 2) (pv 3) set_list))
      (pss_one (ps_ret (pe_ifExp (pt_val (pe_callB call_isD (by rfl) T.n_isinstance (by decide +kernel) (pa_cons (pv 1) (pa_cons (pe_bltn (v := .ty "tuple") (by rfl) T.n_tuple (by decide +kernel) rfl) pa_nil)))) (pe_callTy call_tuple_of (by rfl) T.n_tuple (by decide +kernel) (pa_cons (pv 2) pa_nil)) (pv 2))))))) pss_nil)
      (pss_cons (ps_if (pt_val (pe_callB call_isTL (by rfl) T.n_isinstance (by decide +kernel) (pa_cons (pv 1) (pa_cons (pe_tup (pa_cons (pe_bltn (v := .ty "tuple") (by rfl) T.n_tuple (by decide +kernel) rfl) (pa_cons (pe_bltn (v := .ty "list") (by rfl) T.n_list (by decide +kernel) rfl) pa_nil))) pa_nil)))) (pss_cons (ps_set (i := 4) sc_law_spoilt.nd rfl (.inl rfl) (pe_ifExp (pt_val (pe_callB call_isD (by rfl) T.n_isinstance (by decide +kernel) (pa_cons (pv 1) (pa_cons (pe_bltn (v := .ty "tuple") (by rfl) T.n_tuple (by decide +kernel) rfl) pa_nil)))) (pe_callTy call_list_of (by rfl) T.n_list (by decide +kernel) (pa_cons (pv 1) pa_nil)) (pe_callTy call_tuple_of (by rfl) T.n_tuple (by decide +kernel) (pa_cons (pv 1) pa_nil))))
      (pss_one (ps_ret (pe_ix ix_list (pe_lst (pa_cons (pv 4) (pa_cons (pe_op op_catB (pv 1) (pe_slice sl_B (pv 1) po_none (po_some pe_int))) (pa_cons (pe_slice sl_B (pv 1) (po_some pe_int) po_none) (pa_cons (pe_revB (pv 1)) (pa_cons pe_non pa_nil)))))) (pe_call (G_law_pick.mono (by first | decide | omega)) hr (by rfl) T.g_law_pick T.F_law_pick.kp T.b_law_pick .nil pass0 (pa_cons (pv 0) (pa_cons pe_int pa_nil))) (fun _ _ => rfl))))) pss_nil)
      (pss_cons (ps_if (pt_val (pe_callB call_isD (by rfl) T.n_isinstance (by decide +kernel) (pa_cons (pv 1) (pa_cons (pe_bltn (v := .ty "int") (by rfl) T.n_int (by decide +kernel) rfl) pa_nil)))) (pss_one (ps_ret (pe_ix ix_list (pe_lst (pa_cons (pe_op op_addN (pv 1) pe_int) (pa_cons (pe_op op_subN (pv 1) pe_int) (pa_cons pe_bl (pa_cons pe_non (pa_cons pe_int (pa_cons pe_int (pa_cons (pe_callTy call_strN (by rfl) T.n_str (by decide +kernel) (pa_cons (pv 1) pa_nil)) pa_nil)))))))) (pe_call (G_law_pick.mono (by first | decide | omega)) hr (by rfl) T.g_law_pick T.F_law_pick.kp T.b_law_pick .nil pass0 (pa_cons (pv 0) (pa_cons pe_int pa_nil))) (fun _ _ => rfl)))) pss_nil)
      (pss_one (ps_ret (pe_ix ix_list (pe_lst (pa_cons pe_non (pa_cons pe_int (pa_cons pe_str (pa_cons pe_str (pa_cons pe_str (pa_cons pe_str (pa_cons pe_str (pa_cons pe_str pa_nil))))))))) (pe_call (G_law_pick.mono (by first | decide | omega)) hr (by rfl) T.g_law_pick T.F_law_pick.kp T.b_law_pick .nil pass0 (pa_cons (pv 0) (pa_cons pe_int pa_nil))) (fun _ _ => rfl))))))), ?_⟩
    refine ⟨fun σ' H' => ∃ y2 y3 y4, σ' = [some (.ref k), some v, y2, y3, y4] ∧ Same (Off k H) (Off k H') ∧ Dk k H' (n + 1), ?_, ?_⟩
    · refine ⟨v, rfl, by show 2 ≤ sizeLine; decide, fun tp ntp => ?_⟩
      have o1 := off_new (k := k) (o := .tup [.ty "tuple", .ty "list"]) ntp
      have dk1 := dk.same (same_new (o := .tup [.ty "tuple", .ty "list"]) ntp)
      have htp : upd H tp (.tup [.ty "tuple", .ty "list"]) tp = some (.tup [.ty "tuple", .ty "list"]) := upd_same
      generalize upd H tp (.tup [.ty "tuple", .ty "list"]) = H1 at *
      have f1 := (sz.trans o1).trans (off_same k H1)
      refine ⟨v, tp, d, rfl, htp, Dpm f1 hv, _, rfl, ?_⟩
      have skip : ∀ H2, Same (Off k H1) (Off k H2) → Dk k H2 (n + 3 * m + 2) → ∃ y2 y3 y4, [some (V.ref k), some v, none, none, none] = [some (.ref k), some v, y2, y3, y4] ∧ Same (Off k H) (Off k H2) ∧ Dk k H2 (n + 1) := fun H2 o2 dk2 => ⟨_, _, _, rfl, o1.trans o2, dk2.le (by omega)⟩
      cases e : isTL d with
      | false => exact iteF (skip _ (Same.refl _) (dk1.le (by omega)))
      | true =>
        obtain ⟨b, a, xs, ds, m2, rfl, sq, al, ed, rfl, dl, dg⟩ := seq_of hv gd e
        have hxl := dpAll_len al
        refine iteT ⟨.ref a, rfl, a, xs, rfl, sqK_or (sqK_mono f1 sq), _, _, rfl, rfl, _, rfl, ?_⟩
        by_cases hpos : (xs.length : Int) > 0
        · rw [decide_eq_true hpos]
          refine iteT ⟨.ref k, rfl, k, 5, n + 3 * (m2 + 1) + 2, rfl, by decide, by decide, dk1.le (by omega), fun r H2 r0 r1 dk2 o2 => ⟨_, _, rfl, rfl, _, rfl, ?_⟩⟩
          by_cases hrp : r > 0
          · rw [decide_eq_true hrp]
            refine iteT ?_
            have oH2 := o1.trans o2
            have f2 := (sz.trans oH2).trans (off_same k H2)
            refine ⟨.ref a, rfl, a, xs, rfl, sqK_or (sqK_mono f2 sq), fun l nl => ?_⟩
            have hk2 : ∃ x, H2 k = some x := by obtain ⟨l, h⟩ := dk2.lst; exact ⟨_, h⟩
            have fb := free_back oH2 hk2 nl
            have o3 := off_new (k := k) (o := .lst xs) nl
            have dk3 := dk2.same (same_new (o := .lst xs) nl)
            have hl3 : upd H2 l (.lst xs) l = some (.lst xs) := upd_same
            generalize upd H2 l (.lst xs) = H3 at *
            refine ⟨.ref k, rfl, .ref l, rfl, l, xs, rfl, .inl (.inl (.inl hl3)), k, _, n + 3 * (m2 + 1) + 1, rfl, by omega, by omega, dk3.le (by omega), fun at_ H4 a0 a1 dk4 o4 => ?_⟩
            have hat : at_.toNat < xs.length := by omega
            have hx : xs[at_.toNat]? = some xs[at_.toNat] := List.getElem?_eq_getElem hat
            have eat : at_ = ((at_.toNat : Nat) : Int) := by omega
            obtain ⟨dx, edx, hdx⟩ := dpAll_get al hx
            have hl4 : H4 l = some (.lst xs) := off_back o4 fb.2 hl3
            have oH4 := (oH2.trans o3).trans o4
            have sz2 : Same (Off l (nw k Z H H4)) (Off k H4) := (off_same l _).trans (nw_off sz oH4)
            have sZ2 : Same Z (Off l (nw k Z H H4)) := fun b o h => by
              have nb : b ≠ l := fun z => by
                have := off_same k H _ _ (sz b o h)
                rw [z, fb.1] at this
                cases this
              exact off_at nb (nw_old sz b o h)
            refine ⟨.ref k, rfl, .ref l, rfl, _, rfl, l, xs, _, _, rfl, rfl, .inl (.inl hl4), at_of eat hx, m2, k, _, dx, _, N, n, rfl, rfl, sz2, Dpm sZ2 hdx, dg dx (List.mem_of_getElem? edx), hN, dk4.le (by omega), fun u H5 d5 g5 dk5 o5 h5 => ?_⟩
            have hl5 : H5 l = some (.lst xs) := off_back o5 fb.2 hl4
            refine ⟨.ref l, rfl, _, rfl, l, xs, _, at_.toNat, rfl, rfl, hl5, ixN_at eat hat, ?_⟩
            have oH5 := oH4.trans o5
            have oH6 : Same (Off k H) (Off k (upd H5 l (.lst (xs.set at_.toNat u)))) := off_keep oH5 fb.1
            have dk6 : Dk k (upd H5 l (.lst (xs.set at_.toNat u))) n := by
              obtain ⟨a', b', c', h1, h2⟩ := dk5
              exact ⟨a', b', c', by rw [upd_ne fb.2.symm]; exact h1, h2⟩
            have hu6 : Dp K (nw k Z H (upd H5 l (.lst (xs.set at_.toNat u)))) u d5 := by
              refine Dpm (nw_in oH4 (fun x o ex _ => ?_) (by rw [hl4]; rfl) o5 (fun b nb => ?_)) h5
              · rw [ex]
                obtain ⟨l4, h4⟩ := dk4.lst
                exact ⟨_, h4⟩
              · unfold Off
                split
                · rfl
                · rw [upd_ne nb]
            have hl6 : upd H5 l (.lst (xs.set at_.toNat u)) l = some (.lst (xs.set at_.toNat u)) := upd_same
            generalize upd H5 l (.lst (xs.set at_.toNat u)) = H6 at *
            have al6 : DpAll K (nw k Z H H6) (xs.set at_.toNat u) (ds.set at_.toNat d5) := dpAll_set hu6 _ (dpAll_mono (nw_old sz) _ _ al)
            have g6 : ∀ x ∈ ds.set at_.toNat d5, Gd m2 (N + 1) x := fun x hx => by
              rcases List.mem_or_eq_of_mem_set hx with z | z
              · exact (dg x z).mono (by omega) (Nat.le_refl _)
              · rw [z]; exact g5
            have len6 : (ds.set at_.toNat d5).length ≤ 300 + (N + 1) := by rw [List.length_set]; omega
            have f6 := (sz.trans oH6).trans (off_same k H6)
            refine ⟨.ref a, rfl, .ref a, _, d, rfl, Dpm f6 hv, kTuple d, _, rfl, ?_⟩
            rw [isA_tuple, ed, isT_mkB]
            cases b with
            | true => exact iteF ⟨.ref l, rfl, q _ _ _ (mkB_gd (b := true) len6 g6) dk6 oH6 (mkB_dp (b := true) (.inl (.inl (nw_new fb.1 (off_at fb.2 hl6)))) al6)⟩
            | false =>
              refine iteT ⟨.ref l, rfl, l, _, rfl, .inl ⟨.inl (.inl hl6), fun t nt => ?_⟩⟩
              have hk6 : ∃ x, H6 k = some x := by obtain ⟨l, h⟩ := dk6.lst; exact ⟨_, h⟩
              have fbt := free_back oH6 hk6 nt
              have o7 := off_new (k := k) (o := .tup (xs.set at_.toNat u)) nt
              exact q _ _ _ (mkB_gd (b := false) len6 g6) (dk6.same (same_new nt)) (oH6.trans o7) (mkB_dp (b := false) (.inl (.inl (nw_new fbt.1 (off_up fbt.2)))) (dpAll_mono (nw_mono o7) _ _ al6))
          · rw [decide_eq_false hrp]
            exact iteF (skip _ o2 (dk2.le (by omega)))
        · rw [decide_eq_false hpos]
          exact iteF (skip _ (Same.refl _) (dk1.le (by omega)))
    · rintro σ' H1 ⟨y2, y3, y4, rfl, o1, dk1⟩
      refine ⟨v, rfl, by show 2 ≤ sizeLine; decide, fun tp ntp => ?_⟩
      have o2' := off_new (k := k) (o := .tup [.ty "tuple", .ty "list"]) ntp
      have dk2 := dk1.same (same_new (o := .tup [.ty "tuple", .ty "list"]) ntp)
      have htp : upd H1 tp (.tup [.ty "tuple", .ty "list"]) tp = some (.tup [.ty "tuple", .ty "list"]) := upd_same
      generalize upd H1 tp (.tup [.ty "tuple", .ty "list"]) = H2 at *
      have o2 := o1.trans o2'
      have f2 := (sz.trans o2).trans (off_same k H2)
      -- the end, from a list of things that are good
      have fin : ∀ (H3 : Hp) (l : Addr) (xs : List V) (c : Nat), Same (Off k H2) (Off k H3) → Dk k H3 (n + 1) → H3 l = some (.lst xs) → l ≠ k → xs.length = c → 0 < c → c < 100 → (∀ x ∈ xs, ∃ d', Gd m (N + 1) d' ∧ Dp K (nw k Z H H3) x d') →
          sp_pick K [.ref k, .int (c : Int)] H3 (fun y H4 => ∃ p items i x, (.ref l : V) = .ref p ∧ y = .int i ∧ SqL K H4 p items ∧ atI items i = some x ∧ Q x H4) E0 := by
        intro H3 l xs c o3 dk3 hl nlk hc c0 c1 good
        refine ⟨k, _, n, rfl, by omega, by omega, dk3, fun r H4 r0 r1 dk4 o4 => ?_⟩
        obtain ⟨x, hx, sq, ha⟩ := drawn_at (K := K) (off_at nlk hl) o4 r0 r1 hc
        obtain ⟨d', g', h'⟩ := good x hx
        exact ⟨l, xs, r, x, rfl, rfl, sq, ha, q x H4 d' g' dk4 ((o2.trans o3).trans o4) (Dpm (nw_mono o4) h')⟩
      refine ⟨v, tp, d, rfl, htp, Dpm f2 hv, _, rfl, ?_⟩
      cases e : isTL d with
      | true =>
        refine iteT ?_
        obtain ⟨b, a, xs, ds, m2, rfl, sq, al, ed, rfl, dl, dg⟩ := seq_of hv gd e
        have hxl := dpAll_len al
        have hk2 : ∃ x, H2 k = some x := by obtain ⟨l, h⟩ := dk2.lst; exact ⟨_, h⟩
        have hsz : xs.length ≤ 900 := by omega
        have gds : ∀ x ∈ ds, Gd m2 (N + 1) x := fun x hx => (dg x hx).mono (by omega) (Nat.le_refl _)
        refine ⟨.ref a, rfl, .ref a, _, d, rfl, Dpm f2 hv, kTuple d, _, rfl, ?_⟩
        rw [isA_tuple, ed, isT_mkB]
        cases b with
        | true =>
          refine iteF ⟨.ref a, rfl, a, xs, rfl, .inl ⟨sqK_mono f2 sq, fun p np => ?_⟩⟩
          have g2 := Same.refl H2
          have fb3 := free_back o2 hk2 np
          have t3 := same_new (o := .tup xs) np
          have x3 : Off k (upd H2 p (.tup xs)) p = some (.tup xs) := off_up fb3.2
          have o3 := o2.trans (off_mono (k := k) t3)
          have dk3 := dk2.same t3
          have hk3 : ∃ x, upd H2 p (.tup xs) k = some x := by obtain ⟨x, h⟩ := hk2; exact ⟨x, t3 _ _ h⟩
          have g3 := Same.trans g2 t3
          have np0 := nw_new (Z := Z) fb3.1 x3
          generalize upd H2 p (.tup xs) = H3 at *
          have sq3 : SqL K H3 a xs := sqK_mono (b := true) (f2.trans t3) sq
          refine ⟨.ref p, rfl, .ref a, rfl, .ref a, rfl, 1, rfl, .inl ⟨a, xs, rfl, sq3, fun p1 np1 => ?_⟩⟩
          rw [show (some (1 : Int)) = some ((1 : Nat) : Int) from rfl, cut_to]
          have fb4 := free_back o3 hk3 np1
          have t4 := same_new (o := .lst (xs.take 1)) np1
          have x4 : Off k (upd H3 p1 (.lst (xs.take 1))) p1 = some (.lst (xs.take 1)) := off_up fb4.2
          have o4 := o3.trans (off_mono (k := k) t4)
          have dk4 := dk3.same t4
          have hk4 : ∃ x, upd H3 p1 (.lst (xs.take 1)) k = some x := by obtain ⟨x, h⟩ := hk3; exact ⟨x, t4 _ _ h⟩
          have g4 := Same.trans g3 t4
          have np10 := nw_new (Z := Z) fb4.1 x4
          generalize upd H3 p1 (.lst (xs.take 1)) = H4 at *
          refine .inl ⟨a, p1, xs, xs.take 1, rfl, rfl, t4.seq sq3, .inl (.inl (off_same k H4 _ _ x4)), Nat.le_of_lt (small1000 (by rw [List.length_take]; omega)), fun p2 np2 => ?_⟩
          have fb5 := free_back o4 hk4 np2
          have t5 := same_new (o := .lst (xs ++ xs.take 1)) np2
          have x5 : Off k (upd H4 p2 (.lst (xs ++ xs.take 1))) p2 = some (.lst (xs ++ xs.take 1)) := off_up fb5.2
          have o5 := o4.trans (off_mono (k := k) t5)
          have dk5 := dk4.same t5
          have hk5 : ∃ x, upd H4 p2 (.lst (xs ++ xs.take 1)) k = some x := by obtain ⟨x, h⟩ := hk4; exact ⟨x, t5 _ _ h⟩
          have g5 := Same.trans g4 t5
          have np20 := nw_new (Z := Z) fb5.1 x5
          generalize upd H4 p2 (.lst (xs ++ xs.take 1)) = H5 at *
          have sq5 : SqL K H5 a xs := (t4.trans t5).seq sq3
          refine ⟨.ref a, rfl, 1, rfl, .inl ⟨a, xs, rfl, sq5, fun p3 np3 => ?_⟩⟩
          rw [show (some (1 : Int)) = some ((1 : Nat) : Int) from rfl, cut_from]
          have fb6 := free_back o5 hk5 np3
          have t6 := same_new (o := .lst (xs.drop 1)) np3
          have x6 : Off k (upd H5 p3 (.lst (xs.drop 1))) p3 = some (.lst (xs.drop 1)) := off_up fb6.2
          have o6 := o5.trans (off_mono (k := k) t6)
          have dk6 := dk5.same t6
          have hk6 : ∃ x, upd H5 p3 (.lst (xs.drop 1)) k = some x := by obtain ⟨x, h⟩ := hk5; exact ⟨x, t6 _ _ h⟩
          have g6 := Same.trans g5 t6
          have np30 := nw_new (Z := Z) fb6.1 x6
          generalize upd H5 p3 (.lst (xs.drop 1)) = H6 at *
          refine ⟨.ref a, rfl, .inl ⟨a, xs, rfl, t6.seq sq5, fun p4 np4 => ?_⟩⟩
          have fb7 := free_back o6 hk6 np4
          have t7 := same_new (o := .lst xs.reverse) np4
          have x7 : Off k (upd H6 p4 (.lst xs.reverse)) p4 = some (.lst xs.reverse) := off_up fb7.2
          have o7 := o6.trans (off_mono (k := k) t7)
          have dk7 := dk6.same t7
          have hk7 : ∃ x, upd H6 p4 (.lst xs.reverse) k = some x := by obtain ⟨x, h⟩ := hk6; exact ⟨x, t7 _ _ h⟩
          have g7 := Same.trans g6 t7
          have np40 := nw_new (Z := Z) fb7.1 x7
          generalize upd H6 p4 (.lst xs.reverse) = H7 at *
          refine ⟨by show 5 ≤ sizeLine; decide, fun p5 np5 => ?_⟩
          have fb8 := free_back o7 hk7 np5
          have t8 := same_new (o := .lst [.ref p, .ref p2, .ref p3, .ref p4, .non]) np5
          have x8 : Off k (upd H7 p5 (.lst [.ref p, .ref p2, .ref p3, .ref p4, .non])) p5 = some (.lst [.ref p, .ref p2, .ref p3, .ref p4, .non]) := off_up fb8.2
          have o8 := o7.trans (off_mono (k := k) t8)
          have dk8 := dk7.same t8
          have hk8 : ∃ x, upd H7 p5 (.lst [.ref p, .ref p2, .ref p3, .ref p4, .non]) k = some x := by obtain ⟨x, h⟩ := hk7; exact ⟨x, t8 _ _ h⟩
          have g8 := Same.trans g7 t8
          have np50 := nw_new (Z := Z) fb8.1 x8
          generalize upd H7 p5 (.lst [.ref p, .ref p2, .ref p3, .ref p4, .non]) = H8 at *
          have alZ : ∀ H', DpAll K (nw k Z H H') xs ds := fun H' => dpAll_mono (nw_old sz) _ _ al
          refine ⟨.ref k, rfl, fin H8 p5 _ 5 (off_mono g8) dk8 (off_same k H8 _ _ x8) fb8.2 rfl (by decide) (by decide) fun x hx => ?_⟩
          simp only [List.mem_cons, List.not_mem_nil, or_false] at hx
          rcases hx with rfl | rfl | rfl | rfl | rfl
          · exact ⟨_, mkB_gd (b := false) (by omega) gds, mkB_dp (b := false) (.inl (.inl (nw_mono (off_mono ((((t4.trans t5).trans t6).trans t7).trans t8)) _ _ np0))) (alZ _)⟩
          · exact ⟨_, mkB_gd (b := true) (by rw [List.length_append, List.length_take]; omega) (fun x hx => by rcases List.mem_append.mp hx with z | z; exact gds x z; exact gds x (List.mem_of_mem_take z)), mkB_dp (b := true) (.inl (.inl (nw_mono (off_mono ((t6.trans t7).trans t8)) _ _ np20))) (dpAll_app (alZ _) (dpAll_take 1 (alZ _)))⟩
          · exact ⟨_, mkB_gd (b := true) (by rw [List.length_drop]; omega) (fun x hx => gds x (List.mem_of_mem_drop hx)), mkB_dp (b := true) (.inl (.inl (nw_mono (off_mono (t7.trans t8)) _ _ np30))) (dpAll_drop 1 (alZ _))⟩
          · exact ⟨_, mkB_gd (b := true) (by rw [List.length_reverse]; omega) (fun x hx => gds x (List.mem_reverse.mp hx)), mkB_dp (b := true) (.inl (.inl (nw_mono (off_mono t8) _ _ np40))) (dpAll_rev (alZ _))⟩
          · exact ⟨_, .none, .non⟩
        | false =>
          refine iteT ⟨.ref a, rfl, a, xs, rfl, .inr (sqK_mono f2 sq), fun p np => ?_⟩
          have g2 := Same.refl H2
          have fb3 := free_back o2 hk2 np
          have t3 := same_new (o := .lst xs) np
          have x3 : Off k (upd H2 p (.lst xs)) p = some (.lst xs) := off_up fb3.2
          have o3 := o2.trans (off_mono (k := k) t3)
          have dk3 := dk2.same t3
          have hk3 : ∃ x, upd H2 p (.lst xs) k = some x := by obtain ⟨x, h⟩ := hk2; exact ⟨x, t3 _ _ h⟩
          have g3 := Same.trans g2 t3
          have np0 := nw_new (Z := Z) fb3.1 x3
          generalize upd H2 p (.lst xs) = H3 at *
          have sqN : ∀ H', SqT K (nw k Z H H') a xs := fun H' => seqT_mono (nw_old sz) sq
          refine ⟨.ref p, rfl, .ref a, rfl, .ref a, rfl, 1, rfl, .inr (slT_to' (n := 1) sz o3 hk3 (sqN _) fun p1 H4 t4 sp1 => ?_)⟩
          have o4 := o3.trans (off_mono (k := k) t4)
          have dk4 := dk3.same t4
          have hk4 : ∃ x, H4 k = some x := by obtain ⟨x, h⟩ := hk3; exact ⟨x, t4 _ _ h⟩
          have g4 := Same.trans g3 t4
          refine .inr (.inl (catA' sz o4 hk4 (sqN _) sp1 (Nat.le_of_lt (small1000 (by rw [List.length_take]; omega))) fun p2 H5 t5 sp2 => ?_))
          have o5 := o4.trans (off_mono (k := k) t5)
          have dk5 := dk4.same t5
          have hk5 : ∃ x, H5 k = some x := by obtain ⟨x, h⟩ := hk4; exact ⟨x, t5 _ _ h⟩
          have g5 := Same.trans g4 t5
          refine ⟨.ref a, rfl, 1, rfl, .inr (slT_from' (n := 1) sz o5 hk5 (sqN _) fun p3 H6 t6 sp3 => ?_)⟩
          have o6 := o5.trans (off_mono (k := k) t6)
          have dk6 := dk5.same t6
          have hk6 : ∃ x, H6 k = some x := by obtain ⟨x, h⟩ := hk5; exact ⟨x, t6 _ _ h⟩
          have g6 := Same.trans g5 t6
          refine ⟨.ref a, rfl, .inr ⟨a, xs, rfl, seqT_mono (nw_H sz o6) (sqN _), fun p4 np4 => ?_⟩⟩
          have fb7 := free_back o6 hk6 np4
          have t7 := same_new (o := .tup xs.reverse) np4
          have x7 : Off k (upd H6 p4 (.tup xs.reverse)) p4 = some (.tup xs.reverse) := off_up fb7.2
          have o7 := o6.trans (off_mono (k := k) t7)
          have dk7 := dk6.same t7
          have hk7 : ∃ x, upd H6 p4 (.tup xs.reverse) k = some x := by obtain ⟨x, h⟩ := hk6; exact ⟨x, t7 _ _ h⟩
          have g7 := Same.trans g6 t7
          have np40 := nw_new (Z := Z) fb7.1 x7
          generalize upd H6 p4 (.tup xs.reverse) = H7 at *
          refine ⟨by show 5 ≤ sizeLine; decide, fun p5 np5 => ?_⟩
          have fb8 := free_back o7 hk7 np5
          have t8 := same_new (o := .lst [.ref p, .ref p2, .ref p3, .ref p4, .non]) np5
          have x8 : Off k (upd H7 p5 (.lst [.ref p, .ref p2, .ref p3, .ref p4, .non])) p5 = some (.lst [.ref p, .ref p2, .ref p3, .ref p4, .non]) := off_up fb8.2
          have o8 := o7.trans (off_mono (k := k) t8)
          have dk8 := dk7.same t8
          have hk8 : ∃ x, upd H7 p5 (.lst [.ref p, .ref p2, .ref p3, .ref p4, .non]) k = some x := by obtain ⟨x, h⟩ := hk7; exact ⟨x, t8 _ _ h⟩
          have g8 := Same.trans g7 t8
          have np50 := nw_new (Z := Z) fb8.1 x8
          generalize upd H7 p5 (.lst [.ref p, .ref p2, .ref p3, .ref p4, .non]) = H8 at *
          have alZ : ∀ H', DpAll K (nw k Z H H') xs ds := fun H' => dpAll_mono (nw_old sz) _ _ al
          refine ⟨.ref k, rfl, fin H8 p5 _ 5 (off_mono g8) dk8 (off_same k H8 _ _ x8) fb8.2 rfl (by decide) (by decide) fun x hx => ?_⟩
          simp only [List.mem_cons, List.not_mem_nil, or_false] at hx
          rcases hx with rfl | rfl | rfl | rfl | rfl
          · exact ⟨_, mkB_gd (b := true) (by omega) gds, mkB_dp (b := true) (.inl (.inl (nw_mono (off_mono ((((t4.trans t5).trans t6).trans t7).trans t8)) _ _ np0))) (alZ _)⟩
          · exact ⟨_, mkB_gd (b := false) (by rw [List.length_append, List.length_take]; omega) (fun x hx => by rcases List.mem_append.mp hx with z | z; exact gds x z; exact gds x (List.mem_of_mem_take z)), mkB_dp (b := false) (seqT_mono (nw_mono (off_mono ((t6.trans t7).trans t8))) sp2) (dpAll_app (alZ _) (dpAll_take 1 (alZ _)))⟩
          · exact ⟨_, mkB_gd (b := false) (by rw [List.length_drop]; omega) (fun x hx => gds x (List.mem_of_mem_drop hx)), mkB_dp (b := false) (seqT_mono (nw_mono (off_mono (t7.trans t8))) sp3) (dpAll_drop 1 (alZ _))⟩
          · exact ⟨_, mkB_gd (b := false) (by rw [List.length_reverse]; omega) (fun x hx => gds x (List.mem_reverse.mp hx)), mkB_dp (b := false) (.inl (.inl (nw_mono (off_mono t8) _ _ np40))) (dpAll_rev (alZ _))⟩
          · exact ⟨_, .none, .non⟩
      | false =>
        refine iteF ⟨v, rfl, v, _, d, rfl, Dpm f2 hv, kInt d, _, rfl, ?_⟩
        rw [isA_int]
        have flat : ∀ (H3 : Hp) (l : Addr) (xs : List V) (c : Nat), True := fun _ _ _ _ => trivial
        cases e2 : isIB d with
        | true =>
          have good7 : ∀ (H3 : Hp) (i : Int) (z : Str) (x : V), i.natAbs ≤ 2 ^ 200 + N → x ∈ [V.int (i + 1), .int (i - 1), .bl true, .non, .int 0, .int 50, .str z] → ∃ d', Gd m (N + 1) d' ∧ Dp K H3 x d' := by
            intro H3 i z x hi hx
            simp only [List.mem_cons, List.not_mem_nil, or_false] at hx
            rcases hx with rfl | rfl | rfl | rfl | rfl | rfl | rfl
            · exact ⟨_, .int (by omega), .int _⟩
            · exact ⟨_, .int (by omega), .int _⟩
            · exact ⟨_, .bool, .bl _⟩
            · exact ⟨_, .none, .non⟩
            · exact ⟨_, .int (by show 0 ≤ _; omega), .int _⟩
            · exact ⟨_, .int (by show 50 ≤ _; have : 50 ≤ 2 ^ 200 := by decide +kernel
                                 omega), .int _⟩
            · exact ⟨_, .str, .str _⟩
          cases hv with
          | int i =>
            refine iteT ⟨_, rfl, _, _, .inl rfl, rfl, _, rfl, _, _, .inl rfl, rfl, _, rfl, .inl ⟨i, rfl, log_small (Nat.le_trans (Gd.of_int gd) (by omega)), by show 7 ≤ sizeLine; decide, fun l nl => ?_⟩⟩
            exact ⟨.ref k, rfl, fin _ l _ 7 (off_new nl) (dk2.same (same_new nl)) upd_same (dk2.ne nl) rfl (by decide) (by decide) fun x hx => good7 _ i _ x (Gd.of_int gd) hx⟩
          | bl bb =>
            refine iteT ⟨_, rfl, _, _, .inr ⟨bb, rfl, rfl⟩, rfl, _, rfl, _, _, .inr ⟨bb, rfl, rfl⟩, rfl, _, rfl, .inr ⟨bb, rfl, by show 7 ≤ sizeLine; decide, fun l nl => ?_⟩⟩
            refine ⟨.ref k, rfl, fin _ l _ 7 (off_new nl) (dk2.same (same_new nl)) upd_same (dk2.ne nl) rfl (by decide) (by decide) fun x hx => good7 _ (if bb = true then 1 else 0) _ x ?_ hx⟩
            have : 1 ≤ 2 ^ 200 := by decide +kernel
            cases bb
            · show 0 ≤ _; omega
            · show 1 ≤ _; omega
          | _ => simp [isIB] at e2
        | false =>
          refine iteF ⟨by show 8 ≤ sizeLine; decide, fun l nl => ?_⟩
          have nlk := dk2.ne nl
          refine ⟨.ref k, rfl, ?_⟩
          refine fin _ l _ 8 (off_new nl) (dk2.same (same_new nl)) upd_same nlk rfl (by decide) (by decide) fun x hx => ?_
          simp only [List.mem_cons, List.not_mem_nil, or_false] at hx
          rcases hx with rfl | rfl | rfl | rfl | rfl | rfl | rfl | rfl
          · exact ⟨_, .none, .non⟩
          · exact ⟨_, .int (by show 7 ≤ _; have : 7 ≤ 2 ^ 200 := by decide +kernel
                               omega), .int 7⟩
          · exact ⟨_, .str, .str _⟩
          · exact ⟨_, .str, .str _⟩
          · exact ⟨_, .str, .str _⟩
          · exact ⟨_, .str, .str _⟩
          · exact ⟨_, .str, .str _⟩
          · exact ⟨_, .str, .str _⟩
theorem ok_law_spoilt (T : Tx K mg) : ∀ m : Nat, FnOk P w K mg base CX0 (m + 2) T.f_law_spoilt T.fd_law_spoilt ["deck", "thing"] (sp_spoilt K m)
  | 0 => ⟨fun vs H Q E h => by
      obtain ⟨_, _, _, _, _, _, _, z, _⟩ := h
      omega, fun A outer s H args us vs Q E hr he hb hv h => by
      obtain ⟨_, _, _, _, _, _, _, z, _⟩ := h
      omega⟩
  | m + 1 => spoilt_step T (by omega) (ok_law_spoilt T m)
end PS

namespace PS
open PySem PySem.Spec PyProof.Rows L2
variable {P : Program} {w : World} {K : PySem.W.Frag} {mg : Str → Option Value} {base : Heap}
theorem eqv_nil {ds : List PyData} : PyData.eqv (.list ds) (.list []) = ds.isEmpty := by
  cases ds <;> simp [PyData.eqv, PyData.eqvAll]
theorem two_of_len {ds : List PyData} (h : (ds.length : Int) = 2) : ∃ a b, ds = [a, b] := by
  match ds, h with
  | [a, b], _ => exact ⟨a, b, rfl⟩
  | [], h => simp at h
  | [_], h => simp at h
  | _ :: _ :: _ :: _, h => simp at h; omega
theorem three_of_len {ds : List PyData} (h : (ds.length : Int) = 3) : ∃ a b c, ds = [a, b, c] := by
  match ds, h with
  | [a, b, c], _ => exact ⟨a, b, c, rfl⟩
  | [], h => simp at h
  | [_], h => simp at h
  | [_, _], h => simp at h
  | _ :: _ :: _ :: _ :: _, h => simp at h; omega
theorem filter_empty (f : PyData → Bool) (ds : List PyData) : (ds.filter (fun x => !f x)).isEmpty = ds.all f := by
  induction ds with
  | nil => rfl
  | cons d ds ih =>
    cases e : f d <;> simp [List.filter_cons, e, ← ih]
/-! ### the law's own is-it-a-push -/
def isPushB (room : Int) (ls : List Int) (x : Str) (i j : Int) : Bool := if x = "right" then (if 0 ≤ i ∧ i < ls.length then decide (pre ls i.toNat ≤ j ∧ j ≤ pre ls i.toNat + (room - ls.sum)) else false) else if x = "left" then (if 1 ≤ i ∧ i < 1 + ls.length then decide (pre ls i.toNat ≤ j ∧ j ≤ pre ls i.toNat + (room - ls.sum)) else false) else false
theorem eqv_str (x y : Str) : PyData.eqv (.str x) (.str y) = decide (x = y) := by
  simp only [PyData.eqv]
  by_cases h : x = y
  · subst h; simp
  · simp [h]
theorem within_eq (j lo hi : Int) : within (.int j) lo hi = decide (lo ≤ j ∧ j ≤ hi) := by
  unfold within
  simp only
  by_cases h : lo ≤ j
  · rw [if_pos h]; simp [h]
  · rw [if_neg h]; simp [h]
theorem isPushB_eq (room : Int) (ls : List Int) (x : Str) (i j : Int) : isPush room ls (.tuple [.str x, .int i, .int j]) = isPushB room ls x i j := by
  unfold isPush isPushB isGap
  simp only [eqv_str, within_eq, intOf]
  by_cases h1 : x = "right"
  · simp only [h1, decide_true, if_true]
    by_cases h : 0 ≤ i ∧ i < ls.length
    · rw [if_pos h, decide_eq_true (show 0 ≤ i ∧ i ≤ (ls.length : Int) - 1 by omega)]; simp
    · rw [if_neg h, decide_eq_false (show ¬ (0 ≤ i ∧ i ≤ (ls.length : Int) - 1) by omega)]; simp
  · by_cases h2 : x = "left"
    · have h1' : ¬ ("left" : Str) = "right" := by decide +kernel
      rw [h2]
      simp only [decide_eq_false h1', decide_true, if_true]
      rw [if_neg h1']
      by_cases h : 1 ≤ i ∧ i < 1 + (ls.length : Int)
      · rw [if_pos h, decide_eq_true (show 1 ≤ i ∧ i ≤ (ls.length : Int) by omega)]; simp
      · rw [if_neg h, decide_eq_false (show ¬ (1 ≤ i ∧ i ≤ (ls.length : Int)) by omega)]; simp
    · simp only [h1, h2, decide_false, if_false]
      simp
theorem in_sides (x : Str) : inV (.str x) [.str "right", .str "left"] = (decide (x = "right") || decide (x = "left")) := by
  unfold inV
  simp only [List.any_cons, List.any_nil, eqV, Bool.or_false]
  congr 1
  · by_cases h : x = "right"
    · subst h; simp
    · rw [decide_eq_false h]; simp; exact fun z => h z.symm
  · by_cases h : x = "left"
    · subst h; simp
    · rw [decide_eq_false h]; simp; exact fun z => h z.symm
theorem no_push_side {room : Int} {ls : List Int} {s g p : PyData} (h : isS s = false) : isPush room ls (.tuple [s, g, p]) = false := by
  have e : ∀ x : Str, PyData.eqv s (.str x) = false := fun x => by cases s <;> simp [PyData.eqv, isS] at h ⊢
  unfold isPush isGap
  simp [e]
theorem no_push_int {room : Int} {ls : List Int} {s g p : PyData} (h : isW g = false ∨ isW p = false) : isPush room ls (.tuple [s, g, p]) = false := by
  have e : ∀ (d : PyData) (lo hi : Int), isW d = false → within d lo hi = false := fun d lo hi z => by cases d <;> simp [within, isW] at z ⊢
  unfold isPush isGap
  rcases h with h | h
  · simp [e _ _ _ h]
  · simp [e _ _ _ h]
def sp_law_is_push (K : PySem.W.Frag) : Sp := fun vs H Q _ => ∃ v u room ls d, vs = [v, u] ∧ Dp K H v (shD room ls) ∧ Dp K H u d ∧ RB H Q (isPush room ls d)
theorem ok_law_is_push (T : Tx K mg) : FnOk P w K mg base CX0 2 T.f_law_is_push T.fd_law_is_push ["shelf", "thing"] (sp_law_is_push K) := by
  have G_law_whole := ok_law_whole (P := P) (w := w) (base := base) T
  have G_law_play := ok_law_play (P := P) (w := w) (base := base) T
  refine T.F_law_is_push.ok sc_law_is_push (fun vs H Q E h => ?_) (fun cdv A outer s H vs Q E hr h => ?_)
  · obtain ⟨v, _, _, _, _, rfl, _⟩ := h
    rfl
  · obtain ⟨v, u, room, ls, d, rfl, hv, hu, q⟩ := h
    obtain ⟨a, b, rfl, sa, sb⟩ := dp_shelf hv
    refine ⟨_, (pss_cons (ps_if (PW.pt (pw_or (pt_not (pt_val (pe_callB call_isD (by rfl) T.n_isinstance (by decide +kernel) (pa_cons (pv 1) (pa_cons (pe_bltn (v := .ty "tuple") (by rfl) T.n_tuple (by decide +kernel) rfl) pa_nil))))) (pw_or (pt_cmpR op_ne (pe_callB call_len_seq (by rfl) T.n_len (by decide +kernel) (pa_cons (pv 1) pa_nil)) pe_int (nomark _)) (pw_or1 (pt_not (pt_val (pe_callB call_isD (by rfl) T.n_isinstance (by decide +kernel) (pa_cons (pe_ix ix_tup (pv 1) pe_int (fun _ _ => rfl)) (pa_cons (pe_bltn (v := .ty "str") (by rfl) T.n_str (by decide +kernel) rfl) pa_nil))))))))) (pss_one (ps_ret pe_bl)) pss_nil)
      (pss_cons (ps_if (PW.pt (pw_or (pt_cmpR op_notIn_seq (pe_ix ix_tup (pv 1) pe_int (fun _ _ => rfl)) (pe_tup (pa_cons pe_str (pa_cons pe_str pa_nil))) (by first | rfl | decide +kernel)) (pw_or (pt_not (pt_val (pe_call (G_law_whole.mono (by first | decide | omega)) hr (by rfl) T.g_law_whole T.F_law_whole.kp T.b_law_whole .nil pass0 (pa_cons (pe_ix ix_tup (pv 1) pe_int (fun _ _ => rfl)) pa_nil)))) (pw_or1 (pt_not (pt_val (pe_call (G_law_whole.mono (by first | decide | omega)) hr (by rfl) T.g_law_whole T.F_law_whole.kp T.b_law_whole .nil pass0 (pa_cons (pe_ix ix_tup (pv 1) pe_int (fun _ _ => rfl)) pa_nil)))))))) (pss_one (ps_ret pe_bl)) pss_nil)
      (pss_cons (ps_set (i := 2) sc_law_is_push.nd rfl (.inl rfl) (pe_callTy call_int1 (by rfl) T.n_int (by decide +kernel) (pa_cons (pe_cmpR op_eq (pe_ix ix_tup (pv 1) pe_int (fun _ _ => rfl)) pe_str (nomark _)) pa_nil)))
      (pss_cons (ps_if (pt_not (pt_chain op_le op_lt (pv 2) (pe_ix ix_tup (pv 1) pe_int (fun _ _ => rfl)) (pe_op op_add (pv 2) (pe_callB call_len_seq (by rfl) T.n_len (by decide +kernel) (pa_cons (pe_ix ix_tup (pv 0) pe_int (fun _ _ => rfl)) pa_nil))))) (pss_one (ps_ret pe_bl)) pss_nil)
      (pss_one (ps_ret (pe_chain op_le op_le pe_int (pe_op op_sub (pe_ix ix_tup (pv 1) pe_int (fun _ _ => rfl)) (pe_callB (cr_sumT rfl) (by rfl) T.n_sum (by decide +kernel) (pa_cons (pe_slice sl_tupA (pe_ix ix_tup (pv 0) pe_int (fun _ _ => rfl)) po_none (po_some (pe_ix ix_tup (pv 1) pe_int (fun _ _ => rfl)))) pa_nil))) (pe_call (G_law_play.mono (by first | decide | omega)) hr (by rfl) T.g_law_play T.F_law_play.kp T.b_law_play .nil pass0 (pa_cons (pv 0) pa_nil))))))))), ?_⟩
    refine ⟨u, rfl, u, _, d, rfl, hu, kTuple d, _, rfl, ?_⟩
    rw [isA_tuple]
    cases hu with
    | @tup t xs ds st al =>
      have hxl := dpAll_len al
      refine iteF ⟨_, rfl, t, xs, rfl, .inr st, rfl, _, rfl, ?_⟩
      rw [hxl]
      by_cases el : (ds.length : Int) = 3
      · rw [decide_eq_true (show V.int (ds.length : Int) = V.int 3 by rw [el])]
        refine iteF ?_
        obtain ⟨d1, d2, d3, rfl⟩ := three_of_len el
        cases al with
        | @cons x1 _ _ _ h1 al =>
        cases al with
        | @cons x2 _ _ _ h2 al =>
        cases al with
        | @cons x3 _ _ _ h3 al =>
        cases al
        refine ⟨.ref t, rfl, t, _, 0, _, rfl, rfl, st, atI_nat (j := 0) rfl, x1, _, d1, rfl, h1, kStr _, _, rfl, ?_⟩
        rw [isA_str]
        cases es : isS d1 with
        | false =>
          rw [no_push_side es] at q
          exact iteT (q H (Same.refl H))
        | true =>
          refine iteF ?_
          cases h1 with
          | str x =>
            refine ⟨.ref t, rfl, t, _, 0, _, rfl, rfl, st, atI_nat (j := 0) rfl, by show 2 ≤ sizeLine; decide, fun z nz => ?_⟩
            have s1 := same_new (o := .tup [.str "right", .str "left"]) nz
            refine ⟨z, _, rfl, .inr (.inl (.inl upd_same)), rfl, rfl, _, rfl, ?_⟩
            rw [in_sides]
            generalize upd H z (.tup [.str "right", .str "left"]) = H1 at *
            have st1 := seqT_mono s1 st
            have sa1 := seqT_mono s1 sa
            have sb1 := seqT_mono s1 sb
            by_cases hx : ¬ (x = "right" ∨ x = "left")
            · have hx1 : ¬ x = "right" := fun z => hx (.inl z)
              have hx2 : ¬ x = "left" := fun z => hx (.inr z)
              rw [decide_eq_false hx1, decide_eq_false hx2]
              have : isPush room ls (.tuple [.str x, d2, d3]) = false := by
                unfold isPush isGap
                simp [eqv_str, hx1, hx2]
              rw [this] at q
              exact iteT (q H1 s1)
            · have hx' : (decide (x = "right") || decide (x = "left")) = true := by
                simp only [Classical.not_not] at hx
                rcases hx with z | z <;> simp [z]
              rw [hx']
              refine iteF ⟨.ref t, rfl, t, _, 1, _, rfl, rfl, st1, atI_nat (j := 1) rfl, x2, d2, rfl, Dpm s1 h2, _, rfl, ?_⟩
              cases e2 : isW d2 with
              | false =>
                rw [no_push_int (.inl e2)] at q
                exact iteT (q H1 s1)
              | true =>
                refine iteF ⟨.ref t, rfl, t, _, 2, _, rfl, rfl, st1, atI_nat (j := 2) rfl, x3, d3, rfl, Dpm s1 h3, _, rfl, ?_⟩
                cases e3 : isW d3 with
                | false =>
                  rw [no_push_int (.inr e3)] at q
                  exact iteT (q H1 s1)
                | true =>
                  refine iteF ?_
                  cases h2 with
                  | int i =>
                    cases h3 with
                    | int j =>
                      rw [isPushB_eq] at q
                      refine ⟨.ref t, rfl, t, _, 0, _, rfl, rfl, st1, atI_nat (j := 0) rfl, rfl, .inr ⟨_, rfl, ?_⟩⟩
                      obtain ⟨low, elow, eb⟩ : ∃ low : Int, (if decide (V.str x = V.str "left") = true then (1 : Int) else 0) = low ∧ isPushB room ls x i j = (if low ≤ i ∧ i < low + ls.length then decide (pre ls i.toNat ≤ j ∧ j ≤ pre ls i.toNat + (room - ls.sum)) else false) ∧ 0 ≤ low := by
                        by_cases hr1 : x = "right"
                        · subst hr1
                          refine ⟨0, by rw [decide_eq_false (show ¬ V.str "right" = V.str "left" from by decide +kernel)]; rfl, ?_, Int.le_refl 0⟩
                          unfold isPushB
                          rw [if_pos rfl]
                          simp
                        · have hl1 : x = "left" := by
                            simp only [Classical.not_not] at hx
                            rcases hx with z | z
                            · exact absurd z hr1
                            · exact z
                          subst hl1
                          refine ⟨1, by rw [decide_eq_true (show V.str "left" = V.str "left" from rfl)]; rfl, ?_, by decide⟩
                          unfold isPushB
                          rw [if_neg hr1, if_pos rfl]
                      obtain ⟨eb, low0⟩ := eb
                      rw [eb] at q
                      dsimp only
                      rw [elow]
                      refine ⟨_, rfl, .ref t, rfl, t, _, 1, _, rfl, rfl, st1, atI_nat (j := 1) rfl, _, _, rfl, rfl, _, rfl, ?_⟩
                      by_cases c1 : low ≤ i
                      · rw [decide_eq_true c1]
                        refine iteT ⟨_, rfl, .ref a, rfl, a, _, 1, _, rfl, rfl, sa1, atI_nat (j := 1) rfl, b, _, rfl, .inr sb1, _, _, rfl, rfl, _, _, rfl, rfl, _, rfl, ?_⟩
                        rw [iV_len]
                        by_cases c2 : i < low + (ls.length : Nat)
                        · rw [decide_eq_true c2]
                          rw [if_pos ⟨c1, c2⟩] at q
                          refine iteF ?_
                          refine ⟨.ref t, rfl, t, _, 2, _, rfl, rfl, st1, atI_nat (j := 2) rfl, .ref a, rfl, a, _, 1, _, rfl, rfl, sa1, atI_nat (j := 1) rfl, .ref t, rfl, t, _, 1, _, rfl, rfl, st1, atI_nat (j := 1) rfl, _, rfl, ?_⟩
                          obtain ⟨g, rfl⟩ : ∃ g : Nat, i = (g : Int) := ⟨i.toNat, by omega⟩
                          refine slT_to (k := g) sb1 fun p H3 s3 sp => ?_
                          rw [← List.map_take] at sp
                          have ep : (ls.take g).sum = pre ls g := rfl
                          have et : ((g : Int)).toNat = g := by omega
                          rw [et] at q
                          refine ⟨p, ls.take g, rfl, sp, _, _, rfl, rfl, _, _, rfl, rfl, _, rfl, ?_⟩
                          rw [ep]
                          by_cases c3 : 0 ≤ j - pre ls g
                          · rw [decide_eq_true c3]
                            refine iteT ⟨.ref a, rfl, .ref a, room, ls, rfl, Dpm (s1.trans s3) hv, _, _, rfl, rfl, ?_⟩
                            dsimp only
                            have : decide (j - pre ls g ≤ room - ls.sum) = decide (pre ls g ≤ j ∧ j ≤ pre ls g + (room - ls.sum)) := by
                              by_cases c4 : j - pre ls g ≤ room - ls.sum
                              · rw [decide_eq_true c4, decide_eq_true (by omega)]
                              · rw [decide_eq_false c4, decide_eq_false (by omega)]
                            rw [this]
                            exact q _ (s1.trans s3)
                          · rw [decide_eq_false c3]
                            rw [decide_eq_false (show ¬ (pre ls g ≤ j ∧ j ≤ pre ls g + (room - ls.sum)) by omega)] at q
                            exact iteF (q _ (s1.trans s3))
                        · rw [decide_eq_false c2]
                          rw [if_neg (fun z => c2 z.2)] at q
                          exact iteT (q _ s1)
                      · rw [decide_eq_false c1]
                        rw [if_neg (fun z => c1 z.1)] at q
                        exact iteF ⟨_, rfl, iteT (q _ s1)⟩
                    | _ => simp [isW] at e3
                  | _ => simp [isW] at e2
          | _ => simp [isS] at es
      · rw [decide_eq_false (show ¬ V.int (ds.length : Int) = V.int 3 from fun z => el (V.int.inj z))]
        have : isPush room ls (.tuple ds) = false := by
          unfold isPush
          split
          · rename_i z
            cases z
            simp at el
          · rfl
        rw [this] at q
        exact iteT (q H (Same.refl H))
    | _ => exact iteT (q H (Same.refl H))
/-! ### the law's own is-it-a-row -/
def sp_law_is_row (K : PySem.W.Frag) : Sp := fun vs H Q _ => ∃ v u room ls d, vs = [v, u] ∧ Dp K H v (shD room ls) ∧ Dp K H u d ∧ d.depth ≤ 60 ∧ RB H Q (isRow room ls d)
end PS

namespace PS
open PySem PySem.Spec PyProof.Rows L2
variable {P : Program} {w : World} {K : PySem.W.Frag} {mg : Str → Option Value} {base : Heap}
/-! ### odd things -/
def sp_odd (K : PySem.W.Frag) : Sp := fun vs H Q _ => ∃ (k : Addr) (n : Nat), vs = [.ref k] ∧ Dk k H (n + 1) ∧ ∀ u H' d, d.depth ≤ 3 → Dk k H' n → Same (Off k H) (Off k H') → Dp K (Off k H') u d → Q u H'
theorem ok_law_odd (T : Tx K mg) : FnOk P w K mg base CX0 3 T.f_law_odd T.fd_law_odd ["deck"] (sp_odd K) := by
  have G_law_one := ok_law_one (P := P) (w := w) (base := base) T
  refine T.F_law_odd.ok sc_law_odd (fun vs H Q E h => ?_) (fun cdv A outer s H vs Q E hr h => ?_)
  · obtain ⟨_, _, rfl, _⟩ := h
    rfl
  · obtain ⟨k, n, rfl, dk, q⟩ := h
    refine ⟨_, (pss_cons (ps_set (i := 1) sc_law_odd.nd rfl (.inl rfl) (pe_lst (pa_cons pe_non (pa_cons pe_bl (pa_cons pe_str (pa_cons pe_str (pa_cons (pe_tup pa_nil) (pa_cons (pe_lst pa_nil) (pa_cons (pe_tup (pa_cons (pe_tup pa_nil) pa_nil)) (pa_cons pe_int (pa_cons (pe_un un_neg pe_int) (pa_cons (pe_op op_pow pe_int pe_int) (pa_cons (pe_tup (pa_cons pe_int (pa_cons pe_int pa_nil))) (pa_cons (pe_tup (pa_cons pe_int (pa_cons (pe_tup (pa_cons pe_int (pa_cons pe_int pa_nil))) pa_nil))) (pa_cons (pe_tup (pa_cons pe_str (pa_cons pe_int (pa_cons pe_int pa_nil)))) (pa_cons (pe_tup (pa_cons pe_int pa_nil)) pa_nil))))))))))))))))
      (pss_one (ps_ret (pe_call (G_law_one.mono (by first | decide | omega)) hr (by rfl) T.g_law_one T.F_law_one.kp T.b_law_one .nil pass0 (pa_cons (pv 0) (pa_cons (pv 1) pa_nil)))))), ?_⟩
    refine ⟨Nat.zero_le _, fun t1 n1 => ?_⟩
    have k1 := dk.ne n1
    have o1 := off_new (k := k) (o := .tup []) n1
    have dk1 := dk.same (same_new (o := .tup []) n1)
    have g1 : Dp K (Off k (upd H t1 (.tup []))) (.ref t1) (.tuple []) := .tup (.inl (.inl (off_up k1))) .nil
    generalize upd H t1 (.tup []) = H1 at *
    refine ⟨Nat.zero_le _, fun t2 n2 => ?_⟩
    have k2 := dk1.ne n2
    have o2 := off_new (k := k) (o := .lst []) n2
    have dk2 := dk1.same (same_new (o := .lst []) n2)
    have g2 : Dp K (Off k (upd H1 t2 (.lst []))) (.ref t2) (.list []) := .lst (.inl (.inl (off_up k2))) .nil
    generalize upd H1 t2 (.lst []) = H2 at *
    refine ⟨Nat.zero_le _, fun t3 n3 => ?_⟩
    have k3 := dk2.ne n3
    have o3 := off_new (k := k) (o := .tup []) n3
    have dk3 := dk2.same (same_new (o := .tup []) n3)
    have g3 : Dp K (Off k (upd H2 t3 (.tup []))) (.ref t3) (.tuple []) := .tup (.inl (.inl (off_up k3))) .nil
    generalize upd H2 t3 (.tup []) = H3 at *
    refine ⟨by show 1 ≤ sizeLine; decide, fun t4 n4 => ?_⟩
    have k4 := dk3.ne n4
    have o4 := off_new (k := k) (o := .tup [.ref t3]) n4
    have dk4 := dk3.same (same_new (o := .tup [.ref t3]) n4)
    have g4 : Dp K (Off k (upd H3 t4 (.tup [.ref t3]))) (.ref t4) (.tuple [.tuple []]) := .tup (.inl (.inl (off_up k4))) (.cons (Dpm o4 g3) .nil)
    generalize upd H3 t4 (.tup [.ref t3]) = H4 at *
    refine ⟨_, rfl, _, _, rfl, rfl, ⟨by decide, by decide, by decide⟩, ?_⟩
    refine ⟨by show 2 ≤ sizeLine; decide, fun t5 n5 => ?_⟩
    have k5 := dk4.ne n5
    have o5 := off_new (k := k) (o := .tup [.int 1, .int 2]) n5
    have dk5 := dk4.same (same_new (o := .tup [.int 1, .int 2]) n5)
    have g5 : Dp K (Off k (upd H4 t5 (.tup [.int 1, .int 2]))) (.ref t5) (.tuple [.int 1, .int 2]) := .tup (.inl (.inl (off_up k5))) (.cons (.int _) (.cons (.int _) .nil))
    generalize upd H4 t5 (.tup [.int 1, .int 2]) = H5 at *
    refine ⟨by show 2 ≤ sizeLine; decide, fun t6 n6 => ?_⟩
    have k6 := dk5.ne n6
    have o6 := off_new (k := k) (o := .tup [.int 1, .int 1]) n6
    have dk6 := dk5.same (same_new (o := .tup [.int 1, .int 1]) n6)
    have g6 : Dp K (Off k (upd H5 t6 (.tup [.int 1, .int 1]))) (.ref t6) (.tuple [.int 1, .int 1]) := .tup (.inl (.inl (off_up k6))) (.cons (.int _) (.cons (.int _) .nil))
    generalize upd H5 t6 (.tup [.int 1, .int 1]) = H6 at *
    refine ⟨by show 2 ≤ sizeLine; decide, fun t7 n7 => ?_⟩
    have k7 := dk6.ne n7
    have o7 := off_new (k := k) (o := .tup [.int 3, .ref t6]) n7
    have dk7 := dk6.same (same_new (o := .tup [.int 3, .ref t6]) n7)
    have g7 : Dp K (Off k (upd H6 t7 (.tup [.int 3, .ref t6]))) (.ref t7) (.tuple [.int 3, .tuple [.int 1, .int 1]]) := .tup (.inl (.inl (off_up k7))) (.cons (.int _) (.cons (Dpm o7 g6) .nil))
    generalize upd H6 t7 (.tup [.int 3, .ref t6]) = H7 at *
    refine ⟨by show 3 ≤ sizeLine; decide, fun t8 n8 => ?_⟩
    have k8 := dk7.ne n8
    have o8 := off_new (k := k) (o := .tup [.str "left", .int 1, .int 1]) n8
    have dk8 := dk7.same (same_new (o := .tup [.str "left", .int 1, .int 1]) n8)
    have g8 : Dp K (Off k (upd H7 t8 (.tup [.str "left", .int 1, .int 1]))) (.ref t8) (.tuple [.str "left", .int 1, .int 1]) := .tup (.inl (.inl (off_up k8))) (.cons (.str _) (.cons (.int _) (.cons (.int _) .nil)))
    generalize upd H7 t8 (.tup [.str "left", .int 1, .int 1]) = H8 at *
    refine ⟨by show 1 ≤ sizeLine; decide, fun t9 n9 => ?_⟩
    have k9 := dk8.ne n9
    have o9 := off_new (k := k) (o := .tup [.int 0]) n9
    have dk9 := dk8.same (same_new (o := .tup [.int 0]) n9)
    have g9 : Dp K (Off k (upd H8 t9 (.tup [.int 0]))) (.ref t9) (.tuple [.int 0]) := .tup (.inl (.inl (off_up k9))) (.cons (.int _) .nil)
    generalize upd H8 t9 (.tup [.int 0]) = H9 at *
    refine ⟨by show 14 ≤ sizeLine; decide, fun p np => ?_⟩
    have kp := dk9.ne np
    refine ⟨.ref k, rfl, .ref p, rfl, k, p, _, n, rfl, .inl (.inl (off_up kp)), by show 0 < 14; decide, by show 14 < 1000; decide, dk9.same (same_new np), fun x H' hx dk' o' => ?_⟩
    have oP := (off_new (k := k) (o := .lst [.non, .bl true, .str "", .str "a", .ref t1, .ref t2, .ref t4, .int 7, (fun i => V.int (-i)) 1, (fun (i j : Int) => V.int (i ^ j.toNat)) 10 30, .ref t5, .ref t7, .ref t8, .ref t9]) np).trans o'
    have e9 := o9.trans oP
    have e8 := o8.trans e9
    have e7 := o7.trans e8
    have e6 := o6.trans e7
    have e5 := o5.trans e6
    have e4 := o4.trans e5
    have e3 := o3.trans e4
    have e2 := o2.trans e3
    have e1 := o1.trans e2
    have fin : ∀ d : PyData, d.depth ≤ 3 → Dp K (Off k H') x d → Q x H' := fun d h1 h2 => q x H' d h1 dk' e1 h2
    rcases List.mem_cons.mp hx with rfl | hx
    · exact fin .none (by simp [PyData.depth]) .non
    rcases List.mem_cons.mp hx with rfl | hx
    · exact fin (.bool true) (by simp [PyData.depth]) (.bl _)
    rcases List.mem_cons.mp hx with rfl | hx
    · exact fin (.str "") (by simp [PyData.depth]) (.str _)
    rcases List.mem_cons.mp hx with rfl | hx
    · exact fin (.str "a") (by simp [PyData.depth]) (.str _)
    rcases List.mem_cons.mp hx with rfl | hx
    · exact fin _ (by simp [PyData.depth, PyData.depthAll]) (Dpm e2 g1)
    rcases List.mem_cons.mp hx with rfl | hx
    · exact fin _ (by simp [PyData.depth, PyData.depthAll]) (Dpm e3 g2)
    rcases List.mem_cons.mp hx with rfl | hx
    · exact fin _ (by simp [PyData.depth, PyData.depthAll]) (Dpm e5 g4)
    rcases List.mem_cons.mp hx with rfl | hx
    · exact fin (.int _) (by simp [PyData.depth]) (.int _)
    rcases List.mem_cons.mp hx with rfl | hx
    · exact fin (.int _) (by simp [PyData.depth]) (.int _)
    rcases List.mem_cons.mp hx with rfl | hx
    · exact fin (.int _) (by simp [PyData.depth]) (.int _)
    rcases List.mem_cons.mp hx with rfl | hx
    · exact fin _ (by simp [PyData.depth, PyData.depthAll]) (Dpm e6 g5)
    rcases List.mem_cons.mp hx with rfl | hx
    · exact fin _ (by simp [PyData.depth, PyData.depthAll]) (Dpm e8 g7)
    rcases List.mem_cons.mp hx with rfl | hx
    · exact fin _ (by simp [PyData.depth, PyData.depthAll]) (Dpm e9 g8)
    rcases List.mem_cons.mp hx with rfl | hx
    · exact fin _ (by simp [PyData.depth, PyData.depthAll]) (Dpm oP g9)
    · cases hx
end PS

namespace PS
open PySem PySem.Spec PyProof.Rows L2
variable {P : Program} {w : World} {K : PySem.W.Frag} {mg : Str → Option Value} {base : Heap}
theorem same_out {k : Addr} {H0 H1 H2 : Hp} (s : Same H0 H1) (nk : H0 k = none) (t : Same (Off k H1) (Off k H2)) : Same H0 H2 := fun b o h => off_back t (ne_of_none h nk) (s b o h)
theorem same_off {k : Addr} {H0 H1 : Hp} (s : Same H0 H1) (nk : H0 k = none) : Same H0 (Off k H1) := fun b o h => off_at (ne_of_none h nk) (s b o h)
/-! ### data of some depth -/
def Gn (K : PySem.W.Frag) (n : Nat) (H : Hp) (x : V) : Prop := ∃ d : PyData, d.depth ≤ n ∧ Dp K H x d
def Ga (K : PySem.W.Frag) (n : Nat) (H : Hp) (xs : List V) : Prop := ∀ x ∈ xs, Gn K n H x
section
variable {n m : Nat} {H H' : Hp} {x : V} {xs ys : List V} {a : Addr}
theorem Gn.up (s : Same H H') (h : Gn K n H x) : Gn K n H' x := by
  obtain ⟨d, h1, h2⟩ := h
  exact ⟨d, h1, Dpm s h2⟩
theorem Gn.le (h : Gn K n H x) (e : n ≤ m) : Gn K m H x := by
  obtain ⟨d, h1, h2⟩ := h
  exact ⟨d, Nat.le_trans h1 e, h2⟩
theorem Gn.of {d : PyData} (h : Dp K H x d) (e : d.depth ≤ n) : Gn K n H x := ⟨d, e, h⟩
theorem Gn.int {i : Int} : Gn K n H (.int i) := ⟨.int i, by simp [PyData.depth], .int i⟩
theorem Gn.str {i : Str} : Gn K n H (.str i) := ⟨.str i, by simp [PyData.depth], .str i⟩
theorem Gn.bl {i : Bool} : Gn K n H (.bl i) := ⟨.bool i, by simp [PyData.depth], .bl i⟩
theorem Gn.non : Gn K n H .non := ⟨.none, by simp [PyData.depth], .non⟩
theorem Ga.up (s : Same H H') (h : Ga K n H xs) : Ga K n H' xs := fun x hx => (h x hx).up s
theorem Ga.le (h : Ga K n H xs) (e : n ≤ m) : Ga K m H xs := fun x hx => (h x hx).le e
theorem Ga.nil : Ga K n H [] := fun x hx => by simp at hx
theorem Ga.cons (h : Gn K n H x) (t : Ga K n H xs) : Ga K n H (x :: xs) := fun y hy => by
  rcases List.mem_cons.mp hy with rfl | hy
  · exact h
  · exact t y hy
theorem Ga.app (h : Ga K n H xs) (t : Ga K n H ys) : Ga K n H (xs ++ ys) := fun y hy => by
  rcases List.mem_append.mp hy with hy | hy
  · exact h y hy
  · exact t y hy
theorem Ga.rev (h : Ga K n H xs) : Ga K n H xs.reverse := fun y hy => h y (List.mem_reverse.mp hy)
theorem Ga.rep (h : Ga K n H xs) (k : Nat) : Ga K n H (List.replicate k xs).flatten := fun y hy => by
  obtain ⟨l, hl, hy⟩ := List.mem_flatten.mp hy
  rw [(List.mem_replicate.mp hl).2] at hy
  exact h y hy
theorem Ga.data : ∀ {xs : List V}, Ga K n H xs → ∃ ds, DpAll K H xs ds ∧ ∀ d ∈ ds, d.depth ≤ n
  | [], _ => ⟨[], .nil, fun d hd => by simp at hd⟩
  | x :: xs, h => by
    obtain ⟨ds, h1, h2⟩ := Ga.data (xs := xs) fun y hy => h y (List.mem_cons_of_mem _ hy)
    obtain ⟨d, e, hd⟩ := h x (by simp)
    refine ⟨d :: ds, .cons hd h1, fun z hz => ?_⟩
    rcases List.mem_cons.mp hz with rfl | hz
    · exact e
    · exact h2 z hz
theorem Ga.of : ∀ {ds : List PyData} {xs : List V}, DpAll K H xs ds → (∀ d ∈ ds, d.depth ≤ n) → Ga K n H xs
  | [], _, h, _ => by cases h; exact Ga.nil
  | d :: ds, _, h, e => by
    cases h with
    | cons h1 h2 => exact Ga.cons ⟨d, e d (by simp), h1⟩ (Ga.of h2 fun z hz => e z (List.mem_cons_of_mem _ hz))
theorem Gn.tup (s : SqT K H a xs) (h : Ga K n H xs) : Gn K (n + 1) H (.ref a) := by
  obtain ⟨ds, h1, h2⟩ := h.data
  refine ⟨.tuple ds, ?_, .tup s h1⟩
  have := depthAll_le ds h2
  rw [PyData.depth]
  omega
theorem Gn.lst (s : SqL K H a xs) (h : Ga K n H xs) : Gn K (n + 1) H (.ref a) := by
  obtain ⟨ds, h1, h2⟩ := h.data
  refine ⟨.list ds, ?_, .lst s h1⟩
  have := depthAll_le ds h2
  rw [PyData.depth]
  omega
end
theorem lay {k p : Addr} {H : Hp} {n : Nat} {o : HO} (dk : Dk k H n) (np : H p = none) : p ≠ k ∧ Same (Off k H) (Off k (upd H p o)) ∧ Dk k (upd H p o) n ∧ Off k (upd H p o) p = some o := ⟨dk.ne np, off_new np, dk.same (same_new np), off_up (dk.ne np)⟩
theorem puD_parts (ls : List Int) (p : Push) : ∀ d ∈ ([.str (sideS p.1), .int p.2.1, .int (p.2.2 + pre ls p.2.1)] : List PyData), d.depth ≤ 0 := by
  have := puD_depth ls p
  rw [puD, PyData.depth] at this
  exact depth_of_all _ (by omega)
theorem iD_parts (ns : List Int) : ∀ d ∈ iD ns, d.depth ≤ 0 := by
  have := depth_tI ns
  rw [PyData.depth] at this
  exact depth_of_all _ (by omega)
theorem roD_parts (ls : List Int) (r : List Push) : ∀ d ∈ r.map (puD ls), d.depth ≤ 1 := fun d hd => by
  obtain ⟨p, _, rfl⟩ := List.mem_map.mp hd
  exact puD_depth ls p
theorem sum_take_le : ∀ (ls : List Int) (j : Nat), (∀ l ∈ ls, 1 ≤ l ∧ l ≤ 50) → 0 ≤ (ls.take j).sum ∧ (ls.take j).sum ≤ 50 * (ls.length : Int)
  | [], j, _ => by simp
  | l :: ls, 0, _ => by simp; omega
  | l :: ls, j + 1, h => by
    have h1 := sum_take_le ls j fun x hx => h x (List.mem_cons_of_mem _ hx)
    have h2 := h l (by simp)
    rw [List.take_succ_cons, List.sum_cons, List.length_cons]
    omega
theorem gd_stand {room : Int} {ls : List Int} {y : Nat → Int} (sh : ShOk room ls) (ri : Rise ls.length (room - ls.sum) y) : Gd 1 0 (tI (stL ls y)) := by
  refine ⟨?_, fun x hx => ?_⟩
  · have := sh.n8
    simp [stL_len]; omega
  · obtain ⟨i, hi, rfl⟩ := List.mem_map.mp hx
    obtain ⟨j, hj, e⟩ := List.mem_iff_getElem.mp hi
    rw [stL_len] at hj
    have e2 := stL_get (ls := ls) (y := y) hj
    rw [List.getElem?_eq_getElem (by rw [stL_len]; exact hj), e] at e2
    have e3 := Option.some.inj e2
    have b1 := sum_take_le ls j sh.l1
    have b2 := ri.lo j hj
    have b3 := ri.hi j hj
    have b4 := sh.hi
    have b5 := sh.n8
    have e4 : pre ls j = (ls.take j).sum := rfl
    refine Gd.int (Nat.le_trans (m := 1000) ?_ (by decide))
    rw [e3, e4]
    omega
theorem gd_shelf {room : Int} {ls : List Int} (sh : ShOk room ls) : Gd 2 0 (shD room ls) := by
  have b1 := sum_take_le ls ls.length sh.l1
  rw [List.take_length] at b1
  have b4 := sh.hi
  have b5 := sh.n8
  have b6 := sh.lo
  refine ⟨by show 2 ≤ _; decide, fun x hx => ?_⟩
  have : x = .int room ∨ x = tI ls := by simpa using hx
  rcases this with rfl | rfl
  · refine Gd.int (Nat.le_trans (m := 1000) ?_ (by decide))
    omega
  · refine ⟨by simp; omega, fun x hx => ?_⟩
    obtain ⟨i, hi, rfl⟩ := List.mem_map.mp hx
    have := sh.l1 i hi
    refine Gd.int (Nat.le_trans (m := 1000) ?_ (by decide))
    omega
theorem gd_row {room : Int} {ls : List Int} {r : List Push} (sh : ShOk room ls) (rl : r.length ≤ 200) (rp : ∀ p ∈ r, PuOk ls.length (room - ls.sum) p) : Gd 2 0 (roD ls r) := by
  have b4 := sh.hi
  have b5 := sh.n8
  refine ⟨by simp; omega, fun x hx => ?_⟩
  obtain ⟨p, hp, rfl⟩ := List.mem_map.mp hx
  have ok := rp p hp
  have b1 := sum_take_le ls p.2.1 sh.l1
  have e4 : pre ls p.2.1 = (ls.take p.2.1).sum := rfl
  have g0 := ok.b0
  have g1 := ok.b1
  have g2 : p.2.1 ≤ ls.length := by
    cases e : p.1 with
    | true => exact Nat.le_of_lt (ok.g0 e)
    | false => exact (ok.g1 e).2
  refine ⟨by show 3 ≤ _; decide, fun x hx => ?_⟩
  have : x = .str (sideS p.1) ∨ x = .int p.2.1 ∨ x = .int (p.2.2 + pre ls p.2.1) := by simpa using hx
  rcases this with rfl | rfl | rfl
  · exact Gd.str
  · refine Gd.int (Nat.le_trans (m := 1000) ?_ (by decide))
    omega
  · refine Gd.int (Nat.le_trans (m := 1000) ?_ (by decide))
    rw [e4]
    omega
end PS

namespace PS
open PySem PySem.Spec PyProof.Rows L2
variable {P : Program} {w : World} {K : PySem.W.Frag} {mg : Str → Option Value} {base : Heap}
/-! ### bands, by looking -/
abbrev flV (b : Fl) : List V := [.int (b.1.toNat : Nat), .int (b.2.toNat : Nat)]
inductive FlsAt (l : Addr) (H0 H : Hp) : List V → List Fl → Prop
  | nil : FlsAt l H0 H [] []
  | cons {a : Addr} {b : Fl} {vs : List V} {bs : List Fl} : a ≠ l ∧ H0 a = none → H a = some (.lst (flV b)) → FlsAt l H0 H vs bs → FlsAt l H0 H (.ref a :: vs) (b :: bs)
theorem FlsAt.len {l : Addr} {H0 H : Hp} : ∀ {vs : List V} {bs : List Fl}, FlsAt l H0 H vs bs → vs.length = bs.length
  | _, _, .nil => rfl
  | _, _, .cons _ _ h => by simp [h.len]
theorem FlsAt.keep {l : Addr} {H0 H H' : Hp} : ∀ {vs : List V} {bs : List Fl}, FlsAt l H0 H vs bs → (∀ a, .ref a ∈ vs → ∀ o, H a = some o → a ≠ l → H' a = some o) → FlsAt l H0 H' vs bs
  | _, _, .nil, _ => .nil
  | _, _, .cons n h hs, k => .cons n (k _ (by simp) _ h n.1) (hs.keep fun a ha => k a (by simp [ha]))
theorem FlsAt.app {l : Addr} {H0 H : Hp} : ∀ {vs us : List V} {bs cs : List Fl}, FlsAt l H0 H vs bs → FlsAt l H0 H us cs → FlsAt l H0 H (vs ++ us) (bs ++ cs)
  | _, _, _, _, .nil, h => h
  | _, _, _, _, .cons n h hs, k => .cons n h (hs.app k)
theorem FlsAt.split {l : Addr} {H0 H : Hp} : ∀ {vs : List V} {bs : List Fl}, FlsAt l H0 H vs bs → bs ≠ [] → ∃ vs0 a bs0 b, vs = vs0 ++ [.ref a] ∧ bs = bs0 ++ [b] ∧ FlsAt l H0 H vs0 bs0 ∧ (a ≠ l ∧ H0 a = none) ∧ H a = some (.lst (flV b))
  | _, _, .nil, h => absurd rfl h
  | _, _, .cons (a := a) (b := b) (vs := vs) (bs := bs) n h hs, _ => by
    by_cases e : bs = []
    · subst e
      cases hs
      exact ⟨[], a, [], b, rfl, rfl, .nil, n, h⟩
    · obtain ⟨vs0, a', bs0, b', rfl, rfl, h1, h2, h3⟩ := hs.split e
      exact ⟨.ref a :: vs0, a', b :: bs0, b', rfl, rfl, .cons n h h1, h2, h3⟩
abbrev bD (b : Fl) : PyData := .list [.int (b.1.toNat : Nat), .int (b.2.toNat : Nat)]
abbrev bsD (bs : List Fl) : PyData := .list (bs.map bD)
theorem FlsAt.dp {l : Addr} {H0 H : Hp} : ∀ {vs : List V} {bs : List Fl}, FlsAt l H0 H vs bs → DpAll K H vs (bs.map bD)
  | _, _, .nil => .nil
  | _, _, .cons _ h hs => .cons (.lst (.inl (.inl h)) (.cons (.int _) (.cons (.int _) .nil))) hs.dp
theorem max_bool (a b : Bool) : (if (if b = true then (1 : Int) else 0) > ((a.toNat : Nat) : Int) then (if b = true then (1 : Int) else 0) else ((a.toNat : Nat) : Int)) = (((a || b).toNat : Nat) : Int) := by
  cases a <;> cases b <;> decide
theorem eqv_int (a b : Int) : PyData.eqv (.int a) (.int b) = decide (a = b) := by
  simp only [PyData.eqv]
  rfl
theorem eqv_intN (a : Int) : PyData.eqv (.int a) .none = false := by simp [PyData.eqv]
def sp_law_bands (K : PySem.W.Frag) : Sp := fun vs H Q _ => ∃ v u t room ls y w, vs = [v, u, t] ∧ Dp K H v (shD room ls) ∧ ls.length ≤ 8 ∧ Dp K H u (tI (stL ls y)) ∧ Dp K H t (tI (stL ls w)) ∧ RD K H Q (bsD (lawB y w ls.length))
theorem ok_law_bands (T : Tx K mg) : FnOk P w K mg base CX0 1 T.f_law_bands T.fd_law_bands ["shelf", "stand", "wish"] (sp_law_bands K) := by
  refine T.F_law_bands.ok sc_law_bands (fun vs H Q E h => ?_) (fun cdv A outer s H vs Q E hr h => ?_)
  · obtain ⟨_, _, _, _, _, _, _, rfl, _⟩ := h
    rfl
  · obtain ⟨v, u, t, room, ls, y, w, rfl, hv, n8, hu, ht, q⟩ := h
    obtain ⟨a, b, rfl, sa, sb⟩ := dp_shelf hv
    obtain ⟨c, rfl, sc⟩ := dp_tI hu
    obtain ⟨d, rfl, sd⟩ := dp_tI ht
    refine ⟨_, (pss_cons (ps_par (i := 3) (j := 4) (by rfl) sc_law_bands.nd rfl rfl (by decide) rfl rfl (pa_cons (pe_lst pa_nil) (pa_cons pe_non pa_nil)) (by rfl))
      (pss_cons (ps_for PassesOwn.never rfl (pi_enum1 (by rfl) T.n_enumerate (pa_cons (pv 2) pa_nil)) (pg_tup rfl (pgs_cons (pg_name (i := 5) sc_law_bands.nd rfl (.inl rfl)) (pgs_cons (pg_name (i := 6) sc_law_bands.nd rfl (.inl rfl)) pgs_nil)))
      (pss_cons (ps_set (i := 7) sc_law_bands.nd rfl (.inl rfl) (pe_op op_sub (pv 6) (pe_callB (cr_sumT rfl) (by rfl) T.n_sum (by decide +kernel) (pa_cons (pe_slice sl_tupA (pe_ix ix_tup (pv 0) pe_int (fun _ _ => rfl)) po_none (po_some (pv 5))) pa_nil))))
      (C8.pss_cut (ps_if (pt_cmpR (op_neP hr.units) (pv 7) (pv 4) (nomark _)) (pss_one (ps_expr (pe_bm PySem.F.plainAttrs_list PySem.F.slot_list_append PySem.F.type_list_append mt_append (pv 3) (pa_cons (pe_lst (pa_cons pe_int (pa_cons pe_int pa_nil))) pa_nil)))) pss_nil)
      (pss_cons (ps_set (i := 4) sc_law_bands.nd rfl (.inl rfl) (pv 7))
      (pss_cons (ps_asg (pe_callB (call_max2 rfl) (by rfl) T.n_max (by decide +kernel) (pa_cons (pe_ix ix_list (pe_ix ix_list (pv 3) (pe_un un_neg pe_int) (fun _ _ => rfl)) pe_int (fun _ _ => rfl)) (pa_cons (pe_callTy call_int1 (by rfl) T.n_int (by decide +kernel) (pa_cons (pe_cmpR op_lt (pe_ix ix_tup (pv 1) (pv 5) (fun _ _ => rfl)) (pv 6) (nomark _)) pa_nil)) pa_nil))) (pg_sub (pe_ix ix_list (pv 3) (pe_un un_neg pe_int) (fun _ _ => rfl)) pe_int set_list))
      (pss_one (ps_asg (pe_callB (call_max2 rfl) (by rfl) T.n_max (by decide +kernel) (pa_cons (pe_ix ix_list (pe_ix ix_list (pv 3) (pe_un un_neg pe_int) (fun _ _ => rfl)) pe_int (fun _ _ => rfl)) (pa_cons (pe_callTy call_int1 (by rfl) T.n_int (by decide +kernel) (pa_cons (pe_cmpR op_gt (pe_ix ix_tup (pv 1) (pv 5) (fun _ _ => rfl)) (pv 6) (nomark _)) pa_nil)) pa_nil))) (pg_sub (pe_ix ix_list (pv 3) (pe_un un_neg pe_int) (fun _ _ => rfl)) pe_int set_list))))))))
      (pss_one (ps_ret (pv 3))))), ?_⟩
    refine ⟨Nat.zero_le _, fun l nl => ⟨_, _, rfl, ?_⟩⟩
    have s1 := same_new (o := .lst []) nl
    refine ⟨.ref d, rfl, false, d, _, rfl, seqT_mono s1 sd, ?_⟩
    refine for_it (walk_1 (n := ls.length) (xs := iV (stL ls w)) (by rw [iV_len, stL_len])) (fun k σ H' => Same H H' ∧ ∃ us y5 y6 y7, σ = [some (.ref a), some (.ref c), some (.ref d), some (.ref l), some (if k = 0 then .non else .int (w (k - 1))), y5, y6, y7] ∧ H' l = some (.lst us) ∧ FlsAt l H H' us (lawB y w k) ∧ us.Nodup)
      ⟨s1, [], _, _, _, rfl, upd_same, .nil, by simp⟩ (fun k σ H' _ p => seqT_mono p.1 sd) (fun k x σ H2 H2' hk p yy => ?_) (fun σ H2 p => ?_)
    · obtain ⟨s2, us, y5, y6, y7, rfl, hl, fa, nd⟩ := p
      obtain ⟨Tt, x, rfl, nT, rfl, hx⟩ := yy
      rw [iV_get (stL_get hk)] at hx
      cases Option.some.inj hx
      have t3 := same_new (o := .tup [.int (k : Nat), .int (w k + pre ls k)]) nT
      have hT : SqT K (upd H2 Tt (.tup [.int (k : Nat), .int (w k + pre ls k)])) Tt [.int (k : Nat), .int (w k + pre ls k)] := .inl (.inl upd_same)
      have s3 := s2.trans t3
      have hl3 := t3 _ _ hl
      have fa3 : FlsAt l H (upd H2 Tt (.tup [.int (k : Nat), .int (w k + pre ls k)])) us (lawB y w k) := fa.keep fun a _ o e _ => t3 _ _ e
      generalize upd H2 Tt (.tup [.int (k : Nat), .int (w k + pre ls k)]) = H3 at *
      refine ⟨Tt, _, rfl, hT, rfl, _, _, rfl, _, [], rfl, rfl, ?_⟩
      refine ⟨_, rfl, .ref a, rfl, a, _, 1, _, rfl, rfl, seqT_mono s3 sa, atI_nat (j := 1) rfl, _, rfl, _, rfl, ?_⟩
      refine slT_to (k := k) (seqT_mono s3 sb) fun p4 H4 s4 sp4 => ?_
      rw [← List.map_take] at sp4
      have g4 := s3.trans s4
      have hl4 := s4 _ _ hl3
      have fa4 : FlsAt l H H4 us (lawB y w k) := fa3.keep fun a _ o e _ => s4 _ _ e
      refine ⟨p4, ls.take k, rfl, sp4, _, _, rfl, rfl, ?_⟩
      dsimp only
      rw [show w k + pre ls k - (ls.take k).sum = w k from by show w k + pre ls k - pre ls k = w k; omega]
      have hlen := lawB_len (y := y) (w := w) k
      have hul := fa4.len
      -- if place != last
      refine ⟨fun σ' H5 => Same H H5 ∧ σ' = [some (.ref a), some (.ref c), some (.ref d), some (.ref l), some (if k = 0 then .non else .int (w (k - 1))), some (.int (k : Nat)), some (.int (w k + pre ls k)), some (.int (w k))] ∧ ∃ us, H5 l = some (.lst us) ∧ us.Nodup ∧ FlsAt l H H5 us (if k = 0 ∨ w k ≠ w (k - 1) then lawB y w k ++ [(false, false)] else lawB y w k), ?_, ?_⟩
      · have add : (k = 0 ∨ w k ≠ w (k - 1)) → tDrop (tBM K "list" rAppend (tVar 3) (tCons (tLst (tCons (tC (.int 0)) (tCons (tC (.int 0)) tNil))) tNil)) { nx := fun σ' H5 => Same H H5 ∧ σ' = [some (.ref a), some (.ref c), some (.ref d), some (.ref l), some (if k = 0 then .non else .int (w (k - 1))), some (.int (k : Nat)), some (.int (w k + pre ls k)), some (.int (w k))] ∧ ∃ us, H5 l = some (.lst us) ∧ us.Nodup ∧ FlsAt l H H5 us (if k = 0 ∨ w k ≠ w (k - 1) then lawB y w k ++ [(false, false)] else lawB y w k), rt := Q } [some (.ref a), some (.ref c), some (.ref d), some (.ref l), some (if k = 0 then .non else .int (w (k - 1))), some (.int (k : Nat)), some (.int (w k + pre ls k)), some (.int (w k))] H4 := by
          intro hc
          refine ⟨.ref l, rfl, .inl ⟨rfl, _, .inl (.inl hl4)⟩, by show 2 ≤ sizeLine; decide, fun z nz => ?_⟩
          have t5 := same_new (o := .lst [.int 0, .int 0]) nz
          have nzl : z ≠ l := (ne_of_none hl4 nz).symm
          refine ⟨l, us, _, rfl, rfl, t5 _ _ hl4, small1000 (by omega), keep_row nl (g4.trans t5), rfl, us ++ [.ref z], upd_same, ?_, ?_⟩
          · rw [List.nodup_append]
            refine ⟨nd, by simp, fun x hx y' hy => ?_⟩
            have : y' = .ref z := by simpa using hy
            rw [this]
            intro e
            rw [e] at hx
            have : ∀ {vs : List V} {bs : List Fl}, FlsAt l H H4 vs bs → .ref z ∈ vs → False := by
              intro vs bs hf
              induction hf with
              | nil => intro h; simp at h
              | cons n h _ ih =>
                intro hm
                rcases List.mem_cons.mp hm with q | q
                · cases q
                  rw [nz] at h
                  cases h
                · exact ih q
            exact this fa4 hx
          · rw [if_pos hc]
            refine FlsAt.app (fa4.keep fun a' ha' o e n => ?_) (.cons ⟨nzl, g4.free nz⟩ (by rw [upd_ne nzl, upd_same]; rfl) .nil)
            rw [upd_ne n]
            exact t5 _ _ e
        refine ⟨_, rfl, _, rfl, ?_⟩
        by_cases c0 : k = 0
        · refine ⟨.int (w k), .none, .int _, by rw [if_pos c0]; exact .non, by simp [PyData.depth], _, rfl, ?_⟩
          rw [eqv_intN]
          exact iteT (add (.inl c0))
        · refine ⟨.int (w k), .int (w (k - 1)), .int _, by rw [if_neg c0]; exact .int _, by simp [PyData.depth], _, rfl, ?_⟩
          rw [eqv_int]
          by_cases c1 : w k = w (k - 1)
          · rw [decide_eq_true c1]
            refine iteF ⟨g4, rfl, us, hl4, nd, ?_⟩
            rw [if_neg (by rintro (z | z); exact c0 z; exact z c1)]
            exact fa4
          · rw [decide_eq_false c1]
            exact iteT (add (.inr c1))
      · rintro σ' H5 ⟨g5, rfl, us5, hl5, nd5, fa5⟩
        have hne : (if k = 0 ∨ w k ≠ w (k - 1) then lawB y w k ++ [(false, false)] else lawB y w k) ≠ [] := by
          split
          · simp
          · rename_i c0
            intro z
            have h1 : 0 < k := by
              by_cases e : k = 0
              · exact absurd (.inl e) c0
              · omega
            have := hlen.2 h1
            rw [z] at this
            simp at this
        have hB : lawB y w (k + 1) = (if k = 0 ∨ w k ≠ w (k - 1) then lawB y w k ++ [(false, false)] else lawB y w k).dropLast ++ [(((if k = 0 ∨ w k ≠ w (k - 1) then lawB y w k ++ [(false, false)] else lawB y w k).getLastD (false, false)).1 || decide (y k < w k), ((if k = 0 ∨ w k ≠ w (k - 1) then lawB y w k ++ [(false, false)] else lawB y w k).getLastD (false, false)).2 || decide (w k < y k))] := rfl
        generalize (if k = 0 ∨ w k ≠ w (k - 1) then lawB y w k ++ [(false, false)] else lawB y w k) = L at *
        obtain ⟨us0, z, L0, ⟨b1, b2⟩, rfl, rfl, fa0, ⟨nzl, nzH⟩, hz⟩ := fa5.split hne
        rw [List.dropLast_concat, lastD_sn] at hB
        simp only at hB
        have hyk : (iV (stL ls y))[k]? = some (.int (y k + pre ls k)) := iV_get (stL_get hk)
        have e1 : decide (y k + pre ls k < w k + pre ls k) = decide (y k < w k) := decide_eq_decide.mpr (by omega)
        have e2 : decide (y k + pre ls k > w k + pre ls k) = decide (w k < y k) := decide_eq_decide.mpr (by omega)
        have nin : ∀ a', .ref a' ∈ us0 → a' ≠ z := fun a' ha' q => by
          rw [List.nodup_append] at nd5
          exact nd5.2.2 _ ha' (.ref z) (by simp) (by rw [q])
        refine ⟨_, rfl, ?_⟩
        -- found[-1][0]
        refine ⟨.ref l, rfl, 1, rfl, l, _, -1, _, rfl, rfl, .inl (.inl hl5), atI_last _ _, z, _, 0, _, rfl, rfl, .inl (.inl hz), atI_nat (j := 0) rfl, .ref c, rfl, _, rfl, c, _, _, _, rfl, rfl, seqT_mono g5 sc, at_of (j := k) rfl hyk, _, rfl, _, _, rfl, rfl, .inr ⟨_, rfl, _, _, rfl, ?_⟩⟩
        dsimp only
        rw [e1, max_bool]
        refine ⟨.ref l, rfl, 1, rfl, l, _, -1, _, rfl, rfl, .inl (.inl hl5), atI_last _ _, z, _, 0, 0, rfl, rfl, hz, rfl, ?_⟩
        have hz6 : upd H5 z (.lst ((flV (b1, b2)).set 0 (.int (((b1 || decide (y k < w k)).toNat : Nat) : Int)))) z = some (.lst [.int (((b1 || decide (y k < w k)).toNat : Nat) : Int), .int ((b2.toNat : Nat) : Int)]) := upd_same
        have hl6 : upd H5 z (.lst ((flV (b1, b2)).set 0 (.int (((b1 || decide (y k < w k)).toNat : Nat) : Int)))) l = some (.lst (us0 ++ [.ref z])) := by rw [upd_ne nzl.symm]; exact hl5
        have g6 : Same H (upd H5 z (.lst ((flV (b1, b2)).set 0 (.int (((b1 || decide (y k < w k)).toNat : Nat) : Int))))) := keep_row nzH g5
        have fa6 : FlsAt l H (upd H5 z (.lst ((flV (b1, b2)).set 0 (.int (((b1 || decide (y k < w k)).toNat : Nat) : Int))))) us0 L0 := fa0.keep fun a' ha' o e _ => by
          rw [upd_ne (nin a' ha')]
          exact e
        generalize upd H5 z (.lst ((flV (b1, b2)).set 0 (.int (((b1 || decide (y k < w k)).toNat : Nat) : Int)))) = H6 at *
        -- found[-1][1]
        refine ⟨.ref l, rfl, 1, rfl, l, _, -1, _, rfl, rfl, .inl (.inl hl6), atI_last _ _, z, _, 1, _, rfl, rfl, .inl (.inl hz6), atI_nat (j := 1) rfl, .ref c, rfl, _, rfl, c, _, _, _, rfl, rfl, seqT_mono g6 sc, at_of (j := k) rfl hyk, _, rfl, _, _, rfl, rfl, .inr ⟨_, rfl, _, _, rfl, ?_⟩⟩
        dsimp only
        rw [e2, max_bool]
        refine ⟨.ref l, rfl, 1, rfl, l, _, -1, _, rfl, rfl, .inl (.inl hl6), atI_last _ _, z, _, 1, 1, rfl, rfl, hz6, rfl, ?_⟩
        refine ⟨keep_row nzH g6, us0 ++ [.ref z], some (.int (k : Nat)), some (.int (w k + pre ls k)), some (.int (w k)), ?_, by rw [upd_ne nzl.symm]; exact hl6, ?_, nd5⟩
        · rw [if_neg (show ¬ k + 1 = 0 by omega), Nat.add_sub_cancel]
          rfl
        · rw [hB]
          refine FlsAt.app (fa6.keep fun a' ha' o e _ => ?_) (.cons ⟨nzl, nzH⟩ ?_ .nil)
          · rw [upd_ne (nin a' ha')]
            exact e
          · rw [upd_same]
            rfl
    · obtain ⟨s2, us, y5, y6, y7, rfl, hl, fa, nd⟩ := p
      exact ⟨.ref l, rfl, q _ H2 s2 (.lst (.inl (.inl hl)) fa.dp)⟩
/-! ### the least, by all partings -/
theorem eqv_nilB {ds : List PyData} : PyData.eqv (.list ds) (.list []) = ds.isEmpty := by
  cases ds <;> simp [PyData.eqv, PyData.eqvAll]
theorem bsD_depth (bs : List Fl) : (bsD bs).depth ≤ 2 := by
  rw [PyData.depth]
  have : PyData.depthAll (bs.map bD) ≤ 1 := depthAll_le _ fun d hd => by
    obtain ⟨b, _, rfl⟩ := List.mem_map.mp hd
    simp [PyData.depth, PyData.depthAll]
  omega
theorem dp_bD {H : Hp} {v : V} {b : Fl} (h : Dp K H v (bD b)) : ∃ a, v = .ref a ∧ SqL K H a (flV b) := by
  obtain ⟨a, xs, rfl, s, al⟩ := dp_lst h
  cases al with
  | cons h1 al =>
    cases al with
    | cons h2 al =>
      cases al
      cases dp_int h1
      cases dp_int h2
      exact ⟨a, rfl, s⟩
def sp_law_fewest (K : PySem.W.Frag) (n : Nat) : Sp := fun vs H Q _ => ∃ v bs, vs = [v] ∧ Dp K H v (bsD bs) ∧ bs.length < n ∧ bs.length ≤ 8 ∧ ∀ H' c, Same H H' → Least bs c → Q (.int (c : Nat)) H'
theorem fewest_step (T : Tx K mg) {n k : Nat} (hk : 1 ≤ k) (G_law_fewest : FnOk P w K mg base CX0 k T.f_law_fewest T.fd_law_fewest ["bands"] (sp_law_fewest K n)) : FnOk P w K mg base CX0 (k + 1) T.f_law_fewest T.fd_law_fewest ["bands"] (sp_law_fewest K (n + 1)) := by
  refine T.F_law_fewest.ok sc_law_fewest (fun vs H Q E h => ?_) (fun cdv A outer s H vs Q E hr h => ?_)
  · obtain ⟨_, _, rfl, _⟩ := h
    rfl
  · obtain ⟨v, bs, rfl, hv, hn, b8, q⟩ := h
    refine ⟨_, (pss_cons (ps_if (pt_cmpR (op_eqP hr.units) (pv 0) (pe_lst pa_nil) (nomark _)) (pss_one (ps_ret pe_int)) pss_nil)
      (pss_cons (ps_set (i := 1) sc_law_fewest.nd rfl (.inl rfl) (pe_op op_add (pe_callB (cr_sum rfl) (by rfl) T.n_sum (by decide +kernel) (pa_cons (pe_ix ix_list (pv 0) pe_int (fun _ _ => rfl)) pa_nil)) (pe_call (G_law_fewest.mono (by first | decide | omega)) hr (by rfl) T.g_law_fewest T.F_law_fewest.kp T.b_law_fewest .nil pass0 (pa_cons (pe_slice sl_list (pv 0) (po_some pe_int) po_none) pa_nil))))
      (pss_cons (ps_for PassesOwn.never rfl (pi_range2 (by rfl) T.n_range (pa_cons pe_int (pa_cons (pe_op op_add (pe_callB call_len_seq (by rfl) T.n_len (by decide +kernel) (pa_cons (pv 0) pa_nil)) pe_int) pa_nil))) (pg_name (i := 2) sc_law_fewest.nd rfl (.inl rfl))
      (pss_one (ps_for PassesOwn.never rfl (pi_range1 (by rfl) T.n_range (pa_cons (pv 2) pa_nil)) (pg_name (i := 3) sc_law_fewest.nd rfl (.inl rfl))
      (pss_cons (ps_set (i := 4) sc_law_fewest.nd rfl (.inl rfl) pe_int)
      (C8.pss_cut (ps_if (PW.pt (pw_or (PW.pt (pw_and (pt_cmpR op_eq (pv 3) (pe_op op_sub (pv 2) pe_int) (nomark _)) (pw_and1 (pt_cmpR op_eq (pe_ix ix_list (pe_ix ix_list (pv 0) (pv 3) (fun _ _ => rfl)) pe_int (fun _ _ => rfl)) pe_int (nomark _))))) (pw_or1 (PW.pt (pw_and (pt_cmpR op_eq (pv 3) pe_int (nomark _)) (pw_and1 (pt_cmpR op_eq (pe_ix ix_list (pe_ix ix_list (pv 0) (pv 3) (fun _ _ => rfl)) pe_int (fun _ _ => rfl)) pe_int (nomark _)))))))) (pss_one (ps_set (i := 4) sc_law_fewest.nd rfl (.inl rfl) pe_int)) pss_nil)
      (pss_one (ps_set (i := 1) sc_law_fewest.nd rfl (.inl rfl) (pe_callB (call_min2 rfl) (by rfl) T.n_min (by decide +kernel) (pa_cons (pv 1) (pa_cons (pe_op op_add (pe_op op_add (pe_op op_sub (pv 2) pe_int) (pv 4)) (pe_call (G_law_fewest.mono (by first | decide | omega)) hr (by rfl) T.g_law_fewest T.F_law_fewest.kp T.b_law_fewest .nil pass0 (pa_cons (pe_slice sl_list (pv 0) (po_some (pv 2)) po_none) pa_nil))) pa_nil))))))))))
      (pss_one (ps_ret (pv 1)))))), ?_⟩
    refine ⟨v, rfl, Nat.zero_le _, fun z nz => ?_⟩
    have s1 := same_new (o := .lst []) nz
    refine ⟨bsD bs, .list [], Dpm s1 hv, .lst (.inl (.inl upd_same)) .nil, Nat.le_trans (bsD_depth bs) (by decide), _, rfl, ?_⟩
    rw [eqv_nilB]
    generalize upd H z (.lst []) = H1 at *
    cases bs with
    | nil => exact iteT (q H1 0 s1 ⟨.nil, fun _ _ => Nat.zero_le _⟩)
    | cons b0 bs0 =>
      refine iteF ?_
      have hne : b0 :: bs0 ≠ [] := by simp
      generalize hbs : b0 :: bs0 = bs at *
      have hlen1 : 1 ≤ bs.length := by rw [← hbs]; simp
      have hget : ∀ j, j < bs.length → bs[j]? = some (bs.getD j (false, false)) := fun j hj => by
        rw [List.getElem?_eq_getElem hj]
        simp [hj]
      obtain ⟨c, xs, rfl, sc, al⟩ := dp_lst (Dpm s1 hv)
      have hxl := dpAll_len al
      rw [List.length_map] at hxl
      -- each band where it lies
      have bat : ∀ {H2 : Hp}, Same H1 H2 → ∀ j, j < bs.length → ∃ a, xs[j]? = some (.ref a) ∧ SqL K H2 a (flV (bs.getD j (false, false))) := fun {H2} s2 j hj => by
        obtain ⟨x, hx, hd⟩ := dpAll_at (d := bD (bs.getD j (false, false))) al (by rw [List.getElem?_map, hget j hj]; rfl)
        obtain ⟨a, rfl, sa⟩ := dp_bD hd
        exact ⟨a, hx, s2.seq sa⟩
      obtain ⟨a0, hx0, sa0⟩ := bat (Same.refl H1) 0 (by omega)
      refine ⟨.ref c, rfl, c, _, 0, _, rfl, rfl, sc, atI_nat (j := 0) hx0, a0, [((bs.getD 0 (false, false)).1.toNat : Int), ((bs.getD 0 (false, false)).2.toNat : Int)], rfl, sa0, .ref c, rfl, ?_⟩
      refine ⟨_, rfl, ?_⟩
      unfold tNoPart
      refine ⟨c, xs, rfl, sc, fun p2 np2 => ?_⟩
      rw [show (some (1 : Int)) = some ((1 : Nat) : Int) from rfl, cut_from]
      have t2 := same_new (o := .lst (xs.drop 1)) np2
      have hp2 : Dp K (upd H1 p2 (.lst (xs.drop 1))) (.ref p2) (bsD (bs.drop 1)) := by
        refine .lst (.inl (.inl upd_same)) ?_
        rw [List.map_drop]
        exact dpAll_drop 1 (dpAll_mono t2 _ _ al)
      refine ⟨.ref p2, bs.drop 1, rfl, hp2, by rw [List.length_drop]; omega, by rw [List.length_drop]; omega, fun H3 c3 s3 l3 => ?_⟩
      have g3 := t2.trans s3
      refine ⟨_, _, rfl, rfl, ?_⟩
      have e1 : (([((bs.getD 0 (false, false)).1.toNat : Int), ((bs.getD 0 (false, false)).2.toNat : Int)] : List Int).sum) + (c3 : Int) = ((gc (bs.take 1) + c3 : Nat) : Int) := by
        have : bs.take 1 = [bs.getD 0 (false, false)] := by rw [← hbs]; rfl
        rw [this, gc_one]
        simp
      dsimp only
      rw [e1]
      have hb2 := BestTo.first l3
      -- the groups
      refine ⟨.ref c, rfl, c, _, rfl, .inl (g3.seq sc), _, _, rfl, rfl, _, _, rfl, ⟨by omega, by omega, by omega, by rw [hxl]; omega⟩, ?_⟩
      rw [hxl]
      refine for_range (lo := 2) (n := ((bs.length : Int) + 1 - 2).toNat) (fun i σ H' => Same H1 H' ∧ ∃ b y2 y3 y4, σ = [some (.ref c), some (.int (b : Nat)), y2, y3, y4] ∧ BestTo bs (i + 2) b) ⟨g3, _, _, _, _, rfl, hb2⟩ (fun i σ H4 hi p => ?_) (fun σ H4 p => ?_)
      · obtain ⟨s4, b, y2, y3, y4, rfl, hb⟩ := p
        have hm : i + 2 ≤ bs.length := by omega
        obtain ⟨cm, lm⟩ := least_ex (bs.drop (i + 2))
        refine ⟨_, rfl, _, rfl, by omega, by omega, ?_⟩
        refine for_range (lo := 0) (n := ((2 : Int) + (i : Int)).toNat) (fun t σ H' => Same H1 H' ∧ ∃ b' y3 y4, σ = [some (.ref c), some (.int (b' : Nat)), some (.int (2 + (i : Int))), y3, y4] ∧ b' ≤ b ∧ (∀ s, s < t → b' ≤ i + 2 - 1 + ownS bs (i + 2) s + cm) ∧ (b' = b ∨ ∃ s, s < t ∧ b' = i + 2 - 1 + ownS bs (i + 2) s + cm)) ⟨s4, b, _, _, rfl, Nat.le_refl _, by omega, .inl rfl⟩ (fun t σ H5 ht p => ?_) (fun σ H5 p => ?_)
        · obtain ⟨s5, b', y3, y4, rfl, k1, k2, k3⟩ := p
          have ht' : t < i + 2 := by omega
          obtain ⟨at_, hxt, sat⟩ := bat s5 t (by omega)
          have eat : (0 : Int) + (t : Int) = (t : Nat) := by omega
          -- own
          refine ⟨fun σ' H6 => H6 = H5 ∧ σ' = [some (.ref c), some (.int (b' : Nat)), some (.int (2 + (i : Int))), some (.int (0 + (t : Int))), some (.int (ownS bs (i + 2) t : Nat))], ?_, ?_⟩
          · have d1 : decide (V.int (0 + (t : Int)) = V.int (2 + (i : Int) - 1)) = decide (t = i + 2 - 1) := by
              by_cases e : t = i + 2 - 1
              · rw [decide_eq_true e, decide_eq_true (by congr 1; omega)]
              · rw [decide_eq_false e, decide_eq_false (fun z => e (by have := V.int.inj z; omega))]
            have d2 : decide (V.int (0 + (t : Int)) = V.int 0) = decide (t = 0) := by
              by_cases e : t = 0
              · rw [decide_eq_true e, decide_eq_true (by congr 1; omega)]
              · rw [decide_eq_false e, decide_eq_false (fun z => e (by have := V.int.inj z; omega))]
            have fb : ∀ x : Bool, decide (V.int ((x.toNat : Nat) : Int) = V.int 0) = !x := fun x => by cases x <;> decide
            have yes : ownS bs (i + 2) t = 1 → tAsg (tC (.int 1)) (gName 4) { nx := fun σ' H6 => H6 = H5 ∧ σ' = [some (.ref c), some (.int (b' : Nat)), some (.int (2 + (i : Int))), some (.int (0 + (t : Int))), some (.int (ownS bs (i + 2) t : Nat))], rt := Q } [some (.ref c), some (.int (b' : Nat)), some (.int (2 + (i : Int))), some (.int (0 + (t : Int))), some (.int 2)] H5 := fun e => ⟨rfl, by rw [e]; rfl⟩
            have no : ownS bs (i + 2) t = 2 → H5 = H5 ∧ [some (V.ref c), some (.int (b' : Nat)), some (.int (2 + (i : Int))), some (.int (0 + (t : Int))), some (.int 2)] = [some (.ref c), some (.int (b' : Nat)), some (.int (2 + (i : Int))), some (.int (0 + (t : Int))), some (.int (ownS bs (i + 2) t : Nat))] := fun e => ⟨rfl, by rw [e]; rfl⟩
            have own1 : (t = i + 2 - 1 ∧ (bs.getD t (false, false)).2 = false) ∨ (t = 0 ∧ (bs.getD t (false, false)).1 = false) → ownS bs (i + 2) t = 1 := fun h => by unfold ownS; rw [if_pos h]
            have own2 : ¬ ((t = i + 2 - 1 ∧ (bs.getD t (false, false)).2 = false) ∨ (t = 0 ∧ (bs.getD t (false, false)).1 = false)) → ownS bs (i + 2) t = 2 := fun h => by unfold ownS; rw [if_neg h]
            refine ⟨_, rfl, _, rfl, _, _, rfl, rfl, rfl, _, rfl, ?_⟩
            dsimp only
            rw [d1]
            by_cases e1 : t = i + 2 - 1
            · rw [decide_eq_true e1]
              refine iteT ⟨.ref c, rfl, _, rfl, c, _, _, _, rfl, rfl, s5.seq sc, at_of (j := t) eat hxt, at_, _, 1, _, rfl, rfl, sat, atI_nat (j := 1) rfl, rfl, _, rfl, ?_⟩
              rw [fb]
              cases e2 : (bs.getD t (false, false)).2 with
              | false => exact iteT (yes (own1 (.inl ⟨e1, e2⟩)))
              | true =>
                refine iteF ⟨_, rfl, rfl, _, rfl, ?_⟩
                rw [d2, decide_eq_false (by omega)]
                refine iteF (no (own2 ?_))
                rintro (⟨_, z⟩ | ⟨z, _⟩)
                · rw [e2] at z; cases z
                · omega
            · rw [decide_eq_false e1]
              refine iteF ⟨_, rfl, rfl, _, rfl, ?_⟩
              rw [d2]
              by_cases e3 : t = 0
              · rw [decide_eq_true e3]
                refine iteT ⟨.ref c, rfl, _, rfl, c, _, _, _, rfl, rfl, s5.seq sc, at_of (j := t) eat hxt, at_, _, 0, _, rfl, rfl, sat, atI_nat (j := 0) rfl, rfl, _, rfl, ?_⟩
                rw [fb]
                cases e4 : (bs.getD t (false, false)).1 with
                | false => exact iteT (yes (own1 (.inr ⟨e3, e4⟩)))
                | true =>
                  refine iteF (no (own2 ?_))
                  rintro (⟨z, _⟩ | ⟨_, z⟩)
                  · exact e1 z
                  · rw [e4] at z; cases z
              · rw [decide_eq_false e3]
                refine iteF (no (own2 ?_))
                rintro (⟨z, _⟩ | ⟨z, _⟩)
                · exact e1 z
                · exact e3 z
          · rintro σ' H6 ⟨rfl, rfl⟩
            refine ⟨_, rfl, _, rfl, _, _, rfl, rfl, _, rfl, _, _, rfl, rfl, .ref c, rfl, _, rfl, _, rfl, ?_⟩
            refine ⟨c, xs, rfl, s5.seq sc, fun p7 np7 => ?_⟩
            rw [show (2 : Int) + (i : Int) = ((i + 2 : Nat) : Int) from by omega, cut_from]
            have t7 := same_new (o := .lst (xs.drop (i + 2))) np7
            have hp7 : Dp K (upd H6 p7 (.lst (xs.drop (i + 2)))) (.ref p7) (bsD (bs.drop (i + 2))) := by
              refine .lst (.inl (.inl upd_same)) ?_
              rw [List.map_drop]
              exact dpAll_drop (i + 2) (dpAll_mono (s5.trans t7) _ _ al)
            refine ⟨.ref p7, bs.drop (i + 2), rfl, hp7, by rw [List.length_drop]; omega, by rw [List.length_drop]; omega, fun H8 c8 s8 l8 => ?_⟩
            have ec := lm.uniq l8
            subst ec
            refine ⟨_, _, rfl, rfl, _, _, rfl, ?_⟩
            dsimp only
            have ev : ((i + 2 : Nat) : Int) - 1 + ((ownS bs (i + 2) t : Nat) : Int) + (cm : Int) = ((i + 2 - 1 + ownS bs (i + 2) t + cm : Nat) : Int) := by omega
            rw [ev]
            generalize hX : i + 2 - 1 + ownS bs (i + 2) t + cm = X at *
            rw [show (if ((X : Nat) : Int) < ((b' : Nat) : Int) then ((X : Nat) : Int) else ((b' : Nat) : Int)) = ((min b' X : Nat) : Int) from by split <;> omega]
            refine ⟨(s5.trans t7).trans s8, min b' X, _, _, rfl, by omega, fun s hs => ?_, ?_⟩
            · by_cases e : s = t
              · subst e; rw [hX]; omega
              · have := k2 s (by omega)
                omega
            · by_cases e : b' ≤ X
              · rcases k3 with z | ⟨s, hs, z⟩
                · exact .inl (by omega)
                · exact .inr ⟨s, by omega, by omega⟩
              · exact .inr ⟨t, by omega, by omega⟩
        · obtain ⟨s5, b', y3, y4, rfl, k1, k2, k3⟩ := p
          have eb : b' = min b (gc (bs.take (i + 2)) + cm) := by
            obtain ⟨s0, hs0, e0⟩ := own_at (l := bs) (m := i + 2) (by omega) hm
            have h1 := k2 s0 (by omega)
            rcases k3 with z | ⟨s, hs, z⟩
            · omega
            · have := own_le (l := bs) (m := i + 2) (s := s) (by omega) hm (by omega)
              omega
          rw [eb]
          exact ⟨s5, min b (gc (bs.take (i + 2)) + cm), _, _, _, rfl, hb.next (by omega) lm⟩
      · obtain ⟨s4, b, y2, y3, y4, rfl, hb⟩ := p
        rw [show ((bs.length : Int) + 1 - 2).toNat + 2 = bs.length + 1 from by omega] at hb
        exact ⟨_, rfl, q H4 b (s1.trans s4) (hb.least (by rw [← hbs]; simp))⟩
theorem ok_law_fewest (T : Tx K mg) : ∀ n : Nat, FnOk P w K mg base CX0 (n + 1) T.f_law_fewest T.fd_law_fewest ["bands"] (sp_law_fewest K n)
  | 0 => ⟨fun vs H Q E h => by
      obtain ⟨_, _, _, _, z, _⟩ := h
      omega, fun A outer s H args us vs Q E hr he hb hv h => by
      obtain ⟨_, _, _, _, z, _⟩ := h
      omega⟩
  | n + 1 => fewest_step T (Nat.succ_le_succ (Nat.zero_le n)) (ok_law_fewest T n)
end PS

namespace PS
open PySem PySem.Spec PyProof.Rows L2
variable {P : Program} {w : World} {K : PySem.W.Frag} {mg : Str → Option Value} {base : Heap}
def sp_law_leads (K : PySem.W.Frag) : Sp := fun vs H Q _ => ∃ v u t x room ls y w d, vs = [v, u, t, x] ∧ Dp K H v (shD room ls) ∧ ShOk room ls ∧ Dp K H u (tI (stL ls y)) ∧ Dp K H t (tI (stL ls w)) ∧ Rise ls.length (room - ls.sum) y ∧ Dp K H x d ∧ d.depth ≤ 60 ∧
  ∀ H' b, Same H H' → LeadsB room ls y w d b → Q (.bl b) H'
theorem ok_law_leads (T : Tx K mg) : FnOk P w K mg base CX0 3 T.f_law_leads T.fd_law_leads ["shelf", "stand", "wish", "thing"] (sp_law_leads K) := by
  have G_law_is_push := ok_law_is_push (P := P) (w := w) (base := base) T
  have G_law_done := ok_law_done (P := P) (w := w) (base := base) T
  refine T.F_law_leads.ok sc_law_leads (fun vs H Q E h => ?_) (fun cdv A outer s H vs Q E hr h => ?_)
  · obtain ⟨_, _, _, _, _, _, _, _, _, rfl, _⟩ := h
    rfl
  · obtain ⟨v, u0, t, u, room, ls, y, w, d, rfl, hv, sh, hu0, ht, riy, hu, dep, q⟩ := h
    refine ⟨_, (pss_cons (ps_if (PW.pt (pw_or (pt_not (pt_val (pe_callB call_isD (by rfl) T.n_isinstance (by decide +kernel) (pa_cons (pv 3) (pa_cons (pe_bltn (v := .ty "list") (by rfl) T.n_list (by decide +kernel) rfl) pa_nil))))) (pw_or1 (pt_cmpR op_gt (pe_callB call_len_seq (by rfl) T.n_len (by decide +kernel) (pa_cons (pv 3) pa_nil)) pe_int (nomark _))))) (pss_one (ps_ret pe_bl)) pss_nil)
      (pss_cons (ps_if (pt_cmpR (op_neP hr.units) (pe_lc (own := [("push", 4)]) (g := gName 4) rfl sc_law_leads.nd (pi_list (pv 3)) (blkOk_by (own := [("push", 4)]) (N := ["shelf", "stand", "wish", "thing", "push"]) (sc := defScope s_law_leads) (by decide +kernel)) (fun _ _ _ _ _ => (pg_name (i := 4) sc_law_leads.nd rfl (.inl rfl))) (fun _ _ _ _ _ => pts_one (pt_not (pt_val (pe_call (G_law_is_push.mono (by first | decide | omega)) hr (by rfl) T.g_law_is_push T.F_law_is_push.kp T.b_law_is_push .nil pass0 (pa_cons (pv 0) (pa_cons (pv 4) pa_nil)))))) (fun _ _ _ _ _ => (pv 4))) (pe_lst pa_nil) (nomark _)) (pss_one (ps_ret pe_bl)) pss_nil)
      (pss_one (ps_ret (pe_cmpR (op_eqP hr.units) (pe_call (G_law_done.mono (by first | decide | omega)) hr (by rfl) T.g_law_done T.F_law_done.kp T.b_law_done .nil pass0 (pa_cons (pv 0) (pa_cons (pv 1) (pa_cons (pv 3) pa_nil)))) (pv 2) (nomark _)))))), ?_⟩
    refine ⟨u, rfl, u, _, d, rfl, hu, kList d, _, rfl, ?_⟩
    rw [isA_list]
    cases hu with
    | @lst a xs ds s al =>
      have hl := dpAll_len al
      refine iteF ⟨.ref a, rfl, a, xs, rfl, .inl s, _, _, rfl, rfl, _, rfl, ?_⟩
      have hrow : isRow room ls (.list ds) = if (ds.length : Int) > 200 then false else ds.all (isPush room ls) := rfl
      rw [hl]
      by_cases h2 : (ds.length : Int) > 200
      · rw [if_pos h2] at hrow
        rw [decide_eq_true h2]
        exact iteT (q H false (Same.refl H) (.inl ⟨hrow, rfl⟩))
      · rw [if_neg h2] at hrow
        rw [decide_eq_false h2]
        refine iteF ?_
        have dall : PyData.depthAll ds + 1 ≤ 60 := by simpa [PyData.depth] using dep
        refine ⟨.ref a, rfl, a, rfl, ⟨xs, s⟩, fun D nD => ?_⟩
        refine lc_list (K := K) (a := a) (xs := xs) (fun i H' => Same H H' ∧ ∃ vs es, H' D = some (.lst vs) ∧ DpAll K H vs es ∧ es = (ds.take i).filter (fun x => !isPush room ls x)) ⟨same_new nD, [], [], upd_same, .nil, rfl⟩ (fun i H' _ p => p.1.seq s) (fun i x H' hx p => ?_) (fun H' p => ?_)
        · obtain ⟨s2, vs, es, hD, ha, he⟩ := p
          obtain ⟨dx, e1, e2⟩ := dpAll_get al hx
          have hi : i < xs.length := (List.getElem?_eq_some_iff.mp hx).1
          refine ⟨rfl, v, rfl, x, rfl, v, x, room, ls, dx, rfl, Dpm s2 hv, Dpm s2 e2, fun H3 s3 => ⟨_, rfl, ?_⟩⟩
          have hes : es.length ≤ i := by
            rw [he]
            exact Nat.le_trans (List.length_filter_le _ _) (by rw [List.length_take]; omega)
          have hvs := dpAll_len ha
          cases est : isPush room ls dx with
          | true =>
            refine iteF ⟨s2.trans s3, vs, es, s3 _ _ hD, ha, ?_⟩
            rw [he, List.take_add_one, e1, List.filter_append]
            simp [est]
          | false =>
            refine iteT ⟨x, rfl, vs, s3 _ _ hD, small1000 (by omega), fun b o hb => ?_, vs ++ [x], es ++ [dx], upd_same, dpAll_app ha (.cons e2 .nil), ?_⟩
            · rw [upd_ne (ne_of_none hb nD)]
              exact s3 _ _ (s2 b o hb)
            · rw [he, List.take_add_one, e1, List.filter_append]
              simp [est]
        · obtain ⟨s2, vs, es, hD, ha, he⟩ := p
          rw [hl, List.take_length] at he
          refine ⟨Nat.zero_le _, fun z nz => ?_⟩
          have s3 := s2.trans (same_new (o := .lst []) nz)
          have hD' : upd H' z (.lst []) D = some (.lst vs) := by
            rw [upd_ne (ne_of_none hD nz)]
            exact hD
          refine ⟨.list es, .list [], .lst (.inl (.inl hD')) (dpAll_mono s3 _ _ ha), .lst (.inl (.inl upd_same)) .nil, ?_, _, rfl, ?_⟩
          · rw [PyData.depth]
            have : PyData.depthAll es ≤ 59 := depthAll_le _ fun x hx => by
              rw [he] at hx
              exact depth_of_all (n := 59) ds (by omega) x (List.mem_filter.mp hx).1
            omega
          rw [eqv_nil, he, filter_empty, ← hrow]
          generalize upd H' z (.lst []) = H4 at *
          cases er : isRow room ls (.list ds) with
          | false => exact iteT (q H4 false s3 (.inl ⟨er, rfl⟩))
          | true =>
            obtain ⟨r, e1, r2, rp⟩ := row_data er
            have hx4 : Dp K H4 (.ref a) (roD ls r) := by
              rw [← e1]
              exact .lst (s3.seq s) (dpAll_mono s3 _ _ al)
            refine iteF ⟨v, rfl, u0, rfl, .ref a, rfl, v, u0, .ref a, room, ls, y, r, _, rfl, Dpm s3 hv, Dpm s3 hu0, hx4, riy, sh.n8, rp, fun th H5 s5 hth => ?_⟩
            refine ⟨t, rfl, _, _, hth, Dpm (s3.trans s5) ht, Nat.le_trans (depth_tI _) (by decide), ?_⟩
            rw [eqv_stands]
            exact q H5 _ (s3.trans s5) (.inr ⟨r, e1, er, rfl⟩)
    | _ => exact iteT (q H false (Same.refl H) (.inl ⟨rfl, rfl⟩))
end PS

namespace PS
open PySem PySem.Spec PyProof.Rows L2
variable {P : Program} {w : World} {K : PySem.W.Frag} {mg : Str → Option Value} {base : Heap}
/-- what is known of one thing -/
abbrev Th (K : PySem.W.Frag) (k : Addr) (H : Hp) (x : V) : Prop := Gn K 9 (Off k H) x
def sp_law (K : PySem.W.Frag) : Sp := fun vs H Q _ => ∃ (a : Addr) (ns : List Int), vs = [.ref a] ∧ SqL K H a (ns.map V.int) ∧ ns.length ≤ 63 ∧ ∀ H', Q (.bl true) H'
theorem ok_law {f : Addr} {fd : FuncData} (F : Fun K "law" "law" s_law f fd) (T : Tx K mg) : FnOk P w K mg base CX0 11 f fd ["script"] (sp_law K) := by
  have G_law_deck := ok_law_deck (P := P) (w := w) (base := base) T
  have G_law_one := ok_law_one (P := P) (w := w) (base := base) T
  have G_law_shelf := ok_law_shelf (P := P) (w := w) (base := base) T
  have G_law_stand := ok_law_stand (P := P) (w := w) (base := base) T
  have G_law_row := ok_law_row (P := P) (w := w) (base := base) T
  have G_law_done := ok_law_done (P := P) (w := w) (base := base) T
  have G_law_bands := ok_law_bands (P := P) (w := w) (base := base) T
  have G_law_fewest := ok_law_fewest (P := P) (w := w) (base := base) T 9
  have G_law_leads := ok_law_leads (P := P) (w := w) (base := base) T
  have G_law_same := ok_law_same (P := P) (w := w) (base := base) T 2
  have G_law_spoilt := ok_law_spoilt (P := P) (w := w) (base := base) T 3
  have G_law_odd := ok_law_odd (P := P) (w := w) (base := base) T
  have G_fewest := ok_fewest (P := P) (w := w) (base := base) T
  have G_pushes_to := ok_pushes_to (P := P) (w := w) (base := base) T
  have G_leads := ok_leads (P := P) (w := w) (base := base) T
  refine F.ok sc_law (fun vs H Q E h => ?_) (fun cdv A outer s H vs Q E hr h => ?_)
  · obtain ⟨a, ns, rfl, _⟩ := h
    rfl
  · obtain ⟨a, ns, rfl, hS, hlen, q⟩ := h
    refine ⟨_, (pss_cons (ps_for PassesOwn.never rfl (pi_list (pe_slice sl_list (pe_op op_catL (pe_lst (pa_cons pe_int pa_nil)) (pv 0)) po_none (po_some pe_int))) (pg_name (i := 1) sc_law.nd rfl (.inl rfl))
      (pss_cons (ps_set (i := 2) sc_law.nd rfl (.inl rfl) (pe_call (G_law_deck.mono (by first | decide | omega)) hr (by rfl) T.g_law_deck T.F_law_deck.kp T.b_law_deck .nil pass0 (pa_cons (pv 1) (pa_cons pe_int pa_nil))))
      (pss_cons (ps_set (i := 3) sc_law.nd rfl (.inl rfl) (pe_call (G_law_shelf.mono (by first | decide | omega)) hr (by rfl) T.g_law_shelf T.F_law_shelf.kp T.b_law_shelf .nil pass0 (pa_cons (pv 2) (pa_cons pe_int (pa_cons (pe_call (G_law_one.mono (by first | decide | omega)) hr (by rfl) T.g_law_one T.F_law_one.kp T.b_law_one .nil pass0 (pa_cons (pv 2) (pa_cons (pe_lst (pa_cons pe_int (pa_cons pe_int (pa_cons pe_int pa_nil)))) pa_nil))) pa_nil)))))
      (pss_cons (ps_set (i := 4) sc_law.nd rfl (.inl rfl) (pe_call (G_law_stand.mono (by first | decide | omega)) hr (by rfl) T.g_law_stand T.F_law_stand.kp T.b_law_stand .nil pass0 (pa_cons (pv 2) (pa_cons (pv 3) pa_nil))))
      (pss_cons (ps_set (i := 5) sc_law.nd rfl (.inl rfl) (pe_lst (pa_cons (pe_call (G_law_stand.mono (by first | decide | omega)) hr (by rfl) T.g_law_stand T.F_law_stand.kp T.b_law_stand .nil pass0 (pa_cons (pv 2) (pa_cons (pv 3) pa_nil))) (pa_cons (pe_call (G_law_stand.mono (by first | decide | omega)) hr (by rfl) T.g_law_stand T.F_law_stand.kp T.b_law_stand .nil pass0 (pa_cons (pv 2) (pa_cons (pv 3) pa_nil))) (pa_cons (pv 4) pa_nil)))))
      (pss_one (ps_for PassesOwn.never rfl (pi_list (pe_op op_catL (pv 5) (pe_lst (pa_cons (pe_call (G_law_done.mono (by first | decide | omega)) hr (by rfl) T.g_law_done T.F_law_done.kp T.b_law_done .nil pass0 (pa_cons (pv 3) (pa_cons (pv 4) (pa_cons (pe_call (G_law_row.mono (by first | decide | omega)) hr (by rfl) T.g_law_row T.F_law_row.kp T.b_law_row .nil pass0 (pa_cons (pv 2) (pa_cons (pv 3) (pa_cons pe_int pa_nil)))) pa_nil)))) pa_nil)))) (pg_name (i := 6) sc_law.nd rfl (.inl rfl))
      (pss_cons (ps_par (i := 7) (j := 8) (by rfl) sc_law.nd rfl rfl (by decide) rfl rfl (pa_cons (pe_call (G_pushes_to.mono (by first | decide | omega)) hr (by rfl) T.g_pushes_to T.F_pushes_to.kp T.b_pushes_to .nil pass0 (pa_cons (pv 3) (pa_cons (pv 4) (pa_cons (pv 6) pa_nil)))) (pa_cons (pe_call (G_fewest.mono (by first | decide | omega)) hr (by rfl) T.g_fewest T.F_fewest.kp T.b_fewest .nil pass0 (pa_cons (pv 3) (pa_cons (pv 4) (pa_cons (pv 6) pa_nil)))) pa_nil)) (by rfl))
      (pss_cons (ps_if (PW.pt (pw_or (pt_not (pt_val (pe_call (G_law_same.mono (by first | decide | omega)) hr (by rfl) T.g_law_same T.F_law_same.kp T.b_law_same .nil pass0 (pa_cons (pv 8) (pa_cons (pe_call (G_law_fewest.mono (by first | decide | omega)) hr (by rfl) T.g_law_fewest T.F_law_fewest.kp T.b_law_fewest .nil pass0 (pa_cons (pe_call (G_law_bands.mono (by first | decide | omega)) hr (by rfl) T.g_law_bands T.F_law_bands.kp T.b_law_bands .nil pass0 (pa_cons (pv 3) (pa_cons (pv 4) (pa_cons (pv 6) pa_nil)))) pa_nil)) pa_nil))))) (pw_or1 (pt_cmpR op_ne (pe_callB call_len_seq (by rfl) T.n_len (by decide +kernel) (pa_cons (pv 7) pa_nil)) (pv 8) (nomark _))))) (pss_one (ps_ret pe_bl)) pss_nil)
      (pss_cons (ps_if (PW.pt (pw_or (pt_not (pt_val (pe_call (G_law_leads.mono (by first | decide | omega)) hr (by rfl) T.g_law_leads T.F_law_leads.kp T.b_law_leads .nil pass0 (pa_cons (pv 3) (pa_cons (pv 4) (pa_cons (pv 6) (pa_cons (pv 7) pa_nil))))))) (pw_or1 (pt_cmpR op_ne (pe_cmpR op_eq (pv 8) pe_int (nomark _)) (pe_cmpR (op_eqP hr.units) (pv 6) (pv 4) (nomark _)) (nomark _))))) (pss_one (ps_ret pe_bl)) pss_nil)
      (pss_cons (ps_set (i := 9) sc_law.nd rfl (.inl rfl) (pe_lst (pa_cons (pv 7) (pa_cons (pe_slice sl_list (pv 7) (po_some pe_int) po_none) (pa_cons (pe_slice sl_list (pv 7) po_none (po_some (pe_un un_neg pe_int))) (pa_cons (pe_op op_catL (pv 7) (pv 7)) (pa_cons (pe_callTy call_tuple_of (by rfl) T.n_tuple (by decide +kernel) (pa_cons (pv 7) pa_nil)) (pa_cons (pe_lst pa_nil) (pa_cons pe_non (pa_cons (pe_op op_catL (pv 7) (pe_slice sl_list (pv 7) po_none (po_some pe_int))) pa_nil))))))))))
      (pss_one (ps_for PassesOwn.never rfl (pi_list (pe_op op_catL (pv 9) (pe_lst (pa_cons (pe_call (G_law_spoilt.mono (by first | decide | omega)) hr (by rfl) T.g_law_spoilt T.F_law_spoilt.kp T.b_law_spoilt .nil pass0 (pa_cons (pv 2) (pa_cons (pv 7) pa_nil))) (pa_cons (pe_call (G_law_row.mono (by first | decide | omega)) hr (by rfl) T.g_law_row T.F_law_row.kp T.b_law_row .nil pass0 (pa_cons (pv 2) (pa_cons (pv 3) (pa_cons pe_int pa_nil)))) (pa_cons (pe_call (G_law_odd.mono (by first | decide | omega)) hr (by rfl) T.g_law_odd T.F_law_odd.kp T.b_law_odd .nil pass0 (pa_cons (pv 2) pa_nil)) pa_nil)))))) (pg_name (i := 10) sc_law.nd rfl (.inl rfl))
      (pss_cons (ps_set (i := 11) sc_law.nd rfl (.inl rfl) (pe_call (G_leads.mono (by first | decide | omega)) hr (by rfl) T.g_leads T.F_leads.kp T.b_leads .nil pass0 (pa_cons (pv 3) (pa_cons (pv 4) (pa_cons (pv 6) (pa_cons (pv 10) pa_nil))))))
      (pss_one (ps_if (pt_not (pt_val (pe_call (G_law_same.mono (by first | decide | omega)) hr (by rfl) T.g_law_same T.F_law_same.kp T.b_law_same .nil pass0 (pa_cons (pv 11) (pa_cons (pe_call (G_law_leads.mono (by first | decide | omega)) hr (by rfl) T.g_law_leads T.F_law_leads.kp T.b_law_leads .nil pass0 (pa_cons (pv 3) (pa_cons (pv 4) (pa_cons (pv 6) (pa_cons (pv 10) pa_nil))))) pa_nil))))) (pss_one (ps_ret pe_bl)) pss_nil))))))))))))))))
      (pss_one (ps_ret pe_bl))), ?_⟩
    refine ⟨by show 1 ≤ sizeLine; decide, fun z nz => ⟨.ref a, rfl, z, a, [.int 0], iV ns, rfl, rfl, .inl (.inl upd_same), (same_new nz).seq hS, ?_, fun p np => ⟨10, rfl, p, _, rfl, .inl (.inl upd_same), fun c nc => ?_⟩⟩⟩
    · have : ([V.int 0] ++ iV ns).length ≤ 64 := by simp; omega
      exact Nat.le_of_lt (small1000 (by simp; omega))
    have ecut : cutV ([V.int 0] ++ iV ns) none (some 10) = iV (((0 : Int) :: ns).take 10) := by
      rw [show (some (10 : Int)) = some ((10 : Nat) : Int) from rfl, cut_to]
      show _ = (((0 : Int) :: ns).take 10).map V.int
      rw [List.map_take]
      rfl
    rw [ecut]
    generalize ((0 : Int) :: ns).take 10 = cells
    generalize hHc : upd (upd (upd H z (.lst [.int 0])) p (.lst ([V.int 0] ++ iV ns))) c (.lst (iV cells)) = Hc
    have hc : SqL K Hc c (iV cells) := by
      rw [← hHc]
      exact .inl (.inl upd_same)
    refine ⟨c, rfl, ⟨_, hc⟩, ?_⟩
    refine for_list (K := K) (a := c) (xs := iV cells) (fun i σ H' => Same Hc H' ∧ ∃ y1 y2 y3 y4 y5 y6 y7 y8 y9 y10 y11, σ = [some (.ref a), y1, y2, y3, y4, y5, y6, y7, y8, y9, y10, y11])
      ⟨Same.refl Hc, _, _, _, _, _, _, _, _, _, _, _, rfl⟩ (fun i σ H' _ p => p.1.seq hc) (fun i x σ H' hx p => ?_) (fun σ H' p => ?_)
    · obtain ⟨s0, y1, y2, y3, y4, y5, y6, y7, y8, y9, y10, y11, rfl⟩ := p
      obtain ⟨cell, _, rfl⟩ := List.mem_map.mp (List.mem_of_getElem? hx)
      refine ⟨_, rfl, cell, 9, rfl, by decide, by decide, fun k H1 s1 nk dk1 => ?_⟩
      have sk : Same Hc H1 := s0.trans s1
      have nkc : Hc k = none := s0.free nk
      -- shelf
      refine ⟨.ref k, rfl, .ref k, rfl, by show 3 ≤ sizeLine; decide, fun z2 nz2 => ?_⟩
      have nz2k := dk1.ne nz2
      refine ⟨k, z2, [.int 3, .int 12, .int 400], 999999, rfl, .inl (.inl (off_up nz2k)), by decide, by decide, dk1.same (same_new nz2), fun x H2 hx2 dk2 s2 => ?_⟩
      obtain ⟨plm, rfl, pl0, pl4⟩ : ∃ pl : Int, x = .int pl ∧ 0 ≤ pl ∧ pl ≤ 400 := by
        have : x = .int 3 ∨ x = .int 12 ∨ x = .int 400 := by simpa using hx2
        rcases this with e | e | e
        · exact ⟨3, e, by decide, by decide⟩
        · exact ⟨12, e, by decide, by decide⟩
        · exact ⟨400, e, by decide, by decide⟩
      have o2 : Same (Off k H1) (Off k H2) := (off_new nz2).trans s2
      refine ⟨k, 8, plm, 999979, rfl, by decide, by decide, pl0, pl4, dk2, fun v H3 room ls sh _ _ dk3 s3 hv3 => ?_⟩
      have o3 := o2.trans s3
      have n8 := sh.n8
      -- stand, wishes
      refine ⟨.ref k, rfl, v, rfl, k, v, room, ls, 999959, rfl, hv3, sh, dk3, fun u H4 y riy dk4 o4 hu4 => ?_⟩
      refine ⟨.ref k, rfl, v, rfl, k, v, room, ls, 999939, rfl, Dpm o4 hv3, sh, dk4, fun u1 H5 w1 ri1 dk5 o5 hu5 => ?_⟩
      refine ⟨.ref k, rfl, v, rfl, k, v, room, ls, 999919, rfl, Dpm (o4.trans o5) hv3, sh, dk5, fun u2 H6 w2 ri2 dk6 o6 hu6 => ?_⟩
      refine ⟨u, rfl, by show 3 ≤ sizeLine; decide, fun l7 nl7 => ?_⟩
      obtain ⟨nl7k, o7, dk7, hl7⟩ := lay (o := .lst [u1, u2, u]) dk6 nl7
      have q7 := ((o4.trans o5).trans o6).trans o7
      have hv7 := Dpm q7 hv3
      have hu7 := Dpm ((o5.trans o6).trans o7) hu4
      have h1 := Dpm (o6.trans o7) hu5
      have h2 := Dpm o7 hu6
      generalize upd H6 l7 (.lst [u1, u2, u]) = H7 at *
      refine ⟨.ref l7, rfl, v, rfl, u, rfl, .ref k, rfl, v, rfl, k, v, 3, room, ls, 998900, rfl, by decide, by decide, hv7, sh, dk7.le (by decide), fun c8 H8 r8 rl8 rp8 nc8k _ dk8 o8 hr8 => ?_⟩
      have f8 := off_same k H8
      refine ⟨v, u, .ref c8, room, ls, y, r8, _, rfl, Dpm (o8.trans f8) hv7, Dpm (o8.trans f8) hu7, Dpm f8 hr8, riy, n8, rp8, fun u3 H9 s9 hu3 => ?_⟩
      have dk9 := dk8.same s9
      obtain ⟨l9', hk9⟩ := dk9.lst
      have hu3 : Dp K (Off k H9) u3 (tI (stL ls (doR y r8))) := dp_off hk9 _ _ (noL_tI _) hu3
      have q9 := o8.trans (off_mono s9)
      refine ⟨by show 1 ≤ sizeLine; decide, fun l10 nl10 => ?_⟩
      obtain ⟨nl10k, o10, dk10, hl10⟩ := lay (o := .lst [u3]) dk9 nl10
      have q10 := q9.trans o10
      have hl7' := q10 _ _ hl7
      have hu3 := Dpm o10 hu3
      generalize upd H9 l10 (.lst [u3]) = H10 at *
      refine ⟨l7, l10, _, _, rfl, rfl, .inl (.inl (off_same k H10 _ _ hl7')), .inl (.inl (off_same k H10 _ _ hl10)), by show 4 ≤ sizeLine; decide, fun l11 nl11 => ?_⟩
      obtain ⟨nl11k, o11, dk11, hl11⟩ := lay (o := .lst ([u1, u2, u] ++ [u3])) dk10 nl11
      have q11 := q10.trans o11
      have hv11 := Dpm q11 hv7
      have hu11 := Dpm q11 hu7
      have all4 : ∀ x ∈ [u1, u2, u] ++ [u3], ∃ w, Rise ls.length (room - ls.sum) w ∧ Dp K (Off k (upd H10 l11 (.lst ([u1, u2, u] ++ [u3])))) x (tI (stL ls w)) := fun x hx => by
        have : x = u1 ∨ x = u2 ∨ x = u ∨ x = u3 := by simpa using hx
        rcases this with rfl | rfl | rfl | rfl
        · exact ⟨w1, ri1, Dpm q11 h1⟩
        · exact ⟨w2, ri2, Dpm q11 h2⟩
        · exact ⟨y, riy, hu11⟩
        · exact ⟨_, doR_rise riy rp8, Dpm o11 hu3⟩
      have out11 : Same (Off k H1) (Off k (upd H10 l11 (.lst ([u1, u2, u] ++ [u3])))) := (o3.trans q7).trans q11
      generalize upd H10 l11 (.lst ([u1, u2, u] ++ [u3])) = H11 at *
      have hl4 : ([u1, u2, u] ++ [u3]).length = 4 := rfl
      generalize [u1, u2, u] ++ [u3] = ws at *
      refine ⟨l11, rfl, ⟨_, .inl (.inl (off_same k H11 _ _ hl11))⟩, ?_⟩
      refine for_list (K := K) (a := l11) (xs := ws) (fun j σ H' => Same (Off k H11) (Off k H') ∧ Dk k H' (998000 - 2000 * j) ∧ ∃ y5 y6 y7 y8 y9 y10 y11, σ = [some (.ref a), some (.int cell), some (.ref k), some v, some u, y5, y6, y7, y8, y9, y10, y11])
        ⟨Same.refl _, dk11.le (by decide), _, _, _, _, _, _, _, rfl⟩ (fun j σ H' _ p => .inl (.inl (off_same k H' _ _ (p.1 _ _ hl11)))) (fun j x σ H12 hx p => ?_) (fun σ H12 p => ?_)
      · obtain ⟨o12, dk12, y5, y6, y7, y8, y9, y10, y11, rfl⟩ := p
        have hj : j < 4 := by
          have := (List.getElem?_eq_some_iff.mp hx).1
          omega
        obtain ⟨w, riw, hx11⟩ := all4 x (List.mem_of_getElem? hx)
        have hv12 := Dpm o12 hv11
        have hu12 := Dpm o12 hu11
        have hx12 := Dpm o12 hx11
        have f12 := off_same k H12
        -- told, many
        refine ⟨v, rfl, u, rfl, x, rfl, v, u, x, room, ls, y, w, rfl, Dpm f12 hv12, sh, Dpm f12 hu12, Dpm f12 hx12, riy, riw, fun c13 H13 r us s13 nc13 hc13 al13 bst => ?_⟩
        have g13 := f12.trans s13
        refine ⟨v, rfl, u, rfl, x, rfl, v, u, x, room, ls, y, w, rfl, Dpm g13 hv12, sh, Dpm g13 hu12, Dpm g13 hx12, riy, riw, fun H14 rb s14 bst2 => ⟨_, _, rfl, ?_⟩⟩
        have g14 := g13.trans s14
        have u14 := s13.trans s14
        have dk14 := dk12.same u14
        have nck : c13 ≠ k := dk12.ne nc13
        have erb : rb.length = r.length := bst2.same bst
        rw [erb]
        have r16 : r.length ≤ 16 := by have := bst.len; omega
        have usl := dpAll_len al13
        rw [List.length_map] at usl
        have hc14 := s14 _ _ hc13
        obtain ⟨l14, hk14⟩ := dk14.lst
        have al14 : DpAll K (Off k H14) us (r.map (puD ls)) := dpAll_off hk14 _ _ (noLs_pu ls r) (dpAll_mono ((off_same c13 H13).trans s14) _ _ al13)
        have ho14 : Off k H14 c13 = some (.lst us) := off_at nck hc14
        have o14 : Same (Off k H12) (Off k H14) := off_mono u14
        have hv14 := Dpm o14 hv12
        have hu14 := Dpm o14 hu12
        have hx14 := Dpm o14 hx12
        have ht14 : Dp K (Off k H14) (.ref c13) (roD ls r) := .lst (.inl (.inl ho14)) al14
        have f14 := off_same k H14
        -- fewest, by all partings
        refine ⟨_, rfl, v, rfl, u, rfl, x, rfl, v, u, x, room, ls, y, w, rfl, Dpm f14 hv14, n8, Dpm f14 hu14, Dpm f14 hx14, fun bv H15 s15 hbv => ?_⟩
        have hlb := (lawB_len (y := y) (w := w) ls.length).1
        refine ⟨bv, lawB y w ls.length, rfl, hbv, by omega, by omega, fun H16 cc s16 lcc => ?_⟩
        obtain ⟨rs, runs, lst⟩ := bst.least
        have ecc : cc = r.length := by
          rw [lawB_runs riy.mono rs.length rs ls.length rfl (Nat.le_refl _) runs] at lcc
          exact lcc.uniq lst
        rw [ecc]
        have u16 := s15.trans s16
        refine ⟨_, _, .int (r.length : Nat), rfl, .int _, .int _, by simp [PyData.depth], fun H17 s17 => ⟨_, rfl, ?_⟩⟩
        have u17 := u16.trans s17
        refine iteF ⟨.ref c13, rfl, c13, us, rfl, .inl (.inl (.inl (f14.trans u17 _ _ ho14))), _, rfl, rfl, _, rfl, ?_⟩
        rw [usl, decide_eq_true (show V.int (r.length : Nat) = V.int (r.length : Nat) from rfl)]
        have g17 := f14.trans u17
        -- it leads there
        have isr : isRow room ls (roD ls r) = true := isRow_ok (by omega) bst.ok
        have lead : LeadsB room ls y w (roD ls r) true := .inr ⟨r, rfl, isr, (decide_eq_true (stL_congr fun i hi => bst.lead i hi)).symm⟩
        refine iteF ⟨v, rfl, u, rfl, x, rfl, .ref c13, rfl, v, u, x, .ref c13, room, ls, y, w, _, rfl, Dpm g17 hv14, sh, Dpm g17 hu14, Dpm g17 hx14, riy, Dpm g17 ht14, Nat.le_trans (roD_depth ls r) (by decide), fun H18 b18 s18 l18 => ⟨_, rfl, ?_⟩⟩
        rw [l18.uniq lead]
        have g18 := g17.trans s18
        refine iteF ⟨_, rfl, rfl, x, rfl, u, rfl, _, _, Dpm g18 hx14, Dpm g18 hu14, Nat.le_trans (depth_tI _) (by decide), rfl, _, rfl, ?_⟩
        have e0 : decide (V.int ((r.length : Nat) : Int) = V.int 0) = PyData.eqv (tI (stL ls w)) (tI (stL ls y)) := by
          rw [eqv_stands]
          by_cases c0 : stL ls w = stL ls y
          · have := bst.few [] (fun i hi => (stL_inj c0 i hi).symm)
            have : r.length = 0 := by simpa using this
            rw [decide_eq_true c0, decide_eq_true (by rw [this]; rfl)]
          · rw [decide_eq_false c0, decide_eq_false]
            intro z
            apply c0
            have hz := V.int.inj z
            have hr0 : r = [] := List.length_eq_zero_iff.mp (by omega)
            subst hr0
            exact stL_congr fun i hi => (bst.lead i hi).symm
        rw [e0, decide_eq_true (show V.bl (PyData.eqv (tI (stL ls w)) (tI (stL ls y))) = V.bl (PyData.eqv (tI (stL ls w)) (tI (stL ls y))) from rfl)]
        refine iteF ?_
        -- some
        have u18 := u17.trans s18
        have dk18 := dk14.same u18
        have o18 : Same (Off k H14) (Off k H18) := off_mono u18
        have ho18 := o18 _ _ ho14
        have al18 := dpAll_mono o18 _ _ al14
        have ga18 : Ga K 1 (Off k H18) us := Ga.of al18 fun d hd => roD_parts ls r d hd
        have hus18 : SqL K H18 c13 us := .inl (.inl (off_same k H18 _ _ ho18))
        have th18 : Gn K 2 (Off k H18) (.ref c13) := Gn.lst (.inl (.inl ho18)) ga18
        refine ⟨.ref c13, rfl, .ref c13, rfl, ?_⟩
        unfold tNoPart
        refine ⟨_, rfl, c13, us, rfl, hus18, fun p1 np1 => ?_⟩
        rw [show (some (1 : Int)) = some ((1 : Nat) : Int) from rfl, cut_from]
        obtain ⟨n1k, o1', dk1', ho1'⟩ := lay (o := .lst (us.drop 1)) dk18 np1
        have gaD : Ga K 1 (Off k H18) (us.drop 1) := fun z hz => ga18 z (List.mem_of_mem_drop hz)
        have th1 : Gn K 2 (Off k (upd H18 p1 (.lst (us.drop 1)))) (.ref p1) := Gn.lst (.inl (.inl ho1')) (gaD.up o1')
        have ho1c := o1' _ _ ho18
        have ga1 := ga18.up o1'
        have th18 := th18.up o1'
        generalize upd H18 p1 (.lst (us.drop 1)) = Ha at *
        refine ⟨.ref c13, rfl, 1, rfl, _, rfl, c13, us, rfl, .inl (.inl (off_same k Ha _ _ ho1c)), fun p2 np2 => ?_⟩
        rw [cut_m1]
        obtain ⟨n2k, o2', dk2', ho2'⟩ := lay (o := .lst us.dropLast) dk1' np2
        have gaL : Ga K 1 (Off k Ha) us.dropLast := fun z hz => ga1 z (List.dropLast_subset _ hz)
        have th2 : Gn K 2 (Off k (upd Ha p2 (.lst us.dropLast))) (.ref p2) := Gn.lst (.inl (.inl ho2')) (gaL.up o2')
        have ho2c := o2' _ _ ho1c
        have ga2 := ga1.up o2'
        have th18 := th18.up o2'
        have th1 := th1.up o2'
        generalize upd Ha p2 (.lst us.dropLast) = Hb at *
        refine ⟨.ref c13, rfl, .ref c13, rfl, c13, c13, us, us, rfl, rfl, .inl (.inl (off_same k Hb _ _ ho2c)), .inl (.inl (off_same k Hb _ _ ho2c)), Nat.le_of_lt (small1000 (by omega)), fun p3 np3 => ?_⟩
        obtain ⟨n3k, o3', dk3', ho3'⟩ := lay (o := .lst (us ++ us)) dk2' np3
        have th3 : Gn K 2 (Off k (upd Hb p3 (.lst (us ++ us)))) (.ref p3) := Gn.lst (.inl (.inl ho3')) ((ga2.app ga2).up o3')
        have ho3c := o3' _ _ ho2c
        have ga3 := ga2.up o3'
        have th18 := th18.up o3'
        have th1 := th1.up o3'
        have th2 := th2.up o3'
        generalize upd Hb p3 (.lst (us ++ us)) = Hd at *
        refine ⟨.ref c13, rfl, c13, us, rfl, .inl ⟨.inl (.inl (off_same k Hd _ _ ho3c)), fun p4 np4 => ?_⟩⟩
        obtain ⟨n4k, o4', dk4', ho4'⟩ := lay (o := .tup us) dk3' np4
        have th4 : Gn K 2 (Off k (upd Hd p4 (.tup us))) (.ref p4) := Gn.tup (.inl (.inl ho4')) (ga3.up o4')
        have ho4c := o4' _ _ ho3c
        have ga4 := ga3.up o4'
        have th18 := th18.up o4'
        have th1 := th1.up o4'
        have th2 := th2.up o4'
        have th3 := th3.up o4'
        generalize upd Hd p4 (.tup us) = He at *
        refine ⟨Nat.zero_le _, fun p5 np5 => ?_⟩
        obtain ⟨n5k, o5', dk5', ho5'⟩ := lay (o := .lst []) dk4' np5
        have th5 : Gn K 2 (Off k (upd He p5 (.lst []))) (.ref p5) := Gn.lst (.inl (.inl ho5')) Ga.nil
        have ho5c := o5' _ _ ho4c
        have ga5 := ga4.up o5'
        have th18 := th18.up o5'
        have th1 := th1.up o5'
        have th2 := th2.up o5'
        have th3 := th3.up o5'
        have th4 := th4.up o5'
        generalize upd He p5 (.lst []) = Hf at *
        refine ⟨.ref c13, rfl, .ref c13, rfl, _, rfl, c13, us, rfl, .inl (.inl (off_same k Hf _ _ ho5c)), fun p6 np6 => ?_⟩
        rw [show (some (1 : Int)) = some ((1 : Nat) : Int) from rfl, cut_to]
        obtain ⟨n6k, o6', dk6', ho6'⟩ := lay (o := .lst (us.take 1)) dk5' np6
        have ho6c := o6' _ _ ho5c
        have ga6 := ga5.up o6'
        have gaT : Ga K 1 (Off k (upd Hf p6 (.lst (us.take 1)))) (us.take 1) := fun z hz => ga6 z (List.mem_of_mem_take hz)
        have th18 := th18.up o6'
        have th1 := th1.up o6'
        have th2 := th2.up o6'
        have th3 := th3.up o6'
        have th4 := th4.up o6'
        have th5 := th5.up o6'
        generalize upd Hf p6 (.lst (us.take 1)) = Hg at *
        have tl : (us.take 1).length ≤ 1 := List.length_take_le 1 us
        refine ⟨c13, p6, us, us.take 1, rfl, rfl, .inl (.inl (off_same k Hg _ _ ho6c)), .inl (.inl (off_same k Hg _ _ ho6')), Nat.le_of_lt (small1000 (by omega)), fun p7 np7 => ?_⟩
        obtain ⟨n7k, o7', dk7', ho7'⟩ := lay (o := .lst (us ++ us.take 1)) dk6' np7
        have th7 : Gn K 2 (Off k (upd Hg p7 (.lst (us ++ us.take 1)))) (.ref p7) := Gn.lst (.inl (.inl ho7')) ((ga6.app gaT).up o7')
        have ho7c := o7' _ _ ho6c
        have th18 := th18.up o7'
        have th1 := th1.up o7'
        have th2 := th2.up o7'
        have th3 := th3.up o7'
        have th4 := th4.up o7'
        have th5 := th5.up o7'
        generalize upd Hg p7 (.lst (us ++ us.take 1)) = Hh at *
        refine ⟨by show 8 ≤ sizeLine; decide, fun p8 np8 => ?_⟩
        obtain ⟨n8k, o8', dk8', ho8'⟩ := lay (o := .lst [.ref c13, .ref p1, .ref p2, .ref p3, .ref p4, .ref p5, .non, .ref p7]) dk7' np8
        have ga8 : Ga K 2 (Off k (upd Hh p8 (.lst [.ref c13, .ref p1, .ref p2, .ref p3, .ref p4, .ref p5, .non, .ref p7]))) [.ref c13, .ref p1, .ref p2, .ref p3, .ref p4, .ref p5, .non, .ref p7] := Ga.cons (th18.up o8') (Ga.cons (th1.up o8') (Ga.cons (th2.up o8') (Ga.cons (th3.up o8') (Ga.cons (th4.up o8') (Ga.cons (th5.up o8') (Ga.cons Gn.non (Ga.cons (th7.up o8') Ga.nil)))))))
        have ho8c := o8' _ _ ho7c
        have oS : Same (Off k H18) (Off k (upd Hh p8 (.lst [.ref c13, .ref p1, .ref p2, .ref p3, .ref p4, .ref p5, .non, .ref p7]))) := (((o1'.trans o2').trans (o3'.trans o4')).trans ((o5'.trans o6').trans o7')).trans o8'
        have h8l : ([V.ref c13, .ref p1, .ref p2, .ref p3, .ref p4, .ref p5, .non, .ref p7] : List V).length = 8 := rfl
        generalize upd Hh p8 (.lst [.ref c13, .ref p1, .ref p2, .ref p3, .ref p4, .ref p5, .non, .ref p7]) = Hi at *
        generalize ([V.ref c13, .ref p1, .ref p2, .ref p3, .ref p4, .ref p5, .non, .ref p7] : List V) = some8 at *
        clear th18 th1 th2 th3 th4 th5 th7 ga1 ga2 ga3 ga4 ga5 ga6 gaT gaL gaD ga18
        -- spoilt, a row, an odd thing
        have oI := o18.trans oS
        have hvI := Dpm oI hv14
        refine ⟨.ref p8, rfl, .ref k, rfl, .ref c13, rfl, 2, k, .ref c13, _, Off k Hi, 0, 997900 - 2000 * j, rfl, rfl, Same.refl _, Dpm oI ht14, gd_row sh (by omega) bst.ok, by decide, dk8'.le (by omega), fun sp Hj dsp gsp dkj oj hsp => ?_⟩
        have hsp : Gn K 2 (Off k Hj) sp := ⟨dsp, gsp.depth, Dpm (nw_off (Same.refl _) oj) hsp⟩
        refine ⟨.ref k, rfl, v, rfl, k, v, 4, room, ls, 997900 - 2000 * j - 1000 - 2, rfl, by decide, by decide, Dpm oj hvI, sh, dkj.le (by omega), fun cr Hk rr rrl rrp ncrk _ dkk ok hrr => ?_⟩
        have hrr : Gn K 2 (Off k Hk) (.ref cr) := ⟨_, roD_depth ls rr, hrr⟩
        refine ⟨.ref k, rfl, k, 997900 - 2000 * j - 1000 - 3, rfl, dkk.le (by omega), fun od Hl dod ddep dkl ol hod => ?_⟩
        have hod : Gn K 3 (Off k Hl) od := ⟨dod, ddep, hod⟩
        refine ⟨by show 3 ≤ sizeLine; decide, fun p9 np9 => ?_⟩
        obtain ⟨n9k, o9', dk9', ho9'⟩ := lay (o := .lst [sp, .ref cr, od]) dkl np9
        have ga9 : Ga K 3 (Off k (upd Hl p9 (.lst [sp, .ref cr, od]))) [sp, .ref cr, od] := Ga.cons ((hsp.up ((ok.trans ol).trans o9')).le (by decide)) (Ga.cons ((hrr.up (ol.trans o9')).le (by decide)) (Ga.cons (hod.up o9') Ga.nil))
        have oJ := ((oj.trans ok).trans ol).trans o9'
        have ho8'' := oJ _ _ ho8'
        have ga8 := ga8.up oJ
        generalize upd Hl p9 (.lst [sp, .ref cr, od]) = Hm at *
        refine ⟨p8, p9, some8, _, rfl, rfl, .inl (.inl (off_same k Hm _ _ ho8'')), .inl (.inl (off_same k Hm _ _ ho9')), Nat.le_of_lt (small1000 (by rw [h8l]; simp)), fun p10 np10 => ?_⟩
        obtain ⟨n10k, o10', dk10', ho10'⟩ := lay (o := .lst (some8 ++ [sp, .ref cr, od])) dk9' np10
        have gaAll : Ga K 3 (Off k (upd Hm p10 (.lst (some8 ++ [sp, .ref cr, od])))) (some8 ++ [sp, .ref cr, od]) := ((ga8.le (by decide)).app ga9).up o10'
        have oK := (oI.trans oJ).trans o10'
        have hvK := Dpm oK hv14
        have huK := Dpm oK hu14
        have hxK := Dpm oK hx14
        have outK : Same (Off k H11) (Off k (upd Hm p10 (.lst (some8 ++ [sp, .ref cr, od])))) := (o12.trans o14).trans oK
        generalize upd Hm p10 (.lst (some8 ++ [sp, .ref cr, od])) = Hn at *
        have h11 : (some8 ++ [sp, V.ref cr, od]).length = 11 := by rw [List.length_append, h8l]; rfl
        generalize some8 ++ [sp, V.ref cr, od] = ths at *
        have fN := off_same k Hn
        refine ⟨p10, rfl, ⟨_, .inl (.inl (fN _ _ ho10'))⟩, ?_⟩
        refine for_list (K := K) (a := p10) (xs := ths) (fun e σ H' => Same Hn H' ∧ ∃ y5 y9 y10 y11, σ = [some (.ref a), some (.int cell), some (.ref k), some v, some u, y5, some x, some (.ref c13), some (.int ((r.length : Nat) : Int)), y9, y10, y11])
          ⟨Same.refl _, _, _, _, _, rfl⟩ (fun e σ H' _ p => .inl (.inl (p.1 _ _ (fN _ _ ho10')))) (fun e th σ Ho hth p => ?_) (fun σ Ho p => ?_)
        · obtain ⟨sO, y5, y9, y10, y11, rfl⟩ := p
          obtain ⟨dth, ddth, hdth⟩ := gaAll th (List.mem_of_getElem? hth)
          have gO := fN.trans sO
          refine ⟨v, rfl, u, rfl, x, rfl, th, rfl, v, u, x, th, room, ls, y, w, dth, rfl, Dpm gO hvK, sh, Dpm gO huK, Dpm gO hxK, riy, riw, Dpm gO hdth, by omega, fun Hp b1 sP l1 => ?_⟩
          have gP := gO.trans sP
          refine ⟨_, rfl, v, rfl, u, rfl, x, rfl, th, rfl, v, u, x, th, room, ls, y, w, dth, rfl, Dpm gP hvK, sh, Dpm gP huK, Dpm gP hxK, riy, Dpm gP hdth, by omega, fun Hq b2 sQ l2 => ?_⟩
          rw [l2.uniq l1]
          exact ⟨_, _, .bool b1, rfl, .bl _, .bl _, by simp [PyData.depth], fun Hr sR => ⟨_, rfl, iteF ⟨((sO.trans sP).trans sQ).trans sR, _, _, _, _, rfl⟩⟩⟩
        · obtain ⟨sO, y5, y9, y10, y11, rfl⟩ := p
          exact ⟨outK.trans (off_mono sO), (dk10'.same sO).le (by omega), _, _, _, _, _, _, _, rfl⟩
      · obtain ⟨o12, dk12, y5, y6, y7, y8, y9, y10, y11, rfl⟩ := p
        exact ⟨same_out sk nkc (out11.trans o12), _, _, _, _, _, _, _, _, _, _, _, rfl⟩
    · exact q _
end PS

namespace PS
open PySem PySem.Spec PyProof.Rows L2
theorem all_mk {l : PySem.W.OpenLaw} {w : World} {K : PySem.W.Frag} {h : Heap} {mg : Str → Option Value} {fa : Addr} (X : K.In h) (G : h.Ns mainGlobals mg) (hfa : mg "law" = some (.ref fa))
    {C_Band : Addr}
    {f0 : Addr} {od0 an0 : Option Addr} {sl0 : Array (Option Value)} {oc0 kV0 dc0 pm0 cd0 ct0 : Value}
    (a0 : PySem.W.nsIn K mainGlobals "is_whole" = some (some (.ref f0))) (l0 : K.lookup f0 = some ⟨oc0, od0, .func (PySem.W.fnOf "is_whole" "is_whole" (defArgs s_is_whole) (defBody s_is_whole) (defScope s_is_whole) .none kV0 dc0 pm0 an0 cd0 ct0), sl0⟩) (c0 : PySem.W.codeIn K cd0 "is_whole" = true) (k0 : PySem.W.keepIn K (.ref f0) = true)
    {f1 : Addr} {od1 an1 : Option Addr} {sl1 : Array (Option Value)} {oc1 kV1 dc1 pm1 cd1 ct1 : Value}
    (a1 : PySem.W.nsIn K mainGlobals "is_within" = some (some (.ref f1))) (l1 : K.lookup f1 = some ⟨oc1, od1, .func (PySem.W.fnOf "is_within" "is_within" (defArgs s_is_within) (defBody s_is_within) (defScope s_is_within) .none kV1 dc1 pm1 an1 cd1 ct1), sl1⟩) (c1 : PySem.W.codeIn K cd1 "is_within" = true) (k1 : PySem.W.keepIn K (.ref f1) = true)
    {f2 : Addr} {od2 an2 : Option Addr} {sl2 : Array (Option Value)} {oc2 kV2 dc2 pm2 cd2 ct2 : Value}
    (a2 : PySem.W.nsIn K mainGlobals "is_tuple_of" = some (some (.ref f2))) (l2 : K.lookup f2 = some ⟨oc2, od2, .func (PySem.W.fnOf "is_tuple_of" "is_tuple_of" (defArgs s_is_tuple_of) (defBody s_is_tuple_of) (defScope s_is_tuple_of) .none kV2 dc2 pm2 an2 cd2 ct2), sl2⟩) (c2 : PySem.W.codeIn K cd2 "is_tuple_of" = true) (k2 : PySem.W.keepIn K (.ref f2) = true)
    {f3 : Addr} {od3 an3 : Option Addr} {sl3 : Array (Option Value)} {oc3 kV3 dc3 pm3 cd3 ct3 : Value}
    (a3 : PySem.W.nsIn K mainGlobals "are_blocks" = some (some (.ref f3))) (l3 : K.lookup f3 = some ⟨oc3, od3, .func (PySem.W.fnOf "are_blocks" "are_blocks" (defArgs s_are_blocks) (defBody s_are_blocks) (defScope s_are_blocks) .none kV3 dc3 pm3 an3 cd3 ct3), sl3⟩) (c3 : PySem.W.codeIn K cd3 "are_blocks" = true) (k3 : PySem.W.keepIn K (.ref f3) = true)
    {f4 : Addr} {od4 an4 : Option Addr} {sl4 : Array (Option Value)} {oc4 kV4 dc4 pm4 cd4 ct4 : Value}
    (a4 : PySem.W.nsIn K mainGlobals "is_shelf" = some (some (.ref f4))) (l4 : K.lookup f4 = some ⟨oc4, od4, .func (PySem.W.fnOf "is_shelf" "is_shelf" (defArgs s_is_shelf) (defBody s_is_shelf) (defScope s_is_shelf) .none kV4 dc4 pm4 an4 cd4 ct4), sl4⟩) (c4 : PySem.W.codeIn K cd4 "is_shelf" = true) (k4 : PySem.W.keepIn K (.ref f4) = true)
    {f5 : Addr} {od5 an5 : Option Addr} {sl5 : Array (Option Value)} {oc5 kV5 dc5 pm5 cd5 ct5 : Value}
    (a5 : PySem.W.nsIn K mainGlobals "need_shelf" = some (some (.ref f5))) (l5 : K.lookup f5 = some ⟨oc5, od5, .func (PySem.W.fnOf "need_shelf" "need_shelf" (defArgs s_need_shelf) (defBody s_need_shelf) (defScope s_need_shelf) .none kV5 dc5 pm5 an5 cd5 ct5), sl5⟩) (c5 : PySem.W.codeIn K cd5 "need_shelf" = true) (k5 : PySem.W.keepIn K (.ref f5) = true)
    {f6 : Addr} {od6 an6 : Option Addr} {sl6 : Array (Option Value)} {oc6 kV6 dc6 pm6 cd6 ct6 : Value}
    (a6 : PySem.W.nsIn K mainGlobals "play_of" = some (some (.ref f6))) (l6 : K.lookup f6 = some ⟨oc6, od6, .func (PySem.W.fnOf "play_of" "play_of" (defArgs s_play_of) (defBody s_play_of) (defScope s_play_of) .none kV6 dc6 pm6 an6 cd6 ct6), sl6⟩) (c6 : PySem.W.codeIn K cd6 "play_of" = true) (k6 : PySem.W.keepIn K (.ref f6) = true)
    {f7 : Addr} {od7 an7 : Option Addr} {sl7 : Array (Option Value)} {oc7 kV7 dc7 pm7 cd7 ct7 : Value}
    (a7 : PySem.W.nsIn K mainGlobals "gap_length" = some (some (.ref f7))) (l7 : K.lookup f7 = some ⟨oc7, od7, .func (PySem.W.fnOf "gap_length" "gap_length" (defArgs s_gap_length) (defBody s_gap_length) (defScope s_gap_length) .none kV7 dc7 pm7 an7 cd7 ct7), sl7⟩) (c7 : PySem.W.codeIn K cd7 "gap_length" = true) (k7 : PySem.W.keepIn K (.ref f7) = true)
    {f8 : Addr} {od8 an8 : Option Addr} {sl8 : Array (Option Value)} {oc8 kV8 dc8 pm8 cd8 ct8 : Value}
    (a8 : PySem.W.nsIn K mainGlobals "places_of" = some (some (.ref f8))) (l8 : K.lookup f8 = some ⟨oc8, od8, .func (PySem.W.fnOf "places_of" "places_of" (defArgs s_places_of) (defBody s_places_of) (defScope s_places_of) .none kV8 dc8 pm8 an8 cd8 ct8), sl8⟩) (c8 : PySem.W.codeIn K cd8 "places_of" = true) (k8 : PySem.W.keepIn K (.ref f8) = true)
    {f9 : Addr} {od9 an9 : Option Addr} {sl9 : Array (Option Value)} {oc9 kV9 dc9 pm9 cd9 ct9 : Value}
    (a9 : PySem.W.nsIn K mainGlobals "is_stand" = some (some (.ref f9))) (l9 : K.lookup f9 = some ⟨oc9, od9, .func (PySem.W.fnOf "is_stand" "is_stand" (defArgs s_is_stand) (defBody s_is_stand) (defScope s_is_stand) .none kV9 dc9 pm9 an9 cd9 ct9), sl9⟩) (c9 : PySem.W.codeIn K cd9 "is_stand" = true) (k9 : PySem.W.keepIn K (.ref f9) = true)
    {f10 : Addr} {od10 an10 : Option Addr} {sl10 : Array (Option Value)} {oc10 kV10 dc10 pm10 cd10 ct10 : Value}
    (a10 : PySem.W.nsIn K mainGlobals "need_stand" = some (some (.ref f10))) (l10 : K.lookup f10 = some ⟨oc10, od10, .func (PySem.W.fnOf "need_stand" "need_stand" (defArgs s_need_stand) (defBody s_need_stand) (defScope s_need_stand) .none kV10 dc10 pm10 an10 cd10 ct10), sl10⟩) (c10 : PySem.W.codeIn K cd10 "need_stand" = true) (k10 : PySem.W.keepIn K (.ref f10) = true)
    {f11 : Addr} {od11 an11 : Option Addr} {sl11 : Array (Option Value)} {oc11 kV11 dc11 pm11 cd11 ct11 : Value}
    (a11 : PySem.W.nsIn K mainGlobals "is_gap" = some (some (.ref f11))) (l11 : K.lookup f11 = some ⟨oc11, od11, .func (PySem.W.fnOf "is_gap" "is_gap" (defArgs s_is_gap) (defBody s_is_gap) (defScope s_is_gap) .none kV11 dc11 pm11 an11 cd11 ct11), sl11⟩) (c11 : PySem.W.codeIn K cd11 "is_gap" = true) (k11 : PySem.W.keepIn K (.ref f11) = true)
    {f12 : Addr} {od12 an12 : Option Addr} {sl12 : Array (Option Value)} {oc12 kV12 dc12 pm12 cd12 ct12 : Value}
    (a12 : PySem.W.nsIn K mainGlobals "is_push" = some (some (.ref f12))) (l12 : K.lookup f12 = some ⟨oc12, od12, .func (PySem.W.fnOf "is_push" "is_push" (defArgs s_is_push) (defBody s_is_push) (defScope s_is_push) .none kV12 dc12 pm12 an12 cd12 ct12), sl12⟩) (c12 : PySem.W.codeIn K cd12 "is_push" = true) (k12 : PySem.W.keepIn K (.ref f12) = true)
    {f13 : Addr} {od13 an13 : Option Addr} {sl13 : Array (Option Value)} {oc13 kV13 dc13 pm13 cd13 ct13 : Value}
    (a13 : PySem.W.nsIn K mainGlobals "is_row" = some (some (.ref f13))) (l13 : K.lookup f13 = some ⟨oc13, od13, .func (PySem.W.fnOf "is_row" "is_row" (defArgs s_is_row) (defBody s_is_row) (defScope s_is_row) .none kV13 dc13 pm13 an13 cd13 ct13), sl13⟩) (c13 : PySem.W.codeIn K cd13 "is_row" = true) (k13 : PySem.W.keepIn K (.ref f13) = true)
    {f14 : Addr} {od14 an14 : Option Addr} {sl14 : Array (Option Value)} {oc14 kV14 dc14 pm14 cd14 ct14 : Value}
    (a14 : PySem.W.nsIn K mainGlobals "pushed_right" = some (some (.ref f14))) (l14 : K.lookup f14 = some ⟨oc14, od14, .func (PySem.W.fnOf "pushed_right" "pushed_right" (defArgs s_pushed_right) (defBody s_pushed_right) (defScope s_pushed_right) .none kV14 dc14 pm14 an14 cd14 ct14), sl14⟩) (c14 : PySem.W.codeIn K cd14 "pushed_right" = true) (k14 : PySem.W.keepIn K (.ref f14) = true)
    {f15 : Addr} {od15 an15 : Option Addr} {sl15 : Array (Option Value)} {oc15 kV15 dc15 pm15 cd15 ct15 : Value}
    (a15 : PySem.W.nsIn K mainGlobals "pushed_left" = some (some (.ref f15))) (l15 : K.lookup f15 = some ⟨oc15, od15, .func (PySem.W.fnOf "pushed_left" "pushed_left" (defArgs s_pushed_left) (defBody s_pushed_left) (defScope s_pushed_left) .none kV15 dc15 pm15 an15 cd15 ct15), sl15⟩) (c15 : PySem.W.codeIn K cd15 "pushed_left" = true) (k15 : PySem.W.keepIn K (.ref f15) = true)
    {f16 : Addr} {od16 an16 : Option Addr} {sl16 : Array (Option Value)} {oc16 kV16 dc16 pm16 cd16 ct16 : Value}
    (a16 : PySem.W.nsIn K mainGlobals "pushed" = some (some (.ref f16))) (l16 : K.lookup f16 = some ⟨oc16, od16, .func (PySem.W.fnOf "pushed" "pushed" (defArgs s_pushed) (defBody s_pushed) (defScope s_pushed) .none kV16 dc16 pm16 an16 cd16 ct16), sl16⟩) (c16 : PySem.W.codeIn K cd16 "pushed" = true) (k16 : PySem.W.keepIn K (.ref f16) = true)
    {f17 : Addr} {od17 an17 : Option Addr} {sl17 : Array (Option Value)} {oc17 kV17 dc17 pm17 cd17 ct17 : Value}
    (a17 : PySem.W.nsIn K mainGlobals "done" = some (some (.ref f17))) (l17 : K.lookup f17 = some ⟨oc17, od17, .func (PySem.W.fnOf "done" "done" (defArgs s_done) (defBody s_done) (defScope s_done) .none kV17 dc17 pm17 an17 cd17 ct17), sl17⟩) (c17 : PySem.W.codeIn K cd17 "done" = true) (k17 : PySem.W.keepIn K (.ref f17) = true)
    {f18 : Addr} {od18 an18 : Option Addr} {sl18 : Array (Option Value)} {oc18 kV18 dc18 pm18 cd18 ct18 : Value}
    (a18 : PySem.W.findIn K (.ref C_Band) "__init__" = some (some (.ref f18))) (i18 : PySem.W.isFn K (.ref f18) = true) (l18 : K.lookup f18 = some ⟨oc18, od18, .func (PySem.W.fnOf "__init__" "Band.__init__" (defArgs s_Band_init) (defBody s_Band_init) (defScope s_Band_init) .none kV18 dc18 pm18 an18 cd18 ct18), sl18⟩) (c18 : PySem.W.codeIn K cd18 "Band.__init__" = true) (k18 : PySem.W.keepIn K (.ref f18) = true)
    {f19 : Addr} {od19 an19 : Option Addr} {sl19 : Array (Option Value)} {oc19 kV19 dc19 pm19 cd19 ct19 : Value}
    (a19 : PySem.W.nsIn K mainGlobals "band_from" = some (some (.ref f19))) (l19 : K.lookup f19 = some ⟨oc19, od19, .func (PySem.W.fnOf "band_from" "band_from" (defArgs s_band_from) (defBody s_band_from) (defScope s_band_from) .none kV19 dc19 pm19 an19 cd19 ct19), sl19⟩) (c19 : PySem.W.codeIn K cd19 "band_from" = true) (k19 : PySem.W.keepIn K (.ref f19) = true)
    {f20 : Addr} {od20 an20 : Option Addr} {sl20 : Array (Option Value)} {oc20 kV20 dc20 pm20 cd20 ct20 : Value}
    (a20 : PySem.W.nsIn K mainGlobals "bands_of" = some (some (.ref f20))) (l20 : K.lookup f20 = some ⟨oc20, od20, .func (PySem.W.fnOf "bands_of" "bands_of" (defArgs s_bands_of) (defBody s_bands_of) (defScope s_bands_of) .none kV20 dc20 pm20 an20 cd20 ct20), sl20⟩) (c20 : PySem.W.codeIn K cd20 "bands_of" = true) (k20 : PySem.W.keepIn K (.ref f20) = true)
    {f21 : Addr} {od21 an21 : Option Addr} {sl21 : Array (Option Value)} {oc21 kV21 dc21 pm21 cd21 ct21 : Value}
    (a21 : PySem.W.nsIn K mainGlobals "raised" = some (some (.ref f21))) (l21 : K.lookup f21 = some ⟨oc21, od21, .func (PySem.W.fnOf "raised" "raised" (defArgs s_raised) (defBody s_raised) (defScope s_raised) .none kV21 dc21 pm21 an21 cd21 ct21), sl21⟩) (c21 : PySem.W.codeIn K cd21 "raised" = true) (k21 : PySem.W.keepIn K (.ref f21) = true)
    {f22 : Addr} {od22 an22 : Option Addr} {sl22 : Array (Option Value)} {oc22 kV22 dc22 pm22 cd22 ct22 : Value}
    (a22 : PySem.W.nsIn K mainGlobals "lowered" = some (some (.ref f22))) (l22 : K.lookup f22 = some ⟨oc22, od22, .func (PySem.W.fnOf "lowered" "lowered" (defArgs s_lowered) (defBody s_lowered) (defScope s_lowered) .none kV22 dc22 pm22 an22 cd22 ct22), sl22⟩) (c22 : PySem.W.codeIn K cd22 "lowered" = true) (k22 : PySem.W.keepIn K (.ref f22) = true)
    {f23 : Addr} {od23 an23 : Option Addr} {sl23 : Array (Option Value)} {oc23 kV23 dc23 pm23 cd23 ct23 : Value}
    (a23 : PySem.W.nsIn K mainGlobals "row_alone" = some (some (.ref f23))) (l23 : K.lookup f23 = some ⟨oc23, od23, .func (PySem.W.fnOf "row_alone" "row_alone" (defArgs s_row_alone) (defBody s_row_alone) (defScope s_row_alone) .none kV23 dc23 pm23 an23 cd23 ct23), sl23⟩) (c23 : PySem.W.codeIn K cd23 "row_alone" = true) (k23 : PySem.W.keepIn K (.ref f23) = true)
    {f24 : Addr} {od24 an24 : Option Addr} {sl24 : Array (Option Value)} {oc24 kV24 dc24 pm24 cd24 ct24 : Value}
    (a24 : PySem.W.nsIn K mainGlobals "row_served_by_last" = some (some (.ref f24))) (l24 : K.lookup f24 = some ⟨oc24, od24, .func (PySem.W.fnOf "row_served_by_last" "row_served_by_last" (defArgs s_row_served_by_last) (defBody s_row_served_by_last) (defScope s_row_served_by_last) .none kV24 dc24 pm24 an24 cd24 ct24), sl24⟩) (c24 : PySem.W.codeIn K cd24 "row_served_by_last" = true) (k24 : PySem.W.keepIn K (.ref f24) = true)
    {f25 : Addr} {od25 an25 : Option Addr} {sl25 : Array (Option Value)} {oc25 kV25 dc25 pm25 cd25 ct25 : Value}
    (a25 : PySem.W.nsIn K mainGlobals "row_served_by_first" = some (some (.ref f25))) (l25 : K.lookup f25 = some ⟨oc25, od25, .func (PySem.W.fnOf "row_served_by_first" "row_served_by_first" (defArgs s_row_served_by_first) (defBody s_row_served_by_first) (defScope s_row_served_by_first) .none kV25 dc25 pm25 an25 cd25 ct25), sl25⟩) (c25 : PySem.W.codeIn K cd25 "row_served_by_first" = true) (k25 : PySem.W.keepIn K (.ref f25) = true)
    {f26 : Addr} {od26 an26 : Option Addr} {sl26 : Array (Option Value)} {oc26 kV26 dc26 pm26 cd26 ct26 : Value}
    (a26 : PySem.W.nsIn K mainGlobals "row_together" = some (some (.ref f26))) (l26 : K.lookup f26 = some ⟨oc26, od26, .func (PySem.W.fnOf "row_together" "row_together" (defArgs s_row_together) (defBody s_row_together) (defScope s_row_together) .none kV26 dc26 pm26 an26 cd26 ct26), sl26⟩) (c26 : PySem.W.codeIn K cd26 "row_together" = true) (k26 : PySem.W.keepIn K (.ref f26) = true)
    {f27 : Addr} {od27 an27 : Option Addr} {sl27 : Array (Option Value)} {oc27 kV27 dc27 pm27 cd27 ct27 : Value}
    (a27 : PySem.W.nsIn K mainGlobals "shortest_row" = some (some (.ref f27))) (l27 : K.lookup f27 = some ⟨oc27, od27, .func (PySem.W.fnOf "shortest_row" "shortest_row" (defArgs s_shortest_row) (defBody s_shortest_row) (defScope s_shortest_row) .none kV27 dc27 pm27 an27 cd27 ct27), sl27⟩) (c27 : PySem.W.codeIn K cd27 "shortest_row" = true) (k27 : PySem.W.keepIn K (.ref f27) = true)
    {f28 : Addr} {od28 an28 : Option Addr} {sl28 : Array (Option Value)} {oc28 kV28 dc28 pm28 cd28 ct28 : Value}
    (a28 : PySem.W.nsIn K mainGlobals "need_both" = some (some (.ref f28))) (l28 : K.lookup f28 = some ⟨oc28, od28, .func (PySem.W.fnOf "need_both" "need_both" (defArgs s_need_both) (defBody s_need_both) (defScope s_need_both) .none kV28 dc28 pm28 an28 cd28 ct28), sl28⟩) (c28 : PySem.W.codeIn K cd28 "need_both" = true) (k28 : PySem.W.keepIn K (.ref f28) = true)
    {f29 : Addr} {od29 an29 : Option Addr} {sl29 : Array (Option Value)} {oc29 kV29 dc29 pm29 cd29 ct29 : Value}
    (a29 : PySem.W.nsIn K mainGlobals "fewest" = some (some (.ref f29))) (l29 : K.lookup f29 = some ⟨oc29, od29, .func (PySem.W.fnOf "fewest" "fewest" (defArgs s_fewest) (defBody s_fewest) (defScope s_fewest) .none kV29 dc29 pm29 an29 cd29 ct29), sl29⟩) (c29 : PySem.W.codeIn K cd29 "fewest" = true) (k29 : PySem.W.keepIn K (.ref f29) = true)
    {f30 : Addr} {od30 an30 : Option Addr} {sl30 : Array (Option Value)} {oc30 kV30 dc30 pm30 cd30 ct30 : Value}
    (a30 : PySem.W.nsIn K mainGlobals "pushes_to" = some (some (.ref f30))) (l30 : K.lookup f30 = some ⟨oc30, od30, .func (PySem.W.fnOf "pushes_to" "pushes_to" (defArgs s_pushes_to) (defBody s_pushes_to) (defScope s_pushes_to) .none kV30 dc30 pm30 an30 cd30 ct30), sl30⟩) (c30 : PySem.W.codeIn K cd30 "pushes_to" = true) (k30 : PySem.W.keepIn K (.ref f30) = true)
    {f31 : Addr} {od31 an31 : Option Addr} {sl31 : Array (Option Value)} {oc31 kV31 dc31 pm31 cd31 ct31 : Value}
    (a31 : PySem.W.nsIn K mainGlobals "leads" = some (some (.ref f31))) (l31 : K.lookup f31 = some ⟨oc31, od31, .func (PySem.W.fnOf "leads" "leads" (defArgs s_leads) (defBody s_leads) (defScope s_leads) .none kV31 dc31 pm31 an31 cd31 ct31), sl31⟩) (c31 : PySem.W.codeIn K cd31 "leads" = true) (k31 : PySem.W.keepIn K (.ref f31) = true)
    {f32 : Addr} {od32 an32 : Option Addr} {sl32 : Array (Option Value)} {oc32 kV32 dc32 pm32 cd32 ct32 : Value}
    (a32 : PySem.W.nsIn K mainGlobals "_law_deck" = some (some (.ref f32))) (l32 : K.lookup f32 = some ⟨oc32, od32, .func (PySem.W.fnOf "_law_deck" "_law_deck" (defArgs s_law_deck) (defBody s_law_deck) (defScope s_law_deck) .none kV32 dc32 pm32 an32 cd32 ct32), sl32⟩) (c32 : PySem.W.codeIn K cd32 "_law_deck" = true) (k32 : PySem.W.keepIn K (.ref f32) = true)
    {f33 : Addr} {od33 an33 : Option Addr} {sl33 : Array (Option Value)} {oc33 kV33 dc33 pm33 cd33 ct33 : Value}
    (a33 : PySem.W.nsIn K mainGlobals "_law_pick" = some (some (.ref f33))) (l33 : K.lookup f33 = some ⟨oc33, od33, .func (PySem.W.fnOf "_law_pick" "_law_pick" (defArgs s_law_pick) (defBody s_law_pick) (defScope s_law_pick) .none kV33 dc33 pm33 an33 cd33 ct33), sl33⟩) (c33 : PySem.W.codeIn K cd33 "_law_pick" = true) (k33 : PySem.W.keepIn K (.ref f33) = true)
    {f34 : Addr} {od34 an34 : Option Addr} {sl34 : Array (Option Value)} {oc34 kV34 dc34 pm34 cd34 ct34 : Value}
    (a34 : PySem.W.nsIn K mainGlobals "_law_whole" = some (some (.ref f34))) (l34 : K.lookup f34 = some ⟨oc34, od34, .func (PySem.W.fnOf "_law_whole" "_law_whole" (defArgs s_law_whole) (defBody s_law_whole) (defScope s_law_whole) .none kV34 dc34 pm34 an34 cd34 ct34), sl34⟩) (c34 : PySem.W.codeIn K cd34 "_law_whole" = true) (k34 : PySem.W.keepIn K (.ref f34) = true)
    {f35 : Addr} {od35 an35 : Option Addr} {sl35 : Array (Option Value)} {oc35 kV35 dc35 pm35 cd35 ct35 : Value}
    (a35 : PySem.W.nsIn K mainGlobals "_law_one" = some (some (.ref f35))) (l35 : K.lookup f35 = some ⟨oc35, od35, .func (PySem.W.fnOf "_law_one" "_law_one" (defArgs s_law_one) (defBody s_law_one) (defScope s_law_one) .none kV35 dc35 pm35 an35 cd35 ct35), sl35⟩) (c35 : PySem.W.codeIn K cd35 "_law_one" = true) (k35 : PySem.W.keepIn K (.ref f35) = true)
    {f36 : Addr} {od36 an36 : Option Addr} {sl36 : Array (Option Value)} {oc36 kV36 dc36 pm36 cd36 ct36 : Value}
    (a36 : PySem.W.nsIn K mainGlobals "_law_sort" = some (some (.ref f36))) (l36 : K.lookup f36 = some ⟨oc36, od36, .func (PySem.W.fnOf "_law_sort" "_law_sort" (defArgs s_law_sort) (defBody s_law_sort) (defScope s_law_sort) .none kV36 dc36 pm36 an36 cd36 ct36), sl36⟩) (c36 : PySem.W.codeIn K cd36 "_law_sort" = true) (k36 : PySem.W.keepIn K (.ref f36) = true)
    {f37 : Addr} {od37 an37 : Option Addr} {sl37 : Array (Option Value)} {oc37 kV37 dc37 pm37 cd37 ct37 : Value}
    (a37 : PySem.W.nsIn K mainGlobals "_law_same" = some (some (.ref f37))) (l37 : K.lookup f37 = some ⟨oc37, od37, .func (PySem.W.fnOf "_law_same" "_law_same" (defArgs s_law_same) (defBody s_law_same) (defScope s_law_same) .none kV37 dc37 pm37 an37 cd37 ct37), sl37⟩) (c37 : PySem.W.codeIn K cd37 "_law_same" = true) (k37 : PySem.W.keepIn K (.ref f37) = true)
    {f38 : Addr} {od38 an38 : Option Addr} {sl38 : Array (Option Value)} {oc38 kV38 dc38 pm38 cd38 ct38 : Value}
    (a38 : PySem.W.nsIn K mainGlobals "_law_odd" = some (some (.ref f38))) (l38 : K.lookup f38 = some ⟨oc38, od38, .func (PySem.W.fnOf "_law_odd" "_law_odd" (defArgs s_law_odd) (defBody s_law_odd) (defScope s_law_odd) .none kV38 dc38 pm38 an38 cd38 ct38), sl38⟩) (c38 : PySem.W.codeIn K cd38 "_law_odd" = true) (k38 : PySem.W.keepIn K (.ref f38) = true)
    {f39 : Addr} {od39 an39 : Option Addr} {sl39 : Array (Option Value)} {oc39 kV39 dc39 pm39 cd39 ct39 : Value}
    (a39 : PySem.W.nsIn K mainGlobals "_law_spoilt" = some (some (.ref f39))) (l39 : K.lookup f39 = some ⟨oc39, od39, .func (PySem.W.fnOf "_law_spoilt" "_law_spoilt" (defArgs s_law_spoilt) (defBody s_law_spoilt) (defScope s_law_spoilt) .none kV39 dc39 pm39 an39 cd39 ct39), sl39⟩) (c39 : PySem.W.codeIn K cd39 "_law_spoilt" = true) (k39 : PySem.W.keepIn K (.ref f39) = true)
    {f40 : Addr} {od40 an40 : Option Addr} {sl40 : Array (Option Value)} {oc40 kV40 dc40 pm40 cd40 ct40 : Value}
    (a40 : PySem.W.nsIn K mainGlobals "_law_shelf" = some (some (.ref f40))) (l40 : K.lookup f40 = some ⟨oc40, od40, .func (PySem.W.fnOf "_law_shelf" "_law_shelf" (defArgs s_law_shelf) (defBody s_law_shelf) (defScope s_law_shelf) .none kV40 dc40 pm40 an40 cd40 ct40), sl40⟩) (c40 : PySem.W.codeIn K cd40 "_law_shelf" = true) (k40 : PySem.W.keepIn K (.ref f40) = true)
    {f41 : Addr} {od41 an41 : Option Addr} {sl41 : Array (Option Value)} {oc41 kV41 dc41 pm41 cd41 ct41 : Value}
    (a41 : PySem.W.nsIn K mainGlobals "_law_play" = some (some (.ref f41))) (l41 : K.lookup f41 = some ⟨oc41, od41, .func (PySem.W.fnOf "_law_play" "_law_play" (defArgs s_law_play) (defBody s_law_play) (defScope s_law_play) .none kV41 dc41 pm41 an41 cd41 ct41), sl41⟩) (c41 : PySem.W.codeIn K cd41 "_law_play" = true) (k41 : PySem.W.keepIn K (.ref f41) = true)
    {f42 : Addr} {od42 an42 : Option Addr} {sl42 : Array (Option Value)} {oc42 kV42 dc42 pm42 cd42 ct42 : Value}
    (a42 : PySem.W.nsIn K mainGlobals "_law_stand_of" = some (some (.ref f42))) (l42 : K.lookup f42 = some ⟨oc42, od42, .func (PySem.W.fnOf "_law_stand_of" "_law_stand_of" (defArgs s_law_stand_of) (defBody s_law_stand_of) (defScope s_law_stand_of) .none kV42 dc42 pm42 an42 cd42 ct42), sl42⟩) (c42 : PySem.W.codeIn K cd42 "_law_stand_of" = true) (k42 : PySem.W.keepIn K (.ref f42) = true)
    {f43 : Addr} {od43 an43 : Option Addr} {sl43 : Array (Option Value)} {oc43 kV43 dc43 pm43 cd43 ct43 : Value}
    (a43 : PySem.W.nsIn K mainGlobals "_law_stand" = some (some (.ref f43))) (l43 : K.lookup f43 = some ⟨oc43, od43, .func (PySem.W.fnOf "_law_stand" "_law_stand" (defArgs s_law_stand) (defBody s_law_stand) (defScope s_law_stand) .none kV43 dc43 pm43 an43 cd43 ct43), sl43⟩) (c43 : PySem.W.codeIn K cd43 "_law_stand" = true) (k43 : PySem.W.keepIn K (.ref f43) = true)
    {f44 : Addr} {od44 an44 : Option Addr} {sl44 : Array (Option Value)} {oc44 kV44 dc44 pm44 cd44 ct44 : Value}
    (a44 : PySem.W.nsIn K mainGlobals "_law_push" = some (some (.ref f44))) (l44 : K.lookup f44 = some ⟨oc44, od44, .func (PySem.W.fnOf "_law_push" "_law_push" (defArgs s_law_push) (defBody s_law_push) (defScope s_law_push) .none kV44 dc44 pm44 an44 cd44 ct44), sl44⟩) (c44 : PySem.W.codeIn K cd44 "_law_push" = true) (k44 : PySem.W.keepIn K (.ref f44) = true)
    {f45 : Addr} {od45 an45 : Option Addr} {sl45 : Array (Option Value)} {oc45 kV45 dc45 pm45 cd45 ct45 : Value}
    (a45 : PySem.W.nsIn K mainGlobals "_law_row" = some (some (.ref f45))) (l45 : K.lookup f45 = some ⟨oc45, od45, .func (PySem.W.fnOf "_law_row" "_law_row" (defArgs s_law_row) (defBody s_law_row) (defScope s_law_row) .none kV45 dc45 pm45 an45 cd45 ct45), sl45⟩) (c45 : PySem.W.codeIn K cd45 "_law_row" = true) (k45 : PySem.W.keepIn K (.ref f45) = true)
    {f46 : Addr} {od46 an46 : Option Addr} {sl46 : Array (Option Value)} {oc46 kV46 dc46 pm46 cd46 ct46 : Value}
    (a46 : PySem.W.nsIn K mainGlobals "_law_pushed" = some (some (.ref f46))) (l46 : K.lookup f46 = some ⟨oc46, od46, .func (PySem.W.fnOf "_law_pushed" "_law_pushed" (defArgs s_law_pushed) (defBody s_law_pushed) (defScope s_law_pushed) .none kV46 dc46 pm46 an46 cd46 ct46), sl46⟩) (c46 : PySem.W.codeIn K cd46 "_law_pushed" = true) (k46 : PySem.W.keepIn K (.ref f46) = true)
    {f47 : Addr} {od47 an47 : Option Addr} {sl47 : Array (Option Value)} {oc47 kV47 dc47 pm47 cd47 ct47 : Value}
    (a47 : PySem.W.nsIn K mainGlobals "_law_done" = some (some (.ref f47))) (l47 : K.lookup f47 = some ⟨oc47, od47, .func (PySem.W.fnOf "_law_done" "_law_done" (defArgs s_law_done) (defBody s_law_done) (defScope s_law_done) .none kV47 dc47 pm47 an47 cd47 ct47), sl47⟩) (c47 : PySem.W.codeIn K cd47 "_law_done" = true) (k47 : PySem.W.keepIn K (.ref f47) = true)
    {f48 : Addr} {od48 an48 : Option Addr} {sl48 : Array (Option Value)} {oc48 kV48 dc48 pm48 cd48 ct48 : Value}
    (a48 : PySem.W.nsIn K mainGlobals "_law_is_push" = some (some (.ref f48))) (l48 : K.lookup f48 = some ⟨oc48, od48, .func (PySem.W.fnOf "_law_is_push" "_law_is_push" (defArgs s_law_is_push) (defBody s_law_is_push) (defScope s_law_is_push) .none kV48 dc48 pm48 an48 cd48 ct48), sl48⟩) (c48 : PySem.W.codeIn K cd48 "_law_is_push" = true) (k48 : PySem.W.keepIn K (.ref f48) = true)
    {f49 : Addr} {od49 an49 : Option Addr} {sl49 : Array (Option Value)} {oc49 kV49 dc49 pm49 cd49 ct49 : Value}
    (a49 : PySem.W.nsIn K mainGlobals "_law_bands" = some (some (.ref f49))) (l49 : K.lookup f49 = some ⟨oc49, od49, .func (PySem.W.fnOf "_law_bands" "_law_bands" (defArgs s_law_bands) (defBody s_law_bands) (defScope s_law_bands) .none kV49 dc49 pm49 an49 cd49 ct49), sl49⟩) (c49 : PySem.W.codeIn K cd49 "_law_bands" = true) (k49 : PySem.W.keepIn K (.ref f49) = true)
    {f50 : Addr} {od50 an50 : Option Addr} {sl50 : Array (Option Value)} {oc50 kV50 dc50 pm50 cd50 ct50 : Value}
    (a50 : PySem.W.nsIn K mainGlobals "_law_fewest" = some (some (.ref f50))) (l50 : K.lookup f50 = some ⟨oc50, od50, .func (PySem.W.fnOf "_law_fewest" "_law_fewest" (defArgs s_law_fewest) (defBody s_law_fewest) (defScope s_law_fewest) .none kV50 dc50 pm50 an50 cd50 ct50), sl50⟩) (c50 : PySem.W.codeIn K cd50 "_law_fewest" = true) (k50 : PySem.W.keepIn K (.ref f50) = true)
    {f51 : Addr} {od51 an51 : Option Addr} {sl51 : Array (Option Value)} {oc51 kV51 dc51 pm51 cd51 ct51 : Value}
    (a51 : PySem.W.nsIn K mainGlobals "_law_leads" = some (some (.ref f51))) (l51 : K.lookup f51 = some ⟨oc51, od51, .func (PySem.W.fnOf "_law_leads" "_law_leads" (defArgs s_law_leads) (defBody s_law_leads) (defScope s_law_leads) .none kV51 dc51 pm51 an51 cd51 ct51), sl51⟩) (c51 : PySem.W.codeIn K cd51 "_law_leads" = true) (k51 : PySem.W.keepIn K (.ref f51) = true)
    {f52 : Addr} {od52 an52 : Option Addr} {sl52 : Array (Option Value)} {oc52 kV52 dc52 pm52 cd52 ct52 : Value}
    (a52 : PySem.W.nsIn K mainGlobals "law" = some (some (.ref f52))) (l52 : K.lookup f52 = some ⟨oc52, od52, .func (PySem.W.fnOf "law" "law" (defArgs s_law) (defBody s_law) (defScope s_law) .none kV52 dc52 pm52 an52 cd52 ct52), sl52⟩) (c52 : PySem.W.codeIn K cd52 "law" = true) (k52 : PySem.W.keepIn K (.ref f52) = true)
    (aC_Band : PySem.W.nsIn K mainGlobals "Band" = some (some (.ref C_Band))) (pg_Band : PySem.W.plainGet K C_Band Str.empty = true) (hd_Band : PySem.W.hasDictIn K C_Band = true) (po_Band : PySem.W.plainOver K C_Band = true) (sa_Band : PySem.W.findIn K (.ref C_Band) "__setattr__" = some (some (.builtin "object.__setattr__"))) (mk_Band : PySem.W.makesIn K C_Band = true) (kc_Band : PySem.W.keepIn K (.ref C_Band) = true)
    (na_Band_first : PySem.W.findIn K (.ref C_Band) "first" = some none)
    (na_Band_beyond : PySem.W.findIn K (.ref C_Band) "beyond" = some none)
    (na_Band_place : PySem.W.findIn K (.ref C_Band) "place" = some none)
    (na_Band_up : PySem.W.findIn K (.ref C_Band) "up" = some none)
    (na_Band_down : PySem.W.findIn K (.ref C_Band) "down" = some none)
    (z_all : PySem.W.nsIn K mainGlobals "all" = some none)
    (z_bool : PySem.W.nsIn K mainGlobals "bool" = some none)
    (z_enumerate : PySem.W.nsIn K mainGlobals "enumerate" = some none)
    (z_int : PySem.W.nsIn K mainGlobals "int" = some none)
    (z_isinstance : PySem.W.nsIn K mainGlobals "isinstance" = some none)
    (z_len : PySem.W.nsIn K mainGlobals "len" = some none)
    (z_list : PySem.W.nsIn K mainGlobals "list" = some none)
    (z_max : PySem.W.nsIn K mainGlobals "max" = some none)
    (z_min : PySem.W.nsIn K mainGlobals "min" = some none)
    (z_range : PySem.W.nsIn K mainGlobals "range" = some none)
    (z_reversed : PySem.W.nsIn K mainGlobals "reversed" = some none)
    (z_sorted : PySem.W.nsIn K mainGlobals "sorted" = some none)
    (z_str : PySem.W.nsIn K mainGlobals "str" = some none)
    (z_sum : PySem.W.nsIn K mainGlobals "sum" = some none)
    (z_tuple : PySem.W.nsIn K mainGlobals "tuple" = some none)
    (z_zip : PySem.W.nsIn K mainGlobals "zip" = some none)
    {t_MOST_BLOCKS : Tok} (v_MOST_BLOCKS : PySem.W.nsIn K mainGlobals "MOST_BLOCKS" = some (some (.int 8 t_MOST_BLOCKS)))
    {t_MOST_LENGTH : Tok} (v_MOST_LENGTH : PySem.W.nsIn K mainGlobals "MOST_LENGTH" = some (some (.int 50 t_MOST_LENGTH)))
    {t_MOST_PLAY : Tok} (v_MOST_PLAY : PySem.W.nsIn K mainGlobals "MOST_PLAY" = some (some (.int 400 t_MOST_PLAY)))
    {t_MOST_PUSHES : Tok} (v_MOST_PUSHES : PySem.W.nsIn K mainGlobals "MOST_PUSHES" = some (some (.int 200 t_MOST_PUSHES)))
    : ∃ fd : FuncData, (∀ (s : Shared) (v : Value), BindsTo s fd ⟨[v], []⟩ [("script", v)]) ∧ ∀ base : Heap, K.In base → base.Ns mainGlobals mg → FnOk l.prog w K mg base CX0 11 fa fd ["script"] (sp_law K) := by
  have e := hfa.symm.trans (PySem.W.mg_of X G a52)
  cases e
  have T : Tx K mg := {
    F_is_whole := fun_mk (st := s_is_whole) l0 c0 k0
    g_is_whole := PySem.W.mg_of X G a0
    F_is_within := fun_mk (st := s_is_within) l1 c1 k1
    g_is_within := PySem.W.mg_of X G a1
    F_is_tuple_of := fun_mk (st := s_is_tuple_of) l2 c2 k2
    g_is_tuple_of := PySem.W.mg_of X G a2
    F_are_blocks := fun_mk (st := s_are_blocks) l3 c3 k3
    g_are_blocks := PySem.W.mg_of X G a3
    F_is_shelf := fun_mk (st := s_is_shelf) l4 c4 k4
    g_is_shelf := PySem.W.mg_of X G a4
    F_need_shelf := fun_mk (st := s_need_shelf) l5 c5 k5
    g_need_shelf := PySem.W.mg_of X G a5
    F_play_of := fun_mk (st := s_play_of) l6 c6 k6
    g_play_of := PySem.W.mg_of X G a6
    F_gap_length := fun_mk (st := s_gap_length) l7 c7 k7
    g_gap_length := PySem.W.mg_of X G a7
    F_places_of := fun_mk (st := s_places_of) l8 c8 k8
    g_places_of := PySem.W.mg_of X G a8
    F_is_stand := fun_mk (st := s_is_stand) l9 c9 k9
    g_is_stand := PySem.W.mg_of X G a9
    F_need_stand := fun_mk (st := s_need_stand) l10 c10 k10
    g_need_stand := PySem.W.mg_of X G a10
    F_is_gap := fun_mk (st := s_is_gap) l11 c11 k11
    g_is_gap := PySem.W.mg_of X G a11
    F_is_push := fun_mk (st := s_is_push) l12 c12 k12
    g_is_push := PySem.W.mg_of X G a12
    F_is_row := fun_mk (st := s_is_row) l13 c13 k13
    g_is_row := PySem.W.mg_of X G a13
    F_pushed_right := fun_mk (st := s_pushed_right) l14 c14 k14
    g_pushed_right := PySem.W.mg_of X G a14
    F_pushed_left := fun_mk (st := s_pushed_left) l15 c15 k15
    g_pushed_left := PySem.W.mg_of X G a15
    F_pushed := fun_mk (st := s_pushed) l16 c16 k16
    g_pushed := PySem.W.mg_of X G a16
    F_done := fun_mk (st := s_done) l17 c17 k17
    g_done := PySem.W.mg_of X G a17
    F_Band_init := fun_mk (st := s_Band_init) l18 c18 k18
    F_band_from := fun_mk (st := s_band_from) l19 c19 k19
    g_band_from := PySem.W.mg_of X G a19
    F_bands_of := fun_mk (st := s_bands_of) l20 c20 k20
    g_bands_of := PySem.W.mg_of X G a20
    F_raised := fun_mk (st := s_raised) l21 c21 k21
    g_raised := PySem.W.mg_of X G a21
    F_lowered := fun_mk (st := s_lowered) l22 c22 k22
    g_lowered := PySem.W.mg_of X G a22
    F_row_alone := fun_mk (st := s_row_alone) l23 c23 k23
    g_row_alone := PySem.W.mg_of X G a23
    F_row_served_by_last := fun_mk (st := s_row_served_by_last) l24 c24 k24
    g_row_served_by_last := PySem.W.mg_of X G a24
    F_row_served_by_first := fun_mk (st := s_row_served_by_first) l25 c25 k25
    g_row_served_by_first := PySem.W.mg_of X G a25
    F_row_together := fun_mk (st := s_row_together) l26 c26 k26
    g_row_together := PySem.W.mg_of X G a26
    F_shortest_row := fun_mk (st := s_shortest_row) l27 c27 k27
    g_shortest_row := PySem.W.mg_of X G a27
    F_need_both := fun_mk (st := s_need_both) l28 c28 k28
    g_need_both := PySem.W.mg_of X G a28
    F_fewest := fun_mk (st := s_fewest) l29 c29 k29
    g_fewest := PySem.W.mg_of X G a29
    F_pushes_to := fun_mk (st := s_pushes_to) l30 c30 k30
    g_pushes_to := PySem.W.mg_of X G a30
    F_leads := fun_mk (st := s_leads) l31 c31 k31
    g_leads := PySem.W.mg_of X G a31
    F_law_deck := fun_mk (st := s_law_deck) l32 c32 k32
    g_law_deck := PySem.W.mg_of X G a32
    F_law_pick := fun_mk (st := s_law_pick) l33 c33 k33
    g_law_pick := PySem.W.mg_of X G a33
    F_law_whole := fun_mk (st := s_law_whole) l34 c34 k34
    g_law_whole := PySem.W.mg_of X G a34
    F_law_one := fun_mk (st := s_law_one) l35 c35 k35
    g_law_one := PySem.W.mg_of X G a35
    F_law_sort := fun_mk (st := s_law_sort) l36 c36 k36
    g_law_sort := PySem.W.mg_of X G a36
    F_law_same := fun_mk (st := s_law_same) l37 c37 k37
    g_law_same := PySem.W.mg_of X G a37
    F_law_odd := fun_mk (st := s_law_odd) l38 c38 k38
    g_law_odd := PySem.W.mg_of X G a38
    F_law_spoilt := fun_mk (st := s_law_spoilt) l39 c39 k39
    g_law_spoilt := PySem.W.mg_of X G a39
    F_law_shelf := fun_mk (st := s_law_shelf) l40 c40 k40
    g_law_shelf := PySem.W.mg_of X G a40
    F_law_play := fun_mk (st := s_law_play) l41 c41 k41
    g_law_play := PySem.W.mg_of X G a41
    F_law_stand_of := fun_mk (st := s_law_stand_of) l42 c42 k42
    g_law_stand_of := PySem.W.mg_of X G a42
    F_law_stand := fun_mk (st := s_law_stand) l43 c43 k43
    g_law_stand := PySem.W.mg_of X G a43
    F_law_push := fun_mk (st := s_law_push) l44 c44 k44
    g_law_push := PySem.W.mg_of X G a44
    F_law_row := fun_mk (st := s_law_row) l45 c45 k45
    g_law_row := PySem.W.mg_of X G a45
    F_law_pushed := fun_mk (st := s_law_pushed) l46 c46 k46
    g_law_pushed := PySem.W.mg_of X G a46
    F_law_done := fun_mk (st := s_law_done) l47 c47 k47
    g_law_done := PySem.W.mg_of X G a47
    F_law_is_push := fun_mk (st := s_law_is_push) l48 c48 k48
    g_law_is_push := PySem.W.mg_of X G a48
    F_law_bands := fun_mk (st := s_law_bands) l49 c49 k49
    g_law_bands := PySem.W.mg_of X G a49
    F_law_fewest := fun_mk (st := s_law_fewest) l50 c50 k50
    g_law_fewest := PySem.W.mg_of X G a50
    F_law_leads := fun_mk (st := s_law_leads) l51 c51 k51
    g_law_leads := PySem.W.mg_of X G a51
    cl_Band := ⟨pg_Band, hd_Band, po_Band, sa_Band⟩
    g_Band := PySem.W.mg_of X G aC_Band
    mk_Band := ⟨mk_Band, a18, i18, kc_Band⟩
    na_Band_first := na_Band_first
    na_Band_beyond := na_Band_beyond
    na_Band_place := na_Band_place
    na_Band_up := na_Band_up
    na_Band_down := na_Band_down
    n_all := PySem.W.mg_none_of X G z_all
    n_bool := PySem.W.mg_none_of X G z_bool
    n_enumerate := PySem.W.mg_none_of X G z_enumerate
    n_int := PySem.W.mg_none_of X G z_int
    n_isinstance := PySem.W.mg_none_of X G z_isinstance
    n_len := PySem.W.mg_none_of X G z_len
    n_list := PySem.W.mg_none_of X G z_list
    n_max := PySem.W.mg_none_of X G z_max
    n_min := PySem.W.mg_none_of X G z_min
    n_range := PySem.W.mg_none_of X G z_range
    n_reversed := PySem.W.mg_none_of X G z_reversed
    n_sorted := PySem.W.mg_none_of X G z_sorted
    n_str := PySem.W.mg_none_of X G z_str
    n_sum := PySem.W.mg_none_of X G z_sum
    n_tuple := PySem.W.mg_none_of X G z_tuple
    n_zip := PySem.W.mg_none_of X G z_zip
    c_MOST_BLOCKS := ⟨⟨_, rfl⟩, PySem.W.mg_of X G v_MOST_BLOCKS⟩
    c_MOST_LENGTH := ⟨⟨_, rfl⟩, PySem.W.mg_of X G v_MOST_LENGTH⟩
    c_MOST_PLAY := ⟨⟨_, rfl⟩, PySem.W.mg_of X G v_MOST_PLAY⟩
    c_MOST_PUSHES := ⟨⟨_, rfl⟩, PySem.W.mg_of X G v_MOST_PUSHES⟩ }
  exact ⟨PySem.W.fnOf "law" "law" (defArgs s_law) (defBody s_law) (defScope s_law) .none kV52 dc52 pm52 an52 cd52 ct52, fun s v => .of_eq rfl, fun base _ _ => ok_law (fun_mk (st := s_law) l52 c52 k52) T⟩
end PS
open PySem PySem.W PyProof.Rows
set_option maxHeartbeats 0 in
theorem PySem.Challenge.cw_pushshelf_k09_whole_shortest_rows_holds : PySem.Challenge.rw_pushshelf_k09_whole_shortest_rows.Holds := by
  w_on; o_law; k_head; (case hw => w_witness2)
  k_fill
  refine L2.walk_of (l := PySem.Challenge.rw_pushshelf_k09_whole_shortest_rows) (n := 63) (k := 11) (x := "script") (CX := fun _ => L2.CX0) (sp := fun w => PS.sp_law _) rfl (by decide) rfl ⟨rfl, by decide, by decide⟩ (fun w h Y => PySem.W.kIn_of Y) ?F (fun _ _ a ns hl _ hS => ⟨a, ns, rfl, hS, hl, fun _ => rfl⟩) (fun _ _ _ _ _ h => h)
  case F =>
    intro w mg fa h KX G hmg
    refine' PS.all_mk KX G hmg ?a0 ?l0 ?c0 ?k0 ?a1 ?l1 ?c1 ?k1 ?a2 ?l2 ?c2 ?k2 ?a3 ?l3 ?c3 ?k3 ?a4 ?l4 ?c4 ?k4 ?a5 ?l5 ?c5 ?k5 ?a6 ?l6 ?c6 ?k6 ?a7 ?l7 ?c7 ?k7 ?a8 ?l8 ?c8 ?k8 ?a9 ?l9 ?c9 ?k9 ?a10 ?l10 ?c10 ?k10 ?a11 ?l11 ?c11 ?k11 ?a12 ?l12 ?c12 ?k12 ?a13 ?l13 ?c13 ?k13 ?a14 ?l14 ?c14 ?k14 ?a15 ?l15 ?c15 ?k15 ?a16 ?l16 ?c16 ?k16 ?a17 ?l17 ?c17 ?k17 ?a18 ?i18 ?l18 ?c18 ?k18 ?a19 ?l19 ?c19 ?k19 ?a20 ?l20 ?c20 ?k20 ?a21 ?l21 ?c21 ?k21 ?a22 ?l22 ?c22 ?k22 ?a23 ?l23 ?c23 ?k23 ?a24 ?l24 ?c24 ?k24 ?a25 ?l25 ?c25 ?k25 ?a26 ?l26 ?c26 ?k26 ?a27 ?l27 ?c27 ?k27 ?a28 ?l28 ?c28 ?k28 ?a29 ?l29 ?c29 ?k29 ?a30 ?l30 ?c30 ?k30 ?a31 ?l31 ?c31 ?k31 ?a32 ?l32 ?c32 ?k32 ?a33 ?l33 ?c33 ?k33 ?a34 ?l34 ?c34 ?k34 ?a35 ?l35 ?c35 ?k35 ?a36 ?l36 ?c36 ?k36 ?a37 ?l37 ?c37 ?k37 ?a38 ?l38 ?c38 ?k38 ?a39 ?l39 ?c39 ?k39 ?a40 ?l40 ?c40 ?k40 ?a41 ?l41 ?c41 ?k41 ?a42 ?l42 ?c42 ?k42 ?a43 ?l43 ?c43 ?k43 ?a44 ?l44 ?c44 ?k44 ?a45 ?l45 ?c45 ?k45 ?a46 ?l46 ?c46 ?k46 ?a47 ?l47 ?c47 ?k47 ?a48 ?l48 ?c48 ?k48 ?a49 ?l49 ?c49 ?k49 ?a50 ?l50 ?c50 ?k50 ?a51 ?l51 ?c51 ?k51 ?a52 ?l52 ?c52 ?k52 ?aC_Band ?pg_Band ?hd_Band ?po_Band ?sa_Band ?mk_Band ?kc_Band ?na_Band_first ?na_Band_beyond ?na_Band_place ?na_Band_up ?na_Band_down ?z_all ?z_bool ?z_enumerate ?z_int ?z_isinstance ?z_len ?z_list ?z_max ?z_min ?z_range ?z_reversed ?z_sorted ?z_str ?z_sum ?z_tuple ?z_zip ?v_MOST_BLOCKS ?v_MOST_LENGTH ?v_MOST_PLAY ?v_MOST_PUSHES
    (case aC_Band => k_is); (case a0 => k_is); (case l0 => k_is); (case c0 => k_is); (case k0 => k_is); (case a1 => k_is); (case l1 => k_is); (case c1 => k_is); (case k1 => k_is); (case a2 => k_is); (case l2 => k_is); (case c2 => k_is); (case k2 => k_is); (case a3 => k_is); (case l3 => k_is); (case c3 => k_is); (case k3 => k_is); (case a4 => k_is); (case l4 => k_is); (case c4 => k_is); (case k4 => k_is); (case a5 => k_is); (case l5 => k_is); (case c5 => k_is); (case k5 => k_is); (case a6 => k_is); (case l6 => k_is); (case c6 => k_is); (case k6 => k_is); (case a7 => k_is); (case l7 => k_is); (case c7 => k_is); (case k7 => k_is); (case a8 => k_is); (case l8 => k_is); (case c8 => k_is); (case k8 => k_is); (case a9 => k_is); (case l9 => k_is); (case c9 => k_is); (case k9 => k_is); (case a10 => k_is); (case l10 => k_is); (case c10 => k_is); (case k10 => k_is); (case a11 => k_is); (case l11 => k_is); (case c11 => k_is); (case k11 => k_is); (case a12 => k_is); (case l12 => k_is); (case c12 => k_is); (case k12 => k_is); (case a13 => k_is); (case l13 => k_is); (case c13 => k_is); (case k13 => k_is); (case a14 => k_is); (case l14 => k_is); (case c14 => k_is); (case k14 => k_is); (case a15 => k_is); (case l15 => k_is); (case c15 => k_is); (case k15 => k_is); (case a16 => k_is); (case l16 => k_is); (case c16 => k_is); (case k16 => k_is); (case a17 => k_is); (case l17 => k_is); (case c17 => k_is); (case k17 => k_is); (case a18 => k_is); (case i18 => k_is); (case l18 => k_is); (case c18 => k_is); (case k18 => k_is); (case a19 => k_is); (case l19 => k_is); (case c19 => k_is); (case k19 => k_is); (case a20 => k_is); (case l20 => k_is); (case c20 => k_is); (case k20 => k_is); (case a21 => k_is); (case l21 => k_is); (case c21 => k_is); (case k21 => k_is); (case a22 => k_is); (case l22 => k_is); (case c22 => k_is); (case k22 => k_is); (case a23 => k_is); (case l23 => k_is); (case c23 => k_is); (case k23 => k_is); (case a24 => k_is); (case l24 => k_is); (case c24 => k_is); (case k24 => k_is); (case a25 => k_is); (case l25 => k_is); (case c25 => k_is); (case k25 => k_is); (case a26 => k_is); (case l26 => k_is); (case c26 => k_is); (case k26 => k_is); (case a27 => k_is); (case l27 => k_is); (case c27 => k_is); (case k27 => k_is); (case a28 => k_is); (case l28 => k_is); (case c28 => k_is); (case k28 => k_is); (case a29 => k_is); (case l29 => k_is); (case c29 => k_is); (case k29 => k_is); (case a30 => k_is); (case l30 => k_is); (case c30 => k_is); (case k30 => k_is); (case a31 => k_is); (case l31 => k_is); (case c31 => k_is); (case k31 => k_is); (case a32 => k_is); (case l32 => k_is); (case c32 => k_is); (case k32 => k_is); (case a33 => k_is); (case l33 => k_is); (case c33 => k_is); (case k33 => k_is); (case a34 => k_is); (case l34 => k_is); (case c34 => k_is); (case k34 => k_is); (case a35 => k_is); (case l35 => k_is); (case c35 => k_is); (case k35 => k_is); (case a36 => k_is); (case l36 => k_is); (case c36 => k_is); (case k36 => k_is); (case a37 => k_is); (case l37 => k_is); (case c37 => k_is); (case k37 => k_is); (case a38 => k_is); (case l38 => k_is); (case c38 => k_is); (case k38 => k_is); (case a39 => k_is); (case l39 => k_is); (case c39 => k_is); (case k39 => k_is); (case a40 => k_is); (case l40 => k_is); (case c40 => k_is); (case k40 => k_is); (case a41 => k_is); (case l41 => k_is); (case c41 => k_is); (case k41 => k_is); (case a42 => k_is); (case l42 => k_is); (case c42 => k_is); (case k42 => k_is); (case a43 => k_is); (case l43 => k_is); (case c43 => k_is); (case k43 => k_is); (case a44 => k_is); (case l44 => k_is); (case c44 => k_is); (case k44 => k_is); (case a45 => k_is); (case l45 => k_is); (case c45 => k_is); (case k45 => k_is); (case a46 => k_is); (case l46 => k_is); (case c46 => k_is); (case k46 => k_is); (case a47 => k_is); (case l47 => k_is); (case c47 => k_is); (case k47 => k_is); (case a48 => k_is); (case l48 => k_is); (case c48 => k_is); (case k48 => k_is); (case a49 => k_is); (case l49 => k_is); (case c49 => k_is); (case k49 => k_is); (case a50 => k_is); (case l50 => k_is); (case c50 => k_is); (case k50 => k_is); (case a51 => k_is); (case l51 => k_is); (case c51 => k_is); (case k51 => k_is); (case a52 => k_is); (case l52 => k_is); (case c52 => k_is); (case k52 => k_is); (case pg_Band => k_is); (case hd_Band => k_is); (case po_Band => k_is); (case sa_Band => k_is); (case mk_Band => k_is); (case kc_Band => k_is); (case na_Band_first => k_is); (case na_Band_beyond => k_is); (case na_Band_place => k_is); (case na_Band_up => k_is); (case na_Band_down => k_is); (case z_all => k_is); (case z_bool => k_is); (case z_enumerate => k_is); (case z_int => k_is); (case z_isinstance => k_is); (case z_len => k_is); (case z_list => k_is); (case z_max => k_is); (case z_min => k_is); (case z_range => k_is); (case z_reversed => k_is); (case z_sorted => k_is); (case z_str => k_is); (case z_sum => k_is); (case z_tuple => k_is); (case z_zip => k_is); (case v_MOST_BLOCKS => k_is); (case v_MOST_LENGTH => k_is); (case v_MOST_PLAY => k_is); (case v_MOST_PUSHES => k_is)


